import PyProof.Rows.All
import Wide.All
import OpenK.AllK
import Wide.FinOn
import KE.KeyNested
import KE.KDictKeyed
import HandS.ForSpec
import HandS.Dict
import HandS.SortKw
import HandS.Nested
import KE.KMinKey
import HandS.EndTab
import KE.KNest
import Open.SpecLaws
import KE.OsGo
import HandS.ForMost
import HandS.Walk
import HandS.Conv
import HandS.TupAny
import HandS.IsInst
import HandS.Flt
import PySem.Challenge.RW_samemomentdesk_s01_answers
set_option Elab.async false
set_option maxRecDepth 100000
set_option maxHeartbeats 4000000
set_option linter.unusedVariables false
/-! Areas that are never empty; numbers of a tree's joints; pairs; the nodes by number. -/
namespace Sm
open Lr71 (Place Area far point grown common apart near size int within)
open Lr72
/-! ### the area of a sum is never empty -/
structure Fine (m : Int) (x : Sum) : Prop where
  t : m ∣ x.time
  a : m ∣ x.area.a
  b : m ∣ x.area.b
  c : m ∣ x.area.c
  d : m ∣ x.area.d
  ab : x.area.a ≤ x.area.b
  cd : x.area.c ≤ x.area.d
theorem dvd_max {m x y : Int} (hx : m ∣ x) (hy : m ∣ y) : m ∣ max x y := by
  rcases Int.le_total x y with h | h
  · rw [Int.max_eq_right h]; exact hy
  · rw [Int.max_eq_left h]; exact hx
theorem dvd_min {m x y : Int} (hx : m ∣ x) (hy : m ∣ y) : m ∣ min x y := by
  rcases Int.le_total x y with h | h
  · rw [Int.min_eq_left h]; exact hx
  · rw [Int.min_eq_right h]; exact hy
theorem dvd_two {m x : Int} (h : 2 * m ∣ x) : m ∣ x := by
  obtain ⟨k, rfl⟩ := h
  exact ⟨2 * k, by rw [Int.mul_comm 2 m, Int.mul_assoc]⟩
theorem half_of {m x : Int} (h : 2 * m ∣ x) : m ∣ x / 2 ∧ 2 * (x / 2) = x := by
  obtain ⟨k, rfl⟩ := h
  have e : 2 * m * k / 2 = m * k := by
    rw [Int.mul_assoc]
    exact Int.mul_ediv_cancel_left _ (by decide)
  rw [e]
  exact ⟨⟨k, rfl⟩, by rw [Int.mul_assoc]⟩
theorem dvd_apart {m : Int} {x y : Sum} (hx : Fine m x) (hy : Fine m y) : m ∣ apart x.area y.area :=
  dvd_max (Int.dvd_zero m) (dvd_max (dvd_max (Int.dvd_sub hx.a hy.b) (Int.dvd_sub hy.a hx.b)) (dvd_max (Int.dvd_sub hx.c hy.d) (Int.dvd_sub hy.c hx.d)))
theorem apart_ge (x y : Area) : 0 ≤ apart x y ∧ x.a - y.b ≤ apart x y ∧ y.a - x.b ≤ apart x y ∧ x.c - y.d ≤ apart x y ∧ y.c - x.d ≤ apart x y := by
  unfold apart
  omega
theorem fine_joined {m : Int} {x y : Sum} (hx : Fine (2 * m) x) (hy : Fine (2 * m) y) : Fine m (joined x y) := by
  have hd := dvd_apart hx hy
  obtain ⟨h1, h2⟩ := half_of (Int.dvd_add (Int.dvd_add hx.t hy.t) hd)
  have ht : m ∣ joinTime x y := dvd_max (dvd_max (dvd_two hx.t) (dvd_two hy.t)) h1
  have g1 : x.time ≤ joinTime x y := by unfold joinTime; omega
  have g2 : y.time ≤ joinTime x y := by unfold joinTime; omega
  have g3 : x.time + y.time + apart x.area y.area ≤ 2 * joinTime x y := by unfold joinTime; omega
  obtain ⟨a0, a1, a2, a3, a4⟩ := apart_ge x.area y.area
  have k1 := hx.ab
  have k2 := hx.cd
  have k3 := hy.ab
  have k4 := hy.cd
  have r1 : m ∣ joinTime x y - x.time := Int.dvd_sub ht (dvd_two hx.t)
  have r2 : m ∣ joinTime x y - y.time := Int.dvd_sub ht (dvd_two hy.t)
  refine ⟨ht, dvd_max (Int.dvd_sub (dvd_two hx.a) r1) (Int.dvd_sub (dvd_two hy.a) r2), dvd_min (Int.dvd_add (dvd_two hx.b) r1) (Int.dvd_add (dvd_two hy.b) r2),
    dvd_max (Int.dvd_sub (dvd_two hx.c) r1) (Int.dvd_sub (dvd_two hy.c) r2), dvd_min (Int.dvd_add (dvd_two hx.d) r1) (Int.dvd_add (dvd_two hy.d) r2), ?_, ?_⟩
  · show max (x.area.a - (joinTime x y - x.time)) (y.area.a - (joinTime x y - y.time)) ≤ min (x.area.b + (joinTime x y - x.time)) (y.area.b + (joinTime x y - y.time))
    omega
  · show max (x.area.c - (joinTime x y - x.time)) (y.area.c - (joinTime x y - y.time)) ≤ min (x.area.d + (joinTime x y - x.time)) (y.area.d + (joinTime x y - y.time))
    omega
def jc : Tree → Nat
  | .leaf _ => 0
  | .two x y => jc x + jc y + 1
theorem pow_up {j k : Nat} (h : j ≤ k) : (2 : Int) ^ j ∣ 2 ^ k := ⟨2 ^ (k - j), by rw [← Int.pow_add]; congr 1; omega⟩
theorem Fine.down {x : Sum} : ∀ {j k : Nat}, j ≤ k → Fine (2 ^ k) x → Fine (2 ^ j) x := by
  intro j k h f
  have d : (2 : Int) ^ j ∣ 2 ^ k := pow_up h
  exact ⟨Int.dvd_trans d f.t, Int.dvd_trans d f.a, Int.dvd_trans d f.b, Int.dvd_trans d f.c, Int.dvd_trans d f.d, f.ab, f.cd⟩
theorem fine_sum (ls : List Leaf) : ∀ (t : Tree) (k : Nat), jc t + k ≤ 8 → Fine (2 ^ k) (sum ls t)
  | .leaf i, k, h => by
    have d : (2 : Int) ^ k ∣ 256 := by
      have h8 : k ≤ 8 := by simpa [jc] using h
      exact pow_up (j := k) (k := 8) h8
    unfold sum
    cases ls[i]? with
    | none => exact ⟨Int.dvd_zero _, Int.dvd_zero _, Int.dvd_zero _, Int.dvd_zero _, Int.dvd_zero _, by decide, by decide⟩
    | some x =>
      have e (z : Int) : (2 : Int) ^ k ∣ z * parts := Int.dvd_trans d ⟨z, by unfold parts; omega⟩
      exact ⟨e _, e _, e _, e _, e _, Int.le_refl _, Int.le_refl _⟩
  | .two x y, k, h => by
    have h : jc x + jc y + 1 + k ≤ 8 := h
    have hx := fine_sum ls x (k + 1) (by omega)
    have hy := fine_sum ls y (k + 1) (by omega)
    have e : (2 : Int) ^ (k + 1) = 2 * 2 ^ k := by rw [Int.pow_succ, Int.mul_comm]
    rw [e] at hx hy
    exact fine_joined hx hy
theorem sum_good (ls : List Leaf) (t : Tree) (h : jc t ≤ 8) : (sum ls t).area.a ≤ (sum ls t).area.b ∧ (sum ls t).area.c ≤ (sum ls t).area.d :=
  let f := fine_sum ls t 0 (by omega); ⟨f.ab, f.cd⟩
/-- near, as the program says it -/
theorem within_clamp {lo hi z : Int} (h : lo ≤ hi) : min (max z lo) hi = within lo hi z := by
  unfold within
  split
  · omega
  · split <;> omega
theorem near_clamp {x : Area} {p : Place} (h1 : x.a ≤ x.b) (h2 : x.c ≤ x.d) : (⟨min (max p.s x.a) x.b, min (max p.t x.c) x.d⟩ : Place) = near x p := by
  rw [within_clamp h1, within_clamp h2] <;> rfl
/-! ### numbers -/
theorem joints_len : ∀ t : Tree, (joints t).length = jc t
  | .leaf _ => rfl
  | .two x y => by
    show (joints x ++ joints y ++ [Tree.two x y]).length = jc x + jc y + 1
    rw [List.length_append, List.length_append, joints_len x, joints_len y] <;> rfl
def num : Tree → Nat → Nat
  | .leaf k, _ => k
  | .two x y, m => m + (jc x + jc y)
def prs : Tree → Nat → List (Nat × Nat)
  | .leaf _, _ => []
  | .two x y, m => prs x m ++ prs y (m + jc x) ++ [(num x m, num y (m + jc x))]
def lvs : Tree → List Nat
  | .leaf k => [k]
  | .two x y => lvs x ++ lvs y
def flat (l : List (Nat × Nat)) : List Nat := l.flatMap fun p => [p.1, p.2]
theorem flat_append (a b : List (Nat × Nat)) : flat (a ++ b) = flat a ++ flat b := List.flatMap_append
theorem prs_len : ∀ (t : Tree) (m : Nat), (prs t m).length = jc t
  | .leaf _, _ => rfl
  | .two x y, m => by
    show (prs x m ++ prs y (m + jc x) ++ [(num x m, num y (m + jc x))]).length = jc x + jc y + 1
    rw [List.length_append, List.length_append, prs_len x, prs_len y] <;> rfl
theorem flat_len : ∀ l : List (Nat × Nat), (flat l).length = 2 * l.length
  | [] => rfl
  | p :: l => by
    show (flat l).length + 1 + 1 = 2 * (l.length + 1)
    rw [flat_len l]; omega
theorem lvs_len : ∀ t : Tree, (lvs t).length = jc t + 1
  | .leaf _ => rfl
  | .two x y => by
    show (lvs x ++ lvs y).length = jc x + jc y + 1 + 1
    rw [List.length_append, lvs_len x, lvs_len y]; omega
theorem pairsFrom_is : ∀ (t : Tree) (m : Nat), pairsFrom t m = (flat (prs t m), num t m, m + jc t)
  | .leaf _, _ => rfl
  | .two x y, m => by
    show ((pairsFrom x m).1 ++ (pairsFrom y (pairsFrom x m).2.2).1 ++ [(pairsFrom x m).2.1, (pairsFrom y (pairsFrom x m).2.2).2.1], (pairsFrom y (pairsFrom x m).2.2).2.2, (pairsFrom y (pairsFrom x m).2.2).2.2 + 1) = _
    rw [pairsFrom_is x m]
    show (flat (prs x m) ++ (pairsFrom y (m + jc x)).1 ++ [num x m, (pairsFrom y (m + jc x)).2.1], (pairsFrom y (m + jc x)).2.2, (pairsFrom y (m + jc x)).2.2 + 1) = _
    rw [pairsFrom_is y (m + jc x)]
    show (flat (prs x m) ++ flat (prs y (m + jc x)) ++ [num x m, num y (m + jc x)], m + jc x + jc y, m + jc x + jc y + 1) = (flat (prs x m ++ prs y (m + jc x) ++ [(num x m, num y (m + jc x))]), m + (jc x + jc y), m + (jc x + jc y + 1))
    rw [flat_append, flat_append]
    have e1 : m + jc x + jc y = m + (jc x + jc y) := by omega
    have e2 : m + jc x + jc y + 1 = m + (jc x + jc y + 1) := by omega
    rw [e1, Nat.add_assoc m] <;> rfl
theorem pairsOf_is (n : Nat) (t : Tree) : pairsOf n t = flat (prs t n) := by
  unfold pairsOf
  rw [pairsFrom_is]
/-! ### the nodes by number -/
def nodes (n : Nat) (t : Tree) : List Tree := (List.range n).map Tree.leaf ++ joints t
/-- in the list N the tree t stands with its joints from m on -/
def Stands (N : List Tree) (t : Tree) (m : Nat) : Prop := (∀ k ∈ lvs t, N[k]? = some (.leaf k) ∧ k < m) ∧ ∀ j, j < jc t → N[m + j]? = (joints t)[j]?
theorem Stands.left {N : List Tree} {x y : Tree} {m : Nat} (h : Stands N (.two x y) m) : Stands N x m := by
  refine ⟨fun k hk => h.1 k (List.mem_append.mpr (.inl hk)), fun j hj => ?_⟩
  have hj2 : j < jc (.two x y) := by show j < jc x + jc y + 1; omega
  rw [h.2 j hj2]
  show (joints x ++ joints y ++ [Tree.two x y])[j]? = _
  rw [List.append_assoc, List.getElem?_append_left (by rw [joints_len]; exact hj)]
theorem Stands.right {N : List Tree} {x y : Tree} {m : Nat} (h : Stands N (.two x y) m) : Stands N y (m + jc x) := by
  refine ⟨fun k hk => ⟨(h.1 k (List.mem_append.mpr (.inr hk))).1, by have := (h.1 k (List.mem_append.mpr (.inr hk))).2; omega⟩, fun j hj => ?_⟩
  have hj2 : jc x + j < jc (.two x y) := by show jc x + j < jc x + jc y + 1; omega
  have e := h.2 (jc x + j) hj2
  rw [Nat.add_assoc, e]
  show (joints x ++ joints y ++ [Tree.two x y])[jc x + j]? = _
  rw [List.append_assoc, List.getElem?_append_right (by rw [joints_len]; omega), joints_len, Nat.add_sub_cancel_left, List.getElem?_append_left (by rw [joints_len]; exact hj)]
/-- a tree's own number -/
theorem Stands.top {N : List Tree} : ∀ {t : Tree} {m : Nat}, Stands N t m → N[num t m]? = some t ∧ num t m < m + jc t
  | .leaf k, m, h => ⟨(h.1 k (List.mem_singleton.mpr rfl)).1, (h.1 k (List.mem_singleton.mpr rfl)).2⟩
  | .two x y, m, h => by
    refine ⟨?_, by show m + (jc x + jc y) < m + (jc x + jc y + 1); omega⟩
    show N[m + (jc x + jc y)]? = _
    rw [h.2 (jc x + jc y) (by show _ < jc x + jc y + 1; omega)]
    show (joints x ++ joints y ++ [Tree.two x y])[jc x + jc y]? = _
    rw [List.getElem?_append_right (by rw [List.length_append, joints_len, joints_len]; omega), List.length_append, joints_len, joints_len, Nat.sub_self] <;> rfl
/-- a pair's two are nodes ahead of its joint -/
theorem Stands.pair {N : List Tree} : ∀ {t : Tree} {m : Nat}, Stands N t m → ∀ {i a b : Nat}, (prs t m)[i]? = some (a, b) →
    ∃ x y, N[a]? = some x ∧ N[b]? = some y ∧ N[m + i]? = some (.two x y) ∧ (joints t)[i]? = some (.two x y) ∧ a < m + i ∧ b < m + i
  | .leaf k, m, h, i, a, b, e => by simp [prs] at e
  | .two x y, m, h, i, a, b, e => by
    have hl := h.left
    have hr := h.right
    have e : (prs x m ++ prs y (m + jc x) ++ [(num x m, num y (m + jc x))])[i]? = some (a, b) := e
    by_cases h1 : i < jc x
    · rw [List.append_assoc, List.getElem?_append_left (by rw [prs_len]; exact h1)] at e
      obtain ⟨u, v, e1, e2, e3, e4, e5, e6⟩ := Stands.pair hl e
      refine ⟨u, v, e1, e2, e3, ?_, e5, e6⟩
      show (joints x ++ joints y ++ [Tree.two x y])[i]? = _
      rw [List.append_assoc, List.getElem?_append_left (by rw [joints_len]; exact h1)]
      exact e4
    · by_cases h2 : i < jc x + jc y
      · rw [List.append_assoc, List.getElem?_append_right (by rw [prs_len]; omega), prs_len, List.getElem?_append_left (by rw [prs_len]; omega)] at e
        obtain ⟨u, v, e1, e2, e3, e4, e5, e6⟩ := Stands.pair hr e
        have ei : m + jc x + (i - jc x) = m + i := by omega
        rw [ei] at e3 e5 e6
        refine ⟨u, v, e1, e2, e3, ?_, e5, e6⟩
        show (joints x ++ joints y ++ [Tree.two x y])[i]? = _
        rw [List.append_assoc, List.getElem?_append_right (by rw [joints_len]; omega), joints_len, List.getElem?_append_left (by rw [joints_len]; omega)]
        exact e4
      · have h3 : i < jc x + jc y + 1 := by
          have z := (List.getElem?_eq_some_iff.mp e).1
          rw [List.length_append, List.length_append, prs_len, prs_len] at z
          simpa using z
        have ei : i = jc x + jc y := by omega
        subst ei
        rw [List.getElem?_append_right (by rw [List.length_append, prs_len, prs_len]; omega), List.length_append, prs_len, prs_len, Nat.sub_self] at e
        have e' : (num x m, num y (m + jc x)) = (a, b) := Option.some.inj e
        cases e'
        obtain ⟨p1, p2⟩ := hl.top
        obtain ⟨q1, q2⟩ := hr.top
        have tt := h.top
        refine ⟨x, y, p1, q1, tt.1, ?_, by omega, by omega⟩
        show (joints x ++ joints y ++ [Tree.two x y])[jc x + jc y]? = _
        rw [List.getElem?_append_right (by rw [List.length_append, joints_len, joints_len]; omega), List.length_append, joints_len, joints_len, Nat.sub_self] <;> rfl
/-! ### a tree over all leaves -/
/-- each leaf just once -/
def Over (n : Nat) (t : Tree) : Prop := (lvs t).Perm (List.range n)
theorem Over.jc {n : Nat} {t : Tree} (h : Over n t) : n = Sm.jc t + 1 := by
  have := h.length_eq
  rw [lvs_len, List.length_range] at this
  omega
theorem Over.stands {n : Nat} {t : Tree} (h : Over n t) : Stands (nodes n t) t n := by
  refine ⟨fun k hk => ?_, fun j hj => ?_⟩
  · have hk2 : k < n := List.mem_range.mp (h.mem_iff.mp hk)
    refine ⟨?_, hk2⟩
    unfold nodes
    rw [List.getElem?_append_left (by simpa using hk2)]
    simp [hk2]
  · unfold nodes
    rw [List.getElem?_append_right (by simp), List.length_map, List.length_range, Nat.add_sub_cancel_left]
theorem nodes_len {n : Nat} {t : Tree} : (nodes n t).length = n + jc t := by
  unfold nodes
  rw [List.length_append, List.length_map, List.length_range, joints_len]
theorem flat_perm : ∀ (t : Tree) (m : Nat), (flat (prs t m) ++ [num t m]).Perm (lvs t ++ List.range' m (jc t))
  | .leaf k, m => by
    show ([k] : List Nat).Perm ([k] ++ [])
    exact List.Perm.refl _
  | .two x y, m => by
    have hx := flat_perm x m
    have hy := flat_perm y (m + jc x)
    show (flat (prs x m ++ prs y (m + jc x) ++ [(num x m, num y (m + jc x))]) ++ [m + (jc x + jc y)]).Perm (lvs x ++ lvs y ++ List.range' m (jc x + jc y + 1))
    rw [flat_append, flat_append]
    have er : List.range' m (jc x + jc y + 1) = List.range' m (jc x) ++ List.range' (m + jc x) (jc y) ++ [m + (jc x + jc y)] := by
      rw [List.range'_concat, Nat.one_mul]
      congr 1
      rw [← List.range'_append_1]
    rw [er]
    show (flat (prs x m) ++ flat (prs y (m + jc x)) ++ [num x m, num y (m + jc x)] ++ [m + (jc x + jc y)]).Perm _
    rw [← List.append_assoc]
    refine List.Perm.append_right _ ?_
    -- (fx ++ fy ++ [nx, ny]) ~ (lx ++ ly) ++ (rx ++ ry)
    have h1 : (flat (prs x m) ++ flat (prs y (m + jc x)) ++ [num x m, num y (m + jc x)]).Perm ((flat (prs x m) ++ [num x m]) ++ (flat (prs y (m + jc x)) ++ [num y (m + jc x)])) := by
      have e : [num x m, num y (m + jc x)] = [num x m] ++ [num y (m + jc x)] := rfl
      rw [e, List.append_assoc, List.append_assoc]
      refine List.Perm.append_left _ ?_
      rw [← List.append_assoc, ← List.append_assoc]
      exact List.Perm.append_right _ List.perm_append_comm
    refine h1.trans ((List.Perm.append hx hy).trans ?_)
    rw [List.append_assoc, List.append_assoc]
    refine List.Perm.append_left _ ?_
    rw [← List.append_assoc, ← List.append_assoc]
    exact List.Perm.append_right _ List.perm_append_comm
theorem Over.num {n : Nat} {t : Tree} (h : Over n t) : Sm.num t n = n + Sm.jc t - 1 := by
  cases t with
  | leaf k =>
    have e : n = 1 := h.jc
    subst e
    have hk : k ∈ List.range 1 := h.mem_iff.mp (List.mem_singleton.mpr rfl)
    have := List.mem_range.mp hk
    show k = 1 + 0 - 1
    omega
  | two x y => show n + (Sm.jc x + Sm.jc y) = n + (Sm.jc x + Sm.jc y + 1) - 1; omega
/-- all numbers but the last one, each once -/
theorem Over.flat {n : Nat} {t : Tree} (h : Over n t) : (Sm.flat (prs t n)).Perm (List.range (n + Sm.jc t - 1)) := by
  have hp := (flat_perm t n).trans (List.Perm.append_right (List.range' n (Sm.jc t)) h)
  have e : List.range n ++ List.range' n (Sm.jc t) = List.range (n + Sm.jc t - 1) ++ [n + Sm.jc t - 1] := by
    have e1 : List.range n ++ List.range' n (Sm.jc t) = List.range (n + Sm.jc t) := by
      rw [List.range_eq_range', List.range_eq_range']
      have := List.range'_append_1 (s := 0) (m := n) (n := Sm.jc t)
      rw [Nat.zero_add] at this
      exact this
    have hn : n + Sm.jc t = (n + Sm.jc t - 1) + 1 := by have := h.jc; omega
    rw [e1]
    conv => lhs; rw [hn]
    exact List.range_succ
  rw [e, h.num] at hp
  exact (List.perm_append_right_iff _).mp hp
end Sm
/-! What the trees come to, laid out and judged, by the nodes' numbers. -/
namespace Sm
open Lr71 (Place Area far point grown common apart near size int within)
open Lr72
/-! ### pairs of the parts of a tree -/
theorem prs_left {x y : Tree} {m i : Nat} {p : Nat × Nat} (h : (prs x m)[i]? = some p) : (prs (.two x y) m)[i]? = some p := by
  show (prs x m ++ prs y (m + jc x) ++ [(num x m, num y (m + jc x))])[i]? = _
  rw [List.append_assoc, List.getElem?_append_left (List.getElem?_eq_some_iff.mp h).1]
  exact h
theorem prs_right {x y : Tree} {m i : Nat} {p : Nat × Nat} (h : (prs y (m + jc x))[i]? = some p) : (prs (.two x y) m)[jc x + i]? = some p := by
  show (prs x m ++ prs y (m + jc x) ++ [(num x m, num y (m + jc x))])[jc x + i]? = _
  rw [List.append_assoc, List.getElem?_append_right (by rw [prs_len]; omega), prs_len, Nat.add_sub_cancel_left, List.getElem?_append_left (List.getElem?_eq_some_iff.mp h).1]
  exact h
theorem prs_top {x y : Tree} {m : Nat} : (prs (.two x y) m)[jc x + jc y]? = some (num x m, num y (m + jc x)) := by
  show (prs x m ++ prs y (m + jc x) ++ [(num x m, num y (m + jc x))])[jc x + jc y]? = _
  rw [List.getElem?_append_right (by rw [List.length_append, prs_len, prs_len]; omega), List.length_append, prs_len, prs_len, Nat.sub_self] <;> rfl
theorem prs_cases {x y : Tree} {m i : Nat} {p : Nat × Nat} (h : (prs (.two x y) m)[i]? = some p) :
    (prs x m)[i]? = some p ∨ (∃ j, i = jc x + j ∧ (prs y (m + jc x))[j]? = some p) ∨ (i = jc x + jc y ∧ p = (num x m, num y (m + jc x))) := by
  have hi : i < jc x + jc y + 1 := by
    have z := (List.getElem?_eq_some_iff.mp h).1
    rw [prs_len] at z
    exact z
  by_cases h1 : i < jc x
  · obtain ⟨q, hq⟩ : ∃ q, (prs x m)[i]? = some q := ⟨_, List.getElem?_eq_getElem (by rw [prs_len]; exact h1)⟩
    rw [prs_left hq] at h
    exact .inl (hq.trans h)
  · by_cases h2 : i < jc x + jc y
    · obtain ⟨q, hq⟩ : ∃ q, (prs y (m + jc x))[i - jc x]? = some q := ⟨_, List.getElem?_eq_getElem (by rw [prs_len]; omega)⟩
      have e := prs_right (x := x) hq
      have ei : jc x + (i - jc x) = i := by omega
      rw [ei] at e
      rw [e] at h
      exact .inr (.inl ⟨i - jc x, ei.symm, hq.trans h⟩)
    · have ei : i = jc x + jc y := by omega
      subst ei
      rw [prs_top] at h
      exact .inr (.inr ⟨rfl, (Option.some.inj h).symm⟩)
theorem joints_left {x y : Tree} {i : Nat} {p : Tree} (h : (joints x)[i]? = some p) : (joints (.two x y))[i]? = some p := by
  show (joints x ++ joints y ++ [Tree.two x y])[i]? = _
  rw [List.append_assoc, List.getElem?_append_left (List.getElem?_eq_some_iff.mp h).1]
  exact h
theorem joints_right {x y : Tree} {i : Nat} {p : Tree} (h : (joints y)[i]? = some p) : (joints (.two x y))[jc x + i]? = some p := by
  show (joints x ++ joints y ++ [Tree.two x y])[jc x + i]? = _
  rw [List.append_assoc, List.getElem?_append_right (by rw [joints_len]; omega), joints_len, Nat.add_sub_cancel_left, List.getElem?_append_left (List.getElem?_eq_some_iff.mp h).1]
  exact h
theorem joints_top {x y : Tree} : (joints (.two x y))[jc x + jc y]? = some (.two x y) := by
  show (joints x ++ joints y ++ [Tree.two x y])[jc x + jc y]? = _
  rw [List.getElem?_append_right (by rw [List.length_append, joints_len, joints_len]; omega), List.length_append, joints_len, joints_len, Nat.sub_self] <;> rfl
theorem joints_cases {x y : Tree} {i : Nat} {p : Tree} (h : (joints (.two x y))[i]? = some p) :
    (joints x)[i]? = some p ∨ (∃ j, i = jc x + j ∧ (joints y)[j]? = some p) ∨ (i = jc x + jc y ∧ p = .two x y) := by
  have hi : i < jc x + jc y + 1 := by
    have z := (List.getElem?_eq_some_iff.mp h).1
    rw [joints_len] at z
    exact z
  by_cases h1 : i < jc x
  · obtain ⟨q, hq⟩ : ∃ q, (joints x)[i]? = some q := ⟨_, List.getElem?_eq_getElem (by rw [joints_len]; exact h1)⟩
    rw [joints_left hq] at h
    exact .inl (hq.trans h)
  · by_cases h2 : i < jc x + jc y
    · obtain ⟨q, hq⟩ : ∃ q, (joints y)[i - jc x]? = some q := ⟨_, List.getElem?_eq_getElem (by rw [joints_len]; omega)⟩
      have e := joints_right (x := x) hq
      have ei : jc x + (i - jc x) = i := by omega
      rw [ei] at e
      rw [e] at h
      exact .inr (.inl ⟨i - jc x, ei.symm, hq.trans h⟩)
    · have ei : i = jc x + jc y := by omega
      subst ei
      rw [joints_top] at h
      exact .inr (.inr ⟨rfl, (Option.some.inj h).symm⟩)
theorem joint_two : ∀ {t : Tree} {i : Nat} {p : Tree}, (joints t)[i]? = some p → ∃ x y, p = .two x y ∧ jc p ≤ jc t
  | .leaf _, i, p, h => by simp [joints] at h
  | .two x y, i, p, h => by
    rcases joints_cases h with h | ⟨j, _, h⟩ | ⟨_, e⟩
    · obtain ⟨u, v, e, l⟩ := joint_two h
      exact ⟨u, v, e, by show jc p ≤ jc x + jc y + 1; omega⟩
    · obtain ⟨u, v, e, l⟩ := joint_two h
      exact ⟨u, v, e, by show jc p ≤ jc x + jc y + 1; omega⟩
    · exact ⟨x, y, e, by rw [e]; exact Nat.le_refl _⟩
/-! ### laid out -/
theorem laid_len (ls : List Leaf) : ∀ (t : Tree) (q : Place), (laidJoints (lay ls q t)).length = jc t
  | .leaf _, _ => rfl
  | .two x y, q => by
    show (laidJoints (lay ls (near (sum ls (.two x y)).area q) x) ++ laidJoints (lay ls (near (sum ls (.two x y)).area q) y) ++ [_]).length = jc x + jc y + 1
    rw [List.length_append, List.length_append, laid_len ls x, laid_len ls y] <;> rfl
theorem laid_by (ls : List Leaf) (N : List Tree) (Pl : Nat → Place) : ∀ (t : Tree) (m : Nat) (q : Place), Stands N t m →
    (∀ i a b x y, (prs t m)[i]? = some (a, b) → N[a]? = some x → N[b]? = some y → Pl a = near (sum ls x).area (Pl (m + i)) ∧ Pl b = near (sum ls y).area (Pl (m + i))) →
    Pl (num t m) = near (sum ls t).area q →
    ∀ j x y, (joints t)[j]? = some (.two x y) → (laidJoints (lay ls q t))[j]? = some (Pl (m + j), (sum ls (.two x y)).time - (sum ls x).time, (sum ls (.two x y)).time - (sum ls y).time)
  | .leaf _, m, q, _, _, _, j, x, y, h => by simp [joints] at h
  | .two u v, m, q, st, hs, hq, j, x, y, h => by
    have hq : Pl (m + (jc u + jc v)) = near (sum ls (.two u v)).area q := hq
    have top := hs (jc u + jc v) _ _ u v prs_top st.left.top.1 st.right.top.1
    show (laidJoints (lay ls (near (sum ls (.two u v)).area q) u) ++ laidJoints (lay ls (near (sum ls (.two u v)).area q) v) ++ [(near (sum ls (.two u v)).area q, (sum ls (.two u v)).time - (sum ls u).time, (sum ls (.two u v)).time - (sum ls v).time)])[j]? = _
    rcases joints_cases h with h' | ⟨i, rfl, h'⟩ | ⟨rfl, e⟩
    · have r := laid_by ls N Pl u m (near (sum ls (.two u v)).area q) st.left (fun i a b x y e1 e2 e3 => hs i a b x y (prs_left e1) e2 e3) (by rw [← hq]; exact top.1) j x y h'
      rw [List.append_assoc, List.getElem?_append_left (List.getElem?_eq_some_iff.mp r).1]
      exact r
    · have r := laid_by ls N Pl v (m + jc u) (near (sum ls (.two u v)).area q) st.right (fun i a b x y e1 e2 e3 => by
        have z := hs (jc u + i) a b x y (prs_right e1) e2 e3
        rw [← Nat.add_assoc] at z
        exact z) (by rw [← hq]; exact top.2) i x y h'
      rw [List.append_assoc, List.getElem?_append_right (by rw [laid_len]; omega), laid_len, Nat.add_sub_cancel_left, List.getElem?_append_left (List.getElem?_eq_some_iff.mp r).1, r, Nat.add_assoc]
    · cases e
      rw [List.getElem?_append_right (by rw [List.length_append, laid_len, laid_len]; omega), List.length_append, laid_len, laid_len, Nat.sub_self, hq] <;> rfl
/-! ### judged -/
def leafAt (ls : List Leaf) (k : Nat) : Place := match ls[k]? with
  | some x => ⟨x.at_.s * parts, x.at_.t * parts⟩
  | none => ⟨0, 0⟩
def lateAt (ls : List Leaf) (k : Nat) : Int := match ls[k]? with
  | some x => x.late * parts
  | none => 0
/-- a tree laid by the numbers g, its joints from j on -/
def laidG (ls : List Leaf) (g : Nat → Int) : Tree → Nat → Laid
  | .leaf k, _ => .leaf k (leafAt ls k)
  | .two x y, j => .two ⟨g (4 * (j + jc x + jc y)), g (4 * (j + jc x + jc y) + 1)⟩ (laidG ls g x j) (g (4 * (j + jc x + jc y) + 2)) (laidG ls g y (j + jc x)) (g (4 * (j + jc x + jc y) + 3))
theorem four_of {l : List Int} {i : Nat} (h : i + 4 ≤ l.length) : l.drop i = l.getD i 0 :: l.getD (i + 1) 0 :: l.getD (i + 2) 0 :: l.getD (i + 3) 0 :: l.drop (i + 4) := by
  have e (k : Nat) (hk : k < l.length) : l.drop k = l.getD k 0 :: l.drop (k + 1) := by
    rw [List.drop_eq_getElem_cons hk]
    congr 1
    simp [List.getD, List.getElem?_eq_getElem hk]
  rw [e i (by omega), e (i + 1) (by omega), e (i + 2) (by omega), e (i + 3) (by omega)]
theorem judged_is (ls : List Leaf) (l : List Int) : ∀ (t : Tree) (j : Nat), (∀ k ∈ lvs t, k < ls.length) →
    judged ls t (l.drop (4 * j)) = if 4 * (j + jc t) ≤ l.length ∨ jc t = 0 then some (laidG ls (fun i => l.getD i 0) t j, l.drop (4 * (j + jc t))) else none
  | .leaf k, j, h => by
    have hk : k < ls.length := h k (List.mem_singleton.mpr rfl)
    show (match ls[k]? with
      | some x => some (Laid.leaf k ⟨x.at_.s * parts, x.at_.t * parts⟩, l.drop (4 * j))
      | none => none) = _
    rw [if_pos (.inr rfl)]
    show _ = some (Laid.leaf k (leafAt ls k), l.drop (4 * j))
    unfold leafAt
    rw [List.getElem?_eq_getElem hk]
  | .two x y, j, h => by
    have ihx := judged_is ls l x j fun k hk => h k (List.mem_append.mpr (.inl hk))
    have ihy := judged_is ls l y (j + jc x) fun k hk => h k (List.mem_append.mpr (.inr hk))
    show (match judged ls x (l.drop (4 * j)) with
      | none => none
      | some (a, l1) => match judged ls y l1 with
        | some (b, s :: t :: wx :: wy :: l2) => some (Laid.two ⟨s, t⟩ a wx b wy, l2)
        | _ => none) = if 4 * (j + (jc x + jc y + 1)) ≤ l.length ∨ jc x + jc y + 1 = 0 then some (Laid.two ⟨l.getD (4 * (j + jc x + jc y)) 0, l.getD (4 * (j + jc x + jc y) + 1) 0⟩ (laidG ls (fun i => l.getD i 0) x j) (l.getD (4 * (j + jc x + jc y) + 2) 0) (laidG ls (fun i => l.getD i 0) y (j + jc x)) (l.getD (4 * (j + jc x + jc y) + 3) 0), l.drop (4 * (j + (jc x + jc y + 1)))) else none
    have ez : ¬ jc x + jc y + 1 = 0 := by omega
    by_cases c : 4 * (j + (jc x + jc y + 1)) ≤ l.length
    · rw [ihx, if_pos (show 4 * (j + jc x) ≤ l.length ∨ jc x = 0 from .inl (by omega)), if_pos (show 4 * (j + (jc x + jc y + 1)) ≤ l.length ∨ jc x + jc y + 1 = 0 from .inl c)]
      show (match judged ls y (l.drop (4 * (j + jc x))) with
        | some (b, s :: t :: wx :: wy :: l2) => some (Laid.two ⟨s, t⟩ (laidG ls (fun i => l.getD i 0) x j) wx b wy, l2)
        | _ => none) = _
      rw [ihy, if_pos (show 4 * (j + jc x + jc y) ≤ l.length ∨ jc y = 0 from .inl (by omega)), four_of (l := l) (i := 4 * (j + jc x + jc y)) (by omega)]
      have e : 4 * (j + jc x + jc y) + 4 = 4 * (j + (jc x + jc y + 1)) := by omega
      rw [e]
    · rw [if_neg (show ¬ (4 * (j + (jc x + jc y + 1)) ≤ l.length ∨ jc x + jc y + 1 = 0) from fun z => z.elim c ez)]
      cases hx : judged ls x (l.drop (4 * j)) with
      | none => rfl
      | some p =>
        rw [hx] at ihx
        have hp : p.2 = l.drop (4 * (j + jc x)) := by
          split at ihx
          · exact congrArg Prod.snd (Option.some.inj ihx)
          · cases ihx
        show (match judged ls y p.2 with
          | some (b, s :: t :: wx :: wy :: l2) => some (Laid.two ⟨s, t⟩ p.1 wx b wy, l2)
          | _ => none) = none
        rw [hp]
        cases hy : judged ls y (l.drop (4 * (j + jc x))) with
        | none => rfl
        | some q =>
          rw [hy] at ihy
          have hq : q.2 = l.drop (4 * (j + jc x + jc y)) := by
            split at ihy
            · exact congrArg Prod.snd (Option.some.inj ihy)
            · cases ihy
          have hlen : q.2.length < 4 := by rw [hq, List.length_drop]; omega
          obtain ⟨b, r⟩ := q
          match r, hlen with
          | [], _ => rfl
          | [_], _ => rfl
          | [_, _], _ => rfl
          | [_, _, _], _ => rfl
          | _ :: _ :: _ :: _ :: _, h => simp at h; omega
theorem place_is (ls : List Leaf) (g : Nat → Int) (n : Nat) (P : Nat → Place) (hl : ∀ k, k < n → P k = leafAt ls k) (hj : ∀ r, P (n + r) = ⟨g (4 * r), g (4 * r + 1)⟩) : ∀ (t : Tree) (j : Nat), (∀ k ∈ lvs t, k < n) → (laidG ls g t j).place = P (num t (n + j))
  | .leaf k, j, h => (hl k (h k (List.mem_singleton.mpr rfl))).symm
  | .two x y, j, h => by
    show (⟨g (4 * (j + jc x + jc y)), g (4 * (j + jc x + jc y) + 1)⟩ : Place) = P (n + j + (jc x + jc y))
    rw [show n + j + (jc x + jc y) = n + (j + jc x + jc y) by omega, hj]
theorem sound_is (ls : List Leaf) (g : Nat → Int) (n : Nat) (hn : n = ls.length) (P : Nat → Place) (hl : ∀ k, k < n → P k = leafAt ls k) (hj : ∀ r, P (n + r) = ⟨g (4 * r), g (4 * r + 1)⟩) : ∀ (t : Tree) (j : Nat), (∀ k ∈ lvs t, k < n) →
    (sound ls (laidG ls g t j) = true ↔ ∀ i a b, (prs t (n + j))[i]? = some (a, b) → far (P (n + (j + i))) (P a) ≤ g (4 * (j + i) + 2) ∧ far (P (n + (j + i))) (P b) ≤ g (4 * (j + i) + 3))
  | .leaf k, j, h => by
    have hk : k < ls.length := by rw [← hn]; exact h k (List.mem_singleton.mpr rfl)
    refine ⟨fun _ i a b e => by simp [prs] at e, fun _ => ?_⟩
    show (match ls[k]? with
      | some x => decide (leafAt ls k = ⟨x.at_.s * parts, x.at_.t * parts⟩)
      | none => false) = true
    unfold leafAt
    rw [List.getElem?_eq_getElem hk]
    exact decide_eq_true rfl
  | .two x y, j, h => by
    have h1 : ∀ k ∈ lvs x, k < n := fun k hk => h k (List.mem_append.mpr (.inl hk))
    have h2 : ∀ k ∈ lvs y, k < n := fun k hk => h k (List.mem_append.mpr (.inr hk))
    have ihx := sound_is ls g n hn P hl hj x j h1
    have ihy := sound_is ls g n hn P hl hj y (j + jc x) h2
    have px := place_is ls g n P hl hj x j h1
    have py := place_is ls g n P hl hj y (j + jc x) h2
    have er : j + jc x + jc y = j + (jc x + jc y) := by omega
    have eo : n + (j + jc x) = n + j + jc x := by omega
    rw [eo] at ihy py
    show (sound ls (laidG ls g x j) && (sound ls (laidG ls g y (j + jc x)) && (decide (far ⟨g (4 * (j + jc x + jc y)), g (4 * (j + jc x + jc y) + 1)⟩ (laidG ls g x j).place ≤ g (4 * (j + jc x + jc y) + 2)) && decide (far ⟨g (4 * (j + jc x + jc y)), g (4 * (j + jc x + jc y) + 1)⟩ (laidG ls g y (j + jc x)).place ≤ g (4 * (j + jc x + jc y) + 3))))) = true ↔ _
    rw [Bool.and_eq_true, Bool.and_eq_true, Bool.and_eq_true, ihx, ihy, decide_eq_true_eq, decide_eq_true_eq, px, py, er, ← hj]
    constructor
    · rintro ⟨k1, k2, k3, k4⟩ i a b e
      rcases prs_cases e with e' | ⟨i', rfl, e'⟩ | ⟨rfl, e'⟩
      · exact k1 i a b e'
      · have z := k2 i' a b e'
        rw [show j + jc x + i' = j + (jc x + i') by omega] at z
        exact z
      · cases e'
        exact ⟨k3, k4⟩
    · intro k
      refine ⟨fun i a b e => k i a b (prs_left e), fun i a b e => ?_, (k _ _ _ prs_top).1, (k _ _ _ prs_top).2⟩
      have z := k _ a b (prs_right e)
      rw [show j + (jc x + i) = j + jc x + i by omega] at z
      exact z
def wireG (g : Nat → Int) : Nat → Nat → Int
  | _, 0 => 0
  | j, k + 1 => wireG g j k + (g (4 * (j + k) + 2) + g (4 * (j + k) + 3))
theorem wireG_add (g : Nat → Int) (j a : Nat) : ∀ b, wireG g j (a + b) = wireG g j a + wireG g (j + a) b
  | 0 => by show wireG g j a = wireG g j a + 0; omega
  | b + 1 => by
    show wireG g j (a + b) + (g (4 * (j + (a + b)) + 2) + g (4 * (j + (a + b)) + 3)) = wireG g j a + (wireG g (j + a) b + (g (4 * (j + a + b) + 2) + g (4 * (j + a + b) + 3)))
    rw [wireG_add g j a b, show j + a + b = j + (a + b) by omega]
    omega
theorem wire_is (ls : List Leaf) (g : Nat → Int) : ∀ (t : Tree) (j : Nat), wireOf (laidG ls g t j) = wireG g j (jc t)
  | .leaf _, _ => rfl
  | .two x y, j => by
    show wireOf (laidG ls g x j) + wireOf (laidG ls g y (j + jc x)) + g (4 * (j + jc x + jc y) + 2) + g (4 * (j + jc x + jc y) + 3) = wireG g j (jc x + jc y) + (g (4 * (j + (jc x + jc y)) + 2) + g (4 * (j + (jc x + jc y)) + 3))
    rw [wire_is ls g x j, wire_is ls g y, wireG_add, show j + jc x + jc y = j + (jc x + jc y) by omega]
    omega
theorem times_is (ls : List Leaf) (g : Nat → Int) (n : Nat) (hn : n = ls.length) (mom : Nat → Int) : ∀ (t : Tree) (j : Nat), (∀ k ∈ lvs t, k < n) →
    (∀ i a b, (prs t (n + j))[i]? = some (a, b) → mom a = mom (n + (j + i)) + g (4 * (j + i) + 2) ∧ mom b = mom (n + (j + i)) + g (4 * (j + i) + 3)) →
    (times ls (laidG ls g t j)).map (mom (num t (n + j)) + ·) = (lvs t).map fun k => mom k + lateAt ls k
  | .leaf k, j, h, _ => by
    have hk : k < ls.length := by rw [← hn]; exact h k (List.mem_singleton.mpr rfl)
    show (match ls[k]? with
      | some x => [x.late * parts]
      | none => []).map (mom k + ·) = [mom k + lateAt ls k]
    unfold lateAt
    rw [List.getElem?_eq_getElem hk] <;> rfl
  | .two x y, j, h, hm => by
    have h1 : ∀ k ∈ lvs x, k < n := fun k hk => h k (List.mem_append.mpr (.inl hk))
    have h2 : ∀ k ∈ lvs y, k < n := fun k hk => h k (List.mem_append.mpr (.inr hk))
    have ihx := times_is ls g n hn mom x j h1 fun i a b e => hm i a b (prs_left e)
    have eo : n + (j + jc x) = n + j + jc x := by omega
    have ihy := times_is ls g n hn mom y (j + jc x) h2 fun i a b e => by
      rw [eo] at e
      have z := hm _ a b (prs_right e)
      rw [show j + (jc x + i) = j + jc x + i by omega] at z
      exact z
    rw [eo] at ihy
    have top := hm _ _ _ prs_top
    show ((times ls (laidG ls g x j)).map (g (4 * (j + jc x + jc y) + 2) + ·) ++ (times ls (laidG ls g y (j + jc x))).map (g (4 * (j + jc x + jc y) + 3) + ·)).map (mom (n + j + (jc x + jc y)) + ·) = (lvs x ++ lvs y).map fun k => mom k + lateAt ls k
    rw [List.map_append, List.map_append, List.map_map, List.map_map, ← ihx, ← ihy]
    have er : j + jc x + jc y = j + (jc x + jc y) := by omega
    have em : n + j + (jc x + jc y) = n + (j + (jc x + jc y)) := by omega
    rw [em, er]
    congr 1
    · apply List.map_congr_left
      intro z _
      show mom (n + (j + (jc x + jc y))) + (g (4 * (j + (jc x + jc y)) + 2) + z) = mom (num x (n + j)) + z
      rw [top.1]
      omega
    · apply List.map_congr_left
      intro z _
      show mom (n + (j + (jc x + jc y))) + (g (4 * (j + (jc x + jc y)) + 3) + z) = mom (num y (n + j + jc x)) + z
      rw [top.2]
      omega
/-! ### least and greatest of a list -/
theorem foldl_min : ∀ (l : List Int) (z : Int), l.foldl min z ≤ z ∧ (∀ x ∈ l, l.foldl min z ≤ x) ∧ (l.foldl min z = z ∨ l.foldl min z ∈ l)
  | [], z => ⟨Int.le_refl _, fun x h => absurd h (by simp), .inl rfl⟩
  | a :: l, z => by
    obtain ⟨h1, h2, h3⟩ := foldl_min l (min z a)
    refine ⟨Int.le_trans h1 (Int.min_le_left ..), fun x hx => ?_, ?_⟩
    · rcases List.mem_cons.mp hx with e | hx
      · rw [e]; exact Int.le_trans h1 (Int.min_le_right ..)
      · exact h2 x hx
    · rcases h3 with h3 | h3
      · rcases Int.le_total z a with c | c
        · exact .inl (h3.trans (Int.min_eq_left c))
        · right
          show l.foldl min (min z a) ∈ a :: l
          rw [h3, Int.min_eq_right c]
          exact List.mem_cons_self ..
      · exact .inr (List.mem_cons_of_mem _ h3)
theorem foldl_max : ∀ (l : List Int) (z : Int), z ≤ l.foldl max z ∧ (∀ x ∈ l, x ≤ l.foldl max z) ∧ (l.foldl max z = z ∨ l.foldl max z ∈ l)
  | [], z => ⟨Int.le_refl _, fun x h => absurd h (by simp), .inl rfl⟩
  | a :: l, z => by
    obtain ⟨h1, h2, h3⟩ := foldl_max l (max z a)
    refine ⟨Int.le_trans (Int.le_max_left ..) h1, fun x hx => ?_, ?_⟩
    · rcases List.mem_cons.mp hx with e | hx
      · rw [e]; exact Int.le_trans (Int.le_max_right ..) h1
      · exact h2 x hx
    · rcases h3 with h3 | h3
      · rcases Int.le_total z a with c | c
        · right
          show l.foldl max (max z a) ∈ a :: l
          rw [h3, Int.max_eq_right c]
          exact List.mem_cons_self ..
        · exact .inl (h3.trans (Int.max_eq_left c))
      · exact .inr (List.mem_cons_of_mem _ h3)
/-- m is the least of l -/
def IsMin (l : List Int) (m : Int) : Prop := m ∈ l ∧ ∀ x ∈ l, m ≤ x
def IsMax (l : List Int) (m : Int) : Prop := m ∈ l ∧ ∀ x ∈ l, x ≤ m
theorem isMin_fold {l : List Int} (h : l ≠ []) : IsMin l (l.foldl min (l.headD 0)) := by
  obtain ⟨h1, h2, h3⟩ := foldl_min l (l.headD 0)
  refine ⟨?_, h2⟩
  rcases h3 with e | e
  · rw [e]
    cases l with
    | nil => exact absurd rfl h
    | cons a l => exact List.mem_cons_self ..
  · exact e
theorem isMax_fold {l : List Int} (h : l ≠ []) : IsMax l (l.foldl max (l.headD 0)) := by
  obtain ⟨h1, h2, h3⟩ := foldl_max l (l.headD 0)
  refine ⟨?_, h2⟩
  rcases h3 with e | e
  · rw [e]
    cases l with
    | nil => exact absurd rfl h
    | cons a l => exact List.mem_cons_self ..
  · exact e
theorem IsMin.uniq {l l' : List Int} {a b : Int} (h : IsMin l a) (h' : IsMin l' b) (p : l.Perm l') : a = b :=
  Int.le_antisymm (h.2 b (p.mem_iff.mpr h'.1)) (h'.2 a (p.mem_iff.mp h.1))
theorem IsMax.uniq {l l' : List Int} {a b : Int} (h : IsMax l a) (h' : IsMax l' b) (p : l.Perm l') : a = b :=
  Int.le_antisymm (h'.2 a (p.mem_iff.mp h.1)) (h.2 b (p.mem_iff.mpr h'.1))
/-! ### sums by number -/
theorem sum_append (a b : List Int) : (a ++ b).sum = a.sum + b.sum := by
  induction a with
  | nil => simp
  | cons x a ih => rw [List.cons_append, List.sum_cons, List.sum_cons, ih]; omega
theorem sum_perm {a b : List Int} (h : a.Perm b) : a.sum = b.sum := by
  induction h with
  | nil => rfl
  | cons x _ ih => rw [List.sum_cons, List.sum_cons, ih]
  | swap x y l => rw [List.sum_cons, List.sum_cons, List.sum_cons, List.sum_cons]; omega
  | trans _ _ h1 h2 => exact h1.trans h2
theorem sum_flat (L : Nat → Int) (g : Nat → Int) : ∀ (ps : List (Nat × Nat)) (j : Nat), (∀ i a b, ps[i]? = some (a, b) → L a = g (4 * (j + i) + 2) ∧ L b = g (4 * (j + i) + 3)) → ((flat ps).map L).sum = wireG g j ps.length
  | [], _, _ => rfl
  | (a, b) :: ps, j, h => by
    have h0 := h 0 a b rfl
    have ih := sum_flat L g ps (j + 1) fun i a b e => by
      have z := h (i + 1) a b (by simpa using e)
      rw [show j + (i + 1) = j + 1 + i by omega] at z
      exact z
    show (L a :: L b :: (flat ps).map L).sum = wireG g j (ps.length + 1)
    rw [List.sum_cons, List.sum_cons, ih, Nat.add_comm ps.length 1, wireG_add, h0.1, h0.2]
    show _ = 0 + (g (4 * (j + 0) + 2) + g (4 * (j + 0) + 3)) + _
    omega
theorem list_range (l : List Int) : l = (List.range l.length).map fun i => l.getD i 0 := by
  apply List.ext_getElem
  · simp
  · intro i h1 h2
    simp [List.getD, List.getElem?_eq_getElem h1]
/-- all lengths together -/
theorem sum_lengths {n : Nat} {t : Tree} (o : Over n t) (L : List Int) (g : Nat → Int) (hl : L.length = n + jc t) (h0 : L.getD (n + jc t - 1) 0 = 0) (hs : ∀ i a b, (prs t n)[i]? = some (a, b) → L.getD a 0 = g (4 * i + 2) ∧ L.getD b 0 = g (4 * i + 3)) : L.sum = wireG g 0 (jc t) := by
  have hn : n + jc t = (n + jc t - 1) + 1 := by have := o.jc; omega
  have e := list_range L
  rw [hl] at e
  rw [hn, List.range_succ, List.map_append] at e
  have hp := o.flat.map fun i => L.getD i 0
  have e2 := sum_flat (fun i => L.getD i 0) g (prs t n) 0 fun i a b q => by
    have z := hs i a b q
    rw [Nat.zero_add]
    exact z
  rw [prs_len] at e2
  have e3 : L.sum = ((List.range (n + jc t - 1)).map fun i => L.getD i 0).sum + 0 := by
    conv => lhs; rw [e]
    rw [sum_append]
    show _ + (L.getD (n + jc t - 1) 0 + 0) = _
    rw [h0] <;> rfl
  rw [e3, ← sum_perm hp, e2]
  omega
end Sm
/-! Shapes told by pairs; all shapes; the first of the best; calls read off a list. -/
namespace Sm
open Lr71 (Place Area far point grown common apart near size int within)
open Lr72
/-! ### told by pairs -/
/-- the trees made so far: all numbers that aren't used -/
structure Made (f : List (Nat × Tree)) (m : Nat) (used : List Nat) (made : List Tree) : Prop where
  len : made.length = m
  nd : (f.map (·.1)).Nodup
  is : ∀ k x, (k, x) ∈ f ↔ (made[k]? = some x ∧ k ∉ used)
theorem Made.find {f : List (Nat × Tree)} {m : Nat} {used : List Nat} {made : List Tree} (h : Made f m used made) (a : Nat) :
    f.find? (fun z => z.1 == a) = if a ∈ used then none else (made[a]?).map fun x => (a, x) := by
  cases e : f.find? (fun z => z.1 == a) with
  | none =>
    have q := List.find?_eq_none.mp e
    by_cases hu : a ∈ used
    · rw [if_pos hu]
    · rw [if_neg hu]
      cases e2 : made[a]? with
      | none => rfl
      | some x => exact absurd (beq_self_eq_true a) (q (a, x) ((h.is a x).mpr ⟨e2, hu⟩))
  | some z =>
    have h1 := List.find?_some e
    have h2 := List.mem_of_find?_eq_some e
    have ez : z.1 = a := eq_of_beq h1
    obtain ⟨k, x⟩ := z
    cases ez
    obtain ⟨e2, hu⟩ := (h.is k x).mp h2
    rw [if_neg hu, e2] <;> rfl
theorem Made.step {f : List (Nat × Tree)} {m : Nat} {used : List Nat} {made : List Tree} (h : Made f m used made) (hu : ∀ k ∈ used, k < m) {a b : Nat} {x y : Tree} (ha : made[a]? = some x) (hb : made[b]? = some y) :
    Made ((f.filter fun z => z.1 != a && z.1 != b) ++ [(m, .two x y)]) (m + 1) (used ++ [a, b]) (made ++ [.two x y]) := by
  have la : a < m := by have := (List.getElem?_eq_some_iff.mp ha).1; rw [h.len] at this; exact this
  have lb : b < m := by have := (List.getElem?_eq_some_iff.mp hb).1; rw [h.len] at this; exact this
  refine ⟨by rw [List.length_append, h.len] <;> rfl, ?_, fun k t => ?_⟩
  · rw [List.map_append, List.nodup_append]
    refine ⟨h.nd.sublist (List.Sublist.map _ List.filter_sublist), by simp, fun u hu' v hv => ?_⟩
    simp only [List.map_cons, List.map_nil, List.mem_singleton] at hv
    subst hv
    obtain ⟨⟨k, t⟩, hz, rfl⟩ := List.mem_map.mp hu'
    have := (h.is k t).mp (List.mem_filter.mp hz).1
    have l := (List.getElem?_eq_some_iff.mp this.1).1
    rw [h.len] at l
    exact Nat.ne_of_lt l
  · constructor
    · intro hm
      rcases List.mem_append.mp hm with hm | hm
      · obtain ⟨h1, h2⟩ := List.mem_filter.mp hm
        obtain ⟨h3, h4⟩ := (h.is k t).mp h1
        simp only [Bool.and_eq_true, bne_iff_ne, ne_eq] at h2
        refine ⟨by rw [List.getElem?_append_left (List.getElem?_eq_some_iff.mp h3).1]; exact h3, fun z => ?_⟩
        rcases List.mem_append.mp z with z | z
        · exact h4 z
        · simp only [List.mem_cons, List.not_mem_nil, or_false] at z
          exact z.elim h2.1 h2.2
      · have e : (k, t) = (m, Tree.two x y) := List.mem_singleton.mp hm
        cases e
        refine ⟨by rw [List.getElem?_append_right (by rw [h.len]; exact Nat.le_refl _), h.len, Nat.sub_self] <;> rfl, fun z => ?_⟩
        rcases List.mem_append.mp z with z | z
        · exact Nat.lt_irrefl _ (hu _ z)
        · simp only [List.mem_cons, List.not_mem_nil, or_false] at z
          omega
    · rintro ⟨h1, h2⟩
      by_cases hk : k < m
      · rw [List.getElem?_append_left (by rw [h.len]; exact hk)] at h1
        refine List.mem_append.mpr (.inl (List.mem_filter.mpr ⟨(h.is k t).mpr ⟨h1, fun z => h2 (List.mem_append.mpr (.inl z))⟩, ?_⟩))
        have h3 : k ≠ a := fun z => h2 (List.mem_append.mpr (.inr (by rw [z]; simp)))
        have h4 : k ≠ b := fun z => h2 (List.mem_append.mpr (.inr (by rw [z]; simp)))
        simp [h3, h4]
      · rw [List.getElem?_append_right (by rw [h.len]; omega), h.len] at h1
        have hk2 : k - m = 0 := by
          have := (List.getElem?_eq_some_iff.mp h1).1
          simpa using this
        rw [hk2] at h1
        have e : Tree.two x y = t := Option.some.inj h1
        have e2 : k = m := by omega
        subst e2 e
        exact List.mem_append.mpr (.inr (List.mem_singleton.mpr rfl))
theorem Made.count {f : List (Nat × Tree)} {m : Nat} {used : List Nat} {made : List Tree} (h : Made f m used made) (hu : ∀ k ∈ used, k < m) (nd : used.Nodup) : f.length + used.length = m := by
  have hp : (f.map (·.1) ++ used).Perm (List.range m) := by
    apply (List.perm_ext_iff_of_nodup (List.nodup_append.mpr ⟨h.nd, nd, fun a ha b hb e => by
      subst e
      obtain ⟨⟨k, t⟩, hz, rfl⟩ := List.mem_map.mp ha
      exact ((h.is k t).mp hz).2 hb⟩) List.nodup_range).mpr
    intro k
    rw [List.mem_range, List.mem_append]
    constructor
    · rintro (z | z)
      · obtain ⟨⟨k, t⟩, hz, rfl⟩ := List.mem_map.mp z
        have := (List.getElem?_eq_some_iff.mp ((h.is k t).mp hz).1).1
        rw [h.len] at this
        exact this
      · exact hu k z
    · intro hk
      by_cases hq : k ∈ used
      · exact .inr hq
      · obtain ⟨t, ht⟩ : ∃ t, made[k]? = some t := ⟨_, List.getElem?_eq_getElem (by rw [h.len]; exact hk)⟩
        exact .inl (List.mem_map.mpr ⟨(k, t), (h.is k t).mpr ⟨ht, hq⟩, rfl⟩)
  have := hp.length_eq
  rw [List.length_append, List.length_map, List.length_range] at this
  exact this
/-- the trees that the program makes -/
def madeBy : List Tree → List Nat → List Tree
  | made, a :: b :: l => madeBy (made ++ [.two (made.getD a (.leaf 0)) (made.getD b (.leaf 0))]) l
  | made, _ => made
/-- from here on: each number is made, and not used -/
def okFrom : Nat → List Nat → List Nat → Bool
  | _, _, [] => true
  | m, used, [a] => decide (a < m) && !used.contains a
  | m, used, a :: b :: l => (decide (a < m) && !used.contains a) && ((decide (b < m) && !(used ++ [a]).contains b) && okFrom (m + 1) (used ++ [a, b]) l)
/-- what the program looks at: each number is made, and used for the first time -/
def shapeOk (n : Nat) (l : List Nat) : Bool := decide (l.length = 2 * n - 2) && okFrom n [] l
theorem contains_false {l : List Nat} {a : Nat} : (!l.contains a) = true ↔ a ∉ l := by
  rw [Bool.not_eq_true', ← Bool.not_eq_true, List.contains_iff_mem]
theorem okFrom_iff : ∀ (l : List Nat) (m : Nat) (used : List Nat), okFrom m used l = true ↔ ∀ i x, l[i]? = some x → x < m + i / 2 ∧ x ∉ used ∧ x ∉ l.take i
  | [], m, used => ⟨fun _ i x h => by simp at h, fun _ => rfl⟩
  | [a], m, used => by
    show (decide (a < m) && !used.contains a) = true ↔ _
    rw [Bool.and_eq_true, decide_eq_true_eq, contains_false]
    constructor
    · rintro ⟨h1, h2⟩ i x h
      cases i with
      | zero => cases h; exact ⟨by omega, h2, by simp⟩
      | succ i => simp at h
    · intro h
      have := h 0 a rfl
      exact ⟨by simpa using this.1, this.2.1⟩
  | a :: b :: l, m, used => by
    have ih := okFrom_iff l (m + 1) (used ++ [a, b])
    show ((decide (a < m) && !used.contains a) && ((decide (b < m) && !(used ++ [a]).contains b) && okFrom (m + 1) (used ++ [a, b]) l)) = true ↔ _
    rw [Bool.and_eq_true, Bool.and_eq_true, Bool.and_eq_true, Bool.and_eq_true, decide_eq_true_eq, decide_eq_true_eq, contains_false, contains_false, ih]
    constructor
    · rintro ⟨⟨h1, h2⟩, ⟨h3, h4⟩, h5⟩ i x h
      match i, h with
      | 0, h => cases h; exact ⟨by omega, h2, by simp⟩
      | 1, h =>
        cases h
        refine ⟨by omega, fun z => h4 (List.mem_append.mpr (.inl z)), fun z => h4 (List.mem_append.mpr (.inr ?_))⟩
        simpa using z
      | i + 2, h =>
        have h : l[i]? = some x := by simpa using h
        obtain ⟨k1, k2, k3⟩ := h5 i x h
        refine ⟨by omega, fun z => k2 (List.mem_append.mpr (.inl z)), fun z => ?_⟩
        have z : x ∈ a :: b :: l.take i := by simpa using z
        rcases List.mem_cons.mp z with z | z
        · exact k2 (List.mem_append.mpr (.inr (by rw [z]; simp)))
        · rcases List.mem_cons.mp z with z | z
          · exact k2 (List.mem_append.mpr (.inr (by rw [z]; simp)))
          · exact k3 z
    · intro h
      have h0 := h 0 a rfl
      have h1 := h 1 b rfl
      refine ⟨⟨by simpa using h0.1, h0.2.1⟩, ⟨by simpa using h1.1, fun z => ?_⟩, fun i x e => ?_⟩
      · rcases List.mem_append.mp z with z | z
        · exact h1.2.1 z
        · exact h1.2.2 (by simpa using z)
      · obtain ⟨k1, k2, k3⟩ := h (i + 2) x (by simpa using e)
        have k3 : x ∉ a :: b :: l.take i := by simpa using k3
        refine ⟨by omega, fun z => ?_, fun z => k3 (List.mem_cons_of_mem _ (List.mem_cons_of_mem _ z))⟩
        rcases List.mem_append.mp z with z | z
        · exact k2 z
        · simp only [List.mem_cons, List.not_mem_nil, or_false] at z
          rcases z with z | z
          · exact k3 (by rw [z]; simp)
          · exact k3 (by rw [z]; simp)
theorem from_is : ∀ (l : List Nat) (f : List (Nat × Tree)) (m : Nat) (used : List Nat) (made : List Tree), Made f m used made → (∀ k ∈ used, k < m) → used.Nodup → 0 < f.length → 0 < m → m - 1 ∉ used →
    fromPairs f m l = if okFrom m used l = true ∧ l.length = 2 * f.length - 2 then (madeBy made l)[m + f.length - 2]? else none
  | [], f, m, used, made, h, hu, nd, hf, hm, hlast => by
    have hl : ∃ t, made[m - 1]? = some t := ⟨_, List.getElem?_eq_getElem (by rw [h.len]; omega)⟩
    obtain ⟨t, ht⟩ := hl
    have hin := (h.is (m - 1) t).mpr ⟨ht, hlast⟩
    match f, hf, h, hin with
    | [(k, x)], _, h, hin =>
      rw [if_pos ⟨rfl, rfl⟩]
      show some x = made[m + 1 - 2]?
      have e : (m - 1, t) = (k, x) := List.mem_singleton.mp hin
      cases e
      rw [show m + 1 - 2 = m - 1 by omega]
      exact ht.symm
    | p :: q :: r, _, _, _ =>
      rw [if_neg (fun z => by have := z.2; simp at this; omega)]
      rfl
  | [a], f, m, used, made, h, hu, nd, hf, hm, hlast => by
    rw [if_neg (fun z => by have := z.2; simp at this; omega)]
    match f, hf with
    | [p], _ => rfl
    | p :: q :: r, _ => rfl
  | a :: b :: l, f, m, used, made, h, hu, nd, hf, hm, hlast => by
    have ef : fromPairs f m (a :: b :: l) = if a = b then none else match f.find? (fun z => z.1 == a), f.find? (fun z => z.1 == b) with
      | some x, some y => fromPairs ((f.filter fun z => z.1 != a && z.1 != b) ++ [(m, .two x.2 y.2)]) (m + 1) l
      | _, _ => none := by
      match f with
      | [] => rfl
      | [p] => rfl
      | p :: q :: r => rfl
    rw [ef, h.find a, h.find b]
    have eo : okFrom m used (a :: b :: l) = ((decide (a < m) && !used.contains a) && ((decide (b < m) && !(used ++ [a]).contains b) && okFrom (m + 1) (used ++ [a, b]) l)) := rfl
    have ez : (okFrom m used (a :: b :: l) = true ∧ (a :: b :: l).length = 2 * f.length - 2) ↔ ((a < m ∧ a ∉ used) ∧ (b < m ∧ b ∉ used ++ [a]) ∧ okFrom (m + 1) (used ++ [a, b]) l = true) ∧ l.length + 2 = 2 * f.length - 2 := by
      rw [eo, Bool.and_eq_true, Bool.and_eq_true, Bool.and_eq_true, Bool.and_eq_true, decide_eq_true_eq, decide_eq_true_eq, contains_false, contains_false] <;> rfl
    by_cases c1 : a < m ∧ a ∉ used
    · by_cases c2 : b < m ∧ b ∉ used ++ [a]
      · have hab : ¬ a = b := fun z => c2.2 (List.mem_append.mpr (.inr (by rw [z]; simp)))
        have hbu : b ∉ used := fun z => c2.2 (List.mem_append.mpr (.inl z))
        obtain ⟨x, hx⟩ : ∃ x, made[a]? = some x := ⟨_, List.getElem?_eq_getElem (by rw [h.len]; exact c1.1)⟩
        obtain ⟨y, hy⟩ : ∃ y, made[b]? = some y := ⟨_, List.getElem?_eq_getElem (by rw [h.len]; exact c2.1)⟩
        rw [if_neg hab, if_neg c1.2, if_neg hbu, hx, hy]
        show fromPairs ((f.filter fun z => z.1 != a && z.1 != b) ++ [(m, .two x y)]) (m + 1) l = _
        have h2 := h.step hu hx hy
        have hu2 : ∀ k ∈ used ++ [a, b], k < m + 1 := fun k hk => by
          rcases List.mem_append.mp hk with z | z
          · have := hu k z; omega
          · simp only [List.mem_cons, List.not_mem_nil, or_false] at z
            rcases z with z | z <;> omega
        have nd2 : (used ++ [a, b]).Nodup := by
          rw [List.nodup_append]
          refine ⟨nd, by simp [hab], fun u hu' v hv e => ?_⟩
          subst e
          simp only [List.mem_cons, List.not_mem_nil, or_false] at hv
          rcases hv with z | z
          · exact c1.2 (z ▸ hu')
          · exact hbu (z ▸ hu')
        have k1 := h.count hu nd
        have k2 := h2.count hu2 nd2
        have k3 : (used ++ [a, b]).length = used.length + 2 := by rw [List.length_append] <;> rfl
        rw [k3] at k2
        have k2 : ((f.filter fun z => z.1 != a && z.1 != b) ++ [(m, Tree.two x y)]).length + (used.length + 2) = m + 1 := k2
        have hpos : 0 < ((f.filter fun z => z.1 != a && z.1 != b) ++ [(m, Tree.two x y)]).length := by simp
        rw [from_is l _ (m + 1) (used ++ [a, b]) (made ++ [.two x y]) h2 hu2 nd2 hpos (by omega) (fun z => by
          rcases List.mem_append.mp z with z | z
          · have := hu _ z; omega
          · simp only [List.mem_cons, List.not_mem_nil, or_false] at z
            rcases z with z | z <;> omega)]
        have em : madeBy made (a :: b :: l) = madeBy (made ++ [.two x y]) l := by
          show madeBy (made ++ [.two (made.getD a (.leaf 0)) (made.getD b (.leaf 0))]) l = _
          rw [List.getD, List.getD, hx, hy] <;> rfl
        rw [em]
        generalize ((f.filter fun z => z.1 != a && z.1 != b) ++ [(m, Tree.two x y)]).length = q at k2 hpos
        have ei : m + 1 + q - 2 = m + f.length - 2 := by omega
        rw [ei]
        by_cases c3 : okFrom (m + 1) (used ++ [a, b]) l = true ∧ l.length = 2 * q - 2
        · rw [if_pos c3, if_pos (ez.mpr ⟨⟨c1, c2, c3.1⟩, by have := c3.2; omega⟩)]
        · rw [if_neg c3, if_neg (fun z => c3 ⟨(ez.mp z).1.2.2, by have := (ez.mp z).2; omega⟩)]
      · rw [if_neg (fun z => c2 (ez.mp z).1.2.1)]
        by_cases hab : a = b
        · rw [if_pos hab]
        · rw [if_neg hab]
          have : (if b ∈ used then none else (made[b]?).map fun x => (b, x)) = none := by
            by_cases hbu : b ∈ used
            · rw [if_pos hbu]
            · rw [if_neg hbu]
              have : ¬ b < m := fun z => c2 ⟨z, fun q => by
                rcases List.mem_append.mp q with q | q
                · exact hbu q
                · exact hab (List.mem_singleton.mp q).symm⟩
              rw [List.getElem?_eq_none (by rw [h.len]; omega)] <;> rfl
          rw [this]
          cases (if a ∈ used then none else (made[a]?).map fun x => (a, x)) <;> rfl
    · rw [if_neg (fun z => c1 (ez.mp z).1.1)]
      by_cases hab : a = b
      · rw [if_pos hab]
      · rw [if_neg hab]
        have : (if a ∈ used then none else (made[a]?).map fun x => (a, x)) = none := by
          by_cases hau : a ∈ used
          · rw [if_pos hau]
          · rw [if_neg hau]
            have : ¬ a < m := fun z => c1 ⟨z, hau⟩
            rw [List.getElem?_eq_none (by rw [h.len]; omega)] <;> rfl
        rw [this]
def leaves0 (n : Nat) : List Tree := (List.range n).map Tree.leaf
theorem treeOf_is {n : Nat} (hn : 0 < n) (l : List Nat) : treeOf n l = if shapeOk n l = true then (madeBy (leaves0 n) l)[2 * n - 2]? else none := by
  have hM : Made ((List.range n).map fun k => (k, Tree.leaf k)) n [] (leaves0 n) := by
    refine ⟨by simp [leaves0], ?_, fun k x => ?_⟩
    · rw [List.map_map]
      have : ((fun x : Nat × Tree => x.1) ∘ fun k => (k, Tree.leaf k)) = id := rfl
      rw [this, List.map_id]
      exact List.nodup_range
    · constructor
      · intro h
        obtain ⟨j, hj, e⟩ := List.mem_map.mp h
        cases e
        refine ⟨?_, by simp⟩
        simp [leaves0, List.mem_range.mp hj]
      · rintro ⟨h, _⟩
        have hk : k < n := by
          have := (List.getElem?_eq_some_iff.mp h).1
          simpa [leaves0] using this
        have e : x = .leaf k := by
          simp [leaves0, hk] at h
          exact h.symm
        subst e
        exact List.mem_map.mpr ⟨k, List.mem_range.mpr hk, rfl⟩
  have e := from_is l _ n [] (leaves0 n) hM (fun k h => absurd h (by simp)) (by simp) (by simpa using hn) hn (by simp)
  unfold treeOf
  rw [e]
  have e2 : ((List.range n).map fun k => (k, Tree.leaf k)).length = n := by simp
  rw [e2]
  unfold shapeOk
  have e3 : n + n - 2 = 2 * n - 2 := by omega
  rw [e3]
  by_cases c : okFrom n [] l = true ∧ l.length = 2 * n - 2
  · rw [if_pos c, if_pos (by rw [Bool.and_eq_true, decide_eq_true_eq]; exact ⟨c.2, c.1⟩)]
  · rw [if_neg c, if_neg (by rw [Bool.and_eq_true, decide_eq_true_eq]; exact fun z => c ⟨z.2, z.1⟩)]
theorem madeBy_len : ∀ (l : List Nat) (made : List Tree), (madeBy made l).length = made.length + l.length / 2
  | [], made => by show made.length = made.length + 0 / 2; omega
  | [a], made => by show made.length = made.length + 1 / 2; omega
  | a :: b :: l, made => by
    show (madeBy (made ++ [_]) l).length = made.length + (l.length + 2) / 2
    rw [madeBy_len l, List.length_append]
    show made.length + 1 + l.length / 2 = _
    omega
/-! each leaf once -/
theorem from_lvs : ∀ (l : List Nat) (f : List (Nat × Tree)) (m : Nat) (t : Tree), (f.map (·.1)).Nodup → (∀ z ∈ f, z.1 < m) → fromPairs f m l = some t → (lvs t).Perm (f.flatMap fun z => lvs z.2)
  | [], f, m, t, nd, hm, h => by
    match f, h with
    | [(k, x)], h =>
      have e : x = t := Option.some.inj h
      subst e
      show (lvs x).Perm (lvs x ++ [])
      rw [List.append_nil]
  | [a], f, m, t, nd, hm, h => by
    match f, h with
    | [], h => cases h
    | [p], h => cases h
    | p :: q :: r, h => cases h
  | a :: b :: l, f, m, t, nd, hm, h => by
    have ef : fromPairs f m (a :: b :: l) = if a = b then none else match f.find? (fun z => z.1 == a), f.find? (fun z => z.1 == b) with
      | some x, some y => fromPairs ((f.filter fun z => z.1 != a && z.1 != b) ++ [(m, .two x.2 y.2)]) (m + 1) l
      | _, _ => none := by
      match f with
      | [] => rfl
      | [p] => rfl
      | p :: q :: r => rfl
    rw [ef] at h
    by_cases hab : a = b
    · rw [if_pos hab] at h
      cases h
    · rw [if_neg hab] at h
      cases e1 : f.find? (fun z => z.1 == a) with
      | none => rw [e1] at h; cases h
      | some p =>
        cases e2 : f.find? (fun z => z.1 == b) with
        | none => rw [e1, e2] at h; cases h
        | some q =>
          rw [e1, e2] at h
          obtain ⟨k, x⟩ := p
          obtain ⟨k', y⟩ := q
          have ek : k = a := eq_of_beq (show ((k, x).1 == a) = true from List.find?_some (p := fun z : Nat × Tree => z.1 == a) e1)
          have ek' : k' = b := eq_of_beq (show ((k', y).1 == b) = true from List.find?_some (p := fun z : Nat × Tree => z.1 == b) e2)
          subst ek ek'
          have m1 := List.mem_of_find?_eq_some e1
          have m2 := List.mem_of_find?_eq_some e2
          have ndf : f.Nodup := List.Pairwise.of_map (fun z : Nat × Tree => z.1) (fun a b h e => h (congrArg _ e)) nd
          have uniq : ∀ u v w, (u, v) ∈ f → (u, w) ∈ f → v = w := fun u v w hv hw => by
            obtain ⟨i, hi⟩ := List.mem_iff_getElem?.mp hv
            obtain ⟨j, hj⟩ := List.mem_iff_getElem?.mp hw
            have hi' : (f.map (·.1))[i]? = some u := by rw [List.getElem?_map, hi] <;> rfl
            have hj' : (f.map (·.1))[j]? = some u := by rw [List.getElem?_map, hj] <;> rfl
            have e : i = j := (List.getElem?_inj (List.getElem?_eq_some_iff.mp hi').1 nd).mp (hi'.trans hj'.symm)
            subst e
            rw [hi] at hj
            cases hj
            rfl
          have hp : f.Perm ((k, x) :: (k', y) :: f.filter fun z => z.1 != k && z.1 != k') := by
            refine (List.perm_ext_iff_of_nodup ndf ?_).mpr fun z => ?_
            · rw [List.nodup_cons, List.nodup_cons]
              refine ⟨fun z => ?_, fun z => ?_, ndf.sublist List.filter_sublist⟩
              · rcases List.mem_cons.mp z with z | z
                · cases z; exact hab rfl
                · have := (List.mem_filter.mp z).2
                  simp at this
              · have := (List.mem_filter.mp z).2
                simp at this
            · rw [List.mem_cons, List.mem_cons, List.mem_filter]
              constructor
              · intro hz
                obtain ⟨u, v⟩ := z
                by_cases c1 : u = k
                · subst c1
                  exact .inl (by rw [uniq _ _ _ hz m1])
                · by_cases c2 : u = k'
                  · subst c2
                    exact .inr (.inl (by rw [uniq _ _ _ hz m2]))
                  · exact .inr (.inr ⟨hz, by simp [c1, c2]⟩)
              · rintro (z | z | z)
                · rw [z]; exact m1
                · rw [z]; exact m2
                · exact z.1
          have ih := from_lvs l _ (m + 1) t (by
            rw [List.map_append, List.nodup_append]
            refine ⟨nd.sublist (List.Sublist.map _ List.filter_sublist), by simp, fun u hu' v hv => ?_⟩
            simp only [List.map_cons, List.map_nil, List.mem_singleton] at hv
            subst hv
            obtain ⟨z, hz, rfl⟩ := List.mem_map.mp hu'
            exact Nat.ne_of_lt (hm z (List.mem_filter.mp hz).1)) (fun z hz => by
            rcases List.mem_append.mp hz with hz | hz
            · have := hm z (List.mem_filter.mp hz).1; omega
            · rw [List.mem_singleton.mp hz]; exact Nat.lt_succ_self _) h
          refine ih.trans ?_
          rw [List.flatMap_append]
          have hq := (hp.flatMap_right fun z => lvs z.2)
          refine List.Perm.trans ?_ hq.symm
          show (_ ++ ((lvs x ++ lvs y) ++ [])).Perm (lvs x ++ (lvs y ++ _))
          rw [List.append_nil, ← List.append_assoc (lvs x)]
          exact List.perm_append_comm
theorem treeOf_over {n : Nat} {l : List Nat} {t : Tree} (h : treeOf n l = some t) : Over n t := by
  have hp := from_lvs l _ n t (by
    rw [List.map_map]
    have : ((fun x : Nat × Tree => x.1) ∘ fun k => (k, Tree.leaf k)) = id := rfl
    rw [this, List.map_id]
    exact List.nodup_range) (fun z hz => by
      obtain ⟨k, hk, rfl⟩ := List.mem_map.mp hz
      exact List.mem_range.mp hk) h
  have e : ((List.range n).map fun k => (k, Tree.leaf k)).flatMap (fun z => lvs z.2) = List.range n := by
    generalize List.range n = r
    induction r with
    | nil => rfl
    | cons a r ih => exact congrArg (List.cons a) ih
  rw [e] at hp
  exact hp
end Sm
/-! All shapes; the first of the best; calls read off a list. -/
namespace Sm
open Lr71 (Place Area far point grown common apart near size int within)
open Lr72
theorem flatMap_alike {α β : Type} {f g : α → List β} : ∀ {l : List α}, (∀ x ∈ l, f x = g x) → l.flatMap f = l.flatMap g
  | [], _ => rfl
  | a :: l, h => by
    show f a ++ l.flatMap f = g a ++ l.flatMap g
    rw [h a (List.mem_cons_self ..), flatMap_alike fun x hx => h x (List.mem_cons_of_mem _ hx)]
/-! ### ways to part a list -/
abbrev Way := List Nat × List Nat
def stepW (w : List Way) (m : Nat) : List Way := (w.map fun z => (z.1 ++ [m], z.2)) ++ w.map fun z => (z.1, z.2 ++ [m])
def wayF (a : Nat) (z : Way) : List Way := [(a :: z.1, z.2), (z.1, a :: z.2)]
theorem sides_cons (a : Nat) (l : List Nat) : sides (a :: l) = (sides l).flatMap (wayF a) := rfl
theorem sides_snoc (m : Nat) : ∀ l : List Nat, sides (l ++ [m]) = stepW (sides l) m
  | [] => rfl
  | a :: l => by
    show (sides (l ++ [m])).flatMap (wayF a) = stepW ((sides l).flatMap (wayF a)) m
    rw [sides_snoc m l]
    unfold stepW
    rw [List.flatMap_append, List.flatMap_map, List.flatMap_map, List.map_flatMap, List.map_flatMap] <;> rfl
theorem ways_fold (k : Nat) : ∀ l : List Nat, l.foldl stepW [([k], [])] = (sides l).map fun z => (k :: z.1, z.2) := by
  have gen : ∀ (l done : List Nat), l.foldl stepW ((sides done).map fun z => (k :: z.1, z.2)) = (sides (done ++ l)).map fun z => (k :: z.1, z.2) := by
    intro l
    induction l with
    | nil => intro done; rw [List.append_nil] <;> rfl
    | cons m l ih =>
      intro done
      have e : stepW ((sides done).map fun z => (k :: z.1, z.2)) m = (sides (done ++ [m])).map fun z => (k :: z.1, z.2) := by
        rw [sides_snoc]
        unfold stepW
        rw [List.map_map, List.map_map, List.map_append, List.map_map, List.map_map] <;> rfl
      show l.foldl stepW (stepW _ m) = _
      rw [e, ih (done ++ [m]), List.append_assoc] <;> rfl
  intro l
  exact gen l []
theorem sides_first : ∀ l : List Nat, ∃ r, sides l = (l, []) :: r ∧ ∀ z ∈ r, z.2 ≠ []
  | [] => ⟨[], rfl, fun z h => absurd h (by simp)⟩
  | a :: l => by
    obtain ⟨r, e, h⟩ := sides_first l
    refine ⟨(l, [a]) :: r.flatMap (wayF a), by rw [sides_cons, e] <;> rfl, fun z hz => ?_⟩
    rcases List.mem_cons.mp hz with q | hz
    · rw [q]; simp
    · obtain ⟨y, hy, hz⟩ := List.mem_flatMap.mp hz
      simp only [wayF, List.mem_cons, List.not_mem_nil, or_false] at hz
      rcases hz with q | q
      · rw [q]; exact h y hy
      · rw [q]; simp
theorem sides_filter (l : List Nat) : ((sides l).filter fun z => !z.2.isEmpty) = (sides l).tail := by
  obtain ⟨r, e, h⟩ := sides_first l
  rw [e, List.filter_cons_of_neg (by simp)]
  show r.filter _ = r
  refine List.filter_eq_self.mpr fun z hz => ?_
  have := h z hz
  cases q : z.2 with
  | nil => exact absurd q this
  | cons a b => rfl
theorem sides_perm : ∀ (l : List Nat) (z : Way), z ∈ sides l → (z.1 ++ z.2).Perm l
  | [], z, h => by
    have e : z = ([], []) := List.mem_singleton.mp h
    rw [e]
    exact List.Perm.refl _
  | a :: l, z, h => by
    rw [sides_cons] at h
    obtain ⟨y, hy, hz⟩ := List.mem_flatMap.mp h
    have ih := sides_perm l y hy
    simp only [wayF, List.mem_cons, List.not_mem_nil, or_false] at hz
    rcases hz with q | q
    · rw [q]
      exact ih.cons a
    · rw [q]
      exact List.perm_middle.trans (ih.cons a)
/-- the ways of the program, all but the first -/
def splits (k : Nat) (l : List Nat) : List Way := (sides l).tail.map fun z => (k :: z.1, z.2)
theorem splits_fold (k : Nat) (l : List Nat) : (l.foldl stepW [([k], [])]).drop 1 = splits k l := by
  rw [ways_fold, List.drop_one, ← List.map_tail] <;> rfl
theorem tail_mem {l : List Nat} {z : Way} (h : z ∈ (sides l).tail) : (z.1 ++ z.2).Perm l ∧ z.2 ≠ [] := by
  obtain ⟨r, e, hr⟩ := sides_first l
  refine ⟨sides_perm l z (List.mem_of_mem_tail h), ?_⟩
  rw [e] at h
  exact hr z h
theorem splits_mem {k : Nat} {l : List Nat} {w : Way} (h : w ∈ splits k l) : (w.1 ++ w.2).Perm (k :: l) ∧ w.2 ≠ [] ∧ w.1 ≠ [] ∧ w.1.length ≤ l.length ∧ w.2.length ≤ l.length := by
  obtain ⟨z, hz, rfl⟩ := List.mem_map.mp h
  obtain ⟨h1, h2⟩ := tail_mem hz
  have h3 := h1.length_eq
  rw [List.length_append] at h3
  have h4 : 0 < z.2.length := List.length_pos_iff.mpr h2
  refine ⟨h1.cons k, h2, by simp, ?_, ?_⟩
  · show z.1.length + 1 ≤ l.length; omega
  · show z.2.length ≤ l.length; omega
/-! ### all shapes over a list -/
def shp (l : List Nat) : List Tree := shapes l.length l
theorem shapes_step (n k b : Nat) (l : List Nat) : shapes (n + 1) (k :: b :: l) = (splits k (b :: l)).flatMap fun w => (shapes n w.1).flatMap fun x => (shapes n w.2).map fun y => .two x y := by
  show (((sides (b :: l)).filter fun z => !z.2.isEmpty).flatMap fun z => (shapes n (k :: z.1)).flatMap fun x => (shapes n z.2).map fun y => Tree.two x y) = _
  rw [sides_filter]
  unfold splits
  rw [List.flatMap_map]
theorem shapes_fuel : ∀ (n : Nat) (l : List Nat), l.length ≤ n → shapes n l = shp l := by
  have gen : ∀ (s n : Nat) (l : List Nat), l.length ≤ s → l.length ≤ n → shapes n l = shp l := by
    intro s
    induction s with
    | zero =>
      intro n l h1 h2
      have e : l = [] := List.length_eq_zero_iff.mp (by omega)
      subst e
      cases n <;> rfl
    | succ s ih =>
      intro n l h1 h2
      match l, h1, h2 with
      | [], _, _ => cases n <;> rfl
      | [k], _, h2 =>
        cases n with
        | zero => simp at h2
        | succ n => rfl
      | k :: b :: l, h1, h2 =>
        cases n with
        | zero => simp at h2
        | succ n =>
          rw [shapes_step]
          show _ = shapes ((b :: l).length + 1) (k :: b :: l)
          rw [shapes_step]
          have h1 : (b :: l).length ≤ s := by simpa using h1
          have h2 : (b :: l).length ≤ n := by simpa using h2
          refine flatMap_alike fun w hw => ?_
          obtain ⟨_, _, _, h3, h4⟩ := splits_mem hw
          rw [ih n w.1 (by omega) (by omega), ih n w.2 (by omega) (by omega), ih (b :: l).length w.1 (by omega) h3, ih (b :: l).length w.2 (by omega) h4]
  exact fun n l h => gen l.length n l (Nat.le_refl _) h
theorem shp_one (k : Nat) : shp [k] = [.leaf k] := rfl
theorem shp_more {k : Nat} {l : List Nat} (h : l ≠ []) : shp (k :: l) = (splits k l).flatMap fun w => (shp w.1).flatMap fun x => (shp w.2).map fun y => .two x y := by
  match l, h with
  | b :: l, _ =>
    show shapes ((b :: l).length + 1) (k :: b :: l) = _
    rw [shapes_step]
    refine flatMap_alike fun w hw => ?_
    obtain ⟨_, _, _, h3, h4⟩ := splits_mem hw
    rw [shapes_fuel _ _ h3, shapes_fuel _ _ h4]
theorem allShapes_is (n : Nat) : allShapes n = shp (List.range n) := by
  unfold allShapes
  exact shapes_fuel _ _ (by simp)
theorem shp_lvs : ∀ (s : Nat) (l : List Nat), l.length ≤ s → ∀ t ∈ shp l, (lvs t).Perm l := by
  intro s
  induction s with
  | zero =>
    intro l h t ht
    have e : l = [] := List.length_eq_zero_iff.mp (by omega)
    subst e
    exact absurd ht (by simp [shp, shapes])
  | succ s ih =>
    intro l h t ht
    match l, h, ht with
    | [], _, ht => exact absurd ht (by simp [shp, shapes])
    | [k], _, ht =>
      rw [List.mem_singleton.mp ht]
      exact List.Perm.refl _
    | k :: b :: l, h, ht =>
      rw [shp_more (by simp)] at ht
      obtain ⟨w, hw, ht⟩ := List.mem_flatMap.mp ht
      obtain ⟨x, hx, ht⟩ := List.mem_flatMap.mp ht
      obtain ⟨y, hy, rfl⟩ := List.mem_map.mp ht
      obtain ⟨h1, _, _, h3, h4⟩ := splits_mem hw
      have h : (b :: l).length ≤ s := by simpa using h
      exact (List.Perm.append (ih w.1 (by omega) x hx) (ih w.2 (by omega) y hy)).trans h1
theorem all_over {n : Nat} {t : Tree} (h : t ∈ allShapes n) : Over n t := by
  rw [allShapes_is] at h
  exact shp_lvs _ _ (Nat.le_refl _) t h
/-! ### how many -/
def cntTo : Nat → Nat
  | 0 => 1
  | k + 1 => cntTo k * (2 * (k + 1) - 1)
def cnt (n : Nat) : Nat := if n = 0 then 0 else cntTo (n - 1)
set_option maxRecDepth 100000 in
theorem cnt_is : ∀ n, n ≤ 6 → (allShapes n).length = cnt n
  | 0, _ => by decide +kernel
  | 1, _ => by decide +kernel
  | 2, _ => by decide +kernel
  | 3, _ => by decide +kernel
  | 4, _ => by decide +kernel
  | 5, _ => by decide +kernel
  | 6, _ => by decide +kernel
  | n + 7, h => by omega
theorem cntTo_small : ∀ k, k ≤ 6 → cntTo k ≤ 10395
  | 0, _ => by decide
  | 1, _ => by decide
  | 2, _ => by decide
  | 3, _ => by decide
  | 4, _ => by decide
  | 5, _ => by decide
  | 6, _ => by decide
  | n + 7, h => by omega
/-! ### the first of the best -/
theorem best_mem (ls : List Leaf) : ∀ (l : List Tree) (t : Tree), best ls l = some t → t ∈ l
  | [], t, h => by cases h
  | x :: l, t, h => by
    have h : (match best ls l with
      | none => some x
      | some y => if better (sum ls y) (sum ls x) then some y else some x) = some t := h
    cases e : best ls l with
    | none =>
      rw [e] at h
      cases h
      exact List.mem_cons_self ..
    | some y =>
      rw [e] at h
      have h : (if better (sum ls y) (sum ls x) = true then some y else some x) = some t := h
      split at h
      · cases h
        exact List.mem_cons_of_mem _ (best_mem ls l _ e)
      · cases h
        exact List.mem_cons_self ..
theorem best_first (ls : List Leaf) : ∀ (l : List Tree) (i : Nat) (t : Tree), l[i]? = some t → (∀ (j : Nat) (u : Tree), l[j]? = some u → better (sum ls u) (sum ls t) = false) → (∀ (j : Nat) (u : Tree), j < i → l[j]? = some u → better (sum ls t) (sum ls u) = true) → best ls l = some t
  | [], i, t, h, _, _ => by simp at h
  | x :: l, 0, t, h, h1, h2 => by
    cases h
    show (match best ls l with
      | none => some x
      | some y => if better (sum ls y) (sum ls x) then some y else some x) = some x
    cases e : best ls l with
    | none => rfl
    | some y =>
      obtain ⟨j, hj⟩ := List.mem_iff_getElem?.mp (best_mem ls l y e)
      have := h1 (j + 1) y (by simpa using hj)
      show (if better (sum ls y) (sum ls x) = true then some y else some x) = some x
      rw [this] <;> rfl
  | x :: l, i + 1, t, h, h1, h2 => by
    have ih := best_first ls l i t (by simpa using h) (fun j u hj => h1 (j + 1) u (by simpa using hj)) (fun j u hj hu => h2 (j + 1) u (by omega) (by simpa using hu))
    show (match best ls l with
      | none => some x
      | some y => if better (sum ls y) (sum ls x) then some y else some x) = some t
    rw [ih]
    show (if better (sum ls t) (sum ls x) = true then some t else some x) = some t
    rw [h2 0 x (by omega) rfl] <;> rfl
theorem better_iff (x y : Sum) : better x y = true ↔ x.wire < y.wire ∨ (x.wire = y.wire ∧ x.time < y.time) := by
  unfold better
  rw [Bool.or_eq_true, Bool.and_eq_true, decide_eq_true_eq, decide_eq_true_eq, decide_eq_true_eq]
/-! ### calls read off a list -/
theorem whole_id (c : List (List Int)) : PyLr72.whole c = c := by
  unfold PyLr72.whole
  split <;> rfl
/-- how many whole numbers a call has -/
def hasN (p : Int) : Nat := if p = 1 then 3 else if p = 2 then 4 else if p = 6 then 1 else if p = 7 then 2 else if p = 8 then 3 else if p = 11 then 1 else 0
/-- a call: its number, what it's given -/
def form (p : Int) (given : List Int) : List (List Int) := if p = 3 ∨ p = 9 then [[p], given] else [p :: given]
theorem call_is {p : Int} {r : List Int} {c : List (List Int)} {t : List Int} (h : PyFlat.call PyLr72.shape (p :: r) = some (c, t)) :
    (0 ≤ p ∧ p ≤ 12) ∧ ((p ≠ 3 ∧ p ≠ 9 ∧ hasN p ≤ r.length ∧ c = form p (r.take (hasN p)) ∧ t = r.drop (hasN p)) ∨
      ((p = 3 ∨ p = 9) ∧ ∃ z r', r = z :: r' ∧ 0 ≤ z ∧ z.toNat ≤ r'.length ∧ c = form p (r'.take z.toNat) ∧ t = r'.drop z.toNat)) := by
  have plain : ∀ n : Nat, n = hasN p → p ≠ 3 → p ≠ 9 → PyLr72.shape p = some (n, 0) → p ≠ 3 ∧ p ≠ 9 ∧ hasN p ≤ r.length ∧ c = form p (r.take (hasN p)) ∧ t = r.drop (hasN p) := by
    intro n en h3 h9 hs
    have h : (match PyLr72.shape p with
      | none => none
      | some (n, k) => if r.length < n then none else match PyFlat.rows k (r.drop n) with
        | none => none
        | some (xs, t) => some ((p :: r.take n) :: xs, t)) = some (c, t) := h
    rw [hs] at h
    have h : (if r.length < n then none else some ([p :: r.take n], r.drop n)) = some (c, t) := h
    split at h
    · cases h
    · rename_i hl
      cases h
      rw [← en]
      refine ⟨h3, h9, by omega, ?_, rfl⟩
      unfold form
      rw [if_neg (fun z => z.elim h3 h9)]
  have rowed : (p = 3 ∨ p = 9) → PyLr72.shape p = some (0, 1) → ∃ z r', r = z :: r' ∧ 0 ≤ z ∧ z.toNat ≤ r'.length ∧ c = form p (r'.take z.toNat) ∧ t = r'.drop z.toNat := by
    intro hp hs
    have h : (match PyLr72.shape p with
      | none => none
      | some (n, k) => if r.length < n then none else match PyFlat.rows k (r.drop n) with
        | none => none
        | some (xs, t) => some ((p :: r.take n) :: xs, t)) = some (c, t) := h
    rw [hs] at h
    have h : (if r.length < 0 then none else match (match PyFlat.row r with
        | none => none
        | some (x, s) => some ([x], s)) with
        | none => none
        | some (xs, t) => some ([p] :: xs, t)) = some (c, t) := h
    rw [if_neg (by omega)] at h
    cases r with
    | nil => cases h
    | cons z r' =>
      have er : PyFlat.row (z :: r') = if 0 ≤ z ∧ z.toNat ≤ r'.length then some (r'.take z.toNat, r'.drop z.toNat) else none := rfl
      rw [er] at h
      by_cases hz : 0 ≤ z ∧ z.toNat ≤ r'.length
      · rw [if_pos hz] at h
        cases h
        refine ⟨z, r', rfl, hz.1, hz.2, ?_, rfl⟩
        unfold form
        rw [if_pos hp]
      · rw [if_neg hz] at h
        cases h
  have hcase : (0 ≤ p ∧ p ≤ 12) ∨ PyLr72.shape p = none := by
    by_cases hp : 0 ≤ p ∧ p ≤ 12
    · exact .inl hp
    · right
      unfold PyLr72.shape
      simp only [show ¬ p = 0 by omega, show ¬ p = 1 by omega, show ¬ p = 2 by omega, show ¬ p = 3 by omega, show ¬ p = 4 by omega, show ¬ p = 5 by omega, show ¬ p = 6 by omega, show ¬ p = 7 by omega, show ¬ p = 8 by omega, show ¬ p = 9 by omega, show ¬ p = 10 by omega, show ¬ p = 11 by omega, show ¬ p = 12 by omega, if_false]
  rcases hcase with hp | hp
  · refine ⟨hp, ?_⟩
    have hc : p = 0 ∨ p = 1 ∨ p = 2 ∨ p = 3 ∨ p = 4 ∨ p = 5 ∨ p = 6 ∨ p = 7 ∨ p = 8 ∨ p = 9 ∨ p = 10 ∨ p = 11 ∨ p = 12 := by omega
    rcases hc with rfl | rfl | rfl | rfl | rfl | rfl | rfl | rfl | rfl | rfl | rfl | rfl | rfl
    · exact .inl (plain 0 rfl (by decide) (by decide) rfl)
    · exact .inl (plain 3 rfl (by decide) (by decide) rfl)
    · exact .inl (plain 4 rfl (by decide) (by decide) rfl)
    · exact .inr ⟨.inl rfl, rowed (.inl rfl) rfl⟩
    · exact .inl (plain 0 rfl (by decide) (by decide) rfl)
    · exact .inl (plain 0 rfl (by decide) (by decide) rfl)
    · exact .inl (plain 1 rfl (by decide) (by decide) rfl)
    · exact .inl (plain 2 rfl (by decide) (by decide) rfl)
    · exact .inl (plain 3 rfl (by decide) (by decide) rfl)
    · exact .inr ⟨.inr rfl, rowed (.inr rfl) rfl⟩
    · exact .inl (plain 0 rfl (by decide) (by decide) rfl)
    · exact .inl (plain 1 rfl (by decide) (by decide) rfl)
    · exact .inl (plain 0 rfl (by decide) (by decide) rfl)
  · exfalso
    have h : (match PyLr72.shape p with
      | none => none
      | some (n, k) => if r.length < n then none else match PyFlat.rows k (r.drop n) with
        | none => none
        | some (xs, t) => some ((p :: r.take n) :: xs, t)) = some (c, t) := h
    rw [hp] at h
    cases h
end Sm
/-! A dict whose keys are ints and nested tuples of ints, side by side. -/
namespace Mx
open PySem
open Sem (wp)
section
variable {prog : Program} {w : World} {A : Around} {E : Value → Shared → Prop} {s : Shared}
/-- no text -/
def NoStr : Value → Prop
  | .str _ _ => False
  | _ => True
/-- the entries es have the keys ks, in order -/
structure Keyed (w : World) (h : Heap) (ks : List NestedKey) (es : Array DictEntry) : Prop where
  len : ks.length = es.size
  at_ : ∀ (i : Nat) (e : DictEntry), es[i]? = some e → ∃ k', ks[i]? = some k' ∧ e.hash = k'.hash w ∧ NestedIs h k' e.key ∧ k'.depth ≤ 8
  nd : ks.Nodup
theorem tell_quiet {key : Value} {k : NestedKey} {st : List Value} {Q : Bool → Shared → Prop} (hk : NestedIs s.heap k key) (h8 : k.depth ≤ 8) (hst : ∀ v ∈ st, ∃ k', NestedIs s.heap k' v ∧ k'.depth ≤ 8) (q : Q false s) :
    wpAny (model prog w) A (tableMayTell key st) Q E s := by
  unfold tableMayTell
  split
  · exact wpAny_pure q
  · refine wpAny_bind (quiet_key k key 8 s hk h8 A E _ ?_)
    simp only [Bool.not_true, Bool.false_eq_true, if_false]
    refine wpAny_bind ?_
    refine wpAny_forIn_list _ (fun left r s' => (s' = s ∧ r = (none, ())) ∧ ∀ v ∈ left, ∃ k', NestedIs s.heap k' v ∧ k'.depth ≤ 8) _ ?_ ?_ _ _ ⟨⟨rfl, rfl⟩, hst⟩
    · rintro v left r s' ⟨⟨rfl, rfl⟩, hl⟩
      obtain ⟨k', hv, hv8⟩ := hl v List.mem_cons_self
      refine wpAny_bind (quiet_key k' v 8 s' hv hv8 A E _ ?_)
      simp only [Bool.not_true, Bool.false_eq_true, if_false]
      exact wpAny_pure ⟨⟨rfl, rfl⟩, fun z hz => hl z (List.mem_cons_of_mem _ hz)⟩
    · rintro r s' ⟨⟨rfl, rfl⟩, _⟩
      exact wpAny_pure q
theorem two_ways {c : Prop} [Decidable c] {α : Type} {m1 m2 : Sem α} {Q : α → Shared → Prop} (h1 : c → wpAny (model prog w) A m1 Q E s) (h2 : ¬ c → wpAny (model prog w) A m2 Q E s) : wpAny (model prog w) A (if c then m1 else m2) Q E s := by
  split
  · exact h1 ‹_›
  · exact h2 ‹_›
theorem eq_key {x y : NestedKey} {u v : Value} {Q : Bool → Shared → Prop} (hu : A.units + 8 < cLine) (hx : NestedIs s.heap x u) (hy : NestedIs s.heap y v) (h8 : x.depth ≤ 8) (q : Q (decide (x = y)) s) :
    wpAny (model prog w) A (eqBool u v) Q E s := eqAt_key x y A s u v hx hy (by omega) _ _ _ _ (by rw [← NestedKey.decide_eq]; exact q)
theorem find_mix {d : Addr} {o : Obj} {key : Value} {k : NestedKey} {ks : List NestedKey} {es : Array DictEntry} {ep : Nat} {Q : Option Nat → Shared → Prop} (hu : A.units + 8 < cLine) (hk : NestedIs s.heap k key) (h8 : k.depth ≤ 8) (hns : NoStr key)
    (ho : s.heap.get? d = some o) (hd : o.data = .dict es ep) (KE : Keyed w s.heap ks es) (qn : k ∉ ks → Q none s) (qs : ∀ j, ks[j]? = some k → Q (some j) s) :
    wpAny (model prog w) A (dictFind d key (k.hash w)) Q E s := by
  have atk : ∀ j, ks[j]? = some k → j < es.size ∧ ((es[j]?.map (·.hash)) == some (k.hash w)) = true := by
    intro j hj
    have lt : j < es.size := by rw [← KE.len]; exact (List.getElem?_eq_some_iff.mp hj).1
    obtain ⟨k', e1, e2, _, _⟩ := KE.at_ j es[j] (Array.getElem?_eq_getElem lt)
    rw [hj] at e1
    cases e1
    refine ⟨lt, ?_⟩
    rw [Array.getElem?_eq_getElem lt]
    simp [e2]
  have hst : ∀ v ∈ (placesWithHash es.size (fun i => es[i]?.map (·.hash)) (k.hash w)).filterMap (fun i => es[i]?.map (·.key)), ∃ k', NestedIs s.heap k' v ∧ k'.depth ≤ 8 := by
    intro v hv
    obtain ⟨i, _, hi⟩ := List.mem_filterMap.mp hv
    cases he : es[i]? with
    | none => rw [he] at hi; cases hi
    | some e =>
      rw [he] at hi
      have ev : e.key = v := by simpa using hi
      obtain ⟨k', _, _, e3, e4⟩ := KE.at_ i e he
      exact ⟨k', ev ▸ e3, e4⟩
  -- one place is looked at: what is known behind it
  have next : ∀ (x i : Nat) (hit : Option Nat), i ≤ x → x < es.size → (∀ j, i ≤ j → j < x → ((es[j]?.map (·.hash)) == some (k.hash w)) = false) → ks[x]? ≠ some k →
      ((hit = none ∧ ∀ j, j < i → ks[j]? ≠ some k) ∨ ∃ j, hit = some j ∧ j < i ∧ ks[j]? = some k) → ((hit = none ∧ ∀ j, j < x + 1 → ks[j]? ≠ some k) ∨ ∃ j, hit = some j ∧ j < x + 1 ∧ ks[j]? = some k) := by
    intro x i hit hix hx skip hne hH
    rcases hH with ⟨h0, hno⟩ | ⟨j, h1, hj, hjk⟩
    · refine .inl ⟨h0, fun j hj hjk => ?_⟩
      rcases Nat.lt_or_ge j i with c | c
      · exact hno j c hjk
      · rcases Nat.lt_or_ge j x with c2 | c2
        · have z := skip j c c2
          rw [(atk j hjk).2] at z
          cases z
        · have ej : j = x := by omega
          exact hne (ej ▸ hjk)
    · exact .inr ⟨j, h1, by omega, hjk⟩
  have fin : ∀ i, i ≤ es.size → [] = (List.range' i (es.size - i)).filter (fun i => (es[i]?.map (·.hash)) == some (k.hash w)) → (∀ j, j < i → ks[j]? ≠ some k) → k ∉ ks := by
    intro i hi hr hno hm
    obtain ⟨j, hj⟩ := List.mem_iff_getElem?.mp hm
    obtain ⟨lt, hh⟩ := atk j hj
    rcases Nat.lt_or_ge j i with c | c
    · exact hno j c hj
    · have z := List.filter_eq_nil_iff.mp hr.symm j (List.mem_range'_1.mpr ⟨c, by omega⟩)
      exact z hh
  unfold dictFind
  try with_reducible refine wpAny_holding ?_
  refine wpAny_bind (wpAny_dictEntries ho hd ?_)
  dsimp only
  have plain : wpAny (model prog w) A (dictWalkPlain d key (k.hash w) es (placesWithHash es.size (fun i => es[i]?.map (·.hash)) (k.hash w))) Q E s := by
    refine wpAny_bind ?_
    refine wpAny_forIn_list _ (fun left b s' => (s' = s ∧ b = (none, ())) ∧ ∃ i, left = (List.range' i (es.size - i)).filter (fun i => (es[i]?.map (·.hash)) == some (k.hash w)) ∧ i ≤ es.size ∧ ∀ j, j < i → ks[j]? ≠ some k) _ ?_ ?_ _ _
      ⟨⟨rfl, rfl⟩, 0, by rw [placesWithHash, List.range_eq_range', Nat.sub_zero], Nat.zero_le _, fun _ h => absurd h (Nat.not_lt_zero _)⟩
    · rintro x left b s' ⟨⟨rfl, rfl⟩, i, hr, hi, hno⟩
      obtain ⟨hix, hxn, hpx, hskip, hleft⟩ := filter_range'_cons _ _ _ _ _ hr.symm
      have hlt : x < es.size := by omega
      obtain ⟨k', e1, e2, e3, e4⟩ := KE.at_ x es[x] (Array.getElem?_eq_getElem hlt)
      have hleft2 : left = (List.range' (x + 1) (es.size - (x + 1))).filter (fun i => (es[i]?.map (·.hash)) == some (k.hash w)) := by rw [hleft]; congr 2; omega
      have go : ks[x]? ≠ some k → ∃ i, left = (List.range' i (es.size - i)).filter (fun i => (es[i]?.map (·.hash)) == some (k.hash w)) ∧ i ≤ es.size ∧ ∀ j, j < i → ks[j]? ≠ some k := fun hne => by
        refine ⟨x + 1, hleft2, hlt, ?_⟩
        rcases next x i none hix hlt hskip hne (.inl ⟨rfl, hno⟩) with ⟨_, z⟩ | ⟨j, z, _⟩
        · exact z
        · cases z
      simp only [Array.getElem?_eq_getElem hlt]
      by_cases hh : (es[x].hash == k.hash w) = true
      · rw [if_pos hh]
        refine wpAny_bind (wpAny_dictEpoch ho hd (wpAny_bind (eq_key hu e3 hk e4 (wpAny_bind (wpAny_dictEpoch ho hd ?_)))))
        show wpAny _ _ (if (ep != ep) = true then _ else _) _ E _
        rw [if_neg (by simp)]
        by_cases hkk : k' = k
        · rw [decide_eq_true hkk]
          exact wpAny_bind (wpAny_rule (wpAny_pure (wpAny_pure (qs x (hkk ▸ e1)))))
        · rw [decide_eq_false hkk]
          exact wpAny_bind (wpAny_rule (wpAny_pure ⟨⟨rfl, rfl⟩, go fun z => hkk (Option.some.inj (e1.symm.trans z))⟩))
      · rw [if_neg hh]
        refine wpAny_pure ⟨⟨rfl, rfl⟩, go fun z => hh ?_⟩
        rw [e1] at z
        rw [e2, Option.some.inj z]
        exact beq_self_eq_true _
    · rintro b s' ⟨⟨rfl, rfl⟩, i, hr, hi, hno⟩
      exact wpAny_pure (qn (fin i hi hr hno))
  by_cases hall : ((key :: (placesWithHash es.size (fun i => es[i]?.map (·.hash)) (k.hash w)).filterMap (fun i => es[i]?.map (·.key))).all carriedByValue) = true
  · rw [if_pos hall]
    cases key with
    | str x t => exact hns.elim
    | _ => exact plain
  · rw [if_neg hall]
    clear plain hall
    have hany : ∀ a, key = Value.ref a → ¬ (es.any fun e => e.key == Value.ref a && e.hash != k.hash w) = true := by
      intro a ea
      subst ea
      rw [← Array.any_toList, List.any_eq_true]
      rintro ⟨e, hin, hc⟩
      simp only [Bool.and_eq_true, beq_iff_eq, bne_iff_ne, ne_eq] at hc
      obtain ⟨i, hi⟩ := Array.mem_iff_getElem?.mp (Array.mem_toList_iff.mp hin)
      obtain ⟨k', _, e2, e3, _⟩ := KE.at_ i e hi
      rw [hc.1] at e3
      exact hc.2 (by rw [e2, NestedIs.inj _ _ _ e3 hk])
    cases key <;> (first | exact hns.elim | skip)
    all_goals dsimp only
    all_goals (try rw [if_neg (hany _ rfl)])
    all_goals (refine two_ways (fun _ => wpAny_bind (wpAny_pure ?_)) (fun _ => wpAny_bind (tell_quiet hk h8 hst ?_)))
    all_goals (
        rw [if_neg (by simp)]
        refine wpAny_bind ?_
        refine wpAny_forIn_list _ (fun left b s' => s' = s ∧ ∃ i hit, b = (none, hit) ∧ left = (List.range' i (es.size - i)).filter (fun i => (es[i]?.map (·.hash)) == some (k.hash w)) ∧ i ≤ es.size ∧
          ((hit = none ∧ ∀ j, j < i → ks[j]? ≠ some k) ∨ ∃ j, hit = some j ∧ j < i ∧ ks[j]? = some k)) _ ?_ ?_ _ _
          ⟨rfl, 0, none, rfl, by rw [placesWithHash, List.range_eq_range', Nat.sub_zero], Nat.zero_le _, .inl ⟨rfl, fun _ h => absurd h (Nat.not_lt_zero _)⟩⟩
        · rintro x left b s' ⟨rfl, i, hit, rfl, hr, hi, hH⟩
          obtain ⟨hix, hxn, hpx, hskip, hleft⟩ := filter_range'_cons _ _ _ _ _ hr.symm
          have hlt : x < es.size := by omega
          obtain ⟨k', e1, e2, e3, e4⟩ := KE.at_ x es[x] (Array.getElem?_eq_getElem hlt)
          have hleft2 : left = (List.range' (x + 1) (es.size - (x + 1))).filter (fun i => (es[i]?.map (·.hash)) == some (k.hash w)) := by rw [hleft]; congr 2; omega
          simp only [Array.getElem?_eq_getElem hlt]
          by_cases hh : (es[x].hash == k.hash w) = true
          · rw [if_pos hh]
            refine wpAny_bind (wpAny_dictEpoch ho hd (wpAny_bind (eq_key hu e3 hk e4 (wpAny_bind (wpAny_dictEpoch ho hd ?_)))))
            show wpAny _ _ (if (ep != ep) = true then _ else _) _ E _
            rw [if_neg (by simp)]
            by_cases hkk : k' = k
            · rw [decide_eq_true hkk]
              have e1' : ks[x]? = some k := hkk ▸ e1
              rcases hH with ⟨rfl, hno⟩ | ⟨j, rfl, hj, hjk⟩
              · first | rw [if_pos rfl] | skip
                simp only [Option.isSome_none, Bool.false_eq_true, if_false]
                first | refine wpAny_bind (wpAny_pure ?_) | skip
                refine wpAny_bind (wpAny_rule ?_)
                split
                · exact wpAny_pure (wpAny_pure (qs x e1'))
                · exact wpAny_pure ⟨rfl, x + 1, some x, rfl, hleft2, hlt, .inr ⟨x, rfl, Nat.lt_succ_self x, e1'⟩⟩
              · have z := (List.getElem?_inj (List.getElem?_eq_some_iff.mp hjk).1 KE.nd).mp (hjk.trans e1'.symm)
                exact absurd z (by omega)
            · rw [decide_eq_false hkk]
              have hne : ks[x]? ≠ some k := fun z => hkk (Option.some.inj (e1.symm.trans z))
              simp only [Bool.false_eq_true, if_false]
              refine wpAny_bind (wpAny_rule ?_)
              first | rw [if_neg (by simp)] | skip
              first
                | exact wpAny_pure ⟨rfl, x + 1, hit, rfl, hleft2, hlt, next x i hit hix hlt hskip hne hH⟩
                | exact wpAny_bind (wpAny_pure (wpAny_pure ⟨rfl, x + 1, hit, rfl, hleft2, hlt, next x i hit hix hlt hskip hne hH⟩))
          · rw [if_neg hh]
            have hne : ks[x]? ≠ some k := fun z => hh (by rw [e1] at z; rw [e2, Option.some.inj z]; exact beq_self_eq_true _)
            exact wpAny_pure ⟨rfl, x + 1, hit, rfl, hleft2, hlt, next x i hit hix hlt hskip hne hH⟩
        · rintro b s' ⟨rfl, i, hit, rfl, hr, hi, hH⟩
          rcases hH with ⟨rfl, hno⟩ | ⟨j, rfl, _, hjk⟩
          · exact wpAny_pure (qn (fin i hi hr hno))
          · exact wpAny_pure (qs j hjk))
end
end Mx
/-! The same as rules of the hand layer: known of shape_outcome. -/
namespace Mx
open PySem
section
variable {prog : Program} {w : World} {A : Around} {E : Value → Shared → Prop} {s : Shared}
theorem get_mix {d : Addr} {o : Obj} {key : Value} {k : NestedKey} {ks : List NestedKey} {es : Array DictEntry} {ep : Nat} {Q : Option Value → Shared → Prop} (hu : A.units + 8 < cLine) (hk : NestedIs s.heap k key) (h8 : k.depth ≤ 8) (hns : NoStr key)
    (ho : s.heap.get? d = some o) (hd : o.data = .dict es ep) (KE : Keyed w s.heap ks es) (qn : k ∉ ks → Q none { s with toks := s.toks + k.draws }) (qs : ∀ (j : Nat) (e : DictEntry), ks[j]? = some k → es[j]? = some e → Q (some e.val) { s with toks := s.toks + k.draws }) :
    wpAny (model prog w) A (dictGet d key) Q E s := by
  unfold dictGet
  try with_reducible refine wpAny_holding ?_
  refine wpAny_bind (pyHash_key k key A s _ hk (by omega) (wpAny_bind (find_mix (s := { s with toks := s.toks + k.draws }) hu hk h8 hns ho hd KE (fun z => ?_) (fun j hj => ?_))))
  · exact wpAny_pure (qn z)
  · have lt : j < es.size := by rw [← KE.len]; exact (List.getElem?_eq_some_iff.mp hj).1
    refine wpAny_bind (wpAny_dictEntries (s := { s with toks := s.toks + k.draws }) ho hd ?_)
    rw [Array.getElem?_eq_getElem lt]
    exact wpAny_pure (qs j es[j] hj (Array.getElem?_eq_getElem lt))
theorem set_mix {d : Addr} {o : Obj} {key v : Value} {k : NestedKey} {ks : List NestedKey} {es : Array DictEntry} {ep : Nat} {Q : Unit → Shared → Prop} (hu : A.units + 8 < cLine) (hk : NestedIs s.heap k key) (h8 : k.depth ≤ 8) (hns : NoStr key)
    (ho : s.heap.get? d = some o) (hc : o.ExactDict) (hd : o.data = .dict es ep) (KE : Keyed w s.heap ks es) (hz : es.size ≤ sizeLine) (hnew : k ∉ ks)
    (q : ∀ h' o', h'.get? d = some o' → o'.ExactDict → o'.data = .dict (es.push ⟨k.hash w, key, v⟩) (ep + 1) → Heap.SameBut d s.heap h' → Q () { s with heap := h', toks := s.toks + k.draws }) :
    wpAny (model prog w) A (dictSet d key v) Q E s := by
  unfold dictSet
  try with_reducible refine wpAny_holding ?_
  refine wpAny_bind (pyHash_key k key A s _ hk (by omega) ?_)
  unfold dictSetHashed
  try with_reducible refine wpAny_holding ?_
  refine wpAny_bind (find_mix (s := { s with toks := s.toks + k.draws }) hu hk h8 hns ho hd KE (fun _ => ?_) (fun j hj => absurd (List.mem_of_getElem? hj) hnew))
  refine wpAny_bind (wpAny_rule (wpAny_updateDictKeys (hz := by omega) (s := { s with toks := s.toks + k.draws }) ho hd (q _ _ (Heap.get?_update_self _ ho (Obj.isFreed_of_dict (Obj.data_mapDictKeys hd _))) (hc.mapDictKeys _) (Obj.data_mapDictKeys hd _) (Heap.SameBut.update ..))))
theorem in_mix {d : Addr} {o : Obj} {key : Value} {k : NestedKey} {ks : List NestedKey} {es : Array DictEntry} {ep : Nat} {Q : Value → Shared → Prop} (hu : A.units + 9 < cLine) (hk : NestedIs s.heap k key) (h8 : k.depth ≤ 8) (hns : NoStr key)
    (ho : s.heap.get? d = some o) (hc : o.ExactDict) (hd : o.data = .dict es ep) (hs : (d == sysModules) = false) (KE : Keyed w s.heap ks es) (q : Q (.bool (!decide (k ∈ ks))) { s with toks := s.toks + k.draws }) :
    wpAny (model prog w) A (compareOp .NotIn key (.ref d)) Q E s := by
  have hT : s.TypeIs (.ref d) "dict" := ⟨o, ho, hc.1⟩
  have hu1 : A.in1.units + 8 < cLine := by rw [Around.in1_units]; omega
  show wpAny _ _ (do return .bool (!(← contains (.ref d) key))) Q E s
  refine wpAny_bind ?_
  unfold contains
  try with_reducible refine wpAny_holding ?_
  refine wpAny_bind (wpAny_specialOf hT slot_dict_contains.lookup ?_)
  show wpAny _ _ (if (some (Value.builtin "dict.__contains__") == some Value.none) = true then _ else _) _ E s
  rw [if_neg (by rw [beq_builtin_none]; exact Bool.false_ne_true)]
  refine wpAny_bind (wpAny_callSpecialUnlessNone?_slot (name := Str.ofString "__contains__") hT slot_dict_contains (wpAny_call_entry slot_dict_contains hT entry_dict_contains ?_ (args_dict_contains _ _)))
  show wpAny _ _ (dictGet d key >>= _) _ _ s
  refine wpAny_bind (get_mix hu1 hk h8 hns ho hd KE (fun z => ?_) (fun j e hj _ => ?_))
  · rw [decide_eq_false z] at q
    show wpAny _ _ (Builtin.Dict.pendingKey? d key >>= _) _ _ _
    exact wpAny_bind (wpAny_pendingKey_other hs (wpAny_pure ⟨_, rfl, wpAny_truthy_bool (wpAny_pure q)⟩))
  · rw [decide_eq_true (List.mem_of_getElem? hj)] at q
    show wpAny _ _ (ret (.bool true)) _ _ _
    exact wpAny_pure ⟨_, rfl, wpAny_truthy_bool (wpAny_pure q)⟩
theorem item_mix {d : Addr} {o : Obj} {key : Value} {k : NestedKey} {ks : List NestedKey} {es : Array DictEntry} {ep : Nat} {Q : Value → Shared → Prop} (hu : A.units + 9 < cLine) (hk : NestedIs s.heap k key) (h8 : k.depth ≤ 8) (hns : NoStr key)
    (ho : s.heap.get? d = some o) (hc : o.ExactDict) (hd : o.data = .dict es ep) (KE : Keyed w s.heap ks es) (hin : k ∈ ks) (q : ∀ (j : Nat) (e : DictEntry), ks[j]? = some k → es[j]? = some e → Q e.val { s with toks := s.toks + k.draws }) :
    wpAny (model prog w) A (getItem (.ref d) key) Q E s := by
  have hT : s.TypeIs (.ref d) "dict" := ⟨o, ho, hc.1⟩
  have hu1 : A.in1.units + 8 < cLine := by rw [Around.in1_units]; omega
  unfold getItem
  try with_reducible refine wpAny_holding ?_
  refine wpAny_bind (wpAny_sequenceKey hT (by decide) ?_)
  refine wpAny_bind (wpAny_callSpecial?_slot (name := Str.ofString "__getitem__") hT slot_dict_getitem (wpAny_call_entry slot_dict_getitem hT entry_dict_getitem ?_ (args_dict_getitem _ _)))
  show wpAny _ _ (dictGet d key >>= _) _ _ s
  refine wpAny_bind (get_mix hu1 hk h8 hns ho hd KE (fun z => absurd hin z) (fun j e hj he => ?_))
  exact wpAny_pure ⟨e.val, rfl, wpAny_pure (q j e hj he)⟩
theorem store_mix {d : Addr} {o : Obj} {key v : Value} {k : NestedKey} {ks : List NestedKey} {es : Array DictEntry} {ep : Nat} {Q : Unit → Shared → Prop} (hu : A.units + 9 < cLine) (hk : NestedIs s.heap k key) (h8 : k.depth ≤ 8) (hns : NoStr key)
    (ho : s.heap.get? d = some o) (hc : o.ExactDict) (hd : o.data = .dict es ep) (KE : Keyed w s.heap ks es) (hz : es.size ≤ sizeLine) (hnew : k ∉ ks)
    (q : ∀ h' o', h'.get? d = some o' → o'.ExactDict → o'.data = .dict (es.push ⟨k.hash w, key, v⟩) (ep + 1) → Heap.SameBut d s.heap h' → Q () { s with heap := h', toks := s.toks + k.draws }) :
    wpAny (model prog w) A (setItem (.ref d) key v) Q E s := by
  have hT : s.TypeIs (.ref d) "dict" := ⟨o, ho, hc.1⟩
  have hu1 : A.in1.units + 8 < cLine := by rw [Around.in1_units]; omega
  unfold setItem
  try with_reducible refine wpAny_holding ?_
  refine wpAny_bind (wpAny_sequenceKey hT (by decide) ?_)
  refine wpAny_bind (wpAny_callSpecial?_slot (name := Str.ofString "__setitem__") hT slot_dict_setitem (wpAny_call_entry slot_dict_setitem hT entry_dict_setitem ?_ (args_dict_setitem _ _ _)))
  show wpAny _ _ (Builtin.Dict.notOrdered "__setitem__" ⟨[.ref d, key, v], []⟩ >>= _) _ _ s
  refine wpAny_bind (wpAny_notOrdered_dict hT ?_)
  show wpAny _ _ (dictSet d key v >>= _) _ _ s
  exact wpAny_bind (set_mix hu1 hk h8 hns ho hc hd KE hz hnew fun h' o' a b c e => wpAny_pure ⟨.none, rfl, wpAny_pure (q h' o' a b c e)⟩)
end
end Mx
namespace Sm
open PySem PySem.Spec PyProof.Rows L2
abbrev Tr := Lr72.Tree
def keyOf : Tr → NestedKey
  | .leaf k => .num k
  | .two x y => .tup [keyOf x, keyOf y]
theorem keyOf_inj : ∀ {x y : Tr}, keyOf x = keyOf y → x = y
  | .leaf a, .leaf b, h => by
    have e : (a : Int) = b := NestedKey.num.inj h
    rw [Int.ofNat.inj e]
  | .leaf a, .two x y, h => by cases h
  | .two x y, .leaf a, h => by cases h
  | .two x y, .two u v, h => by
    have e := NestedKey.tup.inj h
    have e1 := (List.cons.inj e).1
    have e2 := (List.cons.inj (List.cons.inj e).2).1
    rw [keyOf_inj e1, keyOf_inj e2]
theorem keyOf_depth : ∀ t : Tr, (keyOf t).depth ≤ jc t
  | .leaf k => Nat.le_refl _
  | .two x y => by
    have h1 := keyOf_depth x
    have h2 := keyOf_depth y
    show max (keyOf x).depth (max (keyOf y).depth 0) + 1 ≤ jc x + jc y + 1
    omega
/-- the value v is the shape t -/
inductive ShAt (H : Hp) : V → Tr → Prop
  | leaf (k : Nat) : ShAt H (.int k) (.leaf k)
  | two {a : Addr} {x y : V} {t u : Tr} : H a = some (.tup [x, y]) → ShAt H x t → ShAt H y u → ShAt H (.ref a) (.two t u)
theorem ShAt.same {H H' : Hp} {v : V} {t : Tr} (h : ShAt H v t) (k : ∀ b xs, H b = some (.tup xs) → H' b = some (.tup xs)) : ShAt H' v t := by
  induction h with
  | leaf i => exact .leaf i
  | two e _ _ ih1 ih2 => exact .two (k _ _ e) ih1 ih2
theorem ShAt.key {P : Program} {w : World} {H : Hp} {h : Heap} (ok : HOk P w H h) {v : V} {t : Tr} (x : ShAt H v t) : ∀ {u : Value}, RelV v u → NestedIs h (keyOf t) u ∧ Mx.NoStr u := by
  induction x with
  | leaf k =>
    intro u r
    obtain ⟨t, rfl⟩ := r
    exact ⟨.int _ _, trivial⟩
  | @two a x y t u e _ _ ih1 ih2 =>
    intro v r
    obtain rfl : v = Value.ref a := r
    obtain ⟨_, its, r, o, h1, h2, n, h3⟩ := (show ObjOk P w H h a (.tup [x, y]) from ok a _ e)
    cases r with
    | cons r1 r2 =>
      cases r2 with
      | cons r2 r3 =>
        cases r3
        exact ⟨.tup h1 h2 h3 (.cons (ih1 r1).1 (.cons (ih2 r2).1 .nil)), trivial⟩
/-- an entry of known -/
def MxE (w : World) (p : Tr × V × V) (e : DictEntry) : Prop := e.hash = (keyOf p.1).hash w ∧ RelV p.2.1 e.key ∧ RelV p.2.2 e.val
/-- a dict with shapes as its keys: shape, key, value -/
def MxO (w : World) (a : Addr) (kvs : List (Tr × V × V)) : HO := .ext fun h => ∃ o es ep, h.get? a = some o ∧ o.ExactDict ∧ o.data = .dict es ep ∧ Paired (MxE w) kvs es.toList
structure MxAt (w : World) (H : Hp) (a : Addr) (kvs : List (Tr × V × V)) : Prop where
  at_ : H a = some (MxO w a kvs)
  sys : (a == sysModules) = false
  len : kvs.length ≤ sizeLine
  keys : ∀ p ∈ kvs, ShAt H p.2.1 p.1 ∧ jc p.1 ≤ 8
  nd : (kvs.map (·.1)).Nodup
def mxVal (kvs : List (Tr × V × V)) (t : Tr) : Option V := (kvs.find? fun p => decide (p.1 = t)).map (·.2.2)
theorem paired_at {α β : Type} {R : α → β → Prop} : ∀ {l : List α} {m : List β}, Paired R l m → l.length = m.length ∧ ∀ (i : Nat) (b : β), m[i]? = some b → ∃ a, l[i]? = some a ∧ R a b
  | _, _, .nil => ⟨rfl, fun i b h => by simp at h⟩
  | _, _, .cons (l₁ := l) (l₂ := m) r t => by
    obtain ⟨h1, h2⟩ := paired_at t
    refine ⟨congrArg (· + 1) h1, fun i b h => ?_⟩
    cases i with
    | zero => exact ⟨_, rfl, (Option.some.inj h) ▸ r⟩
    | succ i => exact h2 i b h
section
variable {X : Cx} {pins : List (Addr × Obj)} {σ : L2.St} {H : Hp} {s : Shared} {a : Addr} {kvs : List (Tr × V × V)}
theorem MxAt.obj (M : MxAt X.w H a kvs) (I : Inv X pins σ H s) : ∃ o es ep, s.heap.get? a = some o ∧ o.ExactDict ∧ o.data = .dict es ep ∧ Paired (MxE X.w) kvs es.toList ∧ Mx.Keyed X.w s.heap (kvs.map fun p => keyOf p.1) es := by
  obtain ⟨⟨o, es, ep, h1, h2, h3, h4⟩, _, _⟩ := (show ObjOk X.prog X.w H s.heap a (MxO X.w a kvs) from I.hok a _ M.at_)
  obtain ⟨k1, k2⟩ := paired_at h4
  refine ⟨o, es, ep, h1, h2, h3, h4, ?_, fun i e he => ?_, ?_⟩
  · rw [List.length_map, k1, Array.length_toList]
  · obtain ⟨p, hp, hh, hk, _⟩ := k2 i e (by rw [Array.getElem?_toList]; exact he)
    obtain ⟨z1, z2⟩ := M.keys p (List.mem_of_getElem? hp)
    exact ⟨keyOf p.1, by rw [List.getElem?_map, hp] <;> rfl, hh, (z1.key I.hok hk).1, Nat.le_trans (keyOf_depth _) z2⟩
  · have e : (kvs.map fun p => keyOf p.1) = (kvs.map (·.1)).map keyOf := by rw [List.map_map] <;> rfl
    rw [e]
    exact List.Pairwise.map keyOf (fun x y hne z => hne (keyOf_inj z)) M.nd
theorem mxVal_none {t : Tr} : keyOf t ∉ (kvs.map fun p => keyOf p.1) ↔ mxVal kvs t = none := by
  unfold mxVal
  rw [Option.map_eq_none_iff, List.find?_eq_none]
  constructor
  · intro h p hp z
    exact h (List.mem_map.mpr ⟨p, hp, by rw [of_decide_eq_true z]⟩)
  · intro h z
    obtain ⟨p, hp, e⟩ := List.mem_map.mp z
    exact h p hp (decide_eq_true (keyOf_inj e))
theorem mxVal_at {t : Tr} {j : Nat} (nd : (kvs.map (·.1)).Nodup) (h : (kvs.map fun p => keyOf p.1)[j]? = some (keyOf t)) : ∃ p, kvs[j]? = some p ∧ mxVal kvs t = some p.2.2 := by
  rw [List.getElem?_map] at h
  cases e : kvs[j]? with
  | none => rw [e] at h; cases h
  | some p =>
    rw [e] at h
    have ep : p.1 = t := keyOf_inj (Option.some.inj h)
    refine ⟨p, rfl, ?_⟩
    unfold mxVal
    cases q : kvs.find? (fun p => decide (p.1 = t)) with
    | none =>
      have := List.find?_eq_none.mp q p (List.mem_of_getElem? e)
      exact absurd (decide_eq_true ep) this
    | some p' =>
      have h1 : p'.1 = t := of_decide_eq_true (List.find?_some (p := fun p : Tr × V × V => decide (p.1 = t)) q)
      have h2 := List.mem_of_find?_eq_some q
      obtain ⟨i, hi⟩ := List.mem_iff_getElem?.mp h2
      have e1 : (kvs.map (·.1))[i]? = some t := by rw [List.getElem?_map, hi, ← h1] <;> rfl
      have e2 : (kvs.map (·.1))[j]? = some t := by rw [List.getElem?_map, e, ← ep] <;> rfl
      have ij : i = j := (List.getElem?_inj (List.getElem?_eq_some_iff.mp e1).1 nd).mp (e1.trans e2.symm)
      subst ij
      rw [e] at hi
      cases hi
      rfl
end
/-! readings -/
def tMxNotIn (w : World) (ty td : TE) : TE := fun σ H Q => ty σ H fun y H1 => td σ H1 fun x H2 => ∃ a kvs t, x = .ref a ∧ MxAt w H2 a kvs ∧ ShAt H2 y t ∧ jc t ≤ 8 ∧ Q (.bl (mxVal kvs t).isNone) H2
def tMxGet (w : World) (td ty : TE) : TE := fun σ H Q => td σ H fun x H1 => ty σ H1 fun y H2 => ∃ a kvs t v, x = .ref a ∧ MxAt w H2 a kvs ∧ ShAt H2 y t ∧ jc t ≤ 8 ∧ mxVal kvs t = some v ∧ Q v H2
def sMxPut (w : World) (td ty tv : TE) : TS := fun D σ H => tv σ H fun v H1 => td σ H1 fun x H2 => ty σ H2 fun y H3 => ∃ a kvs t, x = .ref a ∧ MxAt w H3 a kvs ∧ ShAt H3 y t ∧ jc t ≤ 8 ∧ mxVal kvs t = none ∧ kvs.length < sizeLine ∧ D.nx σ (upd H3 a (MxO w a (kvs ++ [(t, y, v)])))
def tMxNew (w : World) : TE := fun _ H Q => ∀ p, H p = none → (p == sysModules) = false → Q (.ref p) (upd H p (MxO w p []))
section
variable {X : Cx} {o i e value : Expr} {pos pos' tpos : Pos} {td ty tv : TE}
theorem pc_mxnotin (hu : X.A.units + 9 < cLine) (hi : PE X i ty) (ho : PE X o td) : PC X .NotIn i o (tMxNotIn X.w ty td) := by
  refine ⟨fun pins s σ H Q I h => ?_⟩
  refine thn (hi.run pins s σ H _ I h) fun iv s1 ⟨y, H1, I1, ry, q1⟩ => thn (ho.run pins s1 σ H1 _ I1 q1) fun u s2 ⟨x, H2, I2, rx, a, kvs, t, ex, M, sh, hj, q2⟩ => ?_
  subst ex
  obtain rfl : u = Value.ref a := rx
  obtain ⟨ob, es, ep, h1, h2, h3, h4, KE⟩ := M.obj I2
  obtain ⟨nk, ns⟩ := sh.key I2.hok ry
  refine Mx.in_mix hu nk (Nat.le_trans (keyOf_depth t) hj) ns h1 h2 h3 M.sys KE ?_
  refine ⟨.bl (mxVal kvs t).isNone, H2, I2.tok _, ?_, q2⟩
  show Value.bool _ = Value.bool _
  congr 1
  by_cases c : keyOf t ∈ kvs.map fun p => keyOf p.1
  · rw [decide_eq_true c]
    cases e : mxVal kvs t with
    | none => exact absurd c (mxVal_none.mpr e)
    | some v => rfl
  · rw [decide_eq_false c, mxVal_none.mp c] <;> rfl
theorem pe_mxget (hu : X.A.units + 9 < cLine) (ho : PE X o td) (hi : PE X i ty) (hs : NoSl i) : PE X (.Subscript o i pos) (tMxGet X.w td ty) := by
  refine ⟨fun pins s σ H Q I h => ?_⟩
  refine subD_of PySem.F.slot_dict_getitem.lookup hs (thn (ho.run pins s σ H _ I h) fun u s1 ⟨x, H1, I1, rx, q1⟩ => thn (hi.run pins s1 σ H1 _ I1 q1) fun iv s2 ⟨y, H2, I2, ry, a, kvs, t, v, ex, M, sh, hj, hv, q2⟩ => ?_)
  subst ex
  obtain rfl : u = Value.ref a := rx
  obtain ⟨ob, es, ep, h1, h2, h3, h4, KE⟩ := M.obj I2
  obtain ⟨nk, ns⟩ := sh.key I2.hok ry
  refine ⟨⟨ob, h1, h2.1⟩, Mx.item_mix hu nk (Nat.le_trans (keyOf_depth t) hj) ns h1 h2 h3 KE ?_ fun j en hj he => ?_⟩
  · refine Decidable.byContradiction fun z => ?_
    rw [mxVal_none.mp z] at hv
    cases hv
  · obtain ⟨p, hp, hpv⟩ := mxVal_at M.nd hj
    obtain ⟨p', hp', _, _, rv⟩ := (paired_at h4).2 j en (by rw [Array.getElem?_toList]; exact he)
    rw [hp] at hp'
    cases hp'
    rw [hv] at hpv
    cases hpv
    exact ⟨p.2.2, H2, I2.tok _, rv, q2⟩
theorem ps_mxput (hu : X.A.units + 9 < cLine) (ho : PE X o td) (hi : PE X i ty) (hv : PE X value tv) (hs : swapsWith value (some (.Subscript o i pos')) pos.line X.env = pure false) :
    PS X (.Assign [.Subscript o i pos'] value pos) (sMxPut X.w td ty tv) := by
  refine ⟨fun pins s σ H D I h => ?_⟩
  refine wpAny_Assign_Subscript (thn (hv.run pins s σ H _ I h) fun r s1 ⟨v, H1, I1, rv, q1⟩ => thn (ho.run pins s1 σ H1 _ I1 q1) fun u s2 ⟨x, H2, I2, rx, q2⟩ => thn (hi.run pins s2 σ H2 _ I2 q2) fun iv s3 ⟨y, H3, I3, ry, a, kvs, t, ex, M, sh, hj, hno, hl, q3⟩ => ?_) hs
  subst ex
  obtain rfl : u = Value.ref a := rx
  obtain ⟨ob, es, ep, h1, h2, h3, h4, KE⟩ := M.obj I3
  obtain ⟨nk, ns⟩ := sh.key I3.hok ry
  have hz : es.size ≤ sizeLine := by
    have ez : kvs.length = es.size := (paired_at h4).1.trans Array.length_toList
    rw [← ez]
    exact Nat.le_of_lt hl
  refine Mx.store_mix hu nk (Nat.le_trans (keyOf_depth t) hj) ns h1 h2 h3 KE hz (mxVal_none.mpr hno) fun h' o' e1 e2 e3 sb => ?_
  refine ⟨σ, upd H3 a (MxO X.w a (kvs ++ [(t, y, v)])), I3.write (x := a) (e := a) (by rw [M.at_]; exact True.intro) (.inl rfl) (fun b q hb z => (sb.2 b hb).trans z) ⟨o', e1⟩ ?_, q3⟩
  refine ⟨⟨o', _, _, e1, e2, e3, ?_⟩, ⟨o', e1⟩, fun ha hb ⟨q, es', ep', z1, z2, z3, z4⟩ st => ⟨q, es', ep', st _ z1, z2, z3, z4⟩⟩
  rw [Array.toList_push]
  exact Paired.snoc h4 ⟨rfl, ry, rv⟩
theorem pe_mxnew : PE X (.Dict [] [] pos) (tMxNew X.w) := by
  refine ⟨fun pins s σ H Q I h => wpAny_Dict_empty ?_⟩
  have hsys : (s.heap.objs.size == sysModules) = false := beq_eq_false_iff_ne.mpr (Ne.symm (Nat.ne_of_lt I.big))
  refine ⟨.ref s.heap.objs.size, upd H s.heap.objs.size (MxO X.w s.heap.objs.size []), I.laid (t' := s.toks) (fun _ _ q => Heap.get?_push_of_some _ q) (Nat.le_refl _) ?_, rfl, h _ (I.hok.fresh (Nat.le_refl _)) hsys⟩
  exact ⟨⟨_, #[], 0, Heap.get?_push_size _ rfl, ⟨rfl, rfl, rfl⟩, rfl, .nil⟩, ⟨_, Heap.get?_push_size _ rfl⟩, fun ha hb ⟨q, es', ep', z1, z2, z3, z4⟩ st => ⟨q, es', ep', st _ z1, z2, z3, z4⟩⟩
end
end Sm
/-! min(list, key=lambda ..): the keys are pairs of ints. -/
namespace Sm
open PySem PySem.Spec PyProof.Rows L2 LamX NdefX
/-- pairs by their order -/
def pLt (x y : Int × Int) : Bool := HT.lexLt [x.1, x.2] [y.1, y.2]
theorem pLt_iff (x y : Int × Int) : pLt x y = true ↔ x.1 < y.1 ∨ (x.1 = y.1 ∧ x.2 < y.2) := by
  show (if x.1 = y.1 then (if x.2 = y.2 then false else decide (x.2 < y.2)) else decide (x.1 < y.1)) = true ↔ _
  by_cases h1 : x.1 = y.1
  · rw [if_pos h1]
    by_cases h2 : x.2 = y.2
    · rw [if_pos h2]
      simp; omega
    · rw [if_neg h2]
      simp; omega
  · rw [if_neg h1]
    simp; omega
theorem pLt_false (x y : Int × Int) : pLt x y = false ↔ ¬ (x.1 < y.1 ∨ (x.1 = y.1 ∧ x.2 < y.2)) := by
  rw [← pLt_iff]
  cases pLt x y <;> simp
section
variable {X : Cx} {pins : List (Addr × Obj)} {σ : L2.St}
/-- the first of the least among the first j -/
def FirstTo (kf : Nat → Int × Int) (i j : Nat) : Prop := ∀ j', j' < j → pLt (kf j') (kf i) = false ∧ (j' < i → pLt (kf i) (kf j') = true)
theorem FirstTo.same {kf : Nat → Int × Int} {i j : Nat} (h : FirstTo kf i j) (hij : i < j) (hn : pLt (kf j) (kf i) = false) : FirstTo kf i (j + 1) := fun j' hj => by
  by_cases e : j' = j
  · subst e
    exact ⟨hn, fun z => absurd z (by omega)⟩
  · exact h j' (by omega)
theorem FirstTo.new {kf : Nat → Int × Int} {i j : Nat} (h : FirstTo kf i j) (hij : i < j) (hn : pLt (kf j) (kf i) = true) : FirstTo kf j (j + 1) := fun j' hj => by
  rw [pLt_iff] at hn
  by_cases e : j' = j
  · subst e
    refine ⟨?_, fun z => absurd z (Nat.lt_irrefl _)⟩
    rw [pLt_false]
    omega
  · have h1 := (h j' (by omega)).1
    rw [pLt_false] at h1
    refine ⟨?_, fun _ => ?_⟩
    · rw [pLt_false]; omega
    · rw [pLt_iff]; omega
/-- a key is asked -/
def KeyOk (X : Cx) (σ : L2.St) (f : Addr) (fo : Obj) (xs : List V) (kf : Nat → Int × Int) (J : Nat → Hp → Prop) : Prop :=
  ∀ (i : Nat) (x : V) (u : Value) (H : Hp) (s : Shared) (pins' : List (Addr × Obj)), xs[i]? = some x → RelV x u → J i H → Inv X pins' σ H s → (f, fo) ∈ pins' →
    wpAny (model X.prog X.w) X.A.in1 (call (.ref f) [u]) (fun v s' => ∃ H' p, Inv X pins' σ H' s' ∧ v = .ref p ∧ H' p = some (.tup [.int (kf i).1, .int (kf i).2]) ∧ J (i + 1) H' ∧ ∀ b ys, H b = some (.tup ys) → H' b = some (.tup ys)) (fun _ _ => False) s
theorem lt_pairs {H : Hp} {s : Shared} {A : Around} {E : Value → Shared → Prop} {p q : Addr} {a b : Int × Int} {Q : Value → Shared → Prop} (I : Inv X pins σ H s) (hp : H p = some (.tup [.int a.1, .int a.2])) (hq : H q = some (.tup [.int b.1, .int b.2])) (hu : A.units < cLine) (h : Q (.bool (pLt a b)) s) :
    wpAny (model X.prog X.w) A (richCompare .Lt (.ref p) (.ref q)) Q E s := by
  have e1 : SqT X.K H p ([a.1, a.2].map V.int) := SqT.of hp
  have e2 : SqT X.K H q ([b.1, b.2].map V.int) := SqT.of hq
  obtain ⟨its, r1, p1, _⟩ := I.tuple e1
  obtain ⟨its2, r2, p2, _⟩ := I.tuple e2
  exact HT.lt_tupInts p1 p2 (intsAre_of r1) (intsAre_of r2) hu h
theorem min_loop {f a Ia Sa : Addr} {fo : Obj} {xs : List V} {kf : Nat → Int × Int} {J : Nat → Hp → Prop} {A : Around} {R : Result → Shared → Prop} (hA : A = X.A) (hh : X.A.handled = none) (hu : X.A.units + 1 < cLine) (hf : (f, fo) ∈ pins) (hJ : ∀ i H, J i H → SqL X.K H a xs) (hK : KeyOk X σ f fo xs kf J)
    (haI : a ≠ Ia) (hSI : Sa ≠ Ia)
    (hR : ∀ (i : Nat) (x : V) (u : Value) (H : Hp) (s : Shared), xs[i]? = some x → RelV x u → FirstTo kf i xs.length → J xs.length H → Inv X pins σ H s → R (.ok (.ret u)) s) :
    ∀ (r j i : Nat) (H : Hp) (s : Shared) (x : V) (vb : Value) (pb c : Nat), xs.length - j = r → j ≤ xs.length → Inv X pins σ H s → J j H → FpOk X pins H Ia → FpOk X pins H Sa → s.heap.IsListIter Ia a j →
      s.heap.get? Sa = some (seqObj "list" #[vb, .ref pb] c) → xs[i]? = some x → RelV x vb → i < j → H pb = some (.tup [.int (kf i).1, .int (kf i).2]) → FirstTo kf i j →
      codeAny (model X.prog X.w) A (.builtin "min.loop" ⟨[.ref Ia, .ref f, .ref Sa], []⟩) R s := by
  subst hA
  have hname : (toString "min" ++ toString ".loop" : String) = "min.loop" := by decide
  intro r
  induction r with
  | zero =>
    intro j i H s x vb pb c hr hj I hJH fI fS hit hS hx rx hij hpb hF
    have ej : j = xs.length := by omega
    obtain ⟨its, rv, pl, hz⟩ := I.list (hJ _ H hJH)
    have hsz : its.toArray.size = xs.length := by rw [List.size_toArray]; exact rv.length.symm
    have W := Walks.list (prog := X.prog) (w := X.w) (A := X.A.in1) hh Ia a haI its.toArray
    refine codeAny_builtin PySem.F.entry_min_loop ?_
    rw [Around.under_plainId PySem.F.plain_min_loop _]
    show wpAny _ X.A.in1 (seqItems? (.ref Sa) >>= _) _ _ _
    refine wpAny_bind (wpAny_seqItems hS rfl ?_)
    show wpAny _ X.A.in1 (tryCatch (pyNext (.ref Ia)) _ >>= _) _ _ _
    refine wpAny_bind (wpAny_tryCatch (W.done _ _ _ ⟨by rw [hsz, ← ej]; exact hit, pl.isList⟩ fun h' tk' hk' => ?_))
    have I1 := I.turned (t' := tk') (h' := h') (it := Ia) (fun b o hb e => hk' b o (by simpa using hb) e) fI.1 fI.2.1 fI.2.2.2.1 fI.2.2.2.2.1 fI.2.2.2.2.2
    have hS' := hk' Sa _ (by simpa using hSI) hS
    show wpAny _ X.A.in1 (updateSeq Sa (fun _ => #[]) >>= _) _ _ _
    refine wpAny_bind ?_
    refine wpAny_updateSeq hS' rfl (wpAny_bind (wpAny_letGo (wpAny_pure ?_)))
    have sb := Heap.SameBut.update h' Sa (Obj.mapSeq fun _ => (#[] : Array Value))
    have I2 := I1.turned (t' := tk') (h' := h'.update Sa (Obj.mapSeq fun _ => (#[] : Array Value))) (it := Sa) (fun b o hb e => (sb.2 b hb).trans e) fS.1 fS.2.1 fS.2.2.2.1 fS.2.2.2.2.1 fS.2.2.2.2.2
    exact hR i x vb H _ hx rx (ej ▸ hF) (ej ▸ hJH) I2
  | succ r ih =>
    intro j i H s x vb pb c hr hj I hJH fI fS hit hS hx rx hij hpb hF
    have hlt : j < xs.length := by omega
    obtain ⟨its, rv, pl, hz⟩ := I.list (hJ _ H hJH)
    have hsz : its.toArray.size = xs.length := by rw [List.size_toArray]; exact rv.length.symm
    have W := Walks.list (prog := X.prog) (w := X.w) (A := X.A.in1) hh Ia a haI its.toArray
    refine codeAny_builtin PySem.F.entry_min_loop ?_
    rw [Around.under_plainId PySem.F.plain_min_loop _]
    show wpAny _ X.A.in1 (seqItems? (.ref Sa) >>= _) _ _ _
    refine wpAny_bind (wpAny_seqItems hS rfl ?_)
    show wpAny _ X.A.in1 (tryCatch (pyNext (.ref Ia)) _ >>= _) _ _ _
    refine wpAny_bind (wpAny_tryCatch (W.item j _ _ _ (by rw [hsz]; exact hlt) ⟨hit, pl.isList⟩ fun v h' tk' hP hst' hk' => ?_))
    have hv : its[j]? = some v := by simpa using hP
    obtain ⟨y, hy⟩ : ∃ y, xs[j]? = some y := ⟨_, List.getElem?_eq_getElem hlt⟩
    obtain ⟨v', hv', ry⟩ := rv.get hy
    rw [hv] at hv'
    cases hv'
    obtain ⟨oI, hoI, hoc, hod⟩ := id hst'.1
    have I1 := I.turned (t' := tk') (h' := h') (it := Ia) (fun b o hb e => hk' b o (by simpa using hb) e) fI.1 fI.2.1 fI.2.2.2.1 fI.2.2.2.2.1 fI.2.2.2.2.2
    have hS' := hk' Sa _ (by simpa using hSI) hS
    have I1p : Inv X (pins ++ pinsAt [Ia, Sa] h') σ H { s with heap := h', toks := tk' } := I1.pinned (fp := [Ia, Sa]) (fun b hb => by
      rcases List.mem_cons.mp hb with e | hb
      · rw [e]; exact fI
      · rw [List.mem_singleton.mp hb]; exact fS) (fun b hb => by
      rcases List.mem_cons.mp hb with e | hb
      · rw [e]; exact ⟨oI, hoI, fun v z => by rw [hod] at z; cases z⟩
      · rw [List.mem_singleton.mp hb]; exact ⟨_, hS', fun v z => by cases z⟩)
    show wpAny _ X.A.in1 (tryCatch (holding [v] (call (.ref f) [v])) _ >>= _) _ _ _
    refine wpAny_bind (wpAny_tryCatch (wpAny_holding (wpAny_mono (hK j y v H _ _ hy ry hJH I1p (List.mem_append_left _ hf)) (fun kv s2 hk2 => ?_) fun _ _ hF' => hF'.elim)))
    obtain ⟨H2, p2, I2p, rfl, hp2, hJ2, tups⟩ := hk2
    have pinI := I2p.pin (Ia, oI) (List.mem_append_right _ (List.mem_append_right _ (mem_pinsAt (by simp) hoI)))
    have pinS := I2p.pin (Sa, _) (List.mem_append_right _ (List.mem_append_right _ (mem_pinsAt (by simp) hS')))
    have I2 := I2p.unpinned
    have fI2 : FpOk X pins H2 Ia := ⟨pinI.2.1, fI.2⟩
    have fS2 : FpOk X pins H2 Sa := ⟨pinS.2.1, fS.2⟩
    have hit2 : s2.heap.IsListIter Ia a (j + 1) := ⟨oI, pinI.1, hoc, hod⟩
    have hS2 := pinS.1
    have hpb2 := tups _ _ hpb
    show wpAny _ X.A.in1 (tryCatch (holding [v, .ref p2] (richCompare .Lt (.ref p2) (.ref pb) >>= _)) _ >>= _) _ _ _
    refine wpAny_bind (wpAny_tryCatch (wpAny_holding (wpAny_bind (lt_pairs I2 hp2 hpb2 (by rw [Around.in1_units]; omega) ?_))))
    refine wpAny_bind (wpAny_holding (wpAny_truthy_bool ?_))
    refine wpAny_bind (wpAny_letGo (wpAny_pure ?_))
    cases hb : pLt (kf j) (kf i) with
    | true =>
      simp only [if_true]
      have sb := Heap.SameBut.update s2.heap Sa (Obj.mapSeq fun _ => #[v, Value.ref p2])
      obtain ⟨c2, hc2⟩ : ∃ c2, (s2.heap.update Sa (Obj.mapSeq fun _ => #[v, Value.ref p2])).get? Sa = some (seqObj "list" #[v, .ref p2] c2) := ⟨_, get?_update_seq hS2 fun _ => #[v, Value.ref p2]⟩
      refine wpAny_bind ?_
      refine wpAny_updateSeq hS2 rfl (wpAny_bind (wpAny_letGo ?_))
      rw [hname]
      have I3 := I2.turned (t' := s2.toks) (h' := s2.heap.update Sa (Obj.mapSeq fun _ => #[v, Value.ref p2])) (it := Sa) (fun b o hb e => (sb.2 b hb).trans e) fS2.1 fS2.2.1 fS2.2.2.2.1 fS2.2.2.2.2.1 fS2.2.2.2.2.2
      exact wpAny_pure ⟨plainId_quiet PySem.F.plain_min_loop _, ih (j + 1) j H2 _ y v p2 c2 (by omega) hlt I3 hJ2 fI2 fS2 ⟨oI, (sb.2 Ia hSI.symm).trans pinI.1, hoc, hod⟩ hc2 hy ry (Nat.lt_succ_self _) hp2 (hF.new hij hb)⟩
    | false =>
      simp only [Bool.false_eq_true, if_false]
      refine wpAny_bind (wpAny_letGo ?_)
      rw [hname]
      exact wpAny_pure ⟨plainId_quiet PySem.F.plain_min_loop _, ih (j + 1) i H2 _ x vb pb c (by omega) hlt I2 hJ2 fI2 fS2 hit2 hS2 hx rx (by omega) hpb2 (hF.same hij hb)⟩
theorem min_call {f a : Addr} {fo : Obj} {xs : List V} {kf : Nat → Int × Int} {J : Nat → Hp → Prop} {H : Hp} {s : Shared} {E : Value → Shared → Prop} {Q : Value → Shared → Prop} (hh : X.A.handled = none) (hu : X.A.units + 1 < cLine) (hf : (f, fo) ∈ pins) (I : Inv X pins σ H s) (hJH : J 0 H) (hJ : ∀ i H, J i H → SqL X.K H a xs) (hK : KeyOk X σ f fo xs kf J) (hne : 0 < xs.length)
    (hQ : ∀ (i : Nat) (x : V) (u : Value) (H : Hp) (s : Shared), xs[i]? = some x → RelV x u → FirstTo kf i xs.length → J xs.length H → Inv X pins σ H s → Q u s) :
    wpAny (model X.prog X.w) X.A (call (.builtin "min") [.ref a] [(Str.ofString "key", .ref f)]) Q E s := by
  have hname : (toString "min" ++ toString ".loop" : String) = "min.loop" := by decide
  obtain ⟨its, rv, pl, hz⟩ := I.list (hJ _ H hJH)
  have hls := pl.isList
  have hla : a < s.heap.objs.size := by
    obtain ⟨o, ho, _⟩ := id hls
    exact Heap.lt_size ho
  refine kmk_tree PySem.F.kind_min PySem.F.plain_min PySem.F.entry_min (kmk_min_key _ _) ?_
  show wpAny _ X.A.in1 (Builtin.Builtins.bindParams "min" ["key", "default"] 0 ⟨[], [(Str.ofString "key", .ref f)]⟩ >>= _) _ _ s
  refine wpAny_bind (wpAny_of_eq (show Builtin.Builtins.bindParams "min" ["key", "default"] 0 ⟨[], [(Str.ofString "key", .ref f)]⟩ = pure [some (.ref f), none] from rfl) ?_)
  refine wpAny_bind (wpAny_pure ?_)
  refine wpAny_bind (wpAny_pyIter_list hls ?_)
  refine wpAny_bind (wpAny_newList ?_ (Nat.zero_le _))
  rw [hname]
  generalize hIa : s.heap.objs.size = Ia at hla
  have hk1 : ∀ b o, s.heap.get? b = some o → (s.heap.push { cls := .type "list_iterator", data := .fields #[.ref a, .int 0 0] }).get? b = some o := fun b o e => Heap.get?_push_of_some _ e
  have I1 := I.kept (t' := s.toks) hk1
  generalize hh1 : s.heap.push { cls := .type "list_iterator", data := .fields #[.ref a, .int 0 0] } = h1 at hk1 I1
  have gI : h1.get? Ia = some { cls := .type "list_iterator", data := .fields #[.ref a, .int 0 0] } := by
    rw [← hh1, ← hIa]
    exact Heap.get?_push_size _ rfl
  generalize hSa : h1.objs.size = Sa
  have hk2 : ∀ b o, h1.get? b = some o → (h1.push (seqObj "list" #[] 0)).get? b = some o := fun b o e => Heap.get?_push_of_some _ e
  have I2 := I1.kept (t' := s.toks) (h' := h1.push (seqObj "list" #[] 0)) hk2
  have gS : (h1.push (seqObj "list" #[] 0)).get? Sa = some (seqObj "list" #[] 0) := by
    rw [← hSa]
    exact Heap.get?_push_size _ rfl
  have haI : a ≠ Ia := Nat.ne_of_lt hla
  have hSI : Sa ≠ Ia := by
    rw [← hSa]
    exact Nat.ne_of_gt (Heap.lt_size gI)
  have fI : FpOk X pins H Ia := I.fpOk (Nat.le_of_eq hIa) (I.hok.fresh (Nat.le_of_eq hIa))
  have fS : FpOk X pins H Sa := I1.fpOk (Nat.le_of_eq hSa) (I1.hok.fresh (Nat.le_of_eq hSa))
  have gI2 := hk2 _ _ gI
  generalize hh2 : h1.push (seqObj "list" #[] 0) = h2 at I2 gS gI2
  refine wpAny_pure ⟨plainId_quiet PySem.F.plain_min_loop _, ?_⟩
  obtain ⟨its, rv, pl, hz⟩ := I2.list (hJ _ H hJH)
  have hsz : its.toArray.size = xs.length := by rw [List.size_toArray]; exact rv.length.symm
  have W := Walks.list (prog := X.prog) (w := X.w) (A := X.A.in1) hh Ia a haI its.toArray
  refine codeAny_builtin PySem.F.entry_min_loop ?_
  rw [Around.under_plainId PySem.F.plain_min_loop _]
  show wpAny _ X.A.in1 (seqItems? (.ref Sa) >>= _) _ _ _
  refine wpAny_bind (wpAny_seqItems gS rfl ?_)
  show wpAny _ X.A.in1 (tryCatch (pyNext (.ref Ia)) _ >>= _) _ _ _
  refine wpAny_bind (wpAny_tryCatch (W.item 0 _ _ _ (by rw [hsz]; exact hne) ⟨⟨_, gI2, rfl, rfl⟩, pl.isList⟩ fun v h' tk' hP hst' hk' => ?_))
  have hv : its[0]? = some v := by simpa using hP
  obtain ⟨y, hy⟩ : ∃ y, xs[0]? = some y := ⟨_, List.getElem?_eq_getElem hne⟩
  obtain ⟨v', hv', ry⟩ := rv.get hy
  rw [hv] at hv'
  cases hv'
  obtain ⟨oI, hoI, hoc, hod⟩ := id hst'.1
  have I3 := I2.turned (t' := tk') (h' := h') (it := Ia) (fun b o hb e => hk' b o (by simpa using hb) e) fI.1 fI.2.1 fI.2.2.2.1 fI.2.2.2.2.1 fI.2.2.2.2.2
  have hS' := hk' Sa _ (by simpa using hSI) gS
  have I3p : Inv X (pins ++ pinsAt [Ia, Sa] h') σ H { s with heap := h', toks := tk' } := I3.pinned (fp := [Ia, Sa]) (fun b hb => by
    rcases List.mem_cons.mp hb with e | hb
    · rw [e]; exact fI
    · rw [List.mem_singleton.mp hb]; exact fS) (fun b hb => by
    rcases List.mem_cons.mp hb with e | hb
    · rw [e]; exact ⟨oI, hoI, fun v z => by rw [hod] at z; cases z⟩
    · rw [List.mem_singleton.mp hb]; exact ⟨_, hS', fun v z => by cases z⟩)
  show wpAny _ X.A.in1 (tryCatch (holding [v] (call (.ref f) [v])) _ >>= _) _ _ _
  refine wpAny_bind (wpAny_tryCatch (wpAny_holding (wpAny_mono (hK 0 y v H _ _ hy ry hJH I3p (List.mem_append_left _ hf)) (fun kv s2 hk2 => ?_) fun _ _ hF' => hF'.elim)))
  obtain ⟨H2, p2, I4p, rfl, hp2, hJ2, tups⟩ := hk2
  have pinI := I4p.pin (Ia, oI) (List.mem_append_right _ (List.mem_append_right _ (mem_pinsAt (by simp) hoI)))
  have pinS := I4p.pin (Sa, _) (List.mem_append_right _ (List.mem_append_right _ (mem_pinsAt (by simp) hS')))
  have I4 := I4p.unpinned
  have sb := Heap.SameBut.update s2.heap Sa (Obj.mapSeq fun _ => #[v, Value.ref p2])
  obtain ⟨c2, hc2⟩ : ∃ c2, (s2.heap.update Sa (Obj.mapSeq fun _ => #[v, Value.ref p2])).get? Sa = some (seqObj "list" #[v, .ref p2] c2) := ⟨_, get?_update_seq pinS.1 fun _ => #[v, Value.ref p2]⟩
  show wpAny _ X.A.in1 (updateSeq Sa (fun _ => #[v, Value.ref p2]) >>= _) _ _ _
  refine wpAny_bind ?_
  refine wpAny_updateSeq pinS.1 rfl ?_
  rw [hname]
  have I5 := I4.turned (t' := s2.toks) (h' := s2.heap.update Sa (Obj.mapSeq fun _ => #[v, Value.ref p2])) (it := Sa) (fun b o hb e => (sb.2 b hb).trans e) pinS.2.1 fS.2.1 fS.2.2.2.1 fS.2.2.2.2.1 fS.2.2.2.2.2
  refine wpAny_pure ⟨plainId_quiet PySem.F.plain_min_loop _, min_loop rfl hh hu hf hJ hK haI hSI hQ _ 1 0 H2 _ y v p2 c2 rfl hne I5 hJ2 ⟨pinI.2.1, fI.2⟩ ⟨pinS.2.1, fS.2⟩ ⟨oI, (sb.2 Ia hSI.symm).trans pinI.1, hoc, hod⟩ hc2 hy ry Nat.one_pos hp2 fun j' hj => ?_⟩
  have e : j' = 0 := by omega
  subst e
  refine ⟨?_, fun z => absurd z (Nat.lt_irrefl _)⟩
  rw [pLt_false]
  omega
end
end Sm
/-! A lambda of one parameter as min's key. -/
namespace Sm
open PySem PySem.Spec PyProof.Rows L2 LamX NdefX
/-- the lambda's words, its cells, its code object -/
abbrev lamF (q : Str) (params : Arguments) (scope : Scope) (cl : List (Str × Addr)) (c' : Addr) : NF := ⟨"<lambda>", q, params, [], scope, cl, c'⟩
section
variable {X : Cx} {pins : List (Addr × Obj)} {σ : L2.St} {H : Hp} {s : Shared}
theorem lam_call {k : Nat} {f c' : Addr} {q x : Str} {params : Arguments} {body : Expr} {scope : Scope} {cl : List (Str × Addr)} {pm ctv u : Value} {v : V} {N fr : List Str} {js : List Nat} {tb : TE} {Q : VK} (I : Inv X pins σ H s)
    (hf : s.heap.get? f = some (PySem.W.kla_obj "<lambda>" q params body scope cl pm c' ctv)) (hco : H c' = some (CodeO c' q)) (S : NScope N [x] fr scope) (C : Caps X cl fr js)
    (hbind : ∀ u : Value, bindArgs (PySem.W.kla_fn "<lambda>" q params body scope cl pm (.ref c') ctv) ⟨[u], []⟩ = pure [(x, u)]) (hr : Room (k + 2) X.A) (rv : RelV v u)
    (hbody : ∀ (A : Around) (outer : List Env) (s : Shared) (H : Hp), Room k (A.deeper (envF (lamF q params scope cl c') f s.heap.objs.size)) → PE (ncx CX0 X.prog X.w X.K X.mg X.base N (lamF q params scope cl c') f A outer s H E0) body tb)
    (h : tb (startF N [v] (js.map (slotAt σ))) H Q) :
    codeAny (model X.prog X.w) X.A.in1 (.call (.ref f) ⟨[u], []⟩) (CR CX0 X.stack X.prog X.w H s Q E0) s := by
  have hr1 : Room (k + 1) X.A.in1 := hr.in1
  have e0 := I.env0.in1
  have CA := cells_of I C
  obtain ⟨⟨oc, vs, t, hoc, hdc, hvc⟩, _, _⟩ := I.hok c' _ hco
  refine PySem.W.kla_callFunE hr1.depth hf rfl S.co S.gen rfl ⟨c', oc, vs, t, rfl, hoc, hdc, hvc⟩ ?_
  rw [hbind u]
  have lim : s.heap.NoLimit := e0.mod.nolimit.keeps fun b o e => (e0.bs b o e).1
  refine wpAny_pure (wpAny_newFunctionEnv S.nocell (fun y hy => by rw [List.mem_singleton.mp hy]; exact S.par x (List.mem_singleton.mpr rfl)) (fun h₁ hns hsb => ⟨lim.fresh _ hsb, ?_⟩) S.kind)
  show codeAny _ _ (.expr body (envF (lamF q params scope cl c') f s.heap.objs.size)) _ _
  have kp : ∀ b o, s.heap.get? b = some o → h₁.get? b = some o := fun b o e => hsb.extBut b o (Nat.ne_of_lt (Heap.lt_size e)) (Heap.get?_push_of_some _ e)
  have J : Inv (ncx CX0 X.prog X.w X.K X.mg X.base N (lamF q params scope cl c') f X.A.in1 X.stack s H E0) [] (startF N [v] (js.map (slotAt σ))) H { s with heap := h₁, toks := s.toks + ([(x, u)] : List (Str × Value)).length } :=
    inv_startN (us := [u]) S hr1.hd e0 rfl (.cons rv .nil) CA hns kp
  refine PySem.W.kla_codeExpr (wpAny_mono ((hbody X.A.in1 X.stack s H (hr1.deeper _)).run [] _ _ H Q J h) (fun w' s' hq => ?_) fun e s' hq => hq)
  obtain ⟨v', H', J', rv', q'⟩ := hq
  exact ⟨v', H', J'.os, J'.bare, J'.base, J'.hok, rv', q'⟩
theorem key_ok {k : Nat} {f c' : Addr} {q x : Str} {params : Arguments} {body : Expr} {scope : Scope} {cl : List (Str × Addr)} {pm ctv : Value} {N fr : List Str} {js : List Nat} {tb : TE} {xs : List V} {kf : Nat → Int × Int} {Jv : Nat → Hp → Prop}
    (S : NScope N [x] fr scope) (C : Caps X cl fr js) (hbind : ∀ u : Value, bindArgs (PySem.W.kla_fn "<lambda>" q params body scope cl pm (.ref c') ctv) ⟨[u], []⟩ = pure [(x, u)]) (hr : Room (k + 2) X.A)
    (hbody : ∀ (A : Around) (outer : List Env) (s : Shared) (H : Hp), Room k (A.deeper (envF (lamF q params scope cl c') f s.heap.objs.size)) → PE (ncx CX0 X.prog X.w X.K X.mg X.base N (lamF q params scope cl c') f A outer s H E0) body tb)
    (hc : ∀ i H, Jv i H → H c' = some (CodeO c' q))
    (ht : ∀ (i : Nat) (y : V) (H : Hp), xs[i]? = some y → Jv i H → tb (startF N [y] (js.map (slotAt σ))) H fun v H' => ∃ p, v = .ref p ∧ H' p = some (.tup [.int (kf i).1, .int (kf i).2]) ∧ Jv (i + 1) H') :
    KeyOk X σ f (PySem.W.kla_obj "<lambda>" q params body scope cl pm c' ctv) xs kf Jv := by
  intro i y u H s pins' hy ry hJ I hm
  have hf := (I.pin _ (List.mem_append_right _ hm)).1
  have rc := lam_call I hf (hc i H hJ) S C hbind hr ry hbody (ht i y H hy hJ)
  refine wpAny_call (codeAny_mono rc fun r s' hq => ?_)
  cases r with
  | error e => exact (show False from hq).elim
  | ok fl =>
    cases fl with
    | next => exact False.elim hq
    | brk => exact False.elim hq
    | cont => exact False.elim hq
    | ret w' =>
      obtain ⟨v, H', os, bare, un, hok, r', p, ev, hp, hJ'⟩ := hq
      subst ev
      obtain rfl : w' = Value.ref p := r'
      exact ⟨H', p, I.call' os un hok bare fun b z => absurd z (by simp), rfl, hp, hJ', un.tups⟩
end
/-- min(e, key=lambda ..) -/
def tMinLam (K : PySem.W.Frag) (T : List (Addr × Str)) (q : Str) (N : List Str) (js : List Nat) (tb : TE) (ta : TA) : TE := fun σ H Q => ta σ H fun vs H1 => ∃ a, vs = [V.ref a] ∧ Tabs T H1 ∧ ∀ (c' : Addr) (H2 : Hp), ExtN H1 H2 → Tabs T H2 → H2 c' = some (CodeO c' q) → (∀ (b c : Addr) (r : Str) (w : World) (kvs : List (Tr × V × V)), H2 b = some (MxO w b kvs) → H2 c = some (CodeO c r) → b ≠ c) →
  ∃ (xs : List V) (kf : Nat → Int × Int) (Jv : Nat → Hp → Prop), Jv 0 H2 ∧ (∀ i H, Jv i H → SqL K H a xs ∧ H c' = some (CodeO c' q)) ∧ 0 < xs.length ∧
    (∀ (i : Nat) (y : V) (H : Hp), xs[i]? = some y → Jv i H → tb (startF N [y] (js.map (slotAt σ))) H fun v H' => ∃ p, v = .ref p ∧ H' p = some (.tup [.int (kf i).1, .int (kf i).2]) ∧ Jv (i + 1) H') ∧
    ∀ (i : Nat) (y : V) (H : Hp), xs[i]? = some y → FirstTo kf i xs.length → Jv xs.length H → Q y H
theorem pe_minLam {X : Cx} {T : List (Addr × Str)} {k : Nat} {c P : Addr} {x : Str} {params : Arguments} {body : Expr} {scope : Scope} {N fr : List Str} {js : List Nat} {tb : TE} {ta : TA} {e : Expr} {p lpos kpos pos : Pos} (hg : Gl X "min") (hm : X.mg "min" = none)
    (ha : PA X [e] ta) (TB : TabB X.base X.mg c P) (hcode : X.env.code = .ref c) (hmT : (P, X.env.qual ++ "<lambda>") ∈ T) (hu : ∀ p ∈ T, p.1 = P → p.2 = X.env.qual ++ "<lambda>") (hdef : defaultsOf params X.env = ([], []))
    (hfree : ∀ y ∈ scope.names, y.2 = .free → X.env.scope.names.lookup y.1 = some .cell ∨ X.env.scope.names.lookup y.1 = some .free) (hfr : ∀ y ∈ fr, (y, NameKind.free) ∈ scope.names) (hjs : js.map (fun j => X.N[j]?) = fr.map some)
    (S : NScope N [x] fr scope) (hbind : ∀ (q : Str) (cl : List (Str × Addr)) (pm cv ctv u : Value), bindArgs (PySem.W.kla_fn "<lambda>" q params body scope cl pm cv ctv) ⟨[u], []⟩ = pure [(x, u)]) (hr : Room (k + 2) X.A) (hfs : ∀ b, b ∉ frs X.stack → b ≠ X.env.locals ∧ b ∉ X.fs)
    (hbody : ∀ (f c' : Addr) (A : Around) (outer : List Env) (s : Shared) (H : Hp), Room k (A.deeper (envF (lamF (X.env.qual ++ "<lambda>") params scope (cloFrom X.env.cells scope.names []) c') f s.heap.objs.size)) →
      PE (ncx CX0 X.prog X.w X.K X.mg X.base N (lamF (X.env.qual ++ "<lambda>") params scope (cloFrom X.env.cells scope.names []) c') f A outer s H E0) body tb)
    (he : backTo pos (starEach [e] X.env) = (false, eval e X.env) :: backTo pos (starEach [] X.env) := by rfl) (hpl : (backTo pos (starEach [e] X.env)).any (·.1) = false := by rfl) :
    PE X (.Call (.Name "min" p) [e] [⟨some "key", .Lambda params body scope lpos, kpos⟩] pos) (tMinLam X.K T (X.env.qual ++ "<lambda>") N js tb ta) := by
  refine ⟨fun pins s σ H Q I h => ?_⟩
  have hfr2 : ∀ y ∈ scope.names, y.2 = .free → ∃ c, X.env.cells.lookup y.1 = some c := fun y hy e => (hfree y hy e).elim (fun z => I.ok.has _ (.inl z)) fun z => I.ok.has _ (.inr z)
  refine wpAny_Call_Name_kw (ld_blt (u := .builtin "min") I hg hm (by decide +kernel) ?_ (by decide) (by decide))
  refine PyProof.Rows.callWith_kw (thn (ha.run pos pins s σ H _ I h) fun us s1 ⟨vs, H1, I1, r1, a, ev, hT, q1⟩ => ?_) he hpl (by rfl) (by rfl)
  subst ev
  obtain rfl := Vals.ref1 r1
  show wpAny _ _ (evalAll ((do let v ← eval (.Lambda params body scope lpos) X.env; standAt pos; pure v) :: [])) _ _ s1
  refine wpAny_evalAll_cons (wpAny_bind (lam_make2 I1 TB hcode hmT hu hT hdef hfr2 fun f c' pm ctv H2 s2 I2 eN T2 hf hfn hfr' hco => wpAny_bind (wpAny_standAt (wpAny_pure (wpAny_evalAll_nil ?_)))))
  have apart' : ∀ (b c : Addr) (r : Str) (w : World) (kvs : List (Tr × V × V)), H2 b = some (MxO w b kvs) → H2 c = some (CodeO c r) → b ≠ c := fun b c r w kvs e1 e2 z => by
    subst z
    obtain ⟨⟨o, es, ep, h1, _, h3, _⟩, _⟩ := (show ObjOk X.prog X.w H2 s2.heap b (MxO w b kvs) from I2.hok b _ e1)
    obtain ⟨⟨oc, us, t, k1, k2, _⟩, _⟩ := (show ObjOk X.prog X.w H2 s2.heap b (CodeO b r) from I2.hok b _ e2)
    rw [h1] at k1
    cases k1
    rw [h3] at k2
    cases k2
  obtain ⟨xs, kf, Jv, hJ2, hJ, hne, hkey, hend⟩ := q1 c' H2 eN T2 hco apart'
  have C := Caps.made (X := X) (fr := fr) (js := js) I2.ok hfree hfr hjs
  have I3 : Inv X (pins ++ [(f, PySem.W.kla_obj "<lambda>" (X.env.qual ++ "<lambda>") params body scope (cloFrom X.env.cells scope.names []) pm c' ctv)]) σ H2 s2 := I2.pins_of fun p hp => by
    rcases List.mem_append.mp hp with z | z
    · exact I2.pin p (List.mem_append_right _ z)
    · rw [List.mem_singleton.mp z]
      exact ⟨hf, hfn, (hfs f hfr').1, (hfs f hfr').2, fun v z => by cases z⟩
  show wpAny _ _ (call (.builtin "min") [.ref a] [(Str.ofString "key", .ref f)]) _ _ s2
  refine min_call hr.hd (by have := hr.un; omega) (List.mem_append_right _ (List.mem_singleton.mpr rfl)) I3 hJ2 (fun i H z => (hJ i H z).1) (key_ok S C (hbind _ _ _ _ _) hr (fun A outer s H hr' => hbody f c' A outer s H hr') (fun i H z => (hJ i H z).2) hkey) hne fun i y u H s' hy ry hF hJH I' => ?_
  exact ⟨y, H, I'.unpinned, ry, hend i y H hy hF hJH⟩
end Sm
/-! The end of a Spec row whose defs make lambdas: tables of code objects stand in the heap. -/
namespace Sm
open PySem PySem.Spec PyProof.Rows L2 LamX
open PySem.W (WData Codec OpenSpec Well WellAll ReadsW ReadsAllW)
/-- nothing is tracked but what is known to the object, and the tables -/
def OnlyT (Ps : List Addr) (H : Hp) : Prop := ∀ b, H b = none ∨ b ∈ Ps ∨ ∃ o u, H b = some (.frz o u)
theorem same_tup {K : PySem.W.Frag} {H H' : Hp} {a : Addr} {xs : List V} (s : Same H H') (h : SqT K H a xs) : SqT K H' a xs := by
  rcases h with (h | ⟨o, h⟩) | h
  · exact .inl (.inl (s _ _ h))
  · exact .inl (.inr ⟨o, s _ _ h⟩)
  · exact .inr h
mutual
theorem dw_mono {K : PySem.W.Frag} {H H' : Hp} (s : Same H H') : ∀ (d : WData) (v : V), Dw K H v d → Dw K H' v d
  | .none, _, x => by cases x; exact .non
  | .bool b, _, x => by cases x; exact .bl b
  | .int i, _, x => by cases x; exact .int i
  | .str z, _, x => by cases x; exact .str z
  | .bytes b, _, x => by cases x; exact .byt _
  | .list ds, _, x => by
    cases x with
    | lst h1 h2 => exact .lst (s.seq h1) (dw_monoAll s ds _ h2)
  | .tuple ds, _, x => by
    cases x with
    | tup h1 h2 => exact .tup (same_tup s h1) (dw_monoAll s ds _ h2)
  | .float _, _, x => by cases x
  | .dict _, _, x => by cases x
  | .bytearray _, _, x => by cases x
  | .set _, _, x => by cases x
  | .frozenset _, _, x => by cases x
  | .obj _ _, _, x => by cases x
theorem dw_monoAll {K : PySem.W.Frag} {H H' : Hp} (s : Same H H') : ∀ (ds : List WData) (vs : List V), DwAll K H vs ds → DwAll K H' vs ds
  | [], _, x => by cases x; exact .nil
  | d :: ds, _, x => by
    cases x with
    | cons h1 h2 => exact .cons (dw_mono s d _ h1) (dw_monoAll s ds _ h2)
end
/-- the arguments and the tables -/
def argT (K : PySem.W.Frag) (h : Heap) (A Ps : List Addr) : Hp := fun b => if b ∈ Ps then some (.tbl #[]) else argH K h A b
theorem spec_callT {P : Program} {w : World} {K : PySem.W.Frag} {mg mb : Str → Option Value} {CX : CXT} {k : Nat} {fa : Addr} {cs : List (Addr × Addr)} {fd : FuncData} {ps : List Str} {sp : Sp} {s₁ : Shared} {vals : List Value} {ds : List WData} {R : PySem.W.WRecords} {cl : Str → Option Addr} {d0 : WData}
    (KX : K.In s₁.heap) (hns : s₁.heap.Ns mainGlobals mg) (hb : s₁.heap.Ns builtinsNs mb) (hbb : ∀ x : Str, x ≠ "__name__" → mb x = bootBuiltins x) (hlim : s₁.heap.NoLimit) (hg : s₁.gens = #[])
    (hT : ∀ p ∈ cs, s₁.heap.get? p.2 = some { cls := .none, data := .fields #[] }) (nT : ∀ p ∈ cs, K.lookup p.2 = none) (C : ∀ p ∈ cs, PySem.W.CodeHd s₁.heap p.1 p.2)
    (hbm : ∃ (bm : Addr) (ob : Obj), mg "__builtins__" = some (.ref bm) ∧ bm ≠ builtinsNs ∧ s₁.heap.get? bm = some ob ∧ ob.cls = .type "module" ∧ ob.dict = some builtinsNs ∧ ob.data = .plain)
    (hwl : WellAll w.params s₁.heap vals ds) (hpl : plWs ds = true) (hwt : ∀ d ∈ ds, d.weight ≤ 1048576) (hr : Room k callerA)
    (F : ∀ base : Heap, K.In base → base.Ns mainGlobals mg → (∀ p ∈ cs, TabB base mg p.1 p.2) → FnOk P w K mg base CX k fa fd ps sp) (hbind : ∀ (s : Shared) (us : List Value), us.length = ps.length → BindsTo s fd ⟨us, []⟩ (ps.zip us)) (hlen : ds.length = ps.length)
    (hsp : ∀ (H : Hp) (xs : List V), (∀ p ∈ cs, H p.2 = some (.tbl #[])) → DwAll K H xs ds → sp xs H (fun v H' => Dw K H' v d0) fun _ _ _ => False)
    (hCX : ∀ H e s', CX [] H s₁ (fun _ _ _ => False) e s' → False) :
    codeAny (model P w) callerA (.call (.ref fa) ⟨vals, []⟩) (fun r s' => ∃ u as, r = .ok (.ret u) ∧ ReadsW R cl s'.heap u d0 as ∧ OldK s₁.heap s'.heap ∧ s'.os = s₁.os ∧ AllBare s'.gens) s₁ := by
  obtain ⟨A, ho, ar⟩ := area_all ds vals hwl hpl hwt
  have isT : ∀ b : Addr, b ∈ cs.map (·.2) → s₁.heap.get? b = some { cls := .none, data := .fields #[] } := fun b hb => by
    obtain ⟨p, hp, e⟩ := List.mem_map.mp hb
    rw [← e]
    exact hT p hp
  have memT : ∀ p ∈ cs, p.2 ∈ cs.map (·.2) := fun p hp => List.mem_map.mpr ⟨p, hp, rfl⟩
  have notT : ∀ b u, argH K s₁.heap A b = some u → b ∉ cs.map (·.2) := fun b u e z => by
    obtain ⟨_, vs, _, _, ⟨e2, _⟩ | ⟨e2, _⟩⟩ := argH_is ar e
    · rw [isT b z] at e2
      exact absurd (congrArg Obj.data (Option.some.inj e2)) (fun q => by cases q)
    · rw [isT b z] at e2
      exact absurd (congrArg Obj.data (Option.some.inj e2)) (fun q => by cases q)
  have same : Same (argH K s₁.heap A) (argT K s₁.heap A (cs.map (·.2))) := fun b u e => (if_neg (notT b u e)).trans e
  have cases' : ∀ b u, argT K s₁.heap A (cs.map (·.2)) b = some u → (b ∈ cs.map (·.2) ∧ u = .tbl #[]) ∨ argH K s₁.heap A b = some u := fun b u e => by
    by_cases hb : b ∈ cs.map (·.2)
    · have z := (if_pos hb).symm.trans e
      cases z
      exact .inl ⟨hb, rfl⟩
    · exact .inr ((if_neg hb).symm.trans e)
  have hok : HOk P w (argT K s₁.heap A (cs.map (·.2))) s₁.heap := fun b u e => by
    rcases cases' b u e with ⟨hb, rfl⟩ | e'
    · exact isT b hb
    · exact (argH_ok (P := P) (w := w) (K := K) ar b u e').stay (fun _ _ _ q => q) (fun c q => same _ _ q) fun c xs q => same _ _ q
  have hO : OnlyT (cs.map (·.2)) (argT K s₁.heap A (cs.map (·.2))) := fun b => by
    cases e : argT K s₁.heap A (cs.map (·.2)) b with
    | none => exact .inl rfl
    | some u =>
      rcases cases' b u e with ⟨hb, _⟩ | e'
      · exact .inr (.inl hb)
      · rcases argH_only (K := K) ar b with z | ⟨o, v, z⟩
        · rw [e'] at z; cases z
        · rw [e'] at z; cases z; exact .inr (.inr ⟨o, v, rfl⟩)
  have hH : ∀ p ∈ cs, argT K s₁.heap A (cs.map (·.2)) p.2 = some (.tbl #[]) := fun p hp => if_pos (memT p hp)
  have hS := dw_monoAll same ds _ (dw_all KX ar ds vals hwl hpl ho)
  have hV := vals_toV ho
  have hK : ∀ b u, argT K s₁.heap A (cs.map (·.2)) b = some u → K.lookup b = none := fun b u e => by
    rcases cases' b u e with ⟨hb, _⟩ | e'
    · obtain ⟨p, hp, ep⟩ := List.mem_map.mp hb
      rw [← ep]
      exact nT p hp
    · exact (argH_is ar e').1
  have noD : ∀ {b : Addr} {o : Obj}, s₁.heap.get? b = some o → (∀ vs n, o.data ≠ .seq vs n) → o.data ≠ .fields #[] → argT K s₁.heap A (cs.map (·.2)) b = none := fun {b o} e h1 h2 => by
    cases q : argT K s₁.heap A (cs.map (·.2)) b with
    | none => rfl
    | some u =>
      rcases cases' b u q with ⟨hb, _⟩ | e'
      · rw [isT b hb] at e
        cases e
        exact (h2 rfl).elim
      · obtain ⟨_, vs, _, _, ⟨e2, _⟩ | ⟨e2, _⟩⟩ := argH_is ar e'
        · rw [e2] at e; cases e; exact (h1 _ _ rfl).elim
        · rw [e2] at e; cases e; exact (h1 _ _ rfl).elim
  generalize argT K s₁.heap A (cs.map (·.2)) = H at hok hO hH hS hK noD
  have noA : ∀ {b : Addr} {o : Obj} {es : Array DictEntry} {ep : Nat}, s₁.heap.get? b = some o → o.data = .dict es ep → H b = none := fun {b o es ep} e d =>
    noD e (fun vs n z => by rw [d] at z; cases z) fun z => by rw [d] at z; cases z
  have base_of : ∀ {b : Addr} {o : Obj}, s₁.heap.get? b = some o → H b = none → (hidT s₁.heap H).get? b = some o := fun e n => hidT_get e n
  have nsK : ∀ {b : Addr} {m : Str → Option Value}, s₁.heap.Ns b m → (hidT s₁.heap H).Ns b m := fun {b m} ⟨o, es, ep, e, d, r⟩ => ⟨o, es, ep, base_of e (noA e d), d, r⟩
  have hKb : K.In (hidT s₁.heap H) := fun b o e => base_of (KX b o e) (by
    cases q : H b with
    | none => rfl
    | some u => rw [hK b u q] at e; cases e)
  have hM : L2.Mod K mg (hidT s₁.heap H) := ⟨hKb, nsK hns, ⟨mb, nsK hb, hbb⟩, let ⟨mc, h1, h2⟩ := hlim; ⟨mc, nsK h1, h2⟩⟩
  have TB : ∀ p ∈ cs, TabB (hidT s₁.heap H) mg p.1 p.2 := fun p hp => by
    have hTp := hT p hp
    refine ⟨?_, ?_, fun z => ?_⟩
    · obtain ⟨o, us, file, tf, flags, tg, inF, text, tt, e1, r1, r2, r3, r4, r5, r6, r7, r8, hne⟩ := C p hp
      refine ⟨o, us, file, tf, flags, tg, inF, text, tt, base_of e1 (noD e1 (fun vs n z => by rw [r2] at z; cases z) fun z => ?_), r1, r2, r3, r4, r5, r6, r7, r8, hne⟩
      rw [r2] at z
      cases z
      simp at r3
    · obtain ⟨bm, ob, b1, b2, b3, b4, b5, b6⟩ := hbm
      have nG : bm ≠ mainGlobals := fun q => by
        obtain ⟨o, es, ep, e, hd, _⟩ := hns
        rw [q, e] at b3
        cases b3
        rw [hd] at b6
        cases b6
      have nP : bm ≠ p.2 := fun q => by
        rw [q, hTp] at b3
        cases b3
        cases b6
      exact ⟨bm, ob, b1, b2, nG, nP, base_of b3 (noD b3 (fun vs n z => by rw [b6] at z; cases z) fun z => by rw [b6] at z; cases z), b4, b5, b6⟩
    · obtain ⟨o, es, ep, e, hd, _⟩ := hns
      rw [z, hTp] at e
      cases e
      cases hd
  have e0 : Env0 P w K mg (hidT s₁.heap H) callerA [] s₁ H := ⟨rfl, hM, fun b o e => of_hidT e, Nat.le_of_eq (hidT_size _ _), trivial, fun b hb => absurd (show b ∈ ([] : List Addr) from hb) (by simp), hok, .of_eq hg⟩
  have hl : vals.length = ps.length := by rw [wellAll_len hwl]; exact hlen
  refine codeAny_mono ((F _ hKb (nsK hns) TB).run callerA [] s₁ H ⟨vals, []⟩ vals (vals.map toV) _ _ hr e0 (hbind s₁ vals hl) hV (hsp H _ hH hS)) fun r s' x => ?_
  cases r with
  | error e => exact (hCX H e s' x).elim
  | ok fl =>
    cases fl with
    | next => exact False.elim x
    | brk => exact False.elim x
    | cont => exact False.elim x
    | ret u =>
      obtain ⟨v, H', os, bare, un, hok', r', q⟩ := x
      have key : ∀ b o, b ∉ cs.map (·.2) → s₁.heap.get? b = some o → s'.heap.get? b = some o := fun b o nb e => by
        rcases hO b with z | z | ⟨ob, u3, z⟩
        · exact un.keep b o e z (by intro z; exact absurd (show b ∈ ([] : List Addr) from z) (by simp)) (by simp)
        · exact absurd z nb
        · have z2 := un.frzs b ob _ z
          obtain ⟨e1, _⟩ := hok b _ z
          obtain ⟨e2, _⟩ := hok' b _ z2
          rw [e] at e1
          cases e1
          exact e2
      have KX' : K.In s'.heap := fun b o e => key b o (fun z => by
        obtain ⟨p, hp, ep⟩ := List.mem_map.mp z
        rw [← ep, nT p hp] at e
        cases e) (KX b o e)
      obtain ⟨as, hrd⟩ := Dw.reads (R := R) (cl := cl) hok' KX' d0 v u q r'
      have grown : ∀ p ∈ cs, ∃ more : Array Value, s'.heap.get? p.2 = some { cls := .none, data := .fields more } := fun p hp => by
        obtain ⟨more, z⟩ := un.tbls p.2 #[] (hH p hp)
        exact ⟨_, hok' p.2 _ z⟩
      refine ⟨u, as, rfl, hrd, ⟨fun b o e => ?_, fun b o e => ?_⟩, os, bare⟩
      · by_cases hb : b ∈ cs.map (·.2)
        · obtain ⟨p, hp, ep⟩ := List.mem_map.mp hb
          obtain ⟨more, hm⟩ := grown p hp
          rw [← ep] at e ⊢
          rw [hT p hp] at e
          cases e
          exact .inr (.inl ⟨((C p hp).tab (hT p hp)).isCodeTable, rfl, #[], more, rfl, by rw [Array.empty_append]; exact hm⟩)
        · exact .inl (key b o hb e)
      · by_cases hb : b ∈ cs.map (·.2)
        · obtain ⟨p, hp, ep⟩ := List.mem_map.mp hb
          obtain ⟨more, hm⟩ := grown p hp
          rw [← ep]
          exact ⟨_, hm⟩
        · exact ⟨o, key b o hb e⟩
/-- what is known of the def's promise at the head's heap h -/
def SpecAt (r : OpenSpec) (w : World) (K : PySem.W.Frag) (CX : CXT) (k : Nat) (ps : List Str) (mg : Str → Option Value) (fa : Addr) (h : Heap) : Prop :=
  ∃ (fd : FuncData) (cs : List (Addr × Addr)) (sp : Sp), (∀ p ∈ cs, h.get? p.2 = some { cls := .none, data := .fields #[] }) ∧ (∀ p ∈ cs, K.lookup p.2 = none) ∧ (∀ p ∈ cs, PySem.W.CodeHd h p.1 p.2) ∧
    (∀ (s : Shared) (us : List Value), us.length = ps.length → BindsTo s fd ⟨us, []⟩ (ps.zip us)) ∧
    (∀ (H : Hp) (xs : List V) (a : Codec.denoteAll r.args), (∀ p ∈ cs, H p.2 = some (.tbl #[])) → Codec.withinAll r.args a = true → Codec.app r.args r.asked a = true → DwAll K H xs (Codec.encAll r.args a) →
      sp xs H (fun v H' => Dw K H' v (r.ret.enc (Codec.app r.args r.f a))) fun _ _ _ => False) ∧
    ∀ base : Heap, K.In base → base.Ns mainGlobals mg → (∀ p ∈ cs, TabB base mg p.1 p.2) → FnOk r.prog w K mg base CX k fa fd ps sp
theorem walk_specT {r : OpenSpec} {k : Nat} {q : Program} {loose : List Str} {XP : (Str → Option Value) → Heap → Prop} {YP : World → Heap → Prop} {d : DefRec} {K : Params → PySem.W.Frag} {CX : CXT} {ps : List Str}
    (hwell : r.wellSaid = true) (hlen : r.args.length = ps.length) (hr : Room k callerA) (hY : ∀ (w : World) (h : Heap), YP w h → (K w.params).In h)
    (F : ∀ (w : World) (mg mb : Str → Option Value) (mean : ExcName → Option Value) (fa : Addr) (h : Heap), Top q (PySem.W.looseW q loose) mean mg mb h → YP w h → (K w.params).In h → h.Ns mainGlobals mg → mg d.name = some (.ref fa) → SpecAt r w (K w.params) CX k ps mg fa h)
    (hCX : ∀ (H : Hp) (s : Shared) (e : Value) (s' : Shared), CX [] H s (fun _ _ _ => False) e s' → False) :
    PySem.W.WalkOS q loose XP YP r d [] (fun f vs => PySem.call f vs) := by
  intro w s₀ s₁ mg mb G Y fa o pm cd doc dV kV ho hd hcd hD hmg hg args vals as hpre hlay hrd hwl hlo
  obtain ⟨a, e1, e2⟩ := PySem.W.os_pre_some hpre
  obtain ⟨e3, hwi⟩ := Codec.encAll_of_decAll r.args args a e1
  subst e3
  have KX := hY w _ Y
  obtain ⟨fd, cs, sp, hT, nT, C, hb, hsp, hF⟩ := F w mg mb _ fa _ G.T Y KX G.T.g hmg
  refine PySem.W.enter_call (codeAny_mono (spec_callT (R := []) (cl := classAt s₀.heap) (d0 := r.ret.enc (Codec.app r.args r.f a)) KX G.T.g G.T.b G.T.builtins G.T.nolimit hg hT nT C G.T.bmain hwl (pl_encAll _ _) (layable_weight hlay) hr hF hb (by rw [encAll_len]; exact hlen)
    (fun H xs hH hS => hsp H xs a hH hwi e2 hS) fun H e s' => hCX H s₁ e s') fun r' s' hq => ?_)
  obtain ⟨u, as', rfl, h1, h2, h3, h4⟩ := hq
  exact ⟨.inl ⟨u, _, as', rfl, fun _ => rfl, h1, (OpenSpec.post_iff hwell hwi _ _).mpr rfl, fun z => Bool.noConfusion (show false = true from z)⟩, h2, h3, h4⟩
end Sm
/-! What the text is, how a def's promise is used. -/
namespace Sm
open PySem PySem.Spec PyProof.Rows L2
/-- the i-th statement of the program -/
def topS (i : Nat) : Stmt := PySem.Challenge.pw_samemomentdesk_s01_answers.main.body.getD i (.Pass ⟨0, 0, 0, 0⟩)
/-- the def x keeps its promise -/
structure Df (P : Program) (w : World) (K : PySem.W.Frag) (mg : Str → Option Value) (base : Heap) (k : Nat) (x : Str) (ps : List Str) (sp : Sp) : Prop where
  ex : ∃ (f : Addr) (fd : FuncData), FnOk P w K mg base CX0 k f fd ps sp ∧ mg x = some (.ref f) ∧ PySem.W.keepIn K (.ref f) = true ∧ L2.Binds K fd ps []
/-- the def of the text stands there -/
structure Src (K : PySem.W.Frag) (mg : Str → Option Value) (x : Str) (st : Stmt) (ps : List Str) : Prop where
  ex : ∃ (f : Addr) (fd : FuncData), Fun K x x st f fd ∧ mg x = some (.ref f) ∧ L2.Binds K fd ps []
/-- a method of the class at C -/
structure Mt (P : Program) (w : World) (K : PySem.W.Frag) (mg : Str → Option Value) (base : Heap) (k : Nat) (C : Addr) (m : Str) (ps : List Str) (sp : Sp) : Prop where
  ex : ∃ (f : Addr) (fd : FuncData), FnOk P w K mg base CX0 k f fd ps sp ∧ Cls K C ∧ Meth K C m f ∧ L2.Binds K fd ps []
structure SrcM (K : PySem.W.Frag) (C : Addr) (m qual : Str) (st : Stmt) (ps : List Str) : Prop where
  ex : ∃ (f : Addr) (fd : FuncData), Fun K m qual st f fd ∧ Cls K C ∧ Meth K C m f ∧ L2.Binds K fd ps []
/-- the class x, made by an __init__ that keeps its promise -/
structure Cm (P : Program) (w : World) (K : PySem.W.Frag) (mg : Str → Option Value) (base : Heap) (k : Nat) (x : Str) (C : Addr) (ps : List Str) (sp : Sp) : Prop where
  ex : ∃ (f : Addr) (fd : FuncData), FnOk P w K mg base CX0 k f fd ps sp ∧ Mk K C f ∧ mg x = some (.ref C) ∧ L2.Binds K fd ps []
structure SrcC (K : PySem.W.Frag) (mg : Str → Option Value) (x : Str) (C : Addr) (qual : Str) (st : Stmt) (ps : List Str) : Prop where
  ex : ∃ (f : Addr) (fd : FuncData), Fun K "__init__" qual st f fd ∧ Mk K C f ∧ mg x = some (.ref C) ∧ L2.Binds K fd ps []
section
variable {X : Cx} {k : Nat} {x m : Str} {ps : List Str} {sp : Sp} {p pos apos : Pos} {e o : Expr} {es : List Expr} {t : TA} {to : TE} {C : Addr}
theorem pe_df (D : Df X.prog X.w X.K X.mg X.base k x ps sp) (hr : Room k X.A) (hg : Gl X x) (ha : PA X (e :: es) t) (hdb : (x == ("__debug__" : Str)) = false := by decide)
    (he : starEach (e :: es) X.env = (false, eval e X.env) :: starEach es X.env := by rfl) (hpl : (backTo pos (starEach es X.env)).any (·.1) = false := by rfl) : PE X (.Call (.Name x p) (e :: es) [] pos) (tCall sp [] E0 t) := by
  obtain ⟨f, fd, F, hm, hk, hb⟩ := D.ex
  exact pe_call F hr hg hm hk hb .nil pass0 ha hdb he hpl
theorem pe_mt {pl : Sem Bool} (D : Mt X.prog X.w X.K X.mg X.base k C m ps sp) (ho : PE X o to) (hr : Room k X.A) (ha : PA X (e :: es) t) (hst : starEach (e :: es) X.env = (false, eval e X.env) :: starEach es X.env := by rfl) (hpl : (backTo pos (starEach es X.env)).any (·.1) = false := by rfl)
    (ht : eval (.Call (.Attribute o m apos) (e :: es) [] pos) X.env = (do
      let ov ← eval o X.env
      standAt apos.atName
      let (f, first) ← holding [ov] (getMethod ov m pl)
      callWith pos f first (backTo pos (starEach (e :: es) X.env)) (backToKw pos (keywordEach [] X.env))) := by rfl) :
    PE X (.Call (.Attribute o m apos) (e :: es) [] pos) (tMeth C m sp [] E0 to t) := by
  obtain ⟨f, fd, F, hc, hm, hb⟩ := D.ex
  exact pe_meth ho hc hm F hr hb .nil pass0 ha hst hpl ht
theorem pe_mt0 {pl : Sem Bool} (D : Mt X.prog X.w X.K X.mg X.base k C m ps sp) (ho : PE X o to) (hr : Room k X.A)
    (ht : eval (.Call (.Attribute o m apos) [] [] pos) X.env = (do
      let ov ← eval o X.env
      standAt apos.atName
      let (f, first) ← holding [ov] (getMethod ov m pl)
      callWith pos f first (backTo pos (starEach [] X.env)) (backToKw pos (keywordEach [] X.env))) := by rfl) :
    PE X (.Call (.Attribute o m apos) [] [] pos) (tMeth C m sp [] E0 to tNil) := by
  obtain ⟨f, fd, F, hc, hm, hb⟩ := D.ex
  exact pe_meth0 ho hc hm F hr hb .nil pass0 ht
theorem pe_mkO (D : Cm X.prog X.w X.K X.mg X.base k x C ps sp) (hr : Room (k + 1) X.A) (hg : Gl X x) (ha : PA X (e :: es) t) (hdb : (x == ("__debug__" : Str)) = false := by decide)
    (he : starEach (e :: es) X.env = (false, eval e X.env) :: starEach es X.env := by rfl) (hpl : (backTo pos (starEach es X.env)).any (·.1) = false := by rfl) : PE X (.Call (.Name x p) (e :: es) [] pos) (tMake C sp [] E0 t) := by
  obtain ⟨f, fd, F, M, hm, hb⟩ := D.ex
  exact pe_make M F hr hg hm hb .nil pass0 ha hdb he hpl
theorem pe_mkD (D : Cm X.prog X.w X.K X.mg X.base k x C ps sp) (hr : Room (k + 1) X.A) (hg : Gl X x) (hdb : (x == ("__debug__" : Str)) = false := by decide) : PE X (.Call (.Name x p) [] [] pos) (tMake C sp [] E0 tNil) := by
  obtain ⟨f, fd, F, M, hm, hb⟩ := D.ex
  exact pe_make0 M F hr hg hm hb .nil pass0 hdb
/-- a whole number of the module's own -/
theorem pe_gl {i : Int} (hg : Gl X x) (h : ∃ t, X.mg x = some (.int i t)) (hd : (x == ("__debug__" : Str)) = false := by decide) : PE X (.Name x pos) (tC (.int i)) := by
  obtain ⟨t, h⟩ := h
  exact pe_glob hg h ⟨t, rfl⟩ hd
/-- a tuple of the module's own -/
def tGlT (K : PySem.W.Frag) (xs : List V) : TE := fun _ H Q => ∀ a, SqT K H a xs → Q (.ref a) H
theorem pe_glT {xs : List V} (hg : Gl X x) (h : ∃ a, X.mg x = some (.ref a) ∧ ∀ H, SqT X.K H a xs) (hd : (x == ("__debug__" : Str)) = false := by decide) : PE X (.Name x pos) (tGlT X.K xs) := by
  obtain ⟨a, h, hs⟩ := h
  exact ⟨fun _ _ _ H _ I q => ld_glob I hg h ⟨.ref a, H, I, rfl, q a (hs H)⟩ hd⟩
end
/-! ### the same with the written part as a letter, for a comprehension's block -/
section
variable {X : Cx} {K : PySem.W.Frag}
theorem ix_tupK (h : X.K = K) : IxR X (rIxT K) := h ▸ ix_tup
theorem ix_listK (h : X.K = K) : IxR X (rIxL K) := h ▸ ix_list
theorem op_catAK (h : X.K = K) : OpR X (binaryOp .Add) (rCatA K) := h ▸ op_catA
theorem pe_fldK {e : Expr} {f : Str} {pos : Pos} {ta : TE} (h : X.K = K) (he : PE X e ta) (hb : attributeBase e f X.env (eval e X.env) = eval e X.env) : PE X (.Attribute e f pos) (tFld K ta f) := h ▸ pe_fld he hb
theorem pg_tupK {elts : List Expr} {k : Nat} {pos : Pos} {t : TGs} {n : Nat} (h : X.K = K) (hc : X.calm = true) (hs : PGs X elts t) (hn : (assignEach elts X.env).length = n := by rfl) (hst : (assignEach elts X.env).findIdx? (·.1) = none := by rfl) : PG X (.Tuple elts k pos) (gTup K n t) := h ▸ pg_tup hc hs hn hst
end
/-! ### two rules more -/
theorem ext_tup (l : Addr) (items : Array Value) (n : Nat) (b : Addr) (items2 : Array Value) (n2 : Nat) (dd : Option Addr) (sl : Array (Option Value)) (hs0 : ¬ (!items.isEmpty && Builtin.List.listTooLong (items.size + items2.size)) = true) (hs1 : items.size ≤ sizeLine) (hs2 : items.size + items2.size ≤ sizeLine + 1) :
    Meets (Builtin.«list.extend» ⟨[.ref l, .ref b], []⟩) (fun _ R s => s.heap.get? l = some { cls := .type "list", dict := none, data := .seq items n, slots := #[] } ∧ s.heap.get? b = some ⟨.type "tuple", dd, .seq items2 n2, sl⟩ ∧ R (.ok (.ret Value.none)) { s with heap := s.heap.update l (Obj.mapSeq fun x => x ++ items2), toks := s.toks }) :=
  .of_wp fun prog w A R s h => by
    obtain ⟨hp, g, d, tk, os⟩ := s
    obtain ⟨hl, hb, h⟩ := h
    have f1 := AutoSeq1.idx_int; have f2 := AutoSeq1.sub_tuple_tuple; have f3 := AutoSeq1.sub_list_list; have f4 := AutoSeq1.sub_tuple_list; have f5 := AutoSeq1.sub_list_tuple
    have hz' : (items ++ items2).size ≤ sizeLine + 1 := by rw [Array.size_append]; exact hs2
    wp_walk using (wpAny_updateSeq hl rfl (hz := hs1) (_hz' := hz')), wpAny_loadPart' hl, wpAny_loadPart' hb
    exact ⟨_, rfl, h⟩
section
variable {X : Cx}
def rExtT : V → List V → Hp → VK → Prop := fun x vs H Q => ∃ l b xs zs, x = .ref l ∧ vs = [.ref b] ∧ H l = some (.lst xs) ∧ H b = some (.tup zs) ∧ xs.length + zs.length ≤ sizeLine ∧ Q .non (upd H l (.lst (xs ++ zs)))
theorem mt_extendT : MtM X "list.extend" rExtT := by
  intro pins s σ H x vs v us Q I rx rv h
  obtain ⟨l, b, xs, zs, rfl, rfl, hH, hB, hz, q⟩ := h
  cases rx
  obtain ⟨u, rfl, ru⟩ := rv.one
  cases ru
  obtain ⟨z, its, n, r, hl, e⟩ := I.lstM hH
  obtain ⟨z2, its2, r2, hob⟩ := (show ObjOk X.prog X.w H s.heap b (.tup zs) from I.hok b _ hB)
  obtain ⟨ob, e2, hcls, n2, hdat⟩ := hob
  have h1 := r.length
  have h2 := r2.length
  have hsz : its.toArray.size + its2.toArray.size ≤ sizeLine := by rw [List.size_toArray, List.size_toArray, ← h1, ← h2]; exact hz
  have hlong : ¬ (!its.toArray.isEmpty && Builtin.List.listTooLong (its.toArray.size + its2.toArray.size)) = true := by
    rw [notLongL hsz, Bool.and_false]
    exact Bool.false_ne_true
  obtain ⟨cls, dd, dat, sl⟩ := ob
  simp only at hcls hdat
  subst hcls hdat
  refine call_meets F.slot_list_extend ⟨_, e, rfl⟩ F.entry_list_extend (F.args_list_extend_2 _ _)
    (ext_tup l its.toArray n b its2.toArray n2 dd sl hlong (by omega) (by omega)) ⟨e, e2, ?_⟩
  refine ⟨.non, _, I.lset (its' := its ++ its2) hH e (by simp) (r.append r2) ?_, rfl, q⟩
  rw [List.length_append]
  exact hz
end
end Sm
/-! How the things lie in the heap; places and trees. -/
namespace Sm
open PySem PySem.Spec PyProof.Rows L2
structure Txt (K : PySem.W.Frag) (mg : Str → Option Value) (CO CD : Addr) : Prop where
  b_len : mg "len" = none
  b_enumerate : mg "enumerate" = none
  b_list : mg "list" = none
  b_range : mg "range" = none
  b_isinstance : mg "isinstance" = none
  b_int : mg "int" = none
  b_tuple : mg "tuple" = none
  b_max : mg "max" = none
  b_min : mg "min" = none
  b_abs : mg "abs" = none
  b_sum : mg "sum" = none
  g_PARTS : ∃ t, mg "PARTS" = some (.int 256 t)
  g_MOST_LEAVES : ∃ t, mg "MOST_LEAVES" = some (.int 8 t)
  g_MOST_FOR_ALL_SHAPES : ∃ t, mg "MOST_FOR_ALL_SHAPES" = some (.int 6 t)
  g_FARTHEST : ∃ t, mg "FARTHEST" = some (.int 100000 t)
  g_LATEST : ∃ t, mg "LATEST" = some (.int 100000 t)
  g_NOT_THERE : ∃ t, mg "NOT_THERE" = some (.int (-2) t)
  g_TOO_MANY : ∃ t, mg "TOO_MANY" = some (.int (-7) t)
  g_NOTHING_YET : ∃ t, mg "NOTHING_YET" = some (.int (-16) t)
  g_NOT_ALLOWED : ∃ t, mg "NOT_ALLOWED" = some (.int (-22) t)
  g_NO_ROOM : ∃ t, mg "NO_ROOM" = some (.int (-28) t)
  g_TOO_SHORT : ∃ t, mg "TOO_SHORT" = some (.int (-33) t)
  g_NEW : ∃ t, mg "NEW" = some (.int 0 t)
  g_LEAF : ∃ t, mg "LEAF" = some (.int 1 t)
  g_MOVE : ∃ t, mg "MOVE" = some (.int 2 t)
  g_SHAPE : ∃ t, mg "SHAPE" = some (.int 3 t)
  g_TOLD : ∃ t, mg "TOLD" = some (.int 4 t)
  g_WIRE : ∃ t, mg "WIRE" = some (.int 5 t)
  g_JOINT : ∃ t, mg "JOINT" = some (.int 6 t)
  g_LAY : ∃ t, mg "LAY" = some (.int 7 t)
  g_LAID : ∃ t, mg "LAID" = some (.int 8 t)
  g_JUDGE : ∃ t, mg "JUDGE" = some (.int 9 t)
  g_LEAST : ∃ t, mg "LEAST" = some (.int 10 t)
  g_RANK : ∃ t, mg "RANK" = some (.int 11 t)
  g_COUNTS : ∃ a, mg "COUNTS" = some (.ref a) ∧ ∀ H, SqT K H a (([0, 3, 4, 0, 0, 0, 1, 2, 3, 0, 0, 1, 0] : List Int).map V.int)
  c_CO : Cls K CO
  n_CO_time : NoAttr K CO "time"
  n_CO_wire : NoAttr K CO "wire"
  n_CO_area : NoAttr K CO "area"
  c_CD : Cls K CD
  n_CD_leaves : NoAttr K CD "leaves"
  n_CD_pairs : NoAttr K CD "pairs"
abbrev Lf := Lr72.Leaf
abbrev Pc := Lr71.Place
abbrev Ar := Lr71.Area
abbrev Su := Lr72.Sum
abbrev lfT (x : Lf) : HO := .tup [.int x.at_.s, .int x.at_.t, .int x.late]
abbrev plT (p : Pc) : HO := .tup [.int p.s, .int p.t]
abbrev arT (x : Ar) : HO := .tup [.int x.a, .int x.b, .int x.c, .int x.d]
abbrev prT (p : Nat × Nat) : HO := .tup [.int p.1, .int p.2]
/-- item by item -/
def Rel2 {α : Type} (R : α → V → Prop) (xs : List α) (vs : List V) : Prop := vs.length = xs.length ∧ ∀ (i : Nat) (x : α), xs[i]? = some x → ∃ v, vs[i]? = some v ∧ R x v
theorem Rel2.nil {α : Type} {R : α → V → Prop} : Rel2 R [] [] := ⟨rfl, fun i x h => by simp at h⟩
theorem Rel2.mono {α : Type} {R R' : α → V → Prop} {xs : List α} {vs : List V} (h : Rel2 R xs vs) (k : ∀ x v, R x v → R' x v) : Rel2 R' xs vs := ⟨h.1, fun i x e => by
  obtain ⟨v, e1, e2⟩ := h.2 i x e
  exact ⟨v, e1, k _ _ e2⟩⟩
theorem Rel2.snoc {α : Type} {R : α → V → Prop} {xs : List α} {vs : List V} {x : α} {v : V} (h : Rel2 R xs vs) (r : R x v) : Rel2 R (xs ++ [x]) (vs ++ [v]) := by
  refine ⟨by rw [List.length_append, List.length_append, h.1] <;> rfl, fun i y e => ?_⟩
  by_cases hi : i < xs.length
  · rw [List.getElem?_append_left hi] at e
    obtain ⟨u, e1, e2⟩ := h.2 i y e
    exact ⟨u, by rw [List.getElem?_append_left (List.getElem?_eq_some_iff.mp e1).1]; exact e1, e2⟩
  · have l := (List.getElem?_eq_some_iff.mp e).1
    rw [List.length_append] at l
    have ei : i = xs.length := by
      have : i < xs.length + 1 := l
      omega
    subst ei
    rw [List.getElem?_append_right (Nat.le_refl _), Nat.sub_self] at e
    cases e
    exact ⟨v, by rw [← h.1, List.getElem?_append_right (Nat.le_refl _), Nat.sub_self] <;> rfl, r⟩
theorem Rel2.append {α : Type} {R : α → V → Prop} {xs ys : List α} {vs us : List V} (h : Rel2 R xs vs) (r : Rel2 R ys us) : Rel2 R (xs ++ ys) (vs ++ us) := by
  refine ⟨by rw [List.length_append, List.length_append, h.1, r.1], fun i y e => ?_⟩
  by_cases hi : i < xs.length
  · rw [List.getElem?_append_left hi] at e
    obtain ⟨u, e1, e2⟩ := h.2 i y e
    exact ⟨u, by rw [List.getElem?_append_left (List.getElem?_eq_some_iff.mp e1).1]; exact e1, e2⟩
  · rw [List.getElem?_append_right (by omega)] at e
    obtain ⟨u, e1, e2⟩ := r.2 _ y e
    exact ⟨u, by rw [List.getElem?_append_right (by rw [h.1]; omega), h.1]; exact e1, e2⟩
/-- of the other side -/
theorem Rel2.back {α : Type} {R : α → V → Prop} {xs : List α} {vs : List V} (h : Rel2 R xs vs) {i : Nat} {v : V} (e : vs[i]? = some v) : ∃ x, xs[i]? = some x ∧ R x v := by
  have l := (List.getElem?_eq_some_iff.mp e).1
  rw [h.1] at l
  obtain ⟨u, e1, e2⟩ := h.2 i xs[i] (List.getElem?_eq_getElem l)
  rw [e] at e1
  cases e1
  exact ⟨_, List.getElem?_eq_getElem l, e2⟩
theorem Rel2.set {α : Type} {R : α → V → Prop} {xs : List α} {vs : List V} (h : Rel2 R xs vs) (k : Nat) {x : α} {v : V} (r : R x v) : Rel2 R (xs.set k x) (vs.set k v) := by
  refine ⟨by rw [List.length_set, List.length_set, h.1], fun i y e => ?_⟩
  rw [List.getElem?_set] at e ⊢
  by_cases hk : k = i
  · rw [if_pos hk] at e ⊢
    by_cases hl : i < xs.length
    · rw [if_pos (by rw [h.1]; omega)]
      rw [if_pos (by omega)] at e
      cases e
      exact ⟨v, rfl, r⟩
    · rw [if_neg (by omega)] at e
      cases e
  · rw [if_neg hk] at e ⊢
    exact h.2 i y e
theorem Rel2.tail {α : Type} {R : α → V → Prop} {xs : List α} {vs : List V} (h : Rel2 R xs vs) : Rel2 R xs.tail vs.tail := ⟨by rw [List.length_tail, List.length_tail, h.1], fun i x e => by
  rw [List.getElem?_tail] at e ⊢
  exact h.2 _ x e⟩
def RefT {α : Type} (f : α → HO) (H : Hp) (x : α) (v : V) : Prop := ∃ l, v = .ref l ∧ H l = some (f x)
/-- a list at a, item by item -/
def LsAt {α : Type} (R : Hp → α → V → Prop) (H : Hp) (a : Addr) (xs : List α) : Prop := ∃ vs, H a = some (.lst vs) ∧ Rel2 (R H) xs vs
abbrev LvAt : Hp → Addr → List Lf → Prop := LsAt (RefT lfT)
abbrev PrAt : Hp → Addr → List (Nat × Nat) → Prop := LsAt (RefT prT)
abbrev outF (S : Su) (p : Addr) : List (Str × V) := [("time", .int S.time), ("wire", .int S.wire), ("area", .ref p)]
def OutAt (C : Addr) (H : Hp) (S : Su) (v : V) : Prop := ∃ a dx p, v = .ref a ∧ H a = some (.ins C dx (outF S p)) ∧ H p = some (arT S.area)
abbrev OsAt (C : Addr) : Hp → Addr → List Su → Prop := LsAt (OutAt C)
theorem same_upd {H : Hp} {p : Addr} {o : HO} (h : H p = none) : Same H (upd H p o) := fun b u e => (upd_ne (ne_of_none e h)).trans e
theorem RefT.same {α : Type} {f : α → HO} {H H' : Hp} (s : Same H H') {x : α} {v : V} (h : RefT f H x v) : RefT f H' x v := let ⟨l, e, k⟩ := h; ⟨l, e, s _ _ k⟩
theorem OutAt.same {C : Addr} {H H' : Hp} (s : Same H H') {S : Su} {v : V} (h : OutAt C H S v) : OutAt C H' S v := let ⟨a, dx, p, e, h1, h2⟩ := h; ⟨a, dx, p, e, s _ _ h1, s _ _ h2⟩
theorem LsAt.same {α : Type} {R : Hp → α → V → Prop} {H H' : Hp} {a : Addr} {xs : List α} (h : LsAt R H a xs) (s : Same H H') (k : ∀ x v, R H x v → R H' x v) : LsAt R H' a xs := let ⟨vs, h1, h2⟩ := h; ⟨vs, s _ _ h1, h2.mono k⟩
theorem lk_here {k : Str} {v : V} {r : List (Str × V)} : List.lookup k ((k, v) :: r) = some v := by
  have e : (k == k) = true := beq_self_eq_true k
  simp only [List.lookup, e]
theorem lk_past {k g : Str} {v : V} {r : List (Str × V)} (h : (k == g) = false) : List.lookup k ((g, v) :: r) = List.lookup k r := by
  simp only [List.lookup, h]
theorem out_time (S : Su) (p : Addr) : (outF S p).lookup ("time" : Str) = some (.int S.time) := lk_here
theorem out_wire (S : Su) (p : Addr) : (outF S p).lookup ("wire" : Str) = some (.int S.wire) := (lk_past (by decide +kernel)).trans lk_here
theorem out_area (S : Su) (p : Addr) : (outF S p).lookup ("area" : Str) = some (.ref p) := (lk_past (by decide +kernel)).trans ((lk_past (by decide +kernel)).trans lk_here)
theorem max_if (i j : Int) : (if j > i then j else i) = max i j := by omega
theorem min_if (i j : Int) : (if j < i then j else i) = min i j := by omega
theorem abs_if (i : Int) : (if i < 0 then -i else i) = Lr71.size i := rfl
theorem max3_nu (a b c : Int) : nuMax3 (.int a) (.int b) (.int c) = some (.int (max (max a b) c)) := by
  have two : ∀ i j : Int, nuMax2 (.int i) (.int j) = some (.int (max i j)) := fun i j => by
    show some (if decide (i < j) = true then V.int j else V.int i) = _
    by_cases h : i < j
    · rw [if_pos (decide_eq_true h), show max i j = j by omega]
    · rw [if_neg (by simpa using h), show max i j = i by omega]
  show (nuMax2 (.int a) (.int b)).bind _ = _
  rw [two]
  exact two _ _
/-! ### places -/
abbrev s_in_parts : Stmt := topS 11
theorem sc_in_parts : FnScope ["s", "t"] ["s", "t"] (defScope s_in_parts) := ⟨rfl, rfl, rfl, by decide +kernel, rfl, by decide +kernel, by decide +kernel⟩
abbrev s_apart : Stmt := topS 12
theorem sc_apart : FnScope ["one", "other"] ["one", "other"] (defScope s_apart) := ⟨rfl, rfl, rfl, by decide +kernel, rfl, by decide +kernel, by decide +kernel⟩
abbrev s_nearest : Stmt := topS 13
theorem sc_nearest : FnScope ["area", "place"] ["area", "place"] (defScope s_nearest) := ⟨rfl, rfl, rfl, by decide +kernel, rfl, by decide +kernel, by decide +kernel⟩
section
variable {P : Program} {w : World} {K : PySem.W.Frag} {mg : Str → Option Value} {base : Heap} {CO CD : Addr}
def spInParts : Sp := fun vs H Q _ => ∃ s t : Int, vs = [.int s, .int t] ∧ ∀ p, H p = none → Q (.ref p) (upd H p (plT ⟨s * Lr72.parts, t * Lr72.parts⟩))
theorem ok_in_parts (T : Txt K mg CO CD) (S : Src K mg "in_parts" s_in_parts ["s", "t"]) : Df P w K mg base 1 "in_parts" ["s", "t"] spInParts := by
  obtain ⟨f, fd, F, hm, hb⟩ := S.ex
  refine ⟨f, fd, F.ok sc_in_parts (fun vs H Q E h => ?_) (fun cdv A outer s H vs Q E hr h => ⟨_, (pss_one (ps_ret (pe_tup (pa_cons (pe_op op_mul (pe_gl (by rfl) T.g_PARTS) (pv 0)) (pa_cons (pe_op op_mul (pe_gl (by rfl) T.g_PARTS) (pv 1)) pa_nil))))), ?_⟩), hm, F.kp, hb⟩
  · obtain ⟨s, t, rfl, _⟩ := h
    rfl
  · obtain ⟨s, t, rfl, k⟩ := h
    refine ⟨_, rfl, _, _, rfl, rfl, .inl ⟨by decide, by decide⟩, _, rfl, _, _, rfl, rfl, .inl ⟨by decide, by decide⟩, (by show 2 ≤ sizeLine; decide), fun p hp => ?_⟩
    have e := k p hp
    rw [Int.mul_comm s, Int.mul_comm t] at e
    exact e
def spApart : Sp := fun vs H Q _ => ∃ (a b : Addr) (p q : Pc), vs = [.ref a, .ref b] ∧ H a = some (plT p) ∧ H b = some (plT q) ∧ Q (.int (Lr71.far p q)) H
theorem ok_apart (T : Txt K mg CO CD) (S : Src K mg "apart" s_apart ["one", "other"]) : Df P w K mg base 1 "apart" ["one", "other"] spApart := by
  obtain ⟨f, fd, F, hm, hb⟩ := S.ex
  refine ⟨f, fd, F.ok sc_apart (fun vs H Q E h => ?_) (fun cdv A outer s H vs Q E hr h => ⟨_, (pss_one (ps_ret (pe_callB (call_max2 rfl) (by rfl) T.b_max (by decide +kernel) (pa_cons (pe_callB call_abs (by rfl) T.b_abs (by decide +kernel) (pa_cons (pe_op op_sub (pe_ix ix_tup (pv 0) pe_int (fun _ _ => rfl)) (pe_ix ix_tup (pv 1) pe_int (fun _ _ => rfl))) pa_nil)) (pa_cons (pe_callB call_abs (by rfl) T.b_abs (by decide +kernel) (pa_cons (pe_op op_sub (pe_ix ix_tup (pv 0) pe_int (fun _ _ => rfl)) (pe_ix ix_tup (pv 1) pe_int (fun _ _ => rfl))) pa_nil)) pa_nil))))), ?_⟩), hm, F.kp, hb⟩
  · obtain ⟨a, b, p, q, rfl, _⟩ := h
    rfl
  · obtain ⟨a, b, p, q, rfl, ha, hb, k⟩ := h
    refine ⟨_, rfl, a, _, _, _, rfl, rfl, SqT.of ha, rfl, _, rfl, b, _, _, _, rfl, rfl, SqT.of hb, rfl, _, _, rfl, rfl, _, rfl, ?_⟩
    refine ⟨_, rfl, a, _, _, _, rfl, rfl, SqT.of ha, rfl, _, rfl, b, _, _, _, rfl, rfl, SqT.of hb, rfl, _, _, rfl, rfl, _, rfl, _, _, rfl, ?_⟩
    rw [max_if, abs_if, abs_if]
    exact k
def spNearest : Sp := fun vs H Q _ => ∃ (a b : Addr) (x : Ar) (q : Pc), vs = [.ref a, .ref b] ∧ H a = some (arT x) ∧ H b = some (plT q) ∧ x.a ≤ x.b ∧ x.c ≤ x.d ∧ ∀ p, H p = none → Q (.ref p) (upd H p (plT (Lr71.near x q)))
theorem ok_nearest (T : Txt K mg CO CD) (S : Src K mg "nearest" s_nearest ["area", "place"]) : Df P w K mg base 1 "nearest" ["area", "place"] spNearest := by
  obtain ⟨f, fd, F, hm, hb⟩ := S.ex
  refine ⟨f, fd, F.ok sc_nearest (fun vs H Q E h => ?_) (fun cdv A outer s H vs Q E hr h => ⟨_, (pss_one (ps_ret (pe_tup (pa_cons (pe_callB (call_min2 rfl) (by rfl) T.b_min (by decide +kernel) (pa_cons (pe_callB (call_max2 rfl) (by rfl) T.b_max (by decide +kernel) (pa_cons (pe_ix ix_tup (pv 1) pe_int (fun _ _ => rfl)) (pa_cons (pe_ix ix_tup (pv 0) pe_int (fun _ _ => rfl)) pa_nil))) (pa_cons (pe_ix ix_tup (pv 0) pe_int (fun _ _ => rfl)) pa_nil))) (pa_cons (pe_callB (call_min2 rfl) (by rfl) T.b_min (by decide +kernel) (pa_cons (pe_callB (call_max2 rfl) (by rfl) T.b_max (by decide +kernel) (pa_cons (pe_ix ix_tup (pv 1) pe_int (fun _ _ => rfl)) (pa_cons (pe_ix ix_tup (pv 0) pe_int (fun _ _ => rfl)) pa_nil))) (pa_cons (pe_ix ix_tup (pv 0) pe_int (fun _ _ => rfl)) pa_nil))) pa_nil))))), ?_⟩), hm, F.kp, hb⟩
  · obtain ⟨a, b, p, q, rfl, _⟩ := h
    rfl
  · obtain ⟨a, b, x, q, rfl, ha, hb, h1, h2, k⟩ := h
    refine ⟨_, rfl, b, _, _, _, rfl, rfl, SqT.of hb, rfl, _, rfl, a, _, _, _, rfl, rfl, SqT.of ha, rfl, _, _, rfl, _, rfl, a, _, _, _, rfl, rfl, SqT.of ha, rfl, _, _, rfl, ?_⟩
    refine ⟨_, rfl, b, _, _, _, rfl, rfl, SqT.of hb, rfl, _, rfl, a, _, _, _, rfl, rfl, SqT.of ha, rfl, _, _, rfl, _, rfl, a, _, _, _, rfl, rfl, SqT.of ha, rfl, _, _, rfl, (by show 2 ≤ sizeLine; decide), fun p hp => ?_⟩
    rw [max_if, max_if, min_if, min_if]
    have e := k p hp
    rw [← near_clamp h1 h2] at e
    exact e
end
end Sm
/-! Trees: what they come to. -/
namespace Sm
open PySem PySem.Spec PyProof.Rows L2
theorem put_here {f : Str} {v x : V} {r : List (Str × V)} : putF f v ((f, x) :: r) = (f, v) :: r := if_pos rfl
theorem put_past {f g : Str} {v x : V} {r : List (Str × V)} (h : ¬ g = f) : putF f v ((g, x) :: r) = (g, x) :: putF f v r := if_neg h
abbrev s_Outcome_init : Stmt := inClass (topS 15) 0
theorem sc_Outcome_init : FnScope ["self", "time", "wire", "area"] ["self", "time", "wire", "area"] (defScope s_Outcome_init) := ⟨rfl, rfl, rfl, by decide +kernel, rfl, by decide +kernel, by decide +kernel⟩
abbrev inF (t u v : V) : List (Str × V) := [("time", t), ("wire", u), ("area", v)]
abbrev s_leaf_outcome : Stmt := topS 16
theorem sc_leaf_outcome : FnScope ["leaf", "place"] ["leaf"] (defScope s_leaf_outcome) := ⟨rfl, rfl, rfl, by decide +kernel, rfl, by decide +kernel, by decide +kernel⟩
abbrev s_gap : Stmt := topS 17
theorem sc_gap : FnScope ["low", "high", "other_low", "other_high"] ["low", "high", "other_low", "other_high"] (defScope s_gap) := ⟨rfl, rfl, rfl, by decide +kernel, rfl, by decide +kernel, by decide +kernel⟩
abbrev s_distance : Stmt := topS 18
theorem sc_distance : FnScope ["one", "other"] ["one", "other"] (defScope s_distance) := ⟨rfl, rfl, rfl, by decide +kernel, rfl, by decide +kernel, by decide +kernel⟩
abbrev s_widened : Stmt := topS 19
theorem sc_widened : FnScope ["area", "length"] ["area", "length"] (defScope s_widened) := ⟨rfl, rfl, rfl, by decide +kernel, rfl, by decide +kernel, by decide +kernel⟩
abbrev s_overlap : Stmt := topS 20
theorem sc_overlap : FnScope ["one", "other"] ["one", "other"] (defScope s_overlap) := ⟨rfl, rfl, rfl, by decide +kernel, rfl, by decide +kernel, by decide +kernel⟩
abbrev s_joint_outcome : Stmt := topS 21
theorem sc_joint_outcome : FnScope ["first", "second", "half", "time", "first_wire", "second_wire", "area"] ["first", "second"] (defScope s_joint_outcome) := ⟨rfl, rfl, rfl, by decide +kernel, rfl, by decide +kernel, by decide +kernel⟩
abbrev s_outcomes : Stmt := topS 22
theorem sc_outcomes : FnScope ["leaves", "pairs", "found", "pair", "leaf"] ["leaves", "pairs"] (defScope s_outcomes) := ⟨rfl, rfl, rfl, by decide +kernel, rfl, by decide +kernel, by decide +kernel⟩
section
variable {P : Program} {w : World} {K : PySem.W.Frag} {mg : Str → Option Value} {base : Heap} {CO CD : Addr}
def spOInit (C : Addr) : Sp := fun vs H Q _ => ∃ (p dx : Addr) (t u v : V), vs = [.ref p, t, u, v] ∧ H p = some (.ins C dx []) ∧
  ∀ H' : Hp, H' p = some (.ins C dx (inF t u v)) → (∀ b o, H b = some o → b ≠ p → H' b = some o) → Q .non H'
theorem oi_new (t u v : V) : putF "area" v (putF "wire" u (putF "time" t [])) = inF t u v := by
  have e1 : putF ("wire" : Str) u (putF ("time" : Str) t []) = [(("time" : Str), t), (("wire" : Str), u)] := (put_past (by decide +kernel)).trans rfl
  rw [e1]
  exact (put_past (by decide +kernel)).trans (congrArg _ ((put_past (by decide +kernel)).trans rfl))
theorem ok_Outcome_init (T : Txt K mg CO CD) (S : SrcC K mg "Outcome" CO "Outcome.__init__" s_Outcome_init ["self", "time", "wire", "area"]) : Cm P w K mg base 1 "Outcome" CO ["self", "time", "wire", "area"] (spOInit CO) := by
  obtain ⟨f, fd, F, M, hm, hb⟩ := S.ex
  refine ⟨f, fd, F.ok sc_Outcome_init (fun vs H Q E h => ?_) (fun cdv A outer s H vs Q E hr h => ⟨_, (pss_cons (ps_fld (pv 0) (pv 1) rfl)
      (pss_cons (ps_fld (pv 0) (pv 2) rfl)
      (pss_one (ps_fld (pv 0) (pv 3) rfl)))), ?_⟩), M, hm, hb⟩
  · obtain ⟨p, dx, t, u, v, rfl, _⟩ := h
    rfl
  · obtain ⟨p, dx, t, u, v, rfl, hp, k⟩ := h
    refine ⟨_, rfl, _, rfl, p, CO, dx, [], rfl, hp, T.c_CO, T.n_CO_time, (by show 0 < 1000; decide), ?_⟩
    refine ⟨_, rfl, _, rfl, p, CO, dx, _, rfl, upd_same, T.c_CO, T.n_CO_wire, (by show 1 < 1000; decide), ?_⟩
    refine ⟨_, rfl, _, rfl, p, CO, dx, _, rfl, upd_same, T.c_CO, T.n_CO_area, (by show 2 < 1000; decide), ?_⟩
    exact k _ (Eq.trans upd_same (congrArg (fun q => some (HO.ins CO dx q)) (oi_new t u v))) fun b o e hb => by
      rw [upd_ne hb, upd_ne hb, upd_ne hb]
      exact e
/-- Outcome(t, w, area) is made -/
theorem made_out {H : Hp} {p : Addr} {S : Su} {Q : VK} (hp : H p = some (arT S.area)) (k : ∀ H' v, Same H H' → OutAt CO H' S v → Q v H') :
    ∀ x dx, H x = none → H dx = none → dx ≠ x → spOInit CO (.ref x :: ([.int S.time, .int S.wire, .ref p] ++ [])) (upd (upd H dx (.own x)) x (.ins CO dx [])) (fun v H2 => v = .non ∧ Q (.ref x) H2) E0 := by
  intro x dx nx nd ne
  refine ⟨x, dx, _, _, _, rfl, upd_same, fun H' h1 h2 => ⟨rfl, ?_⟩⟩
  have s : Same H H' := Same.made nx nd h2
  exact k H' (.ref x) s ⟨x, dx, p, rfl, h1, s _ _ hp⟩
def spLeafOut (CO : Addr) : Sp := fun vs H Q _ => ∃ (l : Addr) (x : Lf), vs = [.ref l] ∧ H l = some (lfT x) ∧ ∀ H' v, Same H H' → OutAt CO H' (Lr72.leafSum x) v → Q v H'
theorem ok_leaf_outcome (T : Txt K mg CO CD) (S : Src K mg "leaf_outcome" s_leaf_outcome ["leaf"]) (d_in_parts : Df P w K mg base 1 "in_parts" ["s", "t"] spInParts) (d_Outcome_init : Cm P w K mg base 1 "Outcome" CO ["self", "time", "wire", "area"] (spOInit CO)) :
    Df P w K mg base 3 "leaf_outcome" ["leaf"] (spLeafOut CO) := by
  obtain ⟨f, fd, F, hm, hb⟩ := S.ex
  refine ⟨f, fd, F.ok (k := 2) sc_leaf_outcome (fun vs H Q E h => ?_) (fun cdv A outer s H vs Q E hr h => ⟨_, (pss_cons (ps_set (i := 1) sc_leaf_outcome.nd rfl (Or.inl rfl) (pe_df d_in_parts (hr.mono (by decide)) (by rfl) (pa_cons (pe_ix ix_tup (pv 0) pe_int (fun _ _ => rfl)) (pa_cons (pe_ix ix_tup (pv 0) pe_int (fun _ _ => rfl)) pa_nil))))
      (pss_one (ps_ret (pe_mkO d_Outcome_init (hr.mono (by decide)) (by rfl) (pa_cons (pe_op op_mul (pe_gl (by rfl) T.g_PARTS) (pe_ix ix_tup (pv 0) pe_int (fun _ _ => rfl))) (pa_cons pe_int (pa_cons (pe_tup (pa_cons (pe_ix ix_tup (pv 1) pe_int (fun _ _ => rfl)) (pa_cons (pe_ix ix_tup (pv 1) pe_int (fun _ _ => rfl)) (pa_cons (pe_ix ix_tup (pv 1) pe_int (fun _ _ => rfl)) (pa_cons (pe_ix ix_tup (pv 1) pe_int (fun _ _ => rfl)) pa_nil))))) pa_nil))))))), ?_⟩), hm, F.kp, hb⟩
  · obtain ⟨l, x, rfl, _⟩ := h
    rfl
  · obtain ⟨l, x, rfl, hl, k⟩ := h
    refine ⟨_, rfl, l, _, _, _, rfl, rfl, SqT.of hl, rfl, _, rfl, l, _, _, _, rfl, rfl, SqT.of hl, rfl, x.at_.s, x.at_.t, rfl, fun q hq => ?_⟩
    have s1 : Same H (upd H q (plT ⟨x.at_.s * Lr72.parts, x.at_.t * Lr72.parts⟩)) := same_upd hq
    have hl1 := s1 _ _ hl
    have hq1 : upd H q (plT ⟨x.at_.s * Lr72.parts, x.at_.t * Lr72.parts⟩) q = some (plT ⟨x.at_.s * Lr72.parts, x.at_.t * Lr72.parts⟩) := upd_same
    generalize upd H q (plT ⟨x.at_.s * Lr72.parts, x.at_.t * Lr72.parts⟩) = H1 at s1 hl1 hq1
    refine ⟨_, rfl, l, _, _, _, rfl, rfl, SqT.of hl1, rfl, _, _, rfl, rfl, .inl ⟨by decide, by decide⟩, ?_⟩
    refine ⟨_, rfl, q, _, _, _, rfl, rfl, SqT.of hq1, rfl, _, rfl, q, _, _, _, rfl, rfl, SqT.of hq1, rfl, _, rfl, q, _, _, _, rfl, rfl, SqT.of hq1, rfl, _, rfl, q, _, _, _, rfl, rfl, SqT.of hq1, rfl, (by show 4 ≤ sizeLine; decide), fun p hp => ?_⟩
    have s2 : Same H1 (upd H1 p (arT (Lr72.leafSum x).area)) := same_upd hp
    have e := made_out (CO := CO) (H := upd H1 p (arT (Lr72.leafSum x).area)) (p := p) (S := Lr72.leafSum x) (Q := Q) upd_same (fun H' v s3 o => k H' v (s1.trans (s2.trans s3)) o)
    have ec : (256 : Int) * x.late = (Lr72.leafSum x).time := Int.mul_comm _ _
    rw [← ec] at e
    exact e
def spGap : Sp := fun vs H Q _ => ∃ a b c d : Int, vs = [.int a, .int b, .int c, .int d] ∧ Q (.int (max (max 0 (c - b)) (a - d))) H
theorem ok_gap (T : Txt K mg CO CD) (S : Src K mg "gap" s_gap ["low", "high", "other_low", "other_high"]) : Df P w K mg base 1 "gap" ["low", "high", "other_low", "other_high"] spGap := by
  obtain ⟨f, fd, F, hm, hb⟩ := S.ex
  refine ⟨f, fd, F.ok sc_gap (fun vs H Q E h => ?_) (fun cdv A outer s H vs Q E hr h => ⟨_, (pss_one (ps_ret (pe_callB (call_max3Nu rfl) (by rfl) T.b_max (by decide +kernel) (pa_cons pe_int (pa_cons (pe_op op_sub (pv 2) (pv 1)) (pa_cons (pe_op op_sub (pv 0) (pv 3)) pa_nil)))))), ?_⟩), hm, F.kp, hb⟩
  · obtain ⟨a, b, c, d, rfl, _⟩ := h
    rfl
  · obtain ⟨a, b, c, d, rfl, k⟩ := h
    exact ⟨_, rfl, _, rfl, _, _, rfl, rfl, _, rfl, _, rfl, _, _, rfl, rfl, _, _, _, _, rfl, max3_nu _ _ _, k⟩
def spDistance : Sp := fun vs H Q _ => ∃ (a b : Addr) (x y : Ar), vs = [.ref a, .ref b] ∧ H a = some (arT x) ∧ H b = some (arT y) ∧ Q (.int (Lr71.apart x y)) H
theorem ok_distance (T : Txt K mg CO CD) (S : Src K mg "distance" s_distance ["one", "other"]) (d_gap : Df P w K mg base 1 "gap" ["low", "high", "other_low", "other_high"] spGap) : Df P w K mg base 2 "distance" ["one", "other"] spDistance := by
  obtain ⟨f, fd, F, hm, hb⟩ := S.ex
  refine ⟨f, fd, F.ok (k := 1) sc_distance (fun vs H Q E h => ?_) (fun cdv A outer s H vs Q E hr h => ⟨_, (pss_one (ps_ret (pe_callB (call_max2 rfl) (by rfl) T.b_max (by decide +kernel) (pa_cons (pe_df d_gap (hr.mono (by decide)) (by rfl) (pa_cons (pe_ix ix_tup (pv 0) pe_int (fun _ _ => rfl)) (pa_cons (pe_ix ix_tup (pv 0) pe_int (fun _ _ => rfl)) (pa_cons (pe_ix ix_tup (pv 1) pe_int (fun _ _ => rfl)) (pa_cons (pe_ix ix_tup (pv 1) pe_int (fun _ _ => rfl)) pa_nil))))) (pa_cons (pe_df d_gap (hr.mono (by decide)) (by rfl) (pa_cons (pe_ix ix_tup (pv 0) pe_int (fun _ _ => rfl)) (pa_cons (pe_ix ix_tup (pv 0) pe_int (fun _ _ => rfl)) (pa_cons (pe_ix ix_tup (pv 1) pe_int (fun _ _ => rfl)) (pa_cons (pe_ix ix_tup (pv 1) pe_int (fun _ _ => rfl)) pa_nil))))) pa_nil))))), ?_⟩), hm, F.kp, hb⟩
  · obtain ⟨a, b, x, y, rfl, _⟩ := h
    rfl
  · obtain ⟨a, b, x, y, rfl, ha, hb, k⟩ := h
    refine ⟨_, rfl, a, _, _, _, rfl, rfl, SqT.of ha, rfl, _, rfl, a, _, _, _, rfl, rfl, SqT.of ha, rfl, _, rfl, b, _, _, _, rfl, rfl, SqT.of hb, rfl, _, rfl, b, _, _, _, rfl, rfl, SqT.of hb, rfl, _, _, _, _, rfl, ?_⟩
    refine ⟨_, rfl, a, _, _, _, rfl, rfl, SqT.of ha, rfl, _, rfl, a, _, _, _, rfl, rfl, SqT.of ha, rfl, _, rfl, b, _, _, _, rfl, rfl, SqT.of hb, rfl, _, rfl, b, _, _, _, rfl, rfl, SqT.of hb, rfl, _, _, _, _, rfl, _, _, rfl, ?_⟩
    have e : max (max (max 0 (y.a - x.b)) (x.a - y.b)) (max (max 0 (y.c - x.d)) (x.c - y.d)) = Lr71.apart x y := by
      unfold Lr71.apart
      omega
    rw [max_if, e]
    exact k
def spWidened : Sp := fun vs H Q _ => ∃ (a : Addr) (x : Ar) (r : Int), vs = [.ref a, .int r] ∧ H a = some (arT x) ∧ ∀ p, H p = none → Q (.ref p) (upd H p (arT (Lr71.grown x r)))
theorem ok_widened (T : Txt K mg CO CD) (S : Src K mg "widened" s_widened ["area", "length"]) : Df P w K mg base 1 "widened" ["area", "length"] spWidened := by
  obtain ⟨f, fd, F, hm, hb⟩ := S.ex
  refine ⟨f, fd, F.ok sc_widened (fun vs H Q E h => ?_) (fun cdv A outer s H vs Q E hr h => ⟨_, (pss_one (ps_ret (pe_tup (pa_cons (pe_op op_sub (pe_ix ix_tup (pv 0) pe_int (fun _ _ => rfl)) (pv 1)) (pa_cons (pe_op op_add (pe_ix ix_tup (pv 0) pe_int (fun _ _ => rfl)) (pv 1)) (pa_cons (pe_op op_sub (pe_ix ix_tup (pv 0) pe_int (fun _ _ => rfl)) (pv 1)) (pa_cons (pe_op op_add (pe_ix ix_tup (pv 0) pe_int (fun _ _ => rfl)) (pv 1)) pa_nil))))))), ?_⟩), hm, F.kp, hb⟩
  · obtain ⟨a, x, r, rfl, _⟩ := h
    rfl
  · obtain ⟨a, x, r, rfl, ha, k⟩ := h
    refine ⟨_, rfl, a, _, _, _, rfl, rfl, SqT.of ha, rfl, _, rfl, _, _, rfl, rfl, _, rfl, a, _, _, _, rfl, rfl, SqT.of ha, rfl, _, rfl, _, _, rfl, rfl, ?_⟩
    exact ⟨_, rfl, a, _, _, _, rfl, rfl, SqT.of ha, rfl, _, rfl, _, _, rfl, rfl, _, rfl, a, _, _, _, rfl, rfl, SqT.of ha, rfl, _, rfl, _, _, rfl, rfl, (by show 4 ≤ sizeLine; decide), k⟩
def spOverlap : Sp := fun vs H Q _ => ∃ (a b : Addr) (x y : Ar), vs = [.ref a, .ref b] ∧ H a = some (arT x) ∧ H b = some (arT y) ∧ ∀ p, H p = none → Q (.ref p) (upd H p (arT (Lr71.common x y)))
theorem ok_overlap (T : Txt K mg CO CD) (S : Src K mg "overlap" s_overlap ["one", "other"]) : Df P w K mg base 1 "overlap" ["one", "other"] spOverlap := by
  obtain ⟨f, fd, F, hm, hb⟩ := S.ex
  refine ⟨f, fd, F.ok sc_overlap (fun vs H Q E h => ?_) (fun cdv A outer s H vs Q E hr h => ⟨_, (pss_one (ps_ret (pe_tup (pa_cons (pe_callB (call_max2 rfl) (by rfl) T.b_max (by decide +kernel) (pa_cons (pe_ix ix_tup (pv 0) pe_int (fun _ _ => rfl)) (pa_cons (pe_ix ix_tup (pv 1) pe_int (fun _ _ => rfl)) pa_nil))) (pa_cons (pe_callB (call_min2 rfl) (by rfl) T.b_min (by decide +kernel) (pa_cons (pe_ix ix_tup (pv 0) pe_int (fun _ _ => rfl)) (pa_cons (pe_ix ix_tup (pv 1) pe_int (fun _ _ => rfl)) pa_nil))) (pa_cons (pe_callB (call_max2 rfl) (by rfl) T.b_max (by decide +kernel) (pa_cons (pe_ix ix_tup (pv 0) pe_int (fun _ _ => rfl)) (pa_cons (pe_ix ix_tup (pv 1) pe_int (fun _ _ => rfl)) pa_nil))) (pa_cons (pe_callB (call_min2 rfl) (by rfl) T.b_min (by decide +kernel) (pa_cons (pe_ix ix_tup (pv 0) pe_int (fun _ _ => rfl)) (pa_cons (pe_ix ix_tup (pv 1) pe_int (fun _ _ => rfl)) pa_nil))) pa_nil))))))), ?_⟩), hm, F.kp, hb⟩
  · obtain ⟨a, b, x, y, rfl, _⟩ := h
    rfl
  · obtain ⟨a, b, x, y, rfl, ha, hb, k⟩ := h
    refine ⟨_, rfl, a, _, _, _, rfl, rfl, SqT.of ha, rfl, _, rfl, b, _, _, _, rfl, rfl, SqT.of hb, rfl, _, _, rfl, ?_⟩
    refine ⟨_, rfl, a, _, _, _, rfl, rfl, SqT.of ha, rfl, _, rfl, b, _, _, _, rfl, rfl, SqT.of hb, rfl, _, _, rfl, ?_⟩
    refine ⟨_, rfl, a, _, _, _, rfl, rfl, SqT.of ha, rfl, _, rfl, b, _, _, _, rfl, rfl, SqT.of hb, rfl, _, _, rfl, ?_⟩
    refine ⟨_, rfl, a, _, _, _, rfl, rfl, SqT.of ha, rfl, _, rfl, b, _, _, _, rfl, rfl, SqT.of hb, rfl, _, _, rfl, (by show 4 ≤ sizeLine; decide), fun p hp => ?_⟩
    rw [max_if, min_if, max_if, min_if]
    exact k p hp
def spJointOut (CO : Addr) : Sp := fun vs H Q _ => ∃ (u v : V) (x y : Su), vs = [u, v] ∧ OutAt CO H x u ∧ OutAt CO H y v ∧ ∀ H' r, Same H H' → OutAt CO H' (Lr72.joined x y) r → Q r H'
theorem ok_joint_outcome (T : Txt K mg CO CD) (S : Src K mg "joint_outcome" s_joint_outcome ["first", "second"]) (d_distance : Df P w K mg base 2 "distance" ["one", "other"] spDistance) (d_overlap : Df P w K mg base 1 "overlap" ["one", "other"] spOverlap)
    (d_widened : Df P w K mg base 1 "widened" ["area", "length"] spWidened) (d_Outcome_init : Cm P w K mg base 1 "Outcome" CO ["self", "time", "wire", "area"] (spOInit CO)) : Df P w K mg base 3 "joint_outcome" ["first", "second"] (spJointOut CO) := by
  obtain ⟨f, fd, F, hm, hb⟩ := S.ex
  refine ⟨f, fd, F.ok (k := 2) sc_joint_outcome (fun vs H Q E h => ?_) (fun cdv A outer s H vs Q E hr h => ⟨_, (pss_cons (ps_set (i := 2) sc_joint_outcome.nd rfl (Or.inl rfl) (pe_op op_fdiv (pe_op op_add (pe_op op_add (pe_fld (pv 0) rfl) (pe_fld (pv 1) rfl)) (pe_df d_distance (hr.mono (by decide)) (by rfl) (pa_cons (pe_fld (pv 0) rfl) (pa_cons (pe_fld (pv 1) rfl) pa_nil)))) pe_int))
      (pss_cons (ps_set (i := 3) sc_joint_outcome.nd rfl (Or.inl rfl) (pe_callB (call_max3Nu rfl) (by rfl) T.b_max (by decide +kernel) (pa_cons (pe_fld (pv 0) rfl) (pa_cons (pe_fld (pv 1) rfl) (pa_cons (pv 2) pa_nil)))))
      (pss_cons (ps_set (i := 4) sc_joint_outcome.nd rfl (Or.inl rfl) (pe_op op_sub (pv 3) (pe_fld (pv 0) rfl)))
      (pss_cons (ps_set (i := 5) sc_joint_outcome.nd rfl (Or.inl rfl) (pe_op op_sub (pv 3) (pe_fld (pv 1) rfl)))
      (pss_cons (ps_set (i := 6) sc_joint_outcome.nd rfl (Or.inl rfl) (pe_df d_overlap (hr.mono (by decide)) (by rfl) (pa_cons (pe_df d_widened (hr.mono (by decide)) (by rfl) (pa_cons (pe_fld (pv 0) rfl) (pa_cons (pv 4) pa_nil))) (pa_cons (pe_df d_widened (hr.mono (by decide)) (by rfl) (pa_cons (pe_fld (pv 1) rfl) (pa_cons (pv 5) pa_nil))) pa_nil))))
      (pss_one (ps_ret (pe_mkO d_Outcome_init (hr.mono (by decide)) (by rfl) (pa_cons (pv 3) (pa_cons (pe_op op_add (pe_op op_add (pe_op op_add (pe_fld (pv 0) rfl) (pe_fld (pv 1) rfl)) (pv 4)) (pv 5)) (pa_cons (pv 6) pa_nil))))))))))), ?_⟩), hm, F.kp, hb⟩
  · obtain ⟨u, v, x, y, rfl, _⟩ := h
    rfl
  · obtain ⟨u, v, x, y, rfl, ⟨a, da, pa, rfl, ha, hpa⟩, ⟨b, db, pb, rfl, hb', hpb⟩, k⟩ := h
    -- half
    refine ⟨_, rfl, a, CO, da, _, _, rfl, ha, T.c_CO, T.n_CO_time, out_time x pa, _, rfl, b, CO, db, _, _, rfl, hb', T.c_CO, T.n_CO_time, out_time y pb, _, _, rfl, rfl, ?_⟩
    refine ⟨_, rfl, a, CO, da, _, _, rfl, ha, T.c_CO, T.n_CO_area, out_area x pa, _, rfl, b, CO, db, _, _, rfl, hb', T.c_CO, T.n_CO_area, out_area y pb, pa, pb, _, _, rfl, hpa, hpb, _, _, rfl, rfl, _, _, rfl, rfl, ⟨by decide, by decide⟩, ?_⟩
    -- time
    refine ⟨_, rfl, a, CO, da, _, _, rfl, ha, T.c_CO, T.n_CO_time, out_time x pa, _, rfl, b, CO, db, _, _, rfl, hb', T.c_CO, T.n_CO_time, out_time y pb, _, rfl, _, _, _, .int (Lr72.joinTime x y), rfl, max3_nu _ _ _, ?_⟩
    -- the wires
    refine ⟨_, rfl, _, rfl, a, CO, da, _, _, rfl, ha, T.c_CO, T.n_CO_time, out_time x pa, _, _, rfl, rfl, ?_⟩
    refine ⟨_, rfl, _, rfl, b, CO, db, _, _, rfl, hb', T.c_CO, T.n_CO_time, out_time y pb, _, _, rfl, rfl, ?_⟩
    -- the area
    refine ⟨_, rfl, a, CO, da, _, _, rfl, ha, T.c_CO, T.n_CO_area, out_area x pa, _, rfl, pa, x.area, _, rfl, hpa, fun q1 hq1 => ?_⟩
    have s1 : Same H (upd H q1 (arT (Lr71.grown x.area (Lr72.joinTime x y - x.time)))) := same_upd hq1
    have hq1' : upd H q1 (arT (Lr71.grown x.area (Lr72.joinTime x y - x.time))) q1 = some (arT (Lr71.grown x.area (Lr72.joinTime x y - x.time))) := upd_same
    generalize upd H q1 (arT (Lr71.grown x.area (Lr72.joinTime x y - x.time))) = H1 at s1 hq1'
    refine ⟨_, rfl, b, CO, db, _, _, rfl, s1 _ _ hb', T.c_CO, T.n_CO_area, out_area y pb, _, rfl, pb, y.area, _, rfl, s1 _ _ hpb, fun q2 hq2 => ?_⟩
    have s2 : Same H1 (upd H1 q2 (arT (Lr71.grown y.area (Lr72.joinTime x y - y.time)))) := same_upd hq2
    have hq2' : upd H1 q2 (arT (Lr71.grown y.area (Lr72.joinTime x y - y.time))) q2 = some (arT (Lr71.grown y.area (Lr72.joinTime x y - y.time))) := upd_same
    generalize upd H1 q2 (arT (Lr71.grown y.area (Lr72.joinTime x y - y.time))) = H2 at s2 hq2'
    refine ⟨q1, q2, _, _, rfl, s2 _ _ hq1', hq2', fun q3 hq3 => ?_⟩
    have s3 : Same H2 (upd H2 q3 (arT (Lr71.common (Lr71.grown x.area (Lr72.joinTime x y - x.time)) (Lr71.grown y.area (Lr72.joinTime x y - y.time))))) := same_upd hq3
    have hq3' : upd H2 q3 (arT (Lr71.common (Lr71.grown x.area (Lr72.joinTime x y - x.time)) (Lr71.grown y.area (Lr72.joinTime x y - y.time)))) q3 = some (arT (Lr72.joined x y).area) := upd_same
    have s13 : Same H (upd H2 q3 (arT (Lr71.common (Lr71.grown x.area (Lr72.joinTime x y - x.time)) (Lr71.grown y.area (Lr72.joinTime x y - y.time))))) := s1.trans (s2.trans s3)
    refine ⟨_, rfl, _, rfl, a, CO, da, _, _, rfl, s13 _ _ ha, T.c_CO, T.n_CO_wire, out_wire x pa, _, rfl, b, CO, db, _, _, rfl, s13 _ _ hb', T.c_CO, T.n_CO_wire, out_wire y pb, _, _, rfl, rfl, _, rfl, _, _, rfl, rfl, _, rfl, _, _, rfl, rfl, _, rfl, ?_⟩
    exact made_out (CO := CO) (S := Lr72.joined x y) hq3' (fun H' v s4 o => k H' v (s13.trans s4) o)
end
end Sm
/-! outcomes: what each of a tree's nodes comes to. -/
namespace Sm
open PySem PySem.Spec PyProof.Rows L2
/-- all but the object at d stays -/
def But (d : Addr) (H H' : Hp) : Prop := ∀ b o, H b = some o → b ≠ d → H' b = some o
theorem But.upd {d : Addr} {H : Hp} {o : HO} : But d H (upd H d o) := fun b u e hb => (upd_ne hb).trans e
theorem but_of {H H' : Hp} (s : Same H H') (d : Addr) : But d H H' := fun b o e _ => s b o e
theorem But.trans {d : Addr} {H H1 H2 : Hp} (a : But d H H1) (b : But d H1 H2) : But d H H2 := fun c o e h => b c o (a c o e h) h
/-- d was not there -/
theorem But.same {d : Addr} {H H' : Hp} (b : But d H H') (n : H d = none) : Same H H' := fun c o e => b c o e (ne_of_none e n)
theorem But.tups {d : Addr} {H H' : Hp} (b : But d H H') (h : ∀ xs, H d ≠ some (.tup xs)) : ∀ c xs, H c = some (.tup xs) → H' c = some (.tup xs) := fun c xs e => b c _ e fun z => h xs (z ▸ e)
theorem RefT.but {α : Type} {f : α → HO} {d : Addr} {H H' : Hp} {us : List V} (b : But d H H') (hd : H d = some (.lst us)) (hf : ∀ x xs, f x ≠ .lst xs) {x : α} {v : V} (h : RefT f H x v) : RefT f H' x v := by
  obtain ⟨l, e, k⟩ := h
  exact ⟨l, e, b _ _ k (ne_of k hd (hf x us))⟩
theorem OutAt.but {C d : Addr} {H H' : Hp} {us : List V} (b : But d H H') (hd : H d = some (.lst us)) {S : Su} {v : V} (h : OutAt C H S v) : OutAt C H' S v := by
  obtain ⟨a, dx, p, e, h1, h2⟩ := h
  exact ⟨a, dx, p, e, b _ _ h1 (ne_of h1 hd fun z => by cases z), b _ _ h2 (ne_of h2 hd fun z => by cases z)⟩
/-- one more in a list -/
theorem ls_snoc {α : Type} {R : Hp → α → V → Prop} {H : Hp} {d : Addr} {us : List V} {xs : List α} {x : α} {v : V} (hd : H d = some (.lst us)) (r : Rel2 (R H) xs us) (q : R H x v) (k : ∀ H' y u, But d H H' → R H y u → R H' y u) :
    Rel2 (R (upd H d (.lst (us ++ [v])))) (xs ++ [x]) (us ++ [v]) := (r.snoc q).mono fun y u z => k _ y u But.upd z
def sums (ls : List Lf) (t : Tr) : List Su := (nodes ls.length t).map (Lr72.sum ls)
theorem sums_len (ls : List Lf) (t : Tr) : (sums ls t).length = ls.length + jc t := by
  unfold sums
  rw [List.length_map, nodes_len]
theorem take_snoc {α : Type} {l : List α} {i : Nat} {x : α} (h : l[i]? = some x) : l.take (i + 1) = l.take i ++ [x] := by
  rw [List.take_add_one, h] <;> rfl
theorem sums_leaves (ls : List Lf) (t : Tr) : (sums ls t).take ls.length = ls.map Lr72.leafSum := by
  unfold sums nodes
  rw [List.map_append, List.take_append_of_le_length (by simp), List.take_of_length_le (by simp), List.map_map]
  apply List.ext_getElem?
  intro i
  rw [List.getElem?_map, List.getElem?_map]
  by_cases h : i < ls.length
  · rw [List.getElem?_range h, List.getElem?_eq_getElem h]
    show some (Lr72.sum ls (.leaf i)) = some _
    unfold Lr72.sum
    rw [List.getElem?_eq_getElem h]
  · rw [List.getElem?_eq_none (by simpa using h), List.getElem?_eq_none (by simpa using h)] <;> rfl
theorem sums_at {ls : List Lf} {t : Tr} {i : Nat} {x : Tr} (h : (nodes ls.length t)[i]? = some x) : (sums ls t)[i]? = some (Lr72.sum ls x) := by
  unfold sums
  rw [List.getElem?_map, h] <;> rfl
section
variable {P : Program} {w : World} {K : PySem.W.Frag} {mg : Str → Option Value} {base : Heap} {CO CD : Addr}
def spOutcomes (CO : Addr) : Sp := fun vs H Q _ => ∃ (aL aP : Addr) (ls : List Lf) (t : Tr), vs = [.ref aL, .ref aP] ∧ LvAt H aL ls ∧ PrAt H aP (prs t ls.length) ∧ Over ls.length t ∧ ls.length ≤ 8 ∧
  ∀ H' p, Same H H' → H p = none → OsAt CO H' p (sums ls t) → Q (.ref p) H'
theorem ok_outcomes (T : Txt K mg CO CD) (S : Src K mg "outcomes" s_outcomes ["leaves", "pairs"]) (d_leaf_outcome : Df P w K mg base 3 "leaf_outcome" ["leaf"] (spLeafOut CO)) (d_joint_outcome : Df P w K mg base 3 "joint_outcome" ["first", "second"] (spJointOut CO)) :
    Df P w K mg base 4 "outcomes" ["leaves", "pairs"] (spOutcomes CO) := by
  obtain ⟨f, fd, F, hm, hb⟩ := S.ex
  refine ⟨f, fd, F.ok (k := 3) sc_outcomes (fun vs H Q E h => ?_) (fun cdv A outer s H vs Q E hr h => ⟨_, (pss_cons (ps_setLc (i := 2) (own := [("leaf", 4)]) (tt := tYes) (by rfl) sc_outcomes.nd rfl rfl (sw_true rfl rfl rfl (by decide +kernel)) (pi_list (pv 0)) (blkOk_by (own := [("leaf", 4)]) (N := ["leaves", "pairs", "found", "pair", "leaf"]) (sc := defScope s_outcomes) (by decide +kernel)) (fun _ _ _ _ _ => (pg_name (i := 4) sc_outcomes.nd rfl (Or.inl rfl) (Or.inr rfl))) (fun _ _ _ _ _ => pts_nil) (fun _ _ _ _ _ => (pe_df d_leaf_outcome (hr.mono (by decide)) (by rfl) (pa_cons (pv 4) pa_nil))))
      (pss_cons (ps_for PassesOwn.never rfl (pi_list (pv 1)) (pg_name (i := 3) sc_outcomes.nd rfl (Or.inl rfl)) (pss_one (ps_expr (pe_bm PySem.F.plainAttrs_list PySem.F.slot_list_append PySem.F.type_list_append mt_append (pv 2) (pa_cons (pe_df d_joint_outcome (hr.mono (by decide)) (by rfl) (pa_cons (pe_ix ix_list (pv 2) (pe_ix ix_tup (pv 3) pe_int (fun _ _ => rfl)) (fun _ _ => rfl)) (pa_cons (pe_ix ix_list (pv 2) (pe_ix ix_tup (pv 3) pe_int (fun _ _ => rfl)) (fun _ _ => rfl)) pa_nil))) pa_nil)))))
      (pss_one (ps_ret (pv 2))))), ?_⟩), hm, F.kp, hb⟩
  · obtain ⟨_, _, _, _, rfl, _⟩ := h
    rfl
  · obtain ⟨aL, aP, ls, t, rfl, ⟨vsL, hL, rL⟩, ⟨vsP, hP, rP⟩, ov, h8, k⟩ := h
    have hn := ov.jc
    refine ⟨_, rfl, aL, rfl, ⟨_, SqL.of hL⟩, fun D hD => lc_list (K := K) (a := aL) (xs := vsL) (fun i H' => Same H H' ∧ ∃ us, H' D = some (.lst us) ∧ Rel2 (OutAt CO H') ((ls.take i).map Lr72.leafSum) us) ?_ ?_ ?_ ?_⟩
    · exact ⟨same_upd hD, [], upd_same, Rel2.nil⟩
    · rintro i H' _ ⟨s, _⟩
      exact SqL.of (s _ _ hL)
    · rintro i x H' hx ⟨s, us, hus, r⟩
      obtain ⟨lf, hlf, l, rfl, hl⟩ := rL.back hx
      have li : i < ls.length := (List.getElem?_eq_some_iff.mp hlf).1
      refine ⟨rfl, _, rfl, l, lf, rfl, s _ _ hl, fun H2 v s2 o => ?_⟩
      have hus2 := s2 _ _ hus
      have hsz : us.length ≤ 8 := by
        rw [r.1, List.length_map, List.length_take]
        omega
      refine ⟨us, hus2, Nat.lt_of_le_of_lt hsz (by decide), ((but_of (s.trans s2) D).trans But.upd).same hD, _, upd_same, ?_⟩
      rw [take_snoc hlf, List.map_append]
      exact ls_snoc (R := OutAt CO) hus2 (r.mono fun y u z => z.same s2) o fun H' y u b z => z.but b hus2
    · rintro H1 ⟨s1, us, hus, r⟩
      rw [rL.1, List.take_length, ← sums_leaves ls t] at r
      refine ⟨_, rfl, aP, rfl, ⟨_, SqL.of (s1 _ _ hP)⟩, for_list (K := K) (a := aP) (xs := vsP) (fun i σ H' => ∃ pv, σ = [some (.ref aL), some (.ref aP), some (.ref D), pv, none] ∧ Same H H' ∧ ∃ us, H' D = some (.lst us) ∧ Rel2 (OutAt CO H') ((sums ls t).take (ls.length + i)) us) ?_ ?_ ?_ ?_⟩
      · exact ⟨none, rfl, s1, us, hus, r⟩
      · rintro i σ H' _ ⟨_, _, s, _⟩
        exact SqL.of (s _ _ hP)
      · rintro i x σ H' hx ⟨pv, rfl, s, us, hus, r⟩
        obtain ⟨⟨a, b⟩, hab, l, rfl, hl⟩ := rP.back hx
        obtain ⟨u, v, e1, e2, e3, _, la, lb⟩ := ov.stands.pair hab
        have ea : ((sums ls t).take (ls.length + i))[a]? = some (Lr72.sum ls u) := by rw [List.getElem?_take_of_lt la]; exact sums_at e1
        have eb : ((sums ls t).take (ls.length + i))[b]? = some (Lr72.sum ls v) := by rw [List.getElem?_take_of_lt lb]; exact sums_at e2
        obtain ⟨va, ga, oa⟩ := r.2 a _ ea
        obtain ⟨vb, gb, ob⟩ := r.2 b _ eb
        have hl' := s _ _ hl
        refine ⟨_, rfl, .inl ⟨rfl, _, SqL.of hus⟩, _, rfl, _, rfl, l, _, _, _, rfl, rfl, SqT.of hl', rfl, D, _, _, _, rfl, rfl, SqL.of hus, atI_nat ga, ?_⟩
        refine ⟨_, rfl, _, rfl, l, _, _, _, rfl, rfl, SqT.of hl', rfl, D, _, _, _, rfl, rfl, SqL.of hus, atI_nat gb, ?_⟩
        refine ⟨va, vb, _, _, rfl, oa, ob, fun H2 r2 s2 o2 => ?_⟩
        have hus2 := s2 _ _ hus
        have hsz : us.length ≤ 16 := by
          rw [r.1, List.length_take, sums_len]
          omega
        refine ⟨D, us, _, rfl, rfl, hus2, Nat.lt_of_le_of_lt hsz (by decide), ?_⟩
        refine ⟨_, rfl, ((but_of (s.trans s2) D).trans But.upd).same hD, _, upd_same, ?_⟩
        rw [← Nat.add_assoc, take_snoc (sums_at e3)]
        exact ls_snoc (R := OutAt CO) hus2 (r.mono fun y u z => z.same s2) o2 fun H' y u b z => z.but b hus2
      · rintro σ H' ⟨pv, rfl, s, us, hus, r⟩
        rw [rP.1, prs_len, ← sums_len ls t, List.take_length] at r
        exact ⟨_, rfl, k H' D s hD ⟨us, hus, r⟩⟩
end
end Sm
/-! Shapes told by pairs. -/
namespace Sm
open PySem PySem.Spec PyProof.Rows L2
theorem ite_b {c : Bool} {A B : Prop} (h1 : c = true → A) (h2 : c = false → B) : if c = true then A else B := by
  cases c with
  | true => rw [if_pos rfl]; exact h1 rfl
  | false => rw [if_neg Bool.false_ne_true]; exact h2 rfl
theorem nd_true {p : Prop} [Decidable p] (h : (!decide p) = true) : ¬ p := fun hp => by
  rw [decide_eq_true hp] at h
  cases h
theorem nd_false {p : Prop} [Decidable p] (h : (!decide p) = false) : p := Decidable.byContradiction fun hp => by
  rw [decide_eq_false hp] at h
  cases h
abbrev natV (l : List Nat) : List V := l.map fun (k : Nat) => V.int (k : Int)
theorem natV_at {l : List Nat} {i k : Nat} (h : l[i]? = some k) : (natV l)[i]? = some (.int k) := by rw [List.getElem?_map, h] <;> rfl
theorem rgc2 (m : Nat) (h : m ≤ 1000) : RgC 0 ((2 * m : Nat) : Int) 2 m := by
  have e : Builtin.Range.rangeSize 0 ((2 * m : Nat) : Int) 2 = m := by
    unfold Builtin.Range.rangeSize
    rw [if_pos (by decide)]
    split <;> omega
  refine ⟨by decide, by decide, ?_, e⟩
  unfold Builtin.Range.small
  rw [e]
  have hj : 0 ≤ ((2 * m : Nat) : Int) ∧ ((2 * m : Nat) : Int) ≤ 4000 := by omega
  have hm : 0 ≤ (m : Int) ∧ (m : Int) ≤ 1000 := by omega
  generalize ((2 * m : Nat) : Int) = j at hj
  generalize (m : Int) = i at hm
  simp only [Builtin.Range.rangeFitsLong, Bool.and_eq_true, Bool.or_eq_true, decide_eq_true_eq, beq_iff_eq, show (2 : Int) > 0 by decide, if_true]
  omega
theorem rgc4 (m : Nat) (h : m ≤ 1000) : RgC 0 ((4 * m : Nat) : Int) 4 m := by
  have e : Builtin.Range.rangeSize 0 ((4 * m : Nat) : Int) 4 = m := by
    unfold Builtin.Range.rangeSize
    rw [if_pos (by decide)]
    split <;> omega
  refine ⟨by decide, by decide, ?_, e⟩
  unfold Builtin.Range.small
  rw [e]
  have hj : 0 ≤ ((4 * m : Nat) : Int) ∧ ((4 * m : Nat) : Int) ≤ 4000 := by omega
  have hm : 0 ≤ (m : Int) ∧ (m : Int) ≤ 1000 := by omega
  generalize ((4 * m : Nat) : Int) = j at hj
  generalize (m : Int) = i at hm
  simp only [Builtin.Range.rangeFitsLong, Bool.and_eq_true, Bool.or_eq_true, decide_eq_true_eq, beq_iff_eq, show (4 : Int) > 0 by decide, if_true]
  omega
theorem inV_nat (l : List Nat) (k : Nat) : inV (.int k) (natV l) = l.contains k := by
  unfold inV
  rw [Bool.eq_iff_iff, List.any_eq_true, List.contains_iff_mem]
  constructor
  · rintro ⟨v, hv, e⟩
    obtain ⟨j, hj, rfl⟩ := List.mem_map.mp hv
    have e : ((j : Int) == (k : Int)) = true := e
    have : j = k := Int.ofNat.inj (eq_of_beq e)
    exact this ▸ hj
  · intro h
    exact ⟨.int k, List.mem_map.mpr ⟨k, h, rfl⟩, show ((k : Int) == (k : Int)) = true from beq_self_eq_true _⟩
theorem flat_nat (l : List Nat) : (natV l).all flatV = true := List.all_eq_true.mpr fun v hv => by
  obtain ⟨j, _, rfl⟩ := List.mem_map.mp hv
  rfl
theorem cutV_pre {l : List Nat} {i : Nat} (h : i ≤ l.length) : cutV (natV l) none (some (i : Int)) = natV (l.take i) := by
  unfold cutV
  rw [HT.sIx_none, HT.sIx_nat, List.length_map, Nat.min_eq_left h, List.drop_zero, Nat.sub_zero]
  exact List.map_take.symm
/-- a for over enumerate(list) -/
theorem for_enum {K : PySem.W.Frag} {a : Addr} {xs : List V} {g : TG} {tb : TS} {D : Ends} {σ : L2.St} {H : Hp} (Pv : Nat → L2.St → Hp → Prop) (h0 : Pv 0 σ H) (hl : ∀ i σ H, i ≤ xs.length → Pv i σ H → SqL K H a xs)
    (hs : ∀ (i : Nat) (y : V) (q : Addr) (σ : L2.St) (H : Hp), xs[i]? = some y → Pv i σ H → H q = none → g (.ref q) σ (upd H q (.tup [.int (i : Int), y])) fun σ2 H2 => tb { D with nx := Pv (i + 1), ct := Pv (i + 1), bk := D.nx } σ2 H2) (hd : ∀ σ H, Pv xs.length σ H → D.nx σ H) :
    ∃ W : Nat → Nat → L2.St → Hp → Prop, (∃ m, W 0 m σ H) ∧ ∀ i m σ H, W i m σ H →
      ((Ite K a).stop i H ∧ D.nx σ H) ∨ ((Ite K a).go i H ∧ ∃ N : L2.St → Hp → Prop, (∀ σ' H', N σ' H' → ∃ m', m' < m ∧ W (i + 1) m' σ' H') ∧ ∀ x H', (Ite K a).yld i H x H' → g x σ H' fun σ2 H2 => tb { D with nx := N, ct := N, bk := D.nx } σ2 H2) :=
  for_it (walk_enum (K := K) (a := a) (xs := xs)) Pv h0 hl (fun i x σ H H' hi p y => by
    obtain ⟨q, x1, y1, rfl, hq, rfl, e1, e2⟩ := y
    have e1 : x1 = .int (i : Int) := (Option.some.inj e1).symm
    subst e1
    exact hs i y1 q σ H e2 p hq) hd
abbrev s_is_shape : Stmt := topS 1
theorem sc_is_shape : FnScope ["n", "numbers", "place", "number", "made"] ["n", "numbers"] (defScope s_is_shape) := ⟨rfl, rfl, rfl, by decide +kernel, rfl, by decide +kernel, by decide +kernel⟩
abbrev s_shape_of_pairs : Stmt := topS 2
theorem sc_shape_of_pairs : FnScope ["n", "numbers", "made", "place"] ["n", "numbers"] (defScope s_shape_of_pairs) := ⟨rfl, rfl, rfl, by decide +kernel, rfl, by decide +kernel, by decide +kernel⟩
abbrev s_gather : Stmt := topS 3
theorem sc_gather : FnScope ["n", "shape", "pairs", "first", "second"] ["n", "shape", "pairs"] (defScope s_gather) := ⟨rfl, rfl, rfl, by decide +kernel, rfl, by decide +kernel, by decide +kernel⟩
abbrev s_ordered_pairs : Stmt := topS 4
theorem sc_ordered_pairs : FnScope ["n", "shape", "pairs"] ["n", "shape"] (defScope s_ordered_pairs) := ⟨rfl, rfl, rfl, by decide +kernel, rfl, by decide +kernel, by decide +kernel⟩
section
variable {P : Program} {w : World} {K : PySem.W.Frag} {mg : Str → Option Value} {base : Heap} {CO CD : Addr}
def spIsShape (K : PySem.W.Frag) : Sp := fun vs H Q _ => ∃ (n : Nat) (a : Addr) (l : List Nat), vs = [.int n, .ref a] ∧ SqL K H a (natV l) ∧ 0 < n ∧ l.length ≤ 20 ∧ ∀ H', Same H H' → Q (.bl (shapeOk n l)) H'
theorem ok_is_shape (T : Txt K mg CO CD) (S : Src K mg "is_shape" s_is_shape ["n", "numbers"]) : Df P w K mg base 1 "is_shape" ["n", "numbers"] (spIsShape K) := by
  obtain ⟨f, fd, F, hm, hb⟩ := S.ex
  refine ⟨f, fd, F.ok sc_is_shape (fun vs H Q E h => ?_) (fun cdv A outer s H vs Q E hr h => ⟨_, (pss_cons (ps_if (pt_cmpR op_ne (pe_callB call_len_seq (by rfl) T.b_len PySem.boot_len (pa_cons (pv 1) pa_nil)) (pe_op op_sub (pe_op op_mul pe_int (pv 0)) pe_int) (nomark _)) (pss_one (ps_ret pe_bl)) pss_nil)
      (pss_cons (ps_for PassesOwn.never rfl (pi_enum (by rfl) T.b_enumerate (pa_cons (pv 1) pa_nil)) (pg_tup rfl (pgs_cons (pg_name (i := 2) sc_is_shape.nd rfl (Or.inl rfl)) (pgs_cons (pg_name (i := 3) sc_is_shape.nd rfl (Or.inl rfl)) pgs_nil))) (pss_cons (ps_set (i := 4) sc_is_shape.nd rfl (Or.inl rfl) (pe_op op_add (pv 0) (pe_op op_fdiv (pv 2) pe_int)))
      (pss_one (ps_if (PW.pt (pw_or (pt_cmpR op_ge (pv 3) (pv 4) (nomark _)) (pw_or1 (pt_cmpR op_in_seq (pv 3) (pe_slice sl_list (pv 1) po_none (po_some (pv 2))) (by rfl))))) (pss_one (ps_ret pe_bl)) pss_nil))))
      (pss_one (ps_ret pe_bl)))), ?_⟩), hm, F.kp, hb⟩
  · obtain ⟨_, _, _, rfl, _⟩ := h
    rfl
  · obtain ⟨n, a, l, rfl, hS, hn, hl, k⟩ := h
    refine ⟨_, rfl, a, _, rfl, .inl hS, _, rfl, _, _, rfl, rfl, .inl ⟨by decide, by decide⟩, _, _, rfl, rfl, rfl, _, rfl, ?_⟩
    refine ite_b (fun c => ?_) (fun c => ?_)
    · have e : shapeOk n l = false := by
        unfold shapeOk
        rw [Bool.and_eq_false_iff]
        left
        have c := nd_true c
        refine decide_eq_false fun z => c ?_
        rw [List.length_map, z]
        congr 1
        omega
      have q := k H (Same.refl H)
      rw [e] at q
      exact q
    · have c := nd_false c
      have hlen : l.length = 2 * n - 2 := by
        have z := V.int.inj c
        rw [List.length_map] at z
        omega
      refine ⟨_, rfl, a, _, rfl, hS, for_enum (K := K) (a := a) (xs := natV l) (fun i σ H' => ∃ u v x, σ = [some (.int n), some (.ref a), u, v, x] ∧ Same H H' ∧ ∀ (j y : Nat), j < i → l[j]? = some y → y < n + j / 2 ∧ y ∉ l.take j) ?_ ?_ ?_ ?_⟩
      · exact ⟨none, none, none, rfl, Same.refl H, fun j y hj => absurd hj (by omega)⟩
      · rintro i σ H' _ ⟨_, _, _, _, s, _⟩
        exact s.seq hS
      · rintro i y1 Tt σ H' e2 ⟨u, v, z, rfl, s, hok⟩ hT
        have hi : i < l.length := by
          have := (List.getElem?_eq_some_iff.mp e2).1
          rw [List.length_map] at this
          exact this
        obtain ⟨y, hy⟩ : ∃ y, l[i]? = some y := ⟨_, List.getElem?_eq_getElem hi⟩
        rw [natV_at hy] at e2
        cases e2
        have s2 : Same H (upd H' Tt (.tup [.int (i : Int), .int (y : Int)])) := s.trans (same_upd hT)
        have hT2 : upd H' Tt (.tup [.int (i : Int), .int (y : Int)]) Tt = some (.tup [.int (i : Int), .int (y : Int)]) := upd_same
        generalize upd H' Tt (.tup [.int (i : Int), .int (y : Int)]) = H2 at s2 hT2
        refine ⟨Tt, _, rfl, SqT.of hT2, rfl, _, _, rfl, _, _, rfl, rfl, ?_⟩
        refine ⟨_, rfl, _, rfl, _, _, rfl, rfl, ⟨by decide, by decide⟩, _, _, rfl, rfl, ?_⟩
        -- number >= made
        refine ⟨_, rfl, _, rfl, _, _, rfl, rfl, _, rfl, ite_b (fun c => ?_) (fun c => ?_)⟩
        · have c := of_decide_eq_true c
          have e : shapeOk n l = false := by
            cases q : shapeOk n l with
            | false => rfl
            | true =>
              have := ((okFrom_iff l n []).mp (Bool.and_eq_true _ _ ▸ q).2 i y hy).1
              omega
          have q := k H2 s2
          rw [e] at q
          exact q
        · have c := of_decide_eq_false c
          refine ⟨_, rfl, _, rfl, _, rfl, _, rfl, a, _, rfl, s2.seq hS, fun p hp => ?_⟩
          have s3 : Same H (upd H2 p (.lst (cutV (natV l) none (some (i : Int))))) := s2.trans (same_upd hp)
          have hp3 : upd H2 p (.lst (cutV (natV l) none (some (i : Int)))) p = some (.lst (natV (l.take i))) := by rw [upd_same, cutV_pre (Nat.le_of_lt hi)]
          refine ⟨p, _, rfl, .inl (SqL.of hp3), rfl, flat_nat _, _, rfl, ite_b (fun c2 => ?_) (fun c2 => ?_)⟩
          · have c2 : inV (.int y) (natV (l.take i)) = true := c2
            rw [inV_nat, List.contains_iff_mem] at c2
            have e : shapeOk n l = false := by
              cases q : shapeOk n l with
              | false => rfl
              | true => exact absurd c2 ((okFrom_iff l n []).mp (Bool.and_eq_true _ _ ▸ q).2 i y hy).2.2
            have q := k _ s3
            rw [e] at q
            exact q
          · have c2 : inV (.int y) (natV (l.take i)) = false := c2
            rw [inV_nat] at c2
            refine ⟨_, _, _, rfl, s3, fun j x hj hx => ?_⟩
            by_cases ej : j = i
            · subst ej
              rw [hy] at hx
              cases hx
              refine ⟨?_, fun z => ?_⟩
              · have : ¬ ((n : Int) + (j : Int) / 2 ≤ (y : Int)) := c
                omega
              · rw [List.contains_iff_mem.mpr z] at c2
                cases c2
            · exact hok j x (by omega) hx
      · rintro σ H' ⟨_, _, _, rfl, s, hok⟩
        rw [List.length_map] at hok
        have e : shapeOk n l = true := by
          unfold shapeOk
          rw [Bool.and_eq_true, decide_eq_true_eq, okFrom_iff]
          refine ⟨hlen, fun i x hx => ?_⟩
          have := hok i x (List.getElem?_eq_some_iff.mp hx).1 hx
          exact ⟨this.1, by simp, this.2⟩
        have q := k H' s
        rw [e] at q
        exact q
theorem madeBy_snoc (a b : Nat) : ∀ (m : Nat) (l : List Nat) (made : List Tr), l.length = 2 * m → madeBy made (l ++ [a, b]) = madeBy made l ++ [.two ((madeBy made l).getD a (.leaf 0)) ((madeBy made l).getD b (.leaf 0))]
  | 0, l, made, h => by
    have e : l = [] := List.length_eq_zero_iff.mp (by omega)
    subst e
    rfl
  | m + 1, l, made, h => by
    match l, h with
    | x :: y :: l, h =>
      have h : l.length = 2 * m := by simp at h; omega
      exact madeBy_snoc a b m l _ h
theorem atI_end {xs : List V} {v : V} (h : xs[xs.length - 1]? = some v) : atI xs (-1) = some v := by
  have l := (List.getElem?_eq_some_iff.mp h).1
  have e : ixN xs.length (-1) = some (xs.length - 1) := by
    unfold ixN
    rw [if_neg (by decide), if_pos (by omega)]
    congr 1
    omega
  unfold atI
  rw [e]
  exact h
theorem rgV_shapes (H : Hp) (n : Nat) : Rel2 (fun t v => ShAt H v t) (leaves0 n) (rgV 0 (n : Int)) := by
  have e : ((n : Int) - 0).toNat = n := by omega
  refine ⟨by rw [rgV_length, e]; simp [leaves0], fun i x h => ?_⟩
  have hi : i < n := by
    have := (List.getElem?_eq_some_iff.mp h).1
    simpa [leaves0] using this
  have ex : x = .leaf i := by
    simp [leaves0, hi] at h
    exact h.symm
  subst ex
  refine ⟨.int (i : Int), ?_, .leaf i⟩
  unfold rgV
  rw [e, List.getElem?_map, List.getElem?_range hi]
  show some (V.int (0 + (i : Int))) = _
  rw [Int.zero_add]
def spShapeOf (K : PySem.W.Frag) : Sp := fun vs H Q _ => ∃ (n : Nat) (a : Addr) (l : List Nat) (t : Tr), vs = [.int n, .ref a] ∧ SqL K H a (natV l) ∧ 0 < n ∧ n ≤ 8 ∧ Lr72.treeOf n l = some t ∧ ∀ H' v, Same H H' → ShAt H' v t → Q v H'
theorem ok_shape_of_pairs (T : Txt K mg CO CD) (S : Src K mg "shape_of_pairs" s_shape_of_pairs ["n", "numbers"]) : Df P w K mg base 1 "shape_of_pairs" ["n", "numbers"] (spShapeOf K) := by
  obtain ⟨f, fd, F, hm, hb⟩ := S.ex
  refine ⟨f, fd, F.ok sc_shape_of_pairs (fun vs H Q E h => ?_) (fun cdv A outer s H vs Q E hr h => ⟨_, (pss_cons (ps_set (i := 2) sc_shape_of_pairs.nd rfl (Or.inl rfl) (pe_listRg rfl (by rfl) T.b_list (prg_1 (by rfl) T.b_range (pv 0))))
      (pss_cons (ps_for PassesOwn.never rfl (pi_range3 (by rfl) T.b_range (pa_cons pe_int (pa_cons (pe_callB call_len_seq (by rfl) T.b_len PySem.boot_len (pa_cons (pv 1) pa_nil)) (pa_cons pe_int pa_nil)))) (pg_name (i := 3) sc_shape_of_pairs.nd rfl (Or.inl rfl)) (pss_one (ps_expr (pe_bm PySem.F.plainAttrs_list PySem.F.slot_list_append PySem.F.type_list_append mt_append (pv 2) (pa_cons (pe_tup (pa_cons (pe_ix ix_list (pv 2) (pe_ix ix_list (pv 1) (pv 3) (fun _ _ => rfl)) (fun _ _ => rfl)) (pa_cons (pe_ix ix_list (pv 2) (pe_ix ix_list (pv 1) (pe_op op_add (pv 3) pe_int) (fun _ _ => rfl)) (fun _ _ => rfl)) pa_nil))) pa_nil)))))
      (pss_one (ps_ret (pe_ix ix_list (pv 2) (pe_un un_neg pe_int) (fun _ _ => rfl)))))), ?_⟩), hm, F.kp, hb⟩
  · obtain ⟨_, _, _, _, rfl, _⟩ := h
    rfl
  · obtain ⟨n, a, l, t, rfl, hS, hn, h8, ht, k⟩ := h
    rw [treeOf_is hn] at ht
    by_cases hok : shapeOk n l = true
    · rw [if_pos hok] at ht
      have hok2 := hok
      unfold shapeOk at hok2
      rw [Bool.and_eq_true, decide_eq_true_eq, okFrom_iff] at hok2
      obtain ⟨hlen, hall⟩ := hok2
      refine ⟨_, rfl, (n : Int), rfl, RgOk.of_le (by omega) (by omega) (by omega) (by omega), fun q hq => ?_⟩
      have s0 : Same H (upd H q (.lst (rgV 0 (n : Int)))) := same_upd hq
      have hq0 : upd H q (.lst (rgV 0 (n : Int))) q = some (.lst (rgV 0 (n : Int))) := upd_same
      generalize hH0 : upd H q (.lst (rgV 0 (n : Int))) = H0 at s0 hq0
      have hL : (natV l).length = 2 * (n - 1) := by rw [List.length_map, hlen]; omega
      have eL : (((natV l).length : Nat) : Int) = ((2 * (n - 1) : Nat) : Int) := by rw [hL]
      refine ⟨_, rfl, a, _, rfl, .inl (s0.seq hS), 0, _, 2, n - 1, rfl, eL ▸ rgc2 (n - 1) (by omega), for_rangeC (lo := 0) (c := 2) (n := n - 1) (fun i σ H' => ∃ u, σ = [some (.int n), some (.ref a), some (.ref q), u] ∧ Same H H' ∧ ∃ us, H' q = some (.lst us) ∧ Rel2 (fun t v => ShAt H' v t) (madeBy (leaves0 n) (l.take (2 * i))) us) ?_ ?_ ?_⟩
      · exact ⟨none, rfl, s0, _, hq0, rgV_shapes H0 n⟩
      · rintro i σ H' hi ⟨u, rfl, s, us, hus, r⟩
        have lm : (madeBy (leaves0 n) (l.take (2 * i))).length = n + i := by
          rw [madeBy_len, List.length_take, Nat.min_eq_left (by omega)]
          simp [leaves0]
        obtain ⟨x, hx⟩ : ∃ x, l[2 * i]? = some x := ⟨_, List.getElem?_eq_getElem (by omega)⟩
        obtain ⟨y, hy⟩ : ∃ y, l[2 * i + 1]? = some y := ⟨_, List.getElem?_eq_getElem (by omega)⟩
        have lx : x < n + i := by have := (hall _ _ hx).1; omega
        have ly : y < n + i := by have := (hall _ _ hy).1; omega
        obtain ⟨tx, htx⟩ : ∃ z, (madeBy (leaves0 n) (l.take (2 * i)))[x]? = some z := ⟨_, List.getElem?_eq_getElem (by omega)⟩
        obtain ⟨ty, hty⟩ : ∃ z, (madeBy (leaves0 n) (l.take (2 * i)))[y]? = some z := ⟨_, List.getElem?_eq_getElem (by omega)⟩
        obtain ⟨vx, gx, sx⟩ := r.2 _ _ htx
        obtain ⟨vy, gy, sy⟩ := r.2 _ _ hty
        have ei : (0 : Int) + (i : Nat) * 2 = ((2 * i : Nat) : Int) := by omega
        have ex : atI (natV l) (0 + (i : Nat) * 2) = some (.int x) := by rw [ei]; exact atI_nat (natV_at hx)
        have ey : atI (natV l) (0 + (i : Nat) * 2 + 1) = some (.int y) := by
          rw [ei, show ((2 * i : Nat) : Int) + 1 = ((2 * i + 1 : Nat) : Int) by omega]
          exact atI_nat (natV_at hy)
        refine ⟨_, rfl, .inl ⟨rfl, _, SqL.of hus⟩, _, rfl, _, rfl, _, rfl, a, _, _, _, rfl, rfl, s.seq hS, ex, q, _, _, _, rfl, rfl, SqL.of hus, atI_nat gx, ?_⟩
        refine ⟨_, rfl, _, rfl, _, rfl, _, _, rfl, rfl, a, _, _, _, rfl, rfl, s.seq hS, ey, q, _, _, _, rfl, rfl, SqL.of hus, atI_nat gy, (by show 2 ≤ sizeLine; decide), fun p hp => ?_⟩
        have s2 : Same H' (upd H' p (.tup [vx, vy])) := same_upd hp
        have hp2 : upd H' p (.tup [vx, vy]) p = some (.tup [vx, vy]) := upd_same
        have hus2 := s2 _ _ hus
        have tp2 : ∀ b ys, H' b = some (.tup ys) → upd H' p (.tup [vx, vy]) b = some (.tup ys) := fun b ys e => s2 _ _ e
        have sz : us.length ≤ 16 := by rw [r.1, lm]; omega
        refine ⟨q, us, _, rfl, rfl, hus2, Nat.lt_of_le_of_lt sz (by decide), ?_⟩
        refine ⟨_, rfl, ((but_of (s.trans s2) q).trans But.upd).same hq, _, upd_same, ?_⟩
        have em : l.take (2 * (i + 1)) = l.take (2 * i) ++ [x, y] := by
          rw [show 2 * (i + 1) = 2 * i + 1 + 1 by omega, take_snoc hy, take_snoc hx, List.append_assoc] <;> rfl
        rw [em, madeBy_snoc x y i _ _ (by rw [List.length_take]; omega), List.getD, List.getD, htx, hty]
        have b3 : ∀ b ys, upd H' p (.tup [vx, vy]) b = some (.tup ys) → upd (upd H' p (.tup [vx, vy])) q (.lst (us ++ [.ref p])) b = some (.tup ys) := But.upd.tups fun ys z => by rw [hus2] at z; cases z
        exact ((r.mono fun t v z => (z.same tp2).same b3).snoc (.two (b3 _ _ hp2) ((sx.same tp2).same b3) ((sy.same tp2).same b3)))
      · rintro σ H' ⟨u, rfl, s, us, hus, r⟩
        have el : l.take (2 * (n - 1)) = l := List.take_of_length_le (by omega)
        rw [el] at r
        obtain ⟨v, gv, sv⟩ := r.2 _ _ ht
        have lm : us.length = 2 * n - 1 := by
          rw [r.1, madeBy_len, hlen]
          simp [leaves0]
          omega
        exact ⟨_, rfl, _, rfl, q, _, _, _, rfl, rfl, SqL.of hus, atI_end (by rw [lm, show 2 * n - 1 - 1 = 2 * n - 2 by omega]; exact gv), k H' v s sv⟩
    · rw [if_neg hok] at ht
      cases ht
/-! ### the pairs in order -/
def spGather (d : Nat) : Sp := fun vs H Q _ => ∃ (n : Nat) (sh : V) (aP : Addr) (ps : List V) (t : Tr), vs = [.int n, sh, .ref aP] ∧ ShAt H sh t ∧ jc t < d ∧ H aP = some (.lst ps) ∧ ps.length + jc t ≤ 100 ∧
  ∀ H' us, But aP H H' → H' aP = some (.lst (ps ++ us)) → Rel2 (RefT prT H') (prs t (n + ps.length)) us → Q (.int (num t (n + ps.length) : Nat)) H'
theorem ty_int {K : PySem.W.Frag} {H : Hp} (i : Int) : TyX K H (.int i) (.type "int") := .base (.int i)
theorem ok_gather (T : Txt K mg CO CD) (S : Src K mg "gather" s_gather ["n", "shape", "pairs"]) : ∀ d : Nat, Df P w K mg base d "gather" ["n", "shape", "pairs"] (spGather d)
  | 0 => by
    obtain ⟨f, fd, F, hm, hb⟩ := S.ex
    refine ⟨f, fd, ⟨fun vs H Q E h => ?_, fun A outer s H args us vs Q E hr e0 hbi r h => ?_⟩, hm, F.kp, hb⟩
    · obtain ⟨_, _, _, _, _, _, _, z, _⟩ := h
      exact absurd z (Nat.not_lt_zero _)
    · obtain ⟨_, _, _, _, _, _, _, z, _⟩ := h
      exact absurd z (Nat.not_lt_zero _)
  | d + 1 => by
    have d_gather := ok_gather T S d
    obtain ⟨f, fd, F, hm, hb⟩ := S.ex
    refine ⟨f, fd, F.ok (k := d) sc_gather (fun vs H Q E h => ?_) (fun cdv A outer s H vs Q E hr h => ⟨_, (pss_cons (ps_if (pt_val (pe_callB call_isi (by rfl) T.b_isinstance (by decide +kernel) (pa_cons (pv 1) (pa_cons (pe_bltn (v := .ty "int") (by rfl) T.b_int (by decide +kernel) rfl) pa_nil)))) (pss_one (ps_ret (pv 1))) pss_nil)
      (pss_cons (ps_set (i := 3) sc_gather.nd rfl (Or.inl rfl) (pe_df d_gather (hr.mono (by omega)) (by rfl) (pa_cons (pv 0) (pa_cons (pe_ix ix_tup (pv 1) pe_int (fun _ _ => rfl)) (pa_cons (pv 2) pa_nil)))))
      (pss_cons (ps_set (i := 4) sc_gather.nd rfl (Or.inl rfl) (pe_df d_gather (hr.mono (by omega)) (by rfl) (pa_cons (pv 0) (pa_cons (pe_ix ix_tup (pv 1) pe_int (fun _ _ => rfl)) (pa_cons (pv 2) pa_nil)))))
      (pss_cons (ps_expr (pe_bm PySem.F.plainAttrs_list PySem.F.slot_list_append PySem.F.type_list_append mt_append (pv 2) (pa_cons (pe_tup (pa_cons (pv 3) (pa_cons (pv 4) pa_nil))) pa_nil)))
      (pss_one (ps_ret (pe_op op_sub (pe_op op_add (pv 0) (pe_callB call_len_seq (by rfl) T.b_len PySem.boot_len (pa_cons (pv 2) pa_nil))) pe_int))))))), ?_⟩), hm, F.kp, hb⟩
    · obtain ⟨_, _, _, _, _, rfl, _⟩ := h
      rfl
    · obtain ⟨n, sh, aP, ps, t, rfl, hsh, hd, hP, hsz, k⟩ := h
      cases hsh with
      | leaf j =>
        refine ⟨_, rfl, _, .ty "int", .type "int", .type "int", true, rfl, .ty "int", ty_int _, kit_ty (by decide +kernel), _, rfl, ?_⟩
        exact iteT ⟨_, rfl, k H [] (but_of (Same.refl H) aP) (by rw [List.append_nil]; exact hP) Rel2.nil⟩
      | @two a x y t u e h1 h2 =>
        have hd : jc t + jc u + 1 < d + 1 := hd
        have hsz : ps.length + (jc t + jc u + 1) ≤ 100 := hsz
        refine ⟨_, rfl, _, .ty "int", .type "tuple", .type "int", false, rfl, .ty "int", .base (.tup e), kit_ty (by decide +kernel), _, rfl, iteF ?_⟩
        refine ⟨_, rfl, _, rfl, a, _, _, _, rfl, rfl, SqT.of e, rfl, _, rfl, n, x, aP, ps, t, rfl, h1, by omega, hP, by omega, fun H1 us b1 hP1 r1 => ?_⟩
        have tp1 := b1.tups (fun xs z => by rw [hP] at z; cases z)
        have ll : us.length = jc t := by rw [r1.1, prs_len]
        refine ⟨_, rfl, _, rfl, a, _, _, _, rfl, rfl, SqT.of (tp1 _ _ e), rfl, _, rfl, n, y, aP, ps ++ us, u, rfl, h2.same tp1, by omega, hP1, by rw [List.length_append]; omega, fun H2 us2 b2 hP2 r2 => ?_⟩
        refine ⟨_, rfl, .inl ⟨rfl, _, SqL.of hP2⟩, _, rfl, _, rfl, (by show 2 ≤ sizeLine; decide), fun p hp => ?_⟩
        have ll2 : us2.length = jc u := by rw [r2.1, prs_len]
        have en : n + (ps ++ us).length = n + ps.length + jc t := by rw [List.length_append, ll]; omega
        rw [en] at r2
        have s3 : Same H2 (upd H2 p (.tup [.int (num t (n + ps.length) : Nat), .int (num u (n + (ps ++ us).length) : Nat)])) := same_upd hp
        have hp3 : upd H2 p (.tup [.int (num t (n + ps.length) : Nat), .int (num u (n + (ps ++ us).length) : Nat)]) p = some (prT (num t (n + ps.length), num u (n + ps.length + jc t))) := by rw [upd_same, en]
        have hP3 := s3 _ _ hP2
        refine ⟨aP, _, _, rfl, rfl, hP3, ?_, ?_⟩
        · have : (ps ++ us ++ us2).length ≤ 100 := by
            rw [List.length_append, List.length_append, ll, ll2]
            omega
          exact Nat.lt_of_le_of_lt this (by decide)
        · refine ⟨_, rfl, _, rfl, aP, _, rfl, .inl (SqL.of upd_same), _, _, rfl, rfl, _, _, rfl, rfl, ?_⟩
          have b3 : But aP H2 (upd (upd H2 p (.tup [.int (num t (n + ps.length) : Nat), .int (num u (n + (ps ++ us).length) : Nat)])) aP (.lst (ps ++ us ++ us2 ++ [.ref p]))) := (but_of s3 aP).trans But.upd
          have nf : ∀ (x : Nat × Nat) (xs : List V), prT x ≠ .lst xs := fun x xs z => by cases z
          have q := k _ (us ++ us2 ++ [.ref p]) ((b1.trans b2).trans b3) (by rw [upd_same, ← List.append_assoc, ← List.append_assoc]) (by
            show Rel2 _ (prs t (n + ps.length) ++ prs u (n + ps.length + jc t) ++ [(num t (n + ps.length), num u (n + ps.length + jc t))]) _
            refine (Rel2.append (r1.mono fun x v z => (z.but b2 hP1 nf).but b3 hP2 nf) (r2.mono fun x v z => z.but b3 hP2 nf)).snoc ?_
            exact ⟨p, rfl, (upd_ne (ne_of hp3 hP3 (nf _ _))).trans hp3⟩)
          have e1 : ((n : Int) + (((ps ++ us ++ us2 ++ [V.ref p]).length : Nat) : Int)) - 1 = ((num (.two t u) (n + ps.length) : Nat) : Int) := by
            show _ = ((n + ps.length + (jc t + jc u) : Nat) : Int)
            rw [List.length_append, List.length_append, List.length_append, ll, ll2]
            simp
            omega
          rw [← e1] at q
          exact q
def spOrdered : Sp := fun vs H Q _ => ∃ (n : Nat) (sh : V) (t : Tr), vs = [.int n, sh] ∧ ShAt H sh t ∧ jc t ≤ 8 ∧ ∀ H' p, Same H H' → H p = none → PrAt H' p (prs t n) → Q (.ref p) H'
theorem ok_ordered_pairs (T : Txt K mg CO CD) (S : Src K mg "ordered_pairs" s_ordered_pairs ["n", "shape"]) (d_gather : Df P w K mg base 9 "gather" ["n", "shape", "pairs"] (spGather 9)) : Df P w K mg base 10 "ordered_pairs" ["n", "shape"] spOrdered := by
  obtain ⟨f, fd, F, hm, hb⟩ := S.ex
  refine ⟨f, fd, F.ok (k := 9) sc_ordered_pairs (fun vs H Q E h => ?_) (fun cdv A outer s H vs Q E hr h => ⟨_, (pss_cons (ps_set (i := 2) sc_ordered_pairs.nd rfl (Or.inl rfl) (pe_lst pa_nil))
      (pss_cons (ps_expr (pe_df d_gather (hr.mono (by decide)) (by rfl) (pa_cons (pv 0) (pa_cons (pv 1) (pa_cons (pv 2) pa_nil)))))
      (pss_one (ps_ret (pv 2))))), ?_⟩), hm, F.kp, hb⟩
  · obtain ⟨_, _, _, rfl, _⟩ := h
    rfl
  · obtain ⟨n, sh, t, rfl, hsh, h8, k⟩ := h
    refine ⟨(by show 0 ≤ sizeLine; decide), fun q hq => ?_⟩
    have s0 : Same H (upd H q (.lst [])) := same_upd hq
    refine ⟨_, rfl, _, rfl, _, rfl, n, sh, q, [], t, rfl, hsh.same (fun b xs e => s0 _ _ e), by omega, upd_same, by simp; omega, fun H' us b hus r => ?_⟩
    exact ⟨_, rfl, k H' q (((but_of s0 q).trans b).same hq) hq ⟨us, by rw [hus]; simp, r⟩⟩
end
end Sm
/-! All shapes. -/
namespace Sm
open PySem PySem.Spec PyProof.Rows L2
def WayAt (H : Hp) (x : Way) (v : V) : Prop := ∃ a b c, v = .ref a ∧ H a = some (.tup [.ref b, .ref c]) ∧ H b = some (.tup (natV x.1)) ∧ H c = some (.tup (natV x.2))
theorem WayAt.same {H H' : Hp} {x : Way} {v : V} (h : WayAt H x v) (s : ∀ b ys, H b = some (.tup ys) → H' b = some (.tup ys)) : WayAt H' x v := let ⟨a, b, c, e, h1, h2, h3⟩ := h; ⟨a, b, c, e, s _ _ h1, s _ _ h2, s _ _ h3⟩
theorem new_k {H : Hp} {o : HO} {Q : VK} (h : ∀ p H', H p = none → Same H H' → H' p = some o → Q (.ref p) H') : ∀ p, H p = none → Q (.ref p) (upd H p o) := fun p hp => h p _ hp (same_upd hp) upd_same
theorem cut1_pre (k : Nat) (l : List Nat) : cutV (natV (k :: l)) none (some 1) = natV [k] := by
  have h := cutV_pre (l := k :: l) (i := 1) (by simp)
  exact h
theorem cut1_suf (xs : List V) : cutV xs (some 1) none = xs.drop 1 := by
  unfold cutV
  rw [HT.sIx_none, show (some (1 : Int)) = some ((1 : Nat) : Int) from rfl, HT.sIx_nat]
  cases xs with
  | nil => rfl
  | cons a r =>
    rw [Nat.min_eq_left (by simp)]
    exact List.take_of_length_le (by simp)
theorem stepW_len (w : List Way) (m : Nat) : (stepW w m).length = 2 * w.length := by
  unfold stepW
  rw [List.length_append, List.length_map, List.length_map]
  omega
theorem fold_len : ∀ (l : List Nat) (w : List Way), (l.foldl stepW w).length = 2 ^ l.length * w.length
  | [], w => by simp
  | m :: l, w => by
    show (l.foldl stepW (stepW w m)).length = 2 ^ (l.length + 1) * w.length
    rw [fold_len l, stepW_len, Nat.pow_succ, Nat.mul_assoc]
theorem ne_lst {H : Hp} {d : Addr} {us : List V} (h : H d = some (.lst us)) : ∀ xs, H d ≠ some (.tup xs) := fun xs z => by rw [h] at z; cases z
abbrev s_splits : Stmt := topS 5
theorem sc_splits : FnScope ["members", "ways", "member", "to_first", "to_second", "first", "second"] ["members"] (defScope s_splits) := ⟨rfl, rfl, rfl, by decide +kernel, rfl, by decide +kernel, by decide +kernel⟩
section
variable {P : Program} {w : World} {K : PySem.W.Frag} {mg : Str → Option Value} {base : Heap} {CO CD : Addr}
def spSplits : Sp := fun vs H Q _ => ∃ (a : Addr) (k : Nat) (l : List Nat), vs = [.ref a] ∧ H a = some (.tup (natV (k :: l))) ∧ l ≠ [] ∧ l.length ≤ 7 ∧ ∀ H' p, Same H H' → H p = none → LsAt WayAt H' p (splits k l) → Q (.ref p) H'
theorem ok_splits (T : Txt K mg CO CD) (S : Src K mg "splits" s_splits ["members"]) : Df P w K mg base 1 "splits" ["members"] spSplits := by
  obtain ⟨f, fd, F, hm, hb⟩ := S.ex
  refine ⟨f, fd, F.ok sc_splits (fun vs H Q E h => ?_) (fun cdv A outer s H vs Q E hr h => ⟨_, (pss_cons (ps_set (i := 1) sc_splits.nd rfl (Or.inl rfl) (pe_lst (pa_cons (pe_tup (pa_cons (pe_slice sl_tupA (pv 0) po_none (po_some pe_int)) (pa_cons (pe_tup pa_nil) pa_nil))) pa_nil)))
      (pss_cons (ps_for PassesOwn.never rfl (pi_tup (pe_slice sl_tupA (pv 0) (po_some pe_int) po_none)) (pg_name (i := 2) sc_splits.nd rfl (Or.inr rfl)) (pss_cons (ps_setLc (i := 3) (own := [("first", 5), ("second", 6)]) (tt := tYes) (by rfl) sc_splits.nd rfl rfl (sw_true rfl rfl rfl (by decide +kernel)) (pi_list (pv 1)) (blkOk_by (own := [("first", 5), ("second", 6)]) (N := ["members", "ways", "member", "to_first", "to_second", "first", "second"]) (sc := defScope s_splits) (by decide +kernel)) (fun _ _ _ _ _ => (pg_tupK (K := K) (n := 2) rfl rfl (pgs_cons (pg_name (i := 5) sc_splits.nd rfl (Or.inl rfl) (Or.inr rfl)) (pgs_cons (pg_name (i := 6) sc_splits.nd rfl (Or.inl rfl) (Or.inr rfl)) pgs_nil)))) (fun _ _ _ _ _ => pts_nil) (fun _ _ _ _ _ => (pe_tup (pa_cons (pe_op (op_catAK (K := K) rfl) (pv 5) (pe_tup (pa_cons (pv 2) pa_nil))) (pa_cons (pv 6) pa_nil)))))
      (pss_cons (ps_setLc (i := 4) (own := [("first", 5), ("second", 6)]) (tt := tYes) (by rfl) sc_splits.nd rfl rfl (sw_true rfl rfl rfl (by decide +kernel)) (pi_list (pv 1)) (blkOk_by (own := [("first", 5), ("second", 6)]) (N := ["members", "ways", "member", "to_first", "to_second", "first", "second"]) (sc := defScope s_splits) (by decide +kernel)) (fun _ _ _ _ _ => (pg_tupK (K := K) (n := 2) rfl rfl (pgs_cons (pg_name (i := 5) sc_splits.nd rfl (Or.inl rfl) (Or.inr rfl)) (pgs_cons (pg_name (i := 6) sc_splits.nd rfl (Or.inl rfl) (Or.inr rfl)) pgs_nil)))) (fun _ _ _ _ _ => pts_nil) (fun _ _ _ _ _ => (pe_tup (pa_cons (pv 5) (pa_cons (pe_op (op_catAK (K := K) rfl) (pv 6) (pe_tup (pa_cons (pv 2) pa_nil))) pa_nil)))))
      (pss_one (ps_set (i := 1) sc_splits.nd rfl (Or.inl rfl) (pe_op op_cat (pv 3) (pv 4)))))))
      (pss_one (ps_ret (pe_slice sl_list (pv 1) (po_some pe_int) po_none))))), ?_⟩), hm, F.kp, hb⟩
  · obtain ⟨_, _, _, rfl, _⟩ := h
    rfl
  · obtain ⟨a, k, l, rfl, ha, hl, h7, kk⟩ := h
    have hl0 : 0 < l.length := List.length_pos_iff.mpr hl
    have nw : ¬ (HT.sIx (natV (k :: l)).length 0 none = 0 ∧ HT.sIx (natV (k :: l)).length (natV (k :: l)).length (some 1) = (natV (k :: l)).length) := fun z => by
      have z2 := z.2
      rw [show (some (1 : Int)) = some ((1 : Nat) : Int) from rfl, HT.sIx_nat, List.length_map, List.length_cons] at z2
      omega
    refine ⟨_, rfl, _, rfl, a, _, rfl, SqT.of ha, fun z => absurd z nw, fun _ p1 hp1 => ?_⟩
    rw [cut1_pre]
    have s1 : Same H (upd H p1 (.tup (natV [k]))) := same_upd hp1
    have g1 : upd H p1 (.tup (natV [k])) p1 = some (.tup (natV [k])) := upd_same
    generalize upd H p1 (.tup (natV [k])) = H1 at s1 g1
    refine ⟨(by show 0 ≤ sizeLine; decide), fun p2 hp2 => ?_⟩
    have s2 : Same H1 (upd H1 p2 (.tup (natV []))) := same_upd hp2
    have g2 : upd H1 p2 (.tup (natV [])) p2 = some (.tup (natV [])) := upd_same
    refine ⟨(by show 2 ≤ sizeLine; decide), fun p3 hp3 => ?_⟩
    have s3 : Same (upd H1 p2 (.tup [])) (upd (upd H1 p2 (.tup [])) p3 (.tup [.ref p1, .ref p2])) := same_upd hp3
    have g3 : upd (upd H1 p2 (.tup [])) p3 (.tup [.ref p1, .ref p2]) p3 = some (.tup [.ref p1, .ref p2]) := upd_same
    refine ⟨(by show 1 ≤ sizeLine; decide), fun q hq => ?_⟩
    have s03 : Same H (upd (upd H1 p2 (.tup [])) p3 (.tup [.ref p1, .ref p2])) := s1.trans (s2.trans s3)
    have w3 : WayAt (upd (upd H1 p2 (.tup [])) p3 (.tup [.ref p1, .ref p2])) ([k], []) (.ref p3) := ⟨p3, p1, p2, rfl, g3, s3 _ _ (s2 _ _ g1), s3 _ _ g2⟩
    generalize upd (upd H1 p2 (.tup [])) p3 (.tup [.ref p1, .ref p2]) = H3 at s03 w3 hq
    have s4 : Same H3 (upd H3 q (.lst [.ref p3])) := same_upd hq
    have gq : upd H3 q (.lst [.ref p3]) q = some (.lst [.ref p3]) := upd_same
    generalize upd H3 q (.lst [.ref p3]) = H4 at s4 gq
    have s04 : Same H H4 := s03.trans s4
    have hq0 : H q = none := s03.free hq
    -- the loop
    refine ⟨_, rfl, _, rfl, a, _, rfl, SqT.of (s04 _ _ ha), fun z => absurd z.1 (by rw [show (some (1 : Int)) = some ((1 : Nat) : Int) from rfl, HT.sIx_nat, List.length_map, List.length_cons]; omega), fun _ r hr' => ?_⟩
    rw [cut1_suf]
    have s5 : Same H4 (upd H4 r (.tup (natV l))) := same_upd hr'
    have g5 : upd H4 r (.tup (natV l)) r = some (.tup (natV l)) := upd_same
    have s05 : Same H (upd H4 r (.tup (natV l))) := s04.trans s5
    refine ⟨r, rfl, ⟨_, SqT.of g5⟩, for_tup (K := K) (a := r) (xs := natV l) (fun i σ H' => ∃ q m tf ts, σ = [some (.ref a), some (.ref q), m, tf, ts, none, none] ∧ Same (upd H4 r (.tup (natV l))) H' ∧ H q = none ∧ LsAt WayAt H' q ((l.take i).foldl stepW [([k], [])])) ?_ ?_ ?_ ?_⟩
    · refine ⟨q, none, none, none, rfl, Same.refl _, hq0, _, s5 _ _ gq, ?_⟩
      exact (Rel2.nil (R := WayAt _)).snoc (w3.same fun b ys e => s5 _ _ (s4 _ _ e))
    · rintro i σ H' _ ⟨_, _, _, _, _, s, _⟩
      exact SqT.of (s _ _ g5)
    · rintro i x σ H' hx ⟨q, m0, tf, ts, rfl, s, hq, ws, hws, rw'⟩
      have hi : i < l.length := by
        have := (List.getElem?_eq_some_iff.mp hx).1
        rw [List.length_map] at this
        exact this
      obtain ⟨m, hm'⟩ : ∃ m, l[i]? = some m := ⟨_, List.getElem?_eq_getElem hi⟩
      rw [natV_at hm'] at hx
      cases hx
      have wl : ws.length ≤ 128 := by
        rw [rw'.1, fold_len, List.length_take, List.length_singleton, Nat.mul_one]
        have : 2 ^ min i l.length ≤ 2 ^ 7 := Nat.pow_le_pow_right (by decide) (by omega)
        exact this
      rw [take_snoc hm', List.foldl_append]
      have zs : ∀ z ∈ (l.take i).foldl stepW [([k], [])], z.1.length + z.2.length ≤ 1000 := fun z hz => by
        rw [ways_fold] at hz
        obtain ⟨y, hy, rfl⟩ := List.mem_map.mp hz
        have := (sides_perm _ y hy).length_eq
        rw [List.length_append, List.length_take] at this
        show y.1.length + 1 + y.2.length ≤ 1000
        omega
      generalize (l.take i).foldl stepW [([k], [])] = W at rw' zs
      -- to_first
      refine ⟨_, rfl, q, rfl, ⟨_, SqL.of hws⟩, fun D hD => lc_list (K := K) (a := q) (xs := ws) (fun j H2 => Same H' H2 ∧ ∃ us, H2 D = some (.lst us) ∧ Rel2 (WayAt H2) ((W.take j).map fun z => (z.1 ++ [m], z.2)) us) ?_ ?_ ?_ ?_⟩
      · exact ⟨same_upd hD, [], upd_same, Rel2.nil⟩
      · rintro j H2 _ ⟨s2, _⟩
        exact SqL.of (s2 _ _ hws)
      · rintro j x H2 hx ⟨s2, us, hus, ru⟩
        obtain ⟨z, hz, aw, bw, cw, rfl, ga, gb, gc⟩ := rw'.back hx
        have ga2 := s2 _ _ ga
        have gb2 := s2 _ _ gb
        have gc2 := s2 _ _ gc
        refine ⟨aw, _, rfl, SqT.of ga2, rfl, _, _, rfl, _, _, rfl, rfl, rfl, ?_⟩
        have zl : z.1.length + z.2.length ≤ 1000 := zs _ (List.mem_of_getElem? hz)
        refine ⟨_, rfl, _, rfl, (by show 1 ≤ sizeLine; decide), fun p1 hp1 => ?_⟩
        generalize hH3 : upd H2 p1 (.tup [V.int (m : Int)]) = H3
        have s3 : Same H2 H3 := hH3 ▸ same_upd hp1
        have g3 : H3 p1 = some (.tup (natV [m])) := by rw [← hH3]; exact upd_same
        have done : ∀ (H4 : Hp) (c1 : Addr), Same H3 H4 → H4 c1 = some (.tup (natV (z.1 ++ [m]))) → ∀ p, H4 p = none → ∃ acc, upd H4 p (.tup [.ref c1, .ref cw]) D = some (.lst acc) ∧ acc.length < sizeLine ∧
            Same H' (upd (upd H4 p (.tup [.ref c1, .ref cw])) D (.lst (acc ++ [.ref p]))) ∧ ∃ us, upd (upd H4 p (.tup [.ref c1, .ref cw])) D (.lst (acc ++ [.ref p])) D = some (.lst us) ∧ Rel2 (WayAt (upd (upd H4 p (.tup [.ref c1, .ref cw])) D (.lst (acc ++ [.ref p])))) ((W.take (j + 1)).map fun z => (z.1 ++ [m], z.2)) us := by
          intro H4 c1 s4 g4 p hp
          have s5 : Same H4 (upd H4 p (.tup [.ref c1, .ref cw])) := same_upd hp
          have g5 : upd H4 p (.tup [.ref c1, .ref cw]) p = some (.tup [.ref c1, .ref cw]) := upd_same
          generalize upd H4 p (.tup [.ref c1, .ref cw]) = H5 at s5 g5
          have s25 := s3.trans (s4.trans s5)
          have hus5 := s25 _ _ hus
          have b6 : But D H5 (upd H5 D (.lst (us ++ [.ref p]))) := But.upd
          have t6 := b6.tups (ne_lst hus5)
          refine ⟨us, hus5, Nat.lt_of_le_of_lt (Nat.le_trans (by rw [ru.1, List.length_map, List.length_take, rw'.1.symm]; omega) wl) (by decide), ((but_of (s2.trans s25) D).trans b6).same hD, _, upd_same, ?_⟩
          rw [take_snoc hz, List.map_append]
          exact (ru.mono fun x v y => (y.same fun b ys e => s25 _ _ e).same t6).snoc ⟨p, c1, cw, rfl, t6 _ _ g5, t6 _ _ (s5 _ _ g4), t6 _ _ (s25 _ _ gc2)⟩
        refine ⟨bw, p1, _, _, rfl, rfl, SqT.of (s3 _ _ gb2), SqT.of g3, ?_, ?_, ?_, ?_⟩
        · have : (natV z.1).length + 1 ≤ 1001 := by rw [List.length_map]; omega
          exact Nat.le_trans this (by decide)
        · intro e0
          have e0 : z.1 = [] := List.map_eq_nil_iff.mp e0
          refine ⟨_, rfl, (by show 2 ≤ sizeLine; decide), fun p hp => done H3 p1 (Same.refl _) (by rw [e0]; exact g3) p hp⟩
        · intro _ z
          cases z
        · intro _ _
          intro p2 hp2
          generalize hH4 : upd H3 p2 (.tup (natV z.1 ++ natV [m])) = H4
          have s4 : Same H3 H4 := hH4 ▸ same_upd hp2
          have g4 : H4 p2 = some (.tup (natV z.1 ++ natV [m])) := by rw [← hH4]; exact upd_same
          refine ⟨_, rfl, (by show 2 ≤ sizeLine; decide), fun p hp => done H4 p2 s4 (by rw [g4]; show some (HO.tup (natV z.1 ++ natV [m])) = _; rw [← List.map_append]) p hp⟩
      · rintro H2 ⟨s2, us, hus, ru⟩
        rw [rw'.1, List.take_length] at ru
        -- to_second
        refine ⟨_, rfl, q, rfl, ⟨_, SqL.of (s2 _ _ hws)⟩, fun D2 hD2 => lc_list (K := K) (a := q) (xs := ws) (fun j H3 => Same H2 H3 ∧ ∃ us, H3 D2 = some (.lst us) ∧ Rel2 (WayAt H3) ((W.take j).map fun z => (z.1, z.2 ++ [m])) us) ?_ ?_ ?_ ?_⟩
        · exact ⟨same_upd hD2, [], upd_same, Rel2.nil⟩
        · rintro j H3 _ ⟨s3, _⟩
          exact SqL.of (s3 _ _ (s2 _ _ hws))
        · rintro j x H3 hx ⟨s3, us2, hus2, ru2⟩
          obtain ⟨z, hz, aw, bw, cw, rfl, ga, gb, gc⟩ := rw'.back hx
          have ga2 := s3 _ _ (s2 _ _ ga)
          have gb2 := s3 _ _ (s2 _ _ gb)
          have gc2 := s3 _ _ (s2 _ _ gc)
          have zl : z.1.length + z.2.length ≤ 1000 := zs _ (List.mem_of_getElem? hz)
          refine ⟨aw, _, rfl, SqT.of ga2, rfl, _, _, rfl, _, _, rfl, rfl, rfl, ?_⟩
          refine ⟨_, rfl, _, rfl, _, rfl, (by show 1 ≤ sizeLine; decide), fun p1 hp1 => ?_⟩
          generalize hH4 : upd H3 p1 (.tup [V.int (m : Int)]) = H4
          have s4 : Same H3 H4 := hH4 ▸ same_upd hp1
          have g4 : H4 p1 = some (.tup (natV [m])) := by rw [← hH4]; exact upd_same
          have done : ∀ (H5 : Hp) (c1 : Addr), Same H4 H5 → H5 c1 = some (.tup (natV (z.2 ++ [m]))) → ∀ p, H5 p = none → ∃ acc, upd H5 p (.tup [.ref bw, .ref c1]) D2 = some (.lst acc) ∧ acc.length < sizeLine ∧
              Same H2 (upd (upd H5 p (.tup [.ref bw, .ref c1])) D2 (.lst (acc ++ [.ref p]))) ∧ ∃ us, upd (upd H5 p (.tup [.ref bw, .ref c1])) D2 (.lst (acc ++ [.ref p])) D2 = some (.lst us) ∧ Rel2 (WayAt (upd (upd H5 p (.tup [.ref bw, .ref c1])) D2 (.lst (acc ++ [.ref p])))) ((W.take (j + 1)).map fun z => (z.1, z.2 ++ [m])) us := by
            intro H5 c1 s5 g5 p hp
            have s6 : Same H5 (upd H5 p (.tup [.ref bw, .ref c1])) := same_upd hp
            have g6 : upd H5 p (.tup [.ref bw, .ref c1]) p = some (.tup [.ref bw, .ref c1]) := upd_same
            generalize upd H5 p (.tup [.ref bw, .ref c1]) = H6 at s6 g6
            have s36 := s4.trans (s5.trans s6)
            have hus6 := s36 _ _ hus2
            have b7 : But D2 H6 (upd H6 D2 (.lst (us2 ++ [.ref p]))) := But.upd
            have t7 := b7.tups (ne_lst hus6)
            refine ⟨us2, hus6, Nat.lt_of_le_of_lt (Nat.le_trans (by rw [ru2.1, List.length_map, List.length_take, rw'.1.symm]; omega) wl) (by decide), ((but_of (s3.trans s36) D2).trans b7).same hD2, _, upd_same, ?_⟩
            rw [take_snoc hz, List.map_append]
            exact (ru2.mono fun x v y => (y.same fun b ys e => s36 _ _ e).same t7).snoc ⟨p, bw, c1, rfl, t7 _ _ g6, t7 _ _ (s36 _ _ gb2), t7 _ _ (s6 _ _ g5)⟩
          refine ⟨cw, p1, _, _, rfl, rfl, SqT.of (s4 _ _ gc2), SqT.of g4, ?_, ?_, ?_, ?_⟩
          · have : (natV z.2).length + 1 ≤ 1001 := by rw [List.length_map]; omega
            exact Nat.le_trans this (by decide)
          · intro e0
            have e0 : z.2 = [] := List.map_eq_nil_iff.mp e0
            exact ⟨(by show 2 ≤ sizeLine; decide), fun p hp => done H4 p1 (Same.refl _) (by rw [e0]; exact g4) p hp⟩
          · intro _ z
            cases z
          · intro _ _
            intro p2 hp2
            generalize hH5 : upd H4 p2 (.tup (natV z.2 ++ natV [m])) = H5
            have s5 : Same H4 H5 := hH5 ▸ same_upd hp2
            have g5 : H5 p2 = some (.tup (natV z.2 ++ natV [m])) := by rw [← hH5]; exact upd_same
            exact ⟨(by show 2 ≤ sizeLine; decide), fun p hp => done H5 p2 s5 (by rw [g5]; show some (HO.tup (natV z.2 ++ natV [m])) = _; rw [← List.map_append]) p hp⟩
        · rintro H3 ⟨s3, us2, hus2, ru2⟩
          rw [rw'.1, List.take_length] at ru2
          -- ways
          refine ⟨_, rfl, _, rfl, D, D2, us, us2, rfl, rfl, s3 _ _ hus, hus2, ?_, fun q2 hq2 => ?_⟩
          · have e1 : us.length + us2.length ≤ 256 := by
              rw [ru.1, ru2.1, List.length_map, List.length_map, ← rw'.1]
              omega
            exact Nat.le_trans e1 (by decide)
          · generalize hH5 : upd H3 q2 (.lst (us ++ us2)) = H5
            have s4' : Same H3 H5 := hH5 ▸ same_upd hq2
            have g4' : H5 q2 = some (.lst (us ++ us2)) := by rw [← hH5]; exact upd_same
            have s24 := s2.trans (s3.trans s4')
            refine ⟨q2, _, _, _, rfl, s.trans s24, (s05.trans s).free (((s2.trans s3)).free hq2), _, g4', ?_⟩
            exact Rel2.append (ru.mono fun x v y => y.same fun b ys e => s4' _ _ (s3 _ _ e)) (ru2.mono fun x v y => y.same fun b ys e => s4' _ _ e)
    · rintro σ H' ⟨q, m0, tf, ts, rfl, s, hq, ws, hws, rw'⟩
      rw [List.length_map, List.take_length] at rw'
      refine ⟨_, rfl, _, rfl, q, _, rfl, SqL.of hws, fun p hp => ?_⟩
      generalize hH2 : upd H' p (.lst (cutV ws (some 1) none)) = H2
      have s2 : Same H' H2 := hH2 ▸ same_upd hp
      have g2 : H2 p = some (.lst (cutV ws (some 1) none)) := by rw [← hH2]; exact upd_same
      rw [cut1_suf] at g2
      refine kk H2 p (s05.trans (s.trans s2)) ((s05.trans s).free hp) ⟨_, g2, ?_⟩
      rw [← splits_fold, List.drop_one, List.drop_one]
      exact (rw'.mono fun x v y => y.same fun b ys e => s2 _ _ e).tail
end
end Sm
/-! All shapes, with what was found kept. -/
namespace Sm
open PySem PySem.Spec PyProof.Rows L2
/-! ### how many -/
def mapT (f : Nat → Nat) : Tr → Tr
  | .leaf k => .leaf (f k)
  | .two x y => .two (mapT f x) (mapT f y)
theorem sides_map (f : Nat → Nat) : ∀ l : List Nat, Lr72.sides (l.map f) = (Lr72.sides l).map fun z => (z.1.map f, z.2.map f)
  | [] => rfl
  | a :: l => by
    show Lr72.sides (f a :: l.map f) = _
    rw [sides_cons, sides_cons, sides_map f l, List.flatMap_map, List.map_flatMap] <;> rfl
theorem shapes_map (f : Nat → Nat) : ∀ (n : Nat) (l : List Nat), Lr72.shapes n (l.map f) = (Lr72.shapes n l).map (mapT f)
  | 0, l => rfl
  | n + 1, [] => rfl
  | n + 1, [k] => rfl
  | n + 1, k :: b :: l => by
    show Lr72.shapes (n + 1) (f k :: f b :: l.map f) = _
    rw [shapes_step, shapes_step]
    unfold splits
    rw [show f b :: l.map f = (b :: l).map f from rfl, sides_map, ← List.map_tail, List.map_map, List.flatMap_map, List.flatMap_map, List.map_flatMap]
    refine flatMap_alike fun z _ => ?_
    show (Lr72.shapes n (f k :: z.1.map f)).flatMap _ = _
    rw [show f k :: z.1.map f = (k :: z.1).map f from rfl, shapes_map f n (k :: z.1), List.flatMap_map, List.map_flatMap]
    refine flatMap_alike fun x _ => ?_
    show (Lr72.shapes n (z.2.map f)).map _ = _
    rw [shapes_map f n z.2, List.map_map, List.map_map] <;> rfl
theorem shp_len (l : List Nat) (h : l.length ≤ 6) : (shp l).length ≤ 945 := by
  have e : l = (List.range l.length).map fun i => l.getD i 0 := by
    apply List.ext_getElem
    · simp
    · intro i h1 h2
      simp [List.getD, List.getElem?_eq_getElem h1]
  have e2 : (shp l).length = (Lr72.allShapes l.length).length := by
    rw [allShapes_is]
    unfold shp
    conv => lhs; rw [e]
    rw [List.length_map, List.length_range, shapes_map, List.length_map]
  rw [e2, cnt_is _ h]
  have : ∀ n, n ≤ 6 → cnt n ≤ 945 := fun n hn => by
    match n, hn with
    | 0, _ => decide
    | 1, _ => decide
    | 2, _ => decide
    | 3, _ => decide
    | 4, _ => decide
    | 5, _ => decide
    | 6, _ => decide
  exact this _ h
theorem flat_take {α β : Type} (l : List α) (G : α → List β) (j : Nat) : ((l.take j).flatMap G).length ≤ (l.flatMap G).length := by
  conv => rhs; rw [← List.take_append_drop j l]
  rw [List.flatMap_append, List.length_append]
  omega
theorem flat_part {α β : Type} {l : List α} {G : α → List β} {j : Nat} {x : α} (h : l[j]? = some x) {p : List β} (hp : p.length ≤ (G x).length) : ((l.take j).flatMap G ++ p).length ≤ (l.flatMap G).length := by
  have := flat_take l G (j + 1)
  rw [take_snoc h, List.flatMap_append, List.length_append] at this
  have e : ([x].flatMap G).length = (G x).length := by simp
  rw [List.length_append]
  omega
def Tn : Nat → Nat
  | 0 => 0
  | d + 1 => 1 + 2 ^ (d + 1) * Tn d
theorem Tn_mono : ∀ {a b : Nat}, a ≤ b → Tn a ≤ Tn b := by
  have step : ∀ a, Tn a ≤ Tn (a + 1) := fun a => by
    show Tn a ≤ 1 + 2 ^ (a + 1) * Tn a
    have : 1 * Tn a ≤ 2 ^ (a + 1) * Tn a := Nat.mul_le_mul_right _ (Nat.one_le_two_pow)
    omega
  intro a b h
  induction h with
  | refl => exact Nat.le_refl _
  | step _ ih => exact Nat.le_trans ih (step _)
theorem Tn6 : Tn 6 ≤ 1345601 := by decide
theorem splits_len (k : Nat) (l : List Nat) : (splits k l).length ≤ 2 ^ l.length := by
  rw [← splits_fold, List.length_drop, fold_len, List.length_singleton, Nat.mul_one]
  exact Nat.sub_le _ _
/-! ### the kept shapes -/
def ShR (H : Hp) (t : Tr) (v : V) : Prop := ShAt H v t
abbrev kl (l : List Nat) : List Key := l.map fun (k : Nat) => (Sum.inl (k : Int) : Key)
theorem kl_V (l : List Nat) : (kl l).map kV = natV l := by rw [List.map_map] <;> rfl
theorem kl_inj : ∀ {l m : List Nat}, kl l = kl m → l = m
  | [], [], _ => rfl
  | [], _ :: _, h => by cases h
  | _ :: _, [], h => by cases h
  | a :: l, b :: m, h => by
    have h1 := (List.cons.inj h).1
    have h2 := (List.cons.inj h).2
    have e : (a : Int) = b := Sum.inl.inj h1
    rw [Int.ofNat.inj e, kl_inj h2]
structure KnAt (ok : Addr → Prop) (H : Hp) (d : Addr) (kvs : List (List Key × V)) : Prop where
  at_ : H d = some (.dT kvs)
  vals : ∀ (l : List Nat) (v : V), valV kvs (kl l) = some v → ∃ q, v = .ref q ∧ ok q ∧ LsAt ShR H q (shp l)
theorem sh_list {H H' : Hp} {q : Addr} {l : List Tr} (h : LsAt ShR H q l) (hq : ∀ us, H q = some (.lst us) → H' q = some (.lst us)) (ht : ∀ b ys, H b = some (.tup ys) → H' b = some (.tup ys)) : LsAt ShR H' q l :=
  let ⟨us, h1, h2⟩ := h; ⟨us, hq _ h1, h2.mono fun t v z => ShAt.same z ht⟩
/-- all but the dict at d and the list at p stays -/
def But2 (d p : Addr) (H H' : Hp) : Prop := ∀ b o, H b = some o → b ≠ d → b ≠ p → H' b = some o
theorem But2.tups {d p : Addr} {H H' : Hp} {kvs : List (List Key × V)} {us : List V} (b : But2 d p H H') (hd : H d = some (.dT kvs)) (hp : H p = some (.lst us)) : ∀ c xs, H c = some (.tup xs) → H' c = some (.tup xs) :=
  fun c xs e => b c _ e (ne_of e hd fun z => by cases z) (ne_of e hp fun z => by cases z)
abbrev s_shapes_over : Stmt := topS 6
theorem sc_shapes_over : FnScope ["members", "known", "found", "first_members", "second_members", "seconds", "first", "second"] ["members", "known"] (defScope s_shapes_over) := ⟨rfl, rfl, rfl, by decide +kernel, rfl, by decide +kernel, by decide +kernel⟩
section
variable {P : Program} {w : World} {K : PySem.W.Frag} {mg : Str → Option Value} {base : Heap} {CO CD : Addr}
def spOver (d : Nat) : Sp := fun vs H Q _ => ∃ (a dd : Addr) (l : List Nat) (kvs : List (List Key × V)) (ok : Addr → Prop), vs = [.ref a, .ref dd] ∧ H a = some (.tup (natV l)) ∧ 0 < l.length ∧ l.length < d ∧ l.length ≤ 6 ∧ KnAt ok H dd kvs ∧ (∀ q, H q = none → ok q) ∧
  kvs.length + Tn l.length < sizeLine ∧ ∀ H' q kvs', But dd H H' → KnAt ok H' dd kvs' → kvs'.length ≤ kvs.length + Tn l.length → ok q → LsAt ShR H' q (shp l) → Q (.ref q) H'
theorem ok_shapes_over (T : Txt K mg CO CD) (S : Src K mg "shapes_over" s_shapes_over ["members", "known"]) (d_splits : Df P w K mg base 1 "splits" ["members"] spSplits) : ∀ d : Nat, Df P w K mg base (d + 1) "shapes_over" ["members", "known"] (spOver d)
  | 0 => by
    obtain ⟨f, fd, F, hm, hb⟩ := S.ex
    refine ⟨f, fd, ⟨fun vs H Q E h => ?_, fun A outer s H args us vs Q E hr e0 hbi r h => ?_⟩, hm, F.kp, hb⟩
    · obtain ⟨_, _, _, _, _, _, _, _, z, _⟩ := h
      exact absurd z (Nat.not_lt_zero _)
    · obtain ⟨_, _, _, _, _, _, _, _, z, _⟩ := h
      exact absurd z (Nat.not_lt_zero _)
  | d + 1 => by
    have d_shapes_over := ok_shapes_over T S d_splits d
    obtain ⟨f, fd, F, hm, hb⟩ := S.ex
    refine ⟨f, fd, F.ok (k := d + 1) sc_shapes_over (fun vs H Q E h => ?_) (fun cdv A outer s H vs Q E hr h => ⟨_, (pss_cons (ps_if (pt_cmpR op_eq (pe_callB call_len_seq (by rfl) T.b_len PySem.boot_len (pa_cons (pv 0) pa_nil)) pe_int (nomark _)) (pss_one (ps_ret (pe_lst (pa_cons (pe_ix ix_tup (pv 0) pe_int (fun _ _ => rfl)) pa_nil)))) pss_nil)
      (pss_cons (ps_if (pt_cmp (pc_dnotin (hu_of hr) (pv 0) (pv 1))) (pss_cons (ps_set (i := 2) sc_shapes_over.nd rfl (Or.inl rfl) (pe_lst pa_nil))
      (pss_cons (ps_for PassesOwn.never rfl (pi_list (pe_df d_splits (hr.mono (by omega)) (by rfl) (pa_cons (pv 0) pa_nil))) (pg_tup rfl (pgs_cons (pg_name (i := 3) sc_shapes_over.nd rfl (Or.inl rfl)) (pgs_cons (pg_name (i := 4) sc_shapes_over.nd rfl (Or.inl rfl)) pgs_nil))) (pss_cons (ps_set (i := 5) sc_shapes_over.nd rfl (Or.inl rfl) (pe_df d_shapes_over (hr.mono (by omega)) (by rfl) (pa_cons (pv 4) (pa_cons (pv 1) pa_nil))))
      (pss_one (ps_for PassesOwn.never rfl (pi_list (pe_df d_shapes_over (hr.mono (by omega)) (by rfl) (pa_cons (pv 3) (pa_cons (pv 1) pa_nil)))) (pg_name (i := 6) sc_shapes_over.nd rfl (Or.inr rfl)) (pss_one (ps_expr (pe_bm PySem.F.plainAttrs_list PySem.F.slot_list_extend PySem.F.type_list_extend mt_extend (pv 2) (pa_cons (pe_lc (own := [("second", 7)]) (tt := tYes) (by rfl) sc_shapes_over.nd (pi_list (pv 5)) (blkOk_by (own := [("second", 7)]) (N := ["members", "known", "found", "first_members", "second_members", "seconds", "first", "second"]) (sc := defScope s_shapes_over) (by decide +kernel)) (fun _ _ _ _ _ => (pg_name (i := 7) sc_shapes_over.nd rfl (Or.inl rfl) (Or.inr rfl))) (fun _ _ _ _ _ => pts_nil) (fun _ _ _ _ _ => (pe_tup (pa_cons (pv 6) (pa_cons (pv 7) pa_nil))))) pa_nil))))))))
      (pss_one (ps_dput (hu_of hr) (pv 1) (pv 0) (pv 2) rfl)))) pss_nil)
      (pss_one (ps_ret (pe_dget (hu_of hr) (pv 1) (pv 0) (fun _ _ => rfl)))))), ?_⟩), hm, F.kp, hb⟩
    · obtain ⟨_, _, _, _, _, rfl, _⟩ := h
      rfl
    · obtain ⟨a, dd, l, kvs, ok, rfl, ha, h0, hd, h6, kn, fr, hsz, kk⟩ := h
      have eb : H a = some (.tup ((kl l).map kV)) := by rw [kl_V]; exact ha
      have hsl : sizeLine = 16777216 := by decide
      refine ⟨_, rfl, a, _, rfl, .inr (SqT.of ha), rfl, _, rfl, ite_b (fun c => ?_) (fun c => ?_)⟩
      · -- one leaf
        have c := V.int.inj (of_decide_eq_true c)
        rw [List.length_map] at c
        match l, ha, c, kk with
        | [k0], ha, _, kk =>
          refine ⟨_, rfl, a, _, _, _, rfl, rfl, SqT.of ha, rfl, (by show 1 ≤ sizeLine; decide), fun p hp => ?_⟩
          have s1 : Same H (upd H p (.lst [.int (k0 : Int)])) := same_upd hp
          refine kk _ p kvs (but_of s1 dd) ⟨s1 _ _ kn.at_, fun l v e => ?_⟩ (Nat.le_add_right _ _) (fr p hp) ⟨_, upd_same, ?_⟩
          · obtain ⟨q, e1, e2, e3⟩ := kn.vals l v e
            exact ⟨q, e1, e2, sh_list e3 (fun us z => s1 _ _ z) fun b ys z => s1 _ _ z⟩
          · exact (Rel2.nil (R := ShR _)).snoc (.leaf k0)
      · have c := of_decide_eq_false c
        have h1 : 1 < l.length := by
          rw [List.length_map] at c
          refine Nat.lt_of_le_of_ne h0 fun z => c (by rw [← z]; rfl)
        refine ⟨_, rfl, _, rfl, dd, _, rfl, DGet.t kn.at_ eb, _, rfl, ite_b (fun c2 => ?_) (fun c2 => ?_)⟩
        · have hv : valV kvs (kl l) = none := by
            cases q : valV kvs (kl l) with
            | none => rfl
            | some v => rw [q] at c2; cases c2
          match l, ha, h1, eb, kk, hv, h6, hd, hsz with
          | k0 :: b0 :: lr, ha, h1, eb, kk, hv, h6, hd, hsz =>
          -- found = []
          refine ⟨(by show 0 ≤ sizeLine; decide), fun pF hpF => ?_⟩
          have sF : Same H (upd H pF (.lst [])) := same_upd hpF
          have gF : upd H pF (.lst []) pF = some (.lst []) := upd_same
          generalize upd H pF (.lst []) = HF at sF gF
          -- splits
          refine ⟨_, rfl, a, k0, b0 :: lr, rfl, sF _ _ ha, by simp, by simp at h6 ⊢; omega, fun H1 pS s1 hpS hS => ?_⟩
          obtain ⟨ws, hws, rws⟩ := hS
          have hdd1 := s1 _ _ (sF _ _ kn.at_)
          have gF1 := s1 _ _ gF
          have ha1 := s1 _ _ (sF _ _ ha)
          have sF1 := sF.trans s1
          have nFS : pS ≠ pF := fun z => by rw [z, gF] at hpS; cases hpS
          have ll : (b0 :: lr).length < d := by simp at hd ⊢; omega
          have kn1 : KnAt (fun q => ok q ∧ q ≠ pF) H1 dd kvs := ⟨hdd1, fun l v e => by
            obtain ⟨q, e1, e2, us, e3, e4⟩ := kn.vals l v e
            refine ⟨q, e1, ⟨e2, fun z => ?_⟩, us, sF1 _ _ e3, e4.mono fun t v z => ShAt.same z fun b ys e => sF1 _ _ e⟩
            rw [z] at e3
            rw [hpF] at e3
            cases e3⟩
          have hT : Tn (k0 :: b0 :: lr).length = 1 + 2 ^ ((b0 :: lr).length + 1) * Tn (b0 :: lr).length := rfl
          refine ⟨pS, rfl, ⟨_, SqL.of hws⟩, for_list (K := K) (a := pS) (xs := ws) (fun j σ H' => ∃ fm sm sec fst kvs', σ = [some (.ref a), some (.ref dd), some (.ref pF), fm, sm, sec, fst, none] ∧ But2 dd pF H1 H' ∧ KnAt (fun q => ok q ∧ q ≠ pF) H' dd kvs' ∧ kvs'.length ≤ kvs.length + 2 * j * Tn (b0 :: lr).length ∧
            LsAt ShR H' pF (((splits k0 (b0 :: lr)).take j).flatMap fun w => (shp w.1).flatMap fun x => (shp w.2).map fun y => .two x y)) ?_ ?_ ?_ ?_⟩
          · exact ⟨none, none, none, none, kvs, rfl, fun b o e _ _ => e, kn1, by omega, _, gF1, Rel2.nil⟩
          · rintro j σ H' _ ⟨_, _, _, _, _, _, b, _⟩
            exact SqL.of (b _ _ hws (ne_of hws hdd1 fun z => by cases z) nFS)
          · rintro j x σ H' hx ⟨fm, sm, sec, fst, kvs', rfl, b, kn', hl', us, hus, rus⟩
            obtain ⟨z, hz, aw, bw, cw, rfl, ga, gb, gc⟩ := rws.back hx
            obtain ⟨zp, z2, z1, zl1, zl2⟩ := splits_mem (List.mem_of_getElem? hz)
            have hj : j < 2 ^ (b0 :: lr).length := Nat.lt_of_lt_of_le (List.getElem?_eq_some_iff.mp hz).1 (splits_len _ _)
            have hA : 2 * j * Tn (b0 :: lr).length + 2 * Tn (b0 :: lr).length ≤ 2 ^ ((b0 :: lr).length + 1) * Tn (b0 :: lr).length := by
              rw [← Nat.add_mul]
              refine Nat.mul_le_mul_right _ ?_
              rw [Nat.pow_succ]
              omega
            have hT1 : Tn z.1.length ≤ Tn (b0 :: lr).length := Tn_mono zl1
            have hT2 : Tn z.2.length ≤ Tn (b0 :: lr).length := Tn_mono zl2
            rw [hT] at hsz
            have t' := b.tups hdd1 gF1
            have fr' : ∀ q, H' q = none → ok q ∧ q ≠ pF := fun q hq => by
              have nF : q ≠ pF := fun y => by rw [y, hus] at hq; cases hq
              refine ⟨fr q ?_, nF⟩
              cases e : H q with
              | none => rfl
              | some o =>
                by_cases hqd : q = dd
                · rw [hqd, kn'.at_] at hq; cases hq
                · rw [b _ _ (sF1 _ _ e) hqd nF] at hq; cases hq
            have l6 : (b0 :: lr).length ≤ 5 := by simp at h6 ⊢; omega
            refine ⟨aw, _, rfl, SqT.of (t' _ _ ga), rfl, _, _, rfl, _, _, rfl, rfl, ?_⟩
            -- seconds
            refine ⟨_, rfl, _, rfl, cw, dd, z.2, kvs', _, rfl, t' _ _ gc, List.length_pos_iff.mpr z2, by omega, by omega, kn', fr', by omega, fun H2 q2 kvs2 b2 kn2 hl2 ok2 L2 => ?_⟩
            have t2 := b2.tups (fun xs y => by rw [kn'.at_] at y; cases y)
            have nFd : pF ≠ dd := ne_of hus kn'.at_ fun y => by cases y
            have hus2 := b2 _ _ hus nFd
            have fr2 : ∀ q, H2 q = none → ok q ∧ q ≠ pF := fun q hq => fr' q (by
              cases e : H' q with
              | none => rfl
              | some o =>
                by_cases hqd : q = dd
                · rw [hqd, kn2.at_] at hq; cases hq
                · rw [b2 _ _ e hqd] at hq; cases hq)
            -- the first ones
            refine ⟨_, rfl, _, rfl, bw, dd, z.1, kvs2, _, rfl, t2 _ _ (t' _ _ gb), List.length_pos_iff.mpr z1, by omega, by omega, kn2, fr2, by omega, fun H3 q1 kvs3 b3 kn3 hl3 ok3 L1 => ?_⟩
            obtain ⟨vs1, hq1, r1⟩ := L1
            have t3 := b3.tups (fun xs y => by rw [kn2.at_] at y; cases y)
            have hus3 := b3 _ _ hus2 nFd
            obtain ⟨vs2, hq2, r2⟩ := sh_list L2 (fun us y => b3 _ _ y (ne_of y kn2.at_ fun q => by cases q)) t3
            have rus3 : Rel2 (ShR H3) (((splits k0 (b0 :: lr)).take j).flatMap fun w => (shp w.1).flatMap fun x => (shp w.2).map fun y => Lr72.Tree.two x y) us := rus.mono fun t v y => ShAt.same (ShAt.same y t2) t3
            have big : ∀ p : List Tr, p.length ≤ ((shp z.1).flatMap fun x => (shp z.2).map fun y => Lr72.Tree.two x y).length → ((((splits k0 (b0 :: lr)).take j).flatMap fun w => (shp w.1).flatMap fun x => (shp w.2).map fun y => Lr72.Tree.two x y) ++ p).length ≤ 945 := fun p hp => by
              have h1 := flat_part (G := fun w : Way => (shp w.1).flatMap fun x => (shp w.2).map fun y => Lr72.Tree.two x y) hz hp
              rw [← shp_more (k := k0) (l := b0 :: lr) (by simp)] at h1
              exact Nat.le_trans h1 (shp_len _ h6)
            have b13 : But2 dd pF H1 H3 := fun c o e n1 n2 => b3 _ _ (b2 _ _ (b _ _ e n1 n2) n1) n1
            rw [take_snoc hz, List.flatMap_append]
            generalize ((splits k0 (b0 :: lr)).take j).flatMap (fun w => (shp w.1).flatMap fun x => (shp w.2).map fun y => Lr72.Tree.two x y) = PRE at rus3 big
            refine ⟨q1, rfl, ⟨_, SqL.of hq1⟩, for_list (K := K) (a := q1) (xs := vs1) (fun i σ H4 => ∃ fst, σ = [some (.ref a), some (.ref dd), some (.ref pF), some (.ref bw), some (.ref cw), some (.ref q2), fst, none] ∧ But pF H3 H4 ∧ LsAt ShR H4 pF (PRE ++ ((shp z.1).take i).flatMap fun x => (shp z.2).map fun y => .two x y)) ?_ ?_ ?_ ?_⟩
            · exact ⟨_, rfl, but_of (Same.refl _) pF, us, hus3, by
                show Rel2 _ (PRE ++ []) us
                rw [List.append_nil]
                exact rus3⟩
            · rintro i σ H4 _ ⟨_, _, b4, _⟩
              exact SqL.of (b4 _ _ hq1 ok3.2)
            · rintro i x σ H4 hx ⟨fst0, rfl, b4, us4, hus4, rus4⟩
              obtain ⟨tx, htx, stx⟩ := r1.back hx
              have t4 := b4.tups (ne_lst hus3)
              have hq24 := b4 _ _ hq2 ok2.2
              have szA : (PRE ++ (((shp z.1).take i).flatMap fun x => (shp z.2).map fun y => Lr72.Tree.two x y) ++ (shp z.2).map fun y => Lr72.Tree.two tx y).length ≤ 945 := by
                rw [List.append_assoc]
                refine big _ ?_
                have h1 := flat_take (shp z.1) (fun x => (shp z.2).map fun y => Lr72.Tree.two x y) (i + 1)
                rw [take_snoc htx, List.flatMap_append] at h1
                have e1 : [tx].flatMap (fun x => (shp z.2).map fun y => Lr72.Tree.two x y) = (shp z.2).map fun y => Lr72.Tree.two tx y := by simp
                rw [e1] at h1
                exact h1
              refine ⟨_, rfl, .inl ⟨rfl, _, SqL.of hus4⟩, _, rfl, q2, rfl, ⟨_, SqL.of hq24⟩, fun D hD => lc_list (K := K) (a := q2) (xs := vs2) (fun m H5 => Same H4 H5 ∧ ∃ es, H5 D = some (.lst es) ∧ Rel2 (ShR H5) (((shp z.2).take m).map fun y => .two tx y) es) ?_ ?_ ?_ ?_⟩
              · exact ⟨same_upd hD, [], upd_same, Rel2.nil⟩
              · rintro m H5 _ ⟨s5, _⟩
                exact SqL.of (s5 _ _ hq24)
              · rintro m y H5 hy ⟨s5, es, hes, re⟩
                obtain ⟨ty, hty, sty⟩ := r2.back hy
                refine ⟨rfl, _, rfl, _, rfl, (by show 2 ≤ sizeLine; decide), fun p hp => ?_⟩
                have s6 : Same H5 (upd H5 p (.tup [x, y])) := same_upd hp
                have g6 : upd H5 p (.tup [x, y]) p = some (.tup [x, y]) := upd_same
                have hes6 := s6 _ _ hes
                have b7 : But D (upd H5 p (.tup [x, y])) (upd (upd H5 p (.tup [x, y])) D (.lst (es ++ [.ref p]))) := But.upd
                have t7 := b7.tups (ne_lst hes6)
                have t47 : ∀ b ys, H4 b = some (.tup ys) → upd (upd H5 p (.tup [x, y])) D (.lst (es ++ [.ref p])) b = some (.tup ys) := fun b ys e => t7 _ _ (s6 _ _ (s5 _ _ e))
                have ml : es.length ≤ 945 := by
                  rw [List.length_append, List.length_map] at szA
                  rw [re.1, List.length_map, List.length_take]
                  omega
                refine ⟨es, hes6, Nat.lt_of_le_of_lt ml (by decide), ((but_of (s5.trans s6) D).trans b7).same hD, _, upd_same, ?_⟩
                rw [take_snoc hty, List.map_append]
                exact (re.mono fun t v q => ShAt.same (ShAt.same q fun b ys e => s6 _ _ e) t7).snoc (ShAt.two (t7 _ _ g6) (ShAt.same (ShAt.same stx t4) t47) (ShAt.same (ShAt.same sty t4) t47))
              · rintro H5 ⟨s5, es, hes, re⟩
                rw [r2.1, List.take_length] at re
                have hus5 := s5 _ _ hus4
                have b8 : But pF H5 (upd H5 pF (.lst (us4 ++ es))) := But.upd
                have t8 := b8.tups (ne_lst hus5)
                refine ⟨pF, D, us4, es, rfl, rfl, hus5, hes, ?_, ?_⟩
                · have e1 : us4.length + es.length ≤ 945 := by
                    rw [rus4.1, re.1, ← List.length_append]
                    exact szA
                  exact Nat.le_trans e1 (by decide)
                · refine ⟨_, rfl, (b4.trans (but_of s5 pF)).trans b8, _, upd_same, ?_⟩
                  rw [take_snoc htx, List.flatMap_append, ← List.append_assoc]
                  have e1 : [tx].flatMap (fun x => (shp z.2).map fun y => Lr72.Tree.two x y) = (shp z.2).map fun y => Lr72.Tree.two tx y := by simp
                  rw [e1]
                  exact Rel2.append (rus4.mono fun t v q => ShAt.same (ShAt.same q fun b ys e => s5 _ _ e) t8) (re.mono fun t v q => ShAt.same q t8)
            · rintro σ H4 ⟨fst0, rfl, b4, L4⟩
              have t4 := b4.tups (ne_lst hus3)
              rw [r1.1, List.take_length] at L4
              refine ⟨_, _, _, _, kvs3, rfl, fun c o e n1 n2 => b4 _ _ (b13 _ _ e n1 n2) n2, ⟨b4 _ _ kn3.at_ nFd.symm, fun l v e => ?_⟩, ?_, ?_⟩
              · obtain ⟨q, e1, e2, e3⟩ := kn3.vals l v e
                exact ⟨q, e1, e2, sh_list e3 (fun us y => b4 _ _ y e2.2) t4⟩
              · have e1 : 2 * (j + 1) * Tn (b0 :: lr).length = 2 * j * Tn (b0 :: lr).length + 2 * Tn (b0 :: lr).length := by rw [← Nat.add_mul]; rfl
                rw [e1]
                omega
              · have e1 : [z].flatMap (fun w : Way => (shp w.1).flatMap fun x => (shp w.2).map fun y => Lr72.Tree.two x y) = (shp z.1).flatMap fun x => (shp z.2).map fun y => Lr72.Tree.two x y := by simp
                rw [e1]
                exact L4
          · rintro σ H' ⟨fm, sm, sec, fst, kvs', rfl, b, kn', hl', us, hus, rus⟩
            have t' := b.tups hdd1 gF1
            have ha' := t' _ _ ha1
            have eb' : H' a = some (.tup ((kl (k0 :: b0 :: lr)).map kV)) := by rw [kl_V]; exact ha'
            rw [rws.1, List.take_length, ← shp_more (k := k0) (l := b0 :: lr) (by simp)] at rus
            have hA : 2 * ws.length * Tn (b0 :: lr).length ≤ 2 ^ ((b0 :: lr).length + 1) * Tn (b0 :: lr).length := by
              refine Nat.mul_le_mul_right _ ?_
              have := splits_len k0 (b0 :: lr)
              rw [rws.1, Nat.pow_succ]
              omega
            have hlen : kvs'.length + 1 ≤ kvs.length + Tn (k0 :: b0 :: lr).length := by
              rw [hT]
              omega
            refine ⟨_, rfl, _, rfl, _, rfl, dd, _, rfl, DPut.t kn'.at_ eb' (by omega), ?_⟩
            have b5 : But dd H' (upd H' dd (.dT (putK kvs' (kl (k0 :: b0 :: lr)) (.ref pF)))) := But.upd
            have t5 := b5.tups (fun xs y => by rw [kn'.at_] at y; cases y)
            have g5 : upd H' dd (.dT (putK kvs' (kl (k0 :: b0 :: lr)) (.ref pF))) dd = some (.dT (putK kvs' (kl (k0 :: b0 :: lr)) (.ref pF))) := upd_same
            have nFd : pF ≠ dd := ne_of hus kn'.at_ fun y => by cases y
            have LF : LsAt ShR (upd H' dd (.dT (putK kvs' (kl (k0 :: b0 :: lr)) (.ref pF)))) pF (shp (k0 :: b0 :: lr)) := ⟨us, b5 _ _ hus nFd, rus.mono fun t v q => ShAt.same q t5⟩
            have gv : valV (putK kvs' (kl (k0 :: b0 :: lr)) (.ref pF)) (kl (k0 :: b0 :: lr)) = some (.ref pF) := by rw [valV_put, if_pos rfl]
            refine ⟨_, rfl, _, rfl, dd, _, rfl, gv ▸ DGet.t g5 (t5 _ _ eb'), ?_⟩
            refine kk _ pF _ (fun c o e n => b5 _ _ (b _ _ (sF1 _ _ e) n (ne_of_none e hpF)) n) ⟨g5, fun l v e => ?_⟩ (Nat.le_trans (length_putK _ _ _) hlen) (fr pF hpF) LF
            rw [valV_put] at e
            by_cases c : kl l = kl (k0 :: b0 :: lr)
            · rw [if_pos c] at e
              cases e
              have := kl_inj c
              subst this
              exact ⟨pF, rfl, fr pF hpF, LF⟩
            · rw [if_neg c] at e
              obtain ⟨q, e1, e2, e3⟩ := kn'.vals l v e
              exact ⟨q, e1, e2.1, sh_list e3 (fun us y => b5 _ _ y (ne_of y kn'.at_ fun q => by cases q)) t5⟩
        · cases hv : valV kvs (kl l) with
          | none => rw [hv] at c2; cases c2
          | some v =>
            obtain ⟨q, rfl, e2, e3⟩ := kn.vals l v hv
            refine ⟨_, rfl, _, rfl, dd, _, rfl, hv ▸ DGet.t kn.at_ eb, ?_⟩
            exact kk H q kvs (but_of (Same.refl H) dd) kn (Nat.le_add_right _ _) e2 e3
end
end Sm
/-! All shapes, how many, the best of them. -/
namespace Sm
open PySem PySem.Spec PyProof.Rows L2
abbrev s_all_shapes : Stmt := topS 7
theorem sc_all_shapes : FnScope ["n"] ["n"] (defScope s_all_shapes) := ⟨rfl, rfl, rfl, by decide +kernel, rfl, by decide +kernel, by decide +kernel⟩
abbrev s_shape_count : Stmt := topS 8
theorem sc_shape_count : FnScope ["n", "count", "smaller"] ["n"] (defScope s_shape_count) := ⟨rfl, rfl, rfl, by decide +kernel, rfl, by decide +kernel, by decide +kernel⟩
abbrev s_shape_outcome : Stmt := topS 24
theorem sc_shape_outcome : FnScope ["shape", "known"] ["shape", "known"] (defScope s_shape_outcome) := ⟨rfl, rfl, rfl, by decide +kernel, rfl, by decide +kernel, by decide +kernel⟩
abbrev s_cost : Stmt := topS 25
theorem sc_cost : FnScope ["shape", "known", "outcome"] ["shape", "known"] (defScope s_cost) := ⟨rfl, rfl, rfl, by decide +kernel, rfl, by decide +kernel, by decide +kernel⟩
abbrev s_least_shape : Stmt := topS 26
theorem sc_least_shape : FnScope ["leaves", "known", "number", "leaf"] ["leaves"] (defScope s_least_shape) := ⟨rfl, rfl, rfl, by decide +kernel, rfl, by decide +kernel, by decide +kernel⟩
theorem rgV_nat (n : Nat) : rgV 0 (n : Int) = natV (List.range n) := by
  have e : ((n : Int) - 0).toNat = n := by omega
  unfold rgV
  rw [e]
  refine List.map_congr_left fun i _ => ?_
  show V.int (0 + (i : Int)) = V.int (i : Int)
  rw [Int.zero_add]
theorem hu9 {k : Nat} {A : Around} (hr : Room k A) : A.units + 9 < cLine := by
  have := hr.un
  omega
section
variable {P : Program} {w : World} {K : PySem.W.Frag} {mg : Str → Option Value} {base : Heap} {CO CD : Addr}
def spAll : Sp := fun vs H Q _ => ∃ n : Nat, vs = [.int n] ∧ 0 < n ∧ n ≤ 6 ∧ ∀ H' q, Same H H' → LsAt ShR H' q (Lr72.allShapes n) → Q (.ref q) H'
theorem ok_all_shapes (T : Txt K mg CO CD) (S : Src K mg "all_shapes" s_all_shapes ["n"]) (d_shapes_over : Df P w K mg base 8 "shapes_over" ["members", "known"] (spOver 7)) : Df P w K mg base 9 "all_shapes" ["n"] spAll := by
  obtain ⟨f, fd, F, hm, hb⟩ := S.ex
  refine ⟨f, fd, F.ok (k := 8) sc_all_shapes (fun vs H Q E h => ?_) (fun cdv A outer s H vs Q E hr h => ⟨_, (pss_one (ps_ret (pe_df d_shapes_over (hr.mono (by decide)) (by rfl) (pa_cons (pe_tupRg rfl (by rfl) T.b_tuple (prg_1 (by rfl) T.b_range (pv 0))) (pa_cons pe_dnewT pa_nil))))), ?_⟩), hm, F.kp, hb⟩
  · obtain ⟨_, rfl, _⟩ := h
    rfl
  · obtain ⟨n, rfl, h0, h6, k⟩ := h
    refine ⟨_, rfl, (n : Int), rfl, RgOk.of_le (by omega) (by omega) (by omega) (by omega), fun q hq => ?_⟩
    have s1 : Same H (upd H q (.tup (rgV 0 (n : Int)))) := same_upd hq
    have g1 : upd H q (.tup (rgV 0 (n : Int))) q = some (.tup (natV (List.range n))) := by rw [upd_same, rgV_nat]
    generalize upd H q (.tup (rgV 0 (n : Int))) = H1 at s1 g1
    intro dd hdd
    have s2 : Same H1 (upd H1 dd (.dT [])) := same_upd hdd
    refine ⟨q, dd, List.range n, [], fun _ => True, rfl, s2 _ _ g1, by simpa using h0, by simp; omega, by simpa using h6, ⟨upd_same, fun l v e => by cases e⟩, fun _ _ => trivial, ?_, fun H' p kvs' b kn _ _ L => ?_⟩
    · have h1 : Tn (List.range n).length ≤ 1345601 := Nat.le_trans (Tn_mono (by simpa using h6)) Tn6
      have h2 : sizeLine = 16777216 := by decide
      rw [h2]
      show 0 + Tn (List.range n).length < _
      omega
    · rw [← allShapes_is] at L
      exact k H' p (s1.trans (((but_of s2 dd).trans b).same hdd)) L
def spCount : Sp := fun vs H Q _ => ∃ n : Nat, vs = [.int n] ∧ n ≤ 6 ∧ Q (.int (cnt n : Nat)) H
theorem ok_shape_count (T : Txt K mg CO CD) (S : Src K mg "shape_count" s_shape_count ["n"]) : Df P w K mg base 1 "shape_count" ["n"] spCount := by
  obtain ⟨f, fd, F, hm, hb⟩ := S.ex
  refine ⟨f, fd, F.ok sc_shape_count (fun vs H Q E h => ?_) (fun cdv A outer s H vs Q E hr h => ⟨_, (pss_cons (ps_if (pt_cmpR op_eq (pv 0) pe_int (nomark _)) (pss_one (ps_ret pe_int)) pss_nil)
      (pss_cons (ps_set (i := 1) sc_shape_count.nd rfl (Or.inl rfl) pe_int)
      (pss_cons (ps_for PassesOwn.never rfl (pi_range2 (by rfl) T.b_range (pa_cons pe_int (pa_cons (pv 0) pa_nil))) (pg_name (i := 2) sc_shape_count.nd rfl (Or.inl rfl)) (pss_one (ps_set (i := 1) sc_shape_count.nd rfl (Or.inl rfl) (pe_op op_mul (pv 1) (pe_op op_sub (pe_op op_mul pe_int (pv 2)) pe_int)))))
      (pss_one (ps_ret (pv 1)))))), ?_⟩), hm, F.kp, hb⟩
  · obtain ⟨_, rfl, _⟩ := h
    rfl
  · obtain ⟨n, rfl, h6, k⟩ := h
    refine ⟨_, rfl, rfl, _, rfl, ite_b (fun c => ?_) (fun c => ?_)⟩
    · have c := V.int.inj (of_decide_eq_true c)
      have e : n = 0 := by omega
      subst e
      exact k
    · have c := of_decide_eq_false c
      have h0 : 0 < n := Nat.pos_of_ne_zero fun z => c (by rw [z]; rfl)
      refine ⟨_, rfl, 1, (n : Int), rfl, ⟨by decide, by decide, by omega, by omega⟩, for_range (lo := 1) (n := ((n : Int) - 1).toNat) (fun i σ H' => ∃ u, σ = [some (.int n), some (.int (cntTo i : Nat)), u] ∧ H' = H) ⟨none, rfl, rfl⟩ ?_ ?_⟩
      · rintro i σ H' hi ⟨u, rfl, rfl⟩
        refine ⟨_, rfl, _, rfl, _, _, rfl, rfl, .inl ⟨by decide, by decide⟩, _, _, rfl, rfl, _, _, rfl, rfl, ?_, ?_⟩
        · have := cntTo_small i (by omega)
          refine .inl ⟨?_, ?_⟩
          · show -(2 ^ 64) < ((cntTo i : Nat) : Int)
            omega
          · show ((cntTo i : Nat) : Int) < 2 ^ 64
            omega
        · refine ⟨some (.int ((1 : Int) + (i : Nat))), ?_, rfl⟩
          have e : (2 * ((1 : Int) + (i : Nat)) - 1) = ((2 * (i + 1) - 1 : Nat) : Int) := by omega
          have e2 : ((cntTo i : Nat) : Int) * (2 * ((1 : Int) + (i : Nat)) - 1) = ((cntTo (i + 1) : Nat) : Int) := by
            rw [e, ← Int.natCast_mul] <;> rfl
          show [some (V.int (n : Int)), some (V.int (((cntTo i : Nat) : Int) * (2 * ((1 : Int) + (i : Nat)) - 1))), some (V.int ((1 : Int) + (i : Nat)))] = _
          rw [e2]
      · rintro σ H' ⟨u, rfl, rfl⟩
        have e : ((n : Int) - 1).toNat = n - 1 := by omega
        rw [e]
        have e2 : cnt n = cntTo (n - 1) := if_neg (by omega)
        rw [e2] at k
        exact ⟨_, rfl, k⟩
/-! ### what a shape comes to, kept -/
/-- what known holds -/
def KO (CO : Addr) (ls : List Lf) (H : Hp) (kvs : List (Tr × V × V)) : Prop := ∀ t v, mxVal kvs t = some v → OutAt CO H (Lr72.sum ls t) v
theorem OutAt.mx {C d : Addr} {H H' : Hp} {w : World} {kvs : List (Tr × V × V)} (b : But d H H') (hd : H d = some (MxO w d kvs)) {S : Su} {v : V} (h : OutAt C H S v) : OutAt C H' S v := by
  obtain ⟨a, dx, p, e, h1, h2⟩ := h
  exact ⟨a, dx, p, e, b _ _ h1 (ne_of h1 hd fun z => by unfold MxO at z; cases z), b _ _ h2 (ne_of h2 hd fun z => by unfold MxO at z; cases z)⟩
theorem mx_tups {d : Addr} {H H' : Hp} {w : World} {kvs : List (Tr × V × V)} (b : But d H H') (hd : H d = some (MxO w d kvs)) : ∀ c xs, H c = some (.tup xs) → H' c = some (.tup xs) :=
  b.tups fun xs z => by rw [hd] at z; unfold MxO at z; cases z
theorem mxVal_snoc (kvs : List (Tr × V × V)) (t u : Tr) (y v : V) (h : mxVal kvs t = none) : mxVal (kvs ++ [(t, y, v)]) u = if u = t then some v else mxVal kvs u := by
  unfold mxVal at h ⊢
  rw [Option.map_eq_none_iff] at h
  rw [List.find?_append]
  by_cases c : u = t
  · subst c
    rw [if_pos rfl, h, Option.none_or, List.find?_cons_of_pos (by simp)] <;> rfl
  · rw [if_neg c]
    have e : List.find? (fun p : Tr × V × V => decide (p.1 = u)) [(t, y, v)] = none := by
      rw [List.find?_cons_of_neg (by simp; exact fun z => c z.symm)] <;> rfl
    rw [e]
    cases List.find? (fun p : Tr × V × V => decide (p.1 = u)) kvs <;> rfl
theorem mx_put {w : World} {H H' : Hp} {d : Addr} {kvs : List (Tr × V × V)} {t : Tr} {y v : V} (M : MxAt w H d kvs) (hH : H' = upd H d (MxO w d (kvs ++ [(t, y, v)]))) (sh : ShAt H y t) (hj : jc t ≤ 8) (hn : mxVal kvs t = none) (hl : kvs.length < sizeLine) : MxAt w H' d (kvs ++ [(t, y, v)]) := by
  subst hH
  have tp := mx_tups (But.upd (o := MxO w d (kvs ++ [(t, y, v)]))) M.at_
  refine ⟨upd_same, M.sys, by rw [List.length_append]; exact hl, fun p hp => ?_, ?_⟩
  · rcases List.mem_append.mp hp with z | z
    · exact ⟨(M.keys p z).1.same tp, (M.keys p z).2⟩
    · rw [List.mem_singleton.mp z]
      exact ⟨sh.same tp, hj⟩
  · rw [List.map_append, List.nodup_append]
    refine ⟨M.nd, by simp, fun a ha b hb e => ?_⟩
    have hb : b = t := List.mem_singleton.mp hb
    subst hb
    subst e
    obtain ⟨p, hp, e⟩ := List.mem_map.mp ha
    exact (mxVal_none.mpr hn) (List.mem_map.mpr ⟨p, hp, by rw [e]⟩)
/-- what a call leaves of known -/
structure Grew (w : World) (CO : Addr) (ls : List Lf) (d : Addr) (n : Nat) (kvs : List (Tr × V × V)) (H H' : Hp) (kvs' : List (Tr × V × V)) : Prop where
  but : But d H H'
  at_ : MxAt w H' d kvs'
  ko : KO CO ls H' kvs'
  old : ∀ u v, mxVal kvs u = some v → mxVal kvs' u = some v
  new : ∀ u, mxVal kvs u = none → n < jc u → mxVal kvs' u = none
  len : kvs'.length ≤ kvs.length + n
def spShOut (w : World) (CO : Addr) (d : Nat) : Sp := fun vs H Q _ => ∃ (sh : V) (dd : Addr) (t : Tr) (kvs : List (Tr × V × V)) (ls : List Lf), vs = [sh, .ref dd] ∧ ShAt H sh t ∧ jc t < d ∧ jc t ≤ 8 ∧ MxAt w H dd kvs ∧ KO CO ls H kvs ∧ (∀ k ∈ lvs t, mxVal kvs (.leaf k) ≠ none) ∧ kvs.length + jc t < sizeLine ∧
  ∀ H' v kvs', Grew w CO ls dd (jc t) kvs H H' kvs' → OutAt CO H' (Lr72.sum ls t) v → Q v H'
theorem ok_shape_outcome (T : Txt K mg CO CD) (S : Src K mg "shape_outcome" s_shape_outcome ["shape", "known"]) (d_joint_outcome : Df P w K mg base 3 "joint_outcome" ["first", "second"] (spJointOut CO)) : ∀ d : Nat, Df P w K mg base (d + 3) "shape_outcome" ["shape", "known"] (spShOut w CO d)
  | 0 => by
    obtain ⟨f, fd, F, hm, hb⟩ := S.ex
    refine ⟨f, fd, ⟨fun vs H Q E h => ?_, fun A outer s H args us vs Q E hr e0 hbi r h => ?_⟩, hm, F.kp, hb⟩
    · obtain ⟨_, _, _, _, _, _, _, z, _⟩ := h
      exact absurd z (Nat.not_lt_zero _)
    · obtain ⟨_, _, _, _, _, _, _, z, _⟩ := h
      exact absurd z (Nat.not_lt_zero _)
  | d + 1 => by
    have d_shape_outcome := ok_shape_outcome T S d_joint_outcome d
    obtain ⟨f, fd, F, hm, hb⟩ := S.ex
    refine ⟨f, fd, F.ok (k := d + 3) sc_shape_outcome (fun vs H Q E h => ?_) (fun cdv A outer s H vs Q E hr h => ⟨_, (pss_cons (ps_if (pt_cmp (pc_mxnotin (hu9 hr) (pv 0) (pv 1))) (pss_one (ps_mxput (hu9 hr) (pv 1) (pv 0) (pe_df d_joint_outcome (hr.mono (by omega)) (by rfl) (pa_cons (pe_df d_shape_outcome (hr.mono (by omega)) (by rfl) (pa_cons (pe_ix ix_tup (pv 0) pe_int (fun _ _ => rfl)) (pa_cons (pv 1) pa_nil))) (pa_cons (pe_df d_shape_outcome (hr.mono (by omega)) (by rfl) (pa_cons (pe_ix ix_tup (pv 0) pe_int (fun _ _ => rfl)) (pa_cons (pv 1) pa_nil))) pa_nil))) rfl)) pss_nil)
      (pss_one (ps_ret (pe_mxget (hu9 hr) (pv 1) (pv 0) (fun _ _ => rfl))))), ?_⟩), hm, F.kp, hb⟩
    · obtain ⟨_, _, _, _, _, rfl, _⟩ := h
      rfl
    · obtain ⟨sh, dd, t, kvs, ls, rfl, hsh, hd, h8, M, ko, lv, hsz, kk⟩ := h
      refine ⟨_, rfl, _, rfl, dd, kvs, t, rfl, M, hsh, h8, _, rfl, ite_b (fun c => ?_) (fun c => ?_)⟩
      · have hv : mxVal kvs t = none := Option.isNone_iff_eq_none.mp c
        cases hsh with
        | leaf k0 => exact absurd hv (lv k0 (List.mem_singleton.mpr rfl))
        | @two a x y t1 t2 e h1 h2 =>
          have hd : jc t1 + jc t2 + 1 < d + 1 := hd
          have h8' : jc t1 + jc t2 + 1 ≤ 8 := h8
          have hsz : kvs.length + (jc t1 + jc t2 + 1) < sizeLine := hsz
          have jj : jc (Lr72.Tree.two t1 t2) = jc t1 + jc t2 + 1 := rfl
          refine ⟨_, rfl, a, _, _, _, rfl, rfl, SqT.of e, rfl, _, rfl, x, dd, t1, kvs, ls, rfl, h1, by omega, by omega, M, ko, fun k hk => lv k (List.mem_append.mpr (.inl hk)), by omega, fun H1 v1 kvs1 G1 o1 => ?_⟩
          have tp1 := mx_tups G1.but M.at_
          have lv1 : ∀ k ∈ lvs t2, mxVal kvs1 (.leaf k) ≠ none := fun k hk z => by
            cases q : mxVal kvs (.leaf k) with
            | none => exact lv k (List.mem_append.mpr (.inr hk)) q
            | some v => rw [G1.old _ _ q] at z; cases z
          have len1 := G1.len
          refine ⟨_, rfl, a, _, _, _, rfl, rfl, SqT.of (tp1 _ _ e), rfl, _, rfl, y, dd, t2, kvs1, ls, rfl, h2.same tp1, by omega, by omega, G1.at_, G1.ko, lv1, by omega, fun H2 v2 kvs2 G2 o2 => ?_⟩
          have tp2 := mx_tups G2.but G1.at_.at_
          have len2 := G2.len
          refine ⟨v1, v2, _, _, rfl, o1.mx G2.but G1.at_.at_, o2, fun H3 r s3 o3 => ?_⟩
          have M3 : MxAt w H3 dd kvs2 := ⟨s3 _ _ G2.at_.at_, G2.at_.sys, G2.at_.len, fun p hp => ⟨(G2.at_.keys p hp).1.same fun b ys z => s3 _ _ z, (G2.at_.keys p hp).2⟩, G2.at_.nd⟩
          have sh3 : ShAt H3 (.ref a) (.two t1 t2) := (ShAt.two (tp2 _ _ (tp1 _ _ e)) ((h1.same tp1).same tp2) ((h2.same tp1).same tp2)).same fun b ys z => s3 _ _ z
          have hv2 : mxVal kvs2 (.two t1 t2) = none := G2.new _ (G1.new _ hv (by omega)) (by omega)
          refine ⟨_, rfl, _, rfl, dd, kvs2, .two t1 t2, rfl, M3, sh3, h8, hv2, by omega, ?_⟩
          have b4 : But dd H3 (upd H3 dd (MxO w dd (kvs2 ++ [(.two t1 t2, .ref a, r)]))) := But.upd
          have M4 := mx_put M3 rfl sh3 h8 hv2 (by omega) (v := r)
          have sh4 := sh3.same (mx_tups b4 M3.at_)
          have gv : mxVal (kvs2 ++ [(.two t1 t2, .ref a, r)]) (.two t1 t2) = some r := by rw [mxVal_snoc _ _ _ _ _ hv2, if_pos rfl]
          refine ⟨_, rfl, _, rfl, dd, _, .two t1 t2, r, rfl, M4, sh4, h8, gv, ?_⟩
          refine kk _ r _ ⟨(G1.but.trans (G2.but.trans (but_of s3 dd))).trans b4, M4, fun u v q => ?_, fun u v q => ?_, fun u q hu => ?_, ?_⟩ (o3.mx b4 M3.at_)
          · rw [mxVal_snoc _ _ _ _ _ hv2] at q
            by_cases c : u = .two t1 t2
            · rw [if_pos c] at q
              cases q
              subst c
              exact o3.mx b4 M3.at_
            · rw [if_neg c] at q
              exact ((G2.ko _ _ q).same s3).mx b4 M3.at_
          · rw [mxVal_snoc _ _ _ _ _ hv2]
            by_cases c : u = .two t1 t2
            · subst c
              rw [hv] at q
              cases q
            · rw [if_neg c]
              exact G2.old _ _ (G1.old _ _ q)
          · rw [mxVal_snoc _ _ _ _ _ hv2]
            by_cases c : u = .two t1 t2
            · subst c
              exact absurd hu (Nat.lt_irrefl _)
            · rw [if_neg c]
              rw [jj] at hu
              exact G2.new _ (G1.new _ q (by omega)) (by omega)
          · rw [List.length_append, jj]
            show kvs2.length + 1 ≤ _
            omega
      · cases hv : mxVal kvs t with
        | none => rw [hv] at c; cases c
        | some v =>
          refine ⟨_, rfl, _, rfl, dd, kvs, t, v, rfl, M, hsh, h8, hv, ?_⟩
          exact kk H v kvs ⟨but_of (Same.refl H) dd, M, ko, fun _ _ q => q, fun _ q _ => q, Nat.le_add_right _ _⟩ (ko t v hv)
def spCost (w : World) (CO : Addr) : Sp := fun vs H Q _ => ∃ (sh : V) (dd : Addr) (t : Tr) (kvs : List (Tr × V × V)) (ls : List Lf), vs = [sh, .ref dd] ∧ ShAt H sh t ∧ jc t ≤ 8 ∧ MxAt w H dd kvs ∧ KO CO ls H kvs ∧ (∀ k ∈ lvs t, mxVal kvs (.leaf k) ≠ none) ∧ kvs.length + jc t < sizeLine ∧
  ∀ H' p kvs', Grew w CO ls dd (jc t) kvs H H' kvs' → H' p = some (.tup [.int (Lr72.sum ls t).wire, .int (Lr72.sum ls t).time]) → Q (.ref p) H'
theorem Grew.same {w : World} {CO : Addr} {ls : List Lf} {d : Addr} {n : Nat} {kvs kvs' : List (Tr × V × V)} {H H1 H2 : Hp} (G : Grew w CO ls d n kvs H H1 kvs') (s : Same H1 H2) : Grew w CO ls d n kvs H H2 kvs' :=
  ⟨G.but.trans (but_of s d), ⟨s _ _ G.at_.at_, G.at_.sys, G.at_.len, fun p hp => ⟨(G.at_.keys p hp).1.same fun b ys z => s _ _ z, (G.at_.keys p hp).2⟩, G.at_.nd⟩, fun t v q => (G.ko t v q).same s, G.old, G.new, G.len⟩
theorem ok_cost (T : Txt K mg CO CD) (S : Src K mg "cost" s_cost ["shape", "known"]) (d_shape_outcome : Df P w K mg base 12 "shape_outcome" ["shape", "known"] (spShOut w CO 9)) : Df P w K mg base 13 "cost" ["shape", "known"] (spCost w CO) := by
  obtain ⟨f, fd, F, hm, hb⟩ := S.ex
  refine ⟨f, fd, F.ok (k := 12) sc_cost (fun vs H Q E h => ?_) (fun cdv A outer s H vs Q E hr h => ⟨_, (pss_cons (ps_set (i := 2) sc_cost.nd rfl (Or.inl rfl) (pe_df d_shape_outcome (hr.mono (by decide)) (by rfl) (pa_cons (pv 0) (pa_cons (pv 1) pa_nil))))
      (pss_one (ps_ret (pe_tup (pa_cons (pe_fld (pv 2) rfl) (pa_cons (pe_fld (pv 2) rfl) pa_nil)))))), ?_⟩), hm, F.kp, hb⟩
  · obtain ⟨_, _, _, _, _, rfl, _⟩ := h
    rfl
  · obtain ⟨sh, dd, t, kvs, ls, rfl, hsh, h8, M, ko, lv, hsz, kk⟩ := h
    refine ⟨_, rfl, _, rfl, sh, dd, t, kvs, ls, rfl, hsh, by omega, h8, M, ko, lv, hsz, fun H1 v kvs' G o => ?_⟩
    obtain ⟨a, dx, p, rfl, ha, hp⟩ := o
    refine ⟨_, rfl, a, CO, dx, _, _, rfl, ha, T.c_CO, T.n_CO_wire, out_wire _ p, _, rfl, a, CO, dx, _, _, rfl, ha, T.c_CO, T.n_CO_time, out_time _ p, (by show 2 ≤ sizeLine; decide), fun q hq => ?_⟩
    exact kk _ q kvs' (G.same (same_upd hq)) upd_same
end
end Sm
/-! The best of all shapes. -/
namespace Sm
open PySem PySem.Spec PyProof.Rows L2 LamX NdefX
/-- the lambda of the text -/
def lamE : Expr := match (defBody s_least_shape).getD 2 (.Pass ⟨0, 0, 0, 0⟩) with
  | .Return (some (.Call _ _ [kw] _)) _ => kw.value
  | _ => .Constant .none 0 ⟨0, 0, 0, 0⟩
def lamScope : Scope := match lamE with
  | .Lambda _ _ sc _ => sc
  | _ => { kind := .function, names := [], isGenerator := false, isCoroutine := false }
theorem lam_sc : NScope ["shape", "known"] ["shape"] ["known"] lamScope := nscope_by (by decide +kernel)
theorem lam_free : ∀ y ∈ lamScope.names, y.2 = .free → (defScope s_least_shape).names.lookup y.1 = some .cell ∨ (defScope s_least_shape).names.lookup y.1 = some .free := by decide +kernel
theorem lam_fr : ∀ y ∈ (["known"] : List Str), (y, NameKind.free) ∈ lamScope.names := by decide +kernel
def qLam : Str := (envOfC "least_shape" (defScope s_least_shape) 0 0 .none).qual ++ "<lambda>"
/-- the def that makes the lambda, its code object at c -/
structure SrcT (K : PySem.W.Frag) (mg : Str → Option Value) (c : Addr) : Prop where
  ex : ∃ (f : Addr) (oc : Value) (od an : Option Addr) (kV doc pm ct : Value) (osl : Array (Option Value)),
    K.lookup f = some ⟨oc, od, .func (PySem.W.fnOf "least_shape" "least_shape" (defArgs s_least_shape) (defBody s_least_shape) (defScope s_least_shape) .none kV doc pm an (.ref c) ct), osl⟩ ∧ PySem.W.codeIn K (.ref c) "least_shape" = true ∧ mg "least_shape" = some (.ref f) ∧ PySem.W.keepIn K (.ref f) = true ∧
    L2.Binds K (PySem.W.fnOf "least_shape" "least_shape" (defArgs s_least_shape) (defBody s_least_shape) (defScope s_least_shape) .none kV doc pm an (.ref c) ct) ["leaves"] []
theorem tabs_same {T : List (Addr × Str)} {H H' : Hp} (t : Tabs T H) (s : Same H H') : Tabs T H' := t.ext s
section
variable {P : Program} {w : World} {K : PySem.W.Frag} {mg : Str → Option Value} {base : Heap} {CO CD : Addr}
def keyT (ls : List Lf) (n : Nat) (i : Nat) : Int × Int := match (Lr72.allShapes n)[i]? with
  | some t => ((Lr72.sum ls t).wire, (Lr72.sum ls t).time)
  | none => (0, 0)
theorem keyT_at {ls : List Lf} {n i : Nat} {t : Tr} (h : (Lr72.allShapes n)[i]? = some t) : keyT ls n i = ((Lr72.sum ls t).wire, (Lr72.sum ls t).time) := by
  unfold keyT
  rw [h]
theorem better_key (x y : Su) : Lr72.better x y = pLt (x.wire, x.time) (y.wire, y.time) := by
  rw [Bool.eq_iff_iff, better_iff, pLt_iff]
def spLeast (Pt : Addr) : Sp := fun vs H Q _ => ∃ (aL : Addr) (ls : List Lf), vs = [.ref aL] ∧ LvAt H aL ls ∧ 0 < ls.length ∧ ls.length ≤ 6 ∧ Tabs [(Pt, qLam)] H ∧
  ∀ H' v t, ExtN H H' → Tabs [(Pt, qLam)] H' → Lr72.best ls (Lr72.allShapes ls.length) = some t → ShAt H' v t → Q v H'
theorem ok_least_shape (T : Txt K mg CO CD) {c Pt : Addr} (S : SrcT K mg c) (TB : TabB base mg c Pt) (d_leaf_outcome : Df P w K mg base 3 "leaf_outcome" ["leaf"] (spLeafOut CO)) (d_all_shapes : Df P w K mg base 9 "all_shapes" ["n"] spAll) (d_cost : Df P w K mg base 13 "cost" ["shape", "known"] (spCost w CO)) :
    Df P w K mg base 16 "least_shape" ["leaves"] (spLeast Pt) := by
  obtain ⟨f, oc, od, an, kV, doc, pm, ct, osl, lk, hcd, hm, kp, hb⟩ := S.ex
  refine ⟨f, _, fn_of (k := 15) lk hcd sc_least_shape (fun vs H Q E h => ?_) (fun A outer s H vs Q E hr h => ?_), hm, kp, hb⟩
  · obtain ⟨_, _, rfl, _⟩ := h
    rfl
  · have go : ∃ t, PSs (cxOf CX0 P w K mg base ["leaves", "known", "number", "leaf"] "least_shape" (defScope s_least_shape) f (.ref c) A outer s H E).nox (defBody s_least_shape) t ∧ t { nx := fun _ H' => Q .non H', rt := Q } (L2.start ["leaves", "known", "number", "leaf"] vs) H := by
      refine ⟨_, (pss_cons (ps_set (i := 1) sc_least_shape.nd rfl (Or.inr rfl) pe_mxnew)
      (pss_cons (ps_for PassesOwn.never rfl (pi_enum (by rfl) T.b_enumerate (pa_cons (pv 0) pa_nil)) (pg_tup rfl (pgs_cons (pg_name (i := 2) sc_least_shape.nd rfl (Or.inl rfl)) (pgs_cons (pg_name (i := 3) sc_least_shape.nd rfl (Or.inl rfl)) pgs_nil))) (pss_one (ps_mxput (hu9 hr) (pv 1) (pv 2) (pe_df d_leaf_outcome (hr.mono (by decide)) (by rfl) (pa_cons (pv 3) pa_nil)) rfl)))
      (pss_one (ps_ret (pe_minLam (T := [(Pt, qLam)]) (k := 13) (c := c) (P := Pt) (x := "shape") (N := ["shape", "known"]) (fr := ["known"]) (js := [1]) (tb := tCall (spCost w CO) [] E0 (tCons (tVar 0) (tCons (tVar 1) tNil))) (by rfl) T.b_min (pa_cons (pe_df d_all_shapes (hr.mono (by decide)) (by rfl) (pa_cons (pe_callB call_len_seq (by rfl) T.b_len PySem.boot_len (pa_cons (pv 0) pa_nil)) pa_nil)) pa_nil) TB rfl (List.mem_singleton.mpr rfl) (fun p hp _ => by rw [List.mem_singleton.mp hp]; rfl) rfl lam_free lam_fr rfl lam_sc (fun _ _ _ _ _ _ => rfl) hr (fun b hb => ⟨fun z => hb (z ▸ List.mem_cons_self ..), fun z => hb (List.mem_cons_of_mem _ z)⟩) (fun f c' A outer s H hr' => pe_df d_cost hr' (by rfl) (pa_cons (pv 0) (pa_cons (pv 1) pa_nil)))))))), ?_⟩
      obtain ⟨aL, ls, rfl, ⟨vsL, hL, rL⟩, h0, h6, tb, kk⟩ := h
      intro dd hdd hsys
      have sl : sizeLine = 16777216 := by decide
      refine ⟨_, rfl, aL, _, rfl, SqL.of ((same_upd hdd) _ _ hL), for_enum (K := K) (a := aL) (xs := vsL) (fun i σ H' => ∃ u v kvs, σ = [some (.ref aL), some (.ref dd), u, v] ∧ But dd H H' ∧ MxAt w H' dd kvs ∧ KO CO ls H' kvs ∧ kvs.length = i ∧ (∀ k, k < i → mxVal kvs (.leaf k) ≠ none) ∧ ∀ t, i ≤ t → mxVal kvs (.leaf t) = none) ?_ ?_ ?_ ?_⟩
      · refine ⟨none, none, [], rfl, But.upd, ⟨upd_same, hsys, Nat.zero_le _, fun p hp => absurd hp (by simp), List.nodup_nil⟩, (fun t v e => by cases e), rfl, fun k hk => absurd hk (Nat.not_lt_zero _), fun t _ => rfl⟩
      · rintro i σ H' _ ⟨_, _, _, _, b, _⟩
        exact SqL.of ((b.same hdd) _ _ hL)
      · rintro i y q σ H' hy ⟨u, v, kvs, rfl, b, M, ko, hl, hk, hn⟩ hq
        obtain ⟨lf, hlf, l, rfl, hlT⟩ := rL.back hy
        have li : i < ls.length := (List.getElem?_eq_some_iff.mp hlf).1
        have s1 : Same H' (upd H' q (.tup [.int (i : Int), .ref l])) := same_upd hq
        have g1 : upd H' q (.tup [.int (i : Int), .ref l]) q = some (.tup [.int (i : Int), .ref l]) := upd_same
        generalize upd H' q (.tup [.int (i : Int), .ref l]) = H1 at s1 g1
        refine ⟨q, _, rfl, SqT.of g1, rfl, _, _, rfl, _, _, rfl, rfl, ?_⟩
        refine ⟨_, rfl, l, lf, rfl, s1 _ _ ((b.same hdd) _ _ hlT), fun H2 r s2 o => ?_⟩
        have s12 := s1.trans s2
        have M2 : MxAt w H2 dd kvs := ⟨s12 _ _ M.at_, M.sys, M.len, fun p hp => ⟨(M.keys p hp).1.same fun b ys z => s12 _ _ z, (M.keys p hp).2⟩, M.nd⟩
        have hv := hn i (Nat.le_refl _)
        refine ⟨_, rfl, _, rfl, dd, kvs, .leaf i, rfl, M2, .leaf i, by show 0 ≤ 8; omega, hv, by omega, ?_⟩
        have b3 : But dd H2 (upd H2 dd (MxO w dd (kvs ++ [(.leaf i, .int (i : Int), r)]))) := But.upd
        have M3 := mx_put M2 rfl (.leaf i) (by show 0 ≤ 8; omega) hv (by omega) (v := r)
        refine ⟨_, _, _, rfl, (b.trans (but_of s12 dd)).trans b3, M3, fun t v e => ?_, by rw [List.length_append, hl] <;> rfl, fun k hk' => ?_, fun t ht => ?_⟩
        · rw [mxVal_snoc _ _ _ _ _ hv] at e
          by_cases c : t = .leaf i
          · rw [if_pos c] at e
            cases e
            subst c
            have e2 : Lr72.sum ls (.leaf i) = Lr72.leafSum lf := by
              unfold Lr72.sum
              rw [hlf]
            rw [e2]
            exact o.mx b3 M2.at_
          · rw [if_neg c] at e
            exact ((ko _ _ e).same s12).mx b3 M2.at_
        · rw [mxVal_snoc _ _ _ _ _ hv]
          by_cases c : k = i
          · rw [if_pos (by rw [c])]
            exact fun z => by cases z
          · rw [if_neg (fun z => c (Lr72.Tree.leaf.inj z))]
            exact hk k (by omega)
        · rw [mxVal_snoc _ _ _ _ _ hv, if_neg (fun z => by have := Lr72.Tree.leaf.inj z; omega)]
          exact hn t (by omega)
      · rintro σ H0 ⟨u, v, kvs, rfl, b, M, ko, hl, hk, hn⟩
        rw [rL.1] at hl hk hn
        have s0 := b.same hdd
        refine ⟨_, rfl, aL, _, rfl, .inl (SqL.of (s0 _ _ hL)), ls.length, (by rw [rL.1]; rfl), h0, h6, fun H1 q s1 Ls => ?_⟩
        obtain ⟨vs1, hq1, r1⟩ := Ls
        have s01 := s0.trans s1
        refine ⟨q, rfl, tabs_same tb s01, fun c' H2 eN T2 hco apt => ?_⟩
        have nt : ∀ {o : HO}, (∀ xs, o = .tup xs → True) → True := fun _ => trivial
        have up : ∀ b o, H1 b = some o → (∀ ps, o ≠ .tbl ps) → H2 b = some o := eN
        have tp12 : ∀ b ys, H1 b = some (.tup ys) → H2 b = some (.tup ys) := fun b ys e => up _ _ e fun ps z => by cases z
        have hdd1 := s1 _ _ M.at_
        have hdd2 : H2 dd = some (MxO w dd kvs) := up _ _ hdd1 fun ps z => by unfold MxO at z; cases z
        have hq2 : H2 q = some (.lst vs1) := up _ _ hq1 fun ps z => by cases z
        have M2 : MxAt w H2 dd kvs := ⟨hdd2, M.sys, M.len, fun p hp => ⟨((M.keys p hp).1.same fun b ys z => s1 _ _ z).same tp12, (M.keys p hp).2⟩, M.nd⟩
        have ko2 : KO CO ls H2 kvs := fun t v e => by
          obtain ⟨a, dx, p, e1, e2, e3⟩ := (ko t v e).same s1
          exact ⟨a, dx, p, e1, up _ _ e2 (fun ps z => by cases z), up _ _ e3 fun ps z => by cases z⟩
        have r2 : Rel2 (ShR H2) (Lr72.allShapes ls.length) vs1 := r1.mono fun t v z => ShAt.same z tp12
        have lenA : vs1.length ≤ 945 := by
          rw [r1.1, allShapes_is]
          exact shp_len _ (by simpa using h6)
        have nq : q ≠ dd := ne_of hq2 hdd2 fun z => by unfold MxO at z; cases z
        have nc : c' ≠ dd := fun z => apt dd c' _ _ _ hdd2 hco z.symm
        refine ⟨vs1, keyT ls ls.length, fun i H' => ∃ kvs', But dd H2 H' ∧ MxAt w H' dd kvs' ∧ KO CO ls H' kvs' ∧ (∀ k, k < ls.length → mxVal kvs' (.leaf k) ≠ none) ∧ kvs'.length ≤ 6 + 8 * i, ?_, ?_, ?_, ?_, ?_⟩
        · exact ⟨kvs, but_of (Same.refl _) dd, M2, ko2, hk, by omega⟩
        · rintro i H' ⟨_, b', _⟩
          exact ⟨SqL.of (b' _ _ hq2 nq), b' _ _ hco nc⟩
        · rw [r1.1, cnt_is _ h6]
          match ls.length, h0, h6 with
          | 1, _, _ => decide
          | 2, _, _ => decide
          | 3, _, _ => decide
          | 4, _, _ => decide
          | 5, _, _ => decide
          | 6, _, _ => decide
        · rintro i y H' hy ⟨kvs', b', M', ko', lv', ln'⟩
          obtain ⟨t, ht, st⟩ := r2.back hy
          have il : i < 945 := Nat.lt_of_lt_of_le (List.getElem?_eq_some_iff.mp hy).1 lenA
          have ov := all_over (List.mem_of_getElem? ht)
          have jt := ov.jc
          refine ⟨_, rfl, _, rfl, y, dd, t, kvs', ls, rfl, ShAt.same st (mx_tups b' hdd2), by omega, M', ko', fun k hk' => lv' k (List.mem_range.mp (ov.mem_iff.mp hk')), by omega, fun H3 p kvs3 G gp => ?_⟩
          have gl := G.len
          refine ⟨p, rfl, by rw [keyT_at ht]; exact gp, kvs3, b'.trans G.but, G.at_, G.ko, fun k hk' z => ?_, by omega⟩
          cases q' : mxVal kvs' (.leaf k) with
          | none => exact lv' k hk' q'
          | some v => rw [G.old _ _ q'] at z; cases z
        · rintro i y H' hy hF ⟨kvs', b', M', ko', lv', ln'⟩
          obtain ⟨t, ht, st⟩ := r2.back hy
          have tp' := mx_tups b' hdd2
          refine kk H' y t (fun bb o e n => ?_) ?_ ?_ (ShAt.same st tp')
          · exact b' _ _ (up _ _ (s01 _ _ e) n) (ne_of_none e hdd)
          · intro p hp
            obtain ⟨ps, a1, a2, a3⟩ := T2 p hp
            refine ⟨ps, b' _ _ a1 (ne_of a1 hdd2 fun z => by unfold MxO at z; cases z), a2, fun pos cv hc => ?_⟩
            obtain ⟨c0, e1, e2⟩ := a3 pos cv hc
            exact ⟨c0, e1, b' _ _ e2 fun z => apt dd c0 _ _ _ hdd2 e2 z.symm⟩
          · refine best_first ls _ i t ht (fun j u hj => ?_) (fun j u hji hj => ?_)
            · have := (hF j (by rw [r1.1]; exact (List.getElem?_eq_some_iff.mp hj).1)).1
              rw [better_key, ← keyT_at hj, ← keyT_at ht]
              exact this
            · have := (hF j (by rw [r1.1]; exact (List.getElem?_eq_some_iff.mp hj).1)).2 hji
              rw [better_key, ← keyT_at hj, ← keyT_at ht]
              exact this
    obtain ⟨t, h1, h2⟩ := go
    exact ⟨t, h1.nox, h2⟩
end
end Sm
/-! Trees laid out. -/
namespace Sm
open PySem PySem.Spec PyProof.Rows L2
theorem flat_get : ∀ {ps : List (Nat × Nat)} {i a b : Nat}, ps[i]? = some (a, b) → (flat ps)[2 * i]? = some a ∧ (flat ps)[2 * i + 1]? = some b
  | [], i, a, b, h => by simp at h
  | (x, y) :: ps, 0, a, b, h => by
    cases h
    exact ⟨rfl, rfl⟩
  | (x, y) :: ps, i + 1, a, b, h => by
    have ih := flat_get (ps := ps) (i := i) (a := a) (b := b) (by simpa using h)
    have e : flat ((x, y) :: ps) = x :: y :: flat ps := rfl
    rw [e, show 2 * (i + 1) = 2 * i + 1 + 1 by omega]
    exact ih
theorem flat_nd {ps : List (Nat × Nat)} (nd : (flat ps).Nodup) {i j a b c d : Nat} (h1 : ps[i]? = some (a, b)) (h2 : ps[j]? = some (c, d)) : a ≠ b ∧ (i ≠ j → a ≠ c ∧ a ≠ d ∧ b ≠ c ∧ b ≠ d) := by
  obtain ⟨e1, e2⟩ := flat_get h1
  obtain ⟨e3, e4⟩ := flat_get h2
  have inj : ∀ {u v x : Nat}, (flat ps)[u]? = some x → (flat ps)[v]? = some x → u = v := fun p q => (List.getElem?_inj (List.getElem?_eq_some_iff.mp p).1 nd).mp (p.trans q.symm)
  refine ⟨fun z => ?_, fun n => ⟨fun z => ?_, fun z => ?_, fun z => ?_, fun z => ?_⟩⟩
  · subst z; have := inj e1 e2; omega
  · subst z; have := inj e1 e3; omega
  · subst z; have := inj e1 e4; omega
  · subst z; have := inj e2 e3; omega
  · subst z; have := inj e2 e4; omega
theorem Over.nd {n : Nat} {t : Tr} (o : Over n t) : (Sm.flat (prs t n)).Nodup := o.flat.nodup_iff.mpr List.nodup_range
theorem Over.side {n : Nat} {t : Tr} (o : Over n t) {v : Nat} (h : v < n + Sm.jc t - 1) : ∃ (i a b : Nat), (prs t n)[i]? = some (a, b) ∧ (v = a ∨ v = b) := by
  have hm : v ∈ Sm.flat (prs t n) := o.flat.mem_iff.mpr (List.mem_range.mpr h)
  obtain ⟨p, hp, hv⟩ := List.mem_flatMap.mp hm
  obtain ⟨i, hi⟩ := List.mem_iff_getElem?.mp hp
  exact ⟨i, p.1, p.2, hi, by simpa using hv⟩
theorem Over.lt {n : Nat} {t : Tr} (o : Over n t) {i a b : Nat} (h : (prs t n)[i]? = some (a, b)) : i < Sm.jc t ∧ a < n + i ∧ b < n + i ∧ a < n + Sm.jc t ∧ b < n + Sm.jc t := by
  obtain ⟨_, _, _, _, _, _, la, lb⟩ := o.stands.pair h
  have hi := (List.getElem?_eq_some_iff.mp h).1
  rw [prs_len] at hi
  exact ⟨hi, la, lb, by omega, by omega⟩
/-- the numbers of the joints above -/
def Above (n : Nat) (t : Tr) (us : List V) : Prop := us.length = n + jc t ∧ ∀ (i a b : Nat), (prs t n)[i]? = some (a, b) → us[a]? = some (.int ((n + i : Nat) : Int)) ∧ us[b]? = some (.int ((n + i : Nat) : Int))
theorem ixN_n {n j : Nat} (h : j < n) : ixN n (j : Int) = some j := by
  unfold ixN
  rw [if_pos (by omega), if_pos (by omega), Int.toNat_natCast]
theorem ixN_last {n : Nat} (h : 0 < n) : ixN n (-1) = some (n - 1) := by
  unfold ixN
  rw [if_neg (by decide), if_pos (by omega)]
  congr 1
  omega
theorem set_at {α : Type} {l : List α} {i : Nat} {x : α} (h : i < l.length) : (l.set i x)[i]? = some x := by rw [List.getElem?_set_self h]
theorem set_ne {α : Type} {l : List α} {i j : Nat} {x : α} (h : i ≠ j) : (l.set i x)[j]? = l[j]? := List.getElem?_set_ne h
theorem rep_one (k : Int) (v : V) : (List.replicate k.toNat [v]).flatten = List.replicate k.toNat v := by
  generalize k.toNat = m
  induction m with
  | zero => rfl
  | succ m ih => rw [List.replicate_succ, List.flatten_cons, ih, List.replicate_succ] <;> rfl
abbrev s_joints_above : Stmt := topS 33
theorem sc_joints_above : FnScope ["n", "pairs", "above", "k", "pair", "side"] ["n", "pairs"] (defScope s_joints_above) := ⟨rfl, rfl, rfl, by decide +kernel, rfl, by decide +kernel, by decide +kernel⟩
abbrev s_laid_places : Stmt := topS 34
theorem sc_laid_places : FnScope ["found", "above", "place", "places", "number"] ["found", "above", "place"] (defScope s_laid_places) := ⟨rfl, rfl, rfl, by decide +kernel, rfl, by decide +kernel, by decide +kernel⟩
section
variable {P : Program} {w : World} {K : PySem.W.Frag} {mg : Str → Option Value} {base : Heap} {CO CD : Addr}
def spAbove : Sp := fun vs H Q _ => ∃ (n : Nat) (aP : Addr) (t : Tr), vs = [.int n, .ref aP] ∧ PrAt H aP (prs t n) ∧ Over n t ∧ n ≤ 8 ∧ ∀ H' p us, Same H H' → H p = none → H' p = some (.lst us) → Above n t us → Q (.ref p) H'
theorem ok_joints_above (T : Txt K mg CO CD) (S : Src K mg "joints_above" s_joints_above ["n", "pairs"]) : Df P w K mg base 1 "joints_above" ["n", "pairs"] spAbove := by
  obtain ⟨f, fd, F, hm, hb⟩ := S.ex
  refine ⟨f, fd, F.ok sc_joints_above (fun vs H Q E h => ?_) (fun cdv A outer s H vs Q E hr h => ⟨_, (pss_cons (ps_set (i := 2) sc_joints_above.nd rfl (Or.inl rfl) (pe_op op_rep (pe_lst (pa_cons pe_non pa_nil)) (pe_op op_add (pv 0) (pe_callB call_len_seq (by rfl) T.b_len PySem.boot_len (pa_cons (pv 1) pa_nil)))))
      (pss_cons (ps_for PassesOwn.never rfl (pi_enum (by rfl) T.b_enumerate (pa_cons (pv 1) pa_nil)) (pg_tup rfl (pgs_cons (pg_name (i := 3) sc_joints_above.nd rfl (Or.inl rfl)) (pgs_cons (pg_name (i := 4) sc_joints_above.nd rfl (Or.inl rfl)) pgs_nil))) (pss_one (ps_for PassesOwn.never rfl (pi_tup (pv 4)) (pg_name (i := 5) sc_joints_above.nd rfl (Or.inl rfl)) (pss_one (ps_asg (pe_op op_add (pv 0) (pv 3)) (pg_sub (pv 2) (pv 5) set_list))))))
      (pss_one (ps_ret (pv 2))))), ?_⟩), hm, F.kp, hb⟩
  · obtain ⟨_, _, _, rfl, _⟩ := h
    rfl
  · obtain ⟨n, aP, t, rfl, ⟨vsP, hP, rP⟩, ov, h8, kk⟩ := h
    have hn := ov.jc
    have lP : vsP.length = jc t := by rw [rP.1, prs_len]
    refine ⟨(by show 1 ≤ sizeLine; decide), fun p0 hp0 => ?_⟩
    have s0 : Same H (upd H p0 (.lst [.non])) := same_upd hp0
    have g0 : upd H p0 (.lst [.non]) p0 = some (.lst [.non]) := upd_same
    generalize upd H p0 (.lst [.non]) = H0 at s0 g0
    refine ⟨_, rfl, _, rfl, aP, _, rfl, .inl (SqL.of (s0 _ _ hP)), _, _, rfl, rfl, p0, _, _, rfl, rfl, g0, by omega, by omega, ?_, fun p hp => ?_⟩
    · have : ([V.non] : List V).length * ((n : Int) + (vsP.length : Nat)).toNat ≤ 100 := by
        rw [List.length_singleton]
        omega
      exact Nat.le_trans this (by decide)
    rw [rep_one]
    have e1 : ((n : Int) + (vsP.length : Nat)).toNat = n + jc t := by omega
    rw [e1]
    have s1 : Same H0 (upd H0 p (.lst (List.replicate (n + jc t) .non))) := same_upd hp
    have g1 : upd H0 p (.lst (List.replicate (n + jc t) .non)) p = some (.lst (List.replicate (n + jc t) .non)) := upd_same
    generalize upd H0 p (.lst (List.replicate (n + jc t) .non)) = H1 at s1 g1
    have hpn : H p = none := s0.free hp
    have s01 := s0.trans s1
    refine ⟨_, rfl, aP, _, rfl, SqL.of (s01 _ _ hP), for_enum (K := K) (a := aP) (xs := vsP) (fun i σ H' => ∃ x y z us, σ = [some (.int n), some (.ref aP), some (.ref p), x, y, z] ∧ Same H H' ∧ H' p = some (.lst us) ∧ us.length = n + jc t ∧ ∀ (j a b : Nat), j < i → (prs t n)[j]? = some (a, b) → us[a]? = some (.int ((n + j : Nat) : Int)) ∧ us[b]? = some (.int ((n + j : Nat) : Int))) ?_ ?_ ?_ ?_⟩
    · exact ⟨none, none, none, _, rfl, s01, g1, by simp, fun j a b hj => absurd hj (Nat.not_lt_zero _)⟩
    · rintro i σ H' _ ⟨_, _, _, _, _, s, _⟩
      exact SqL.of (s _ _ hP)
    · rintro i v q σ H' hv ⟨x, y, z, us, rfl, s, gu, lu, hu⟩ hq
      obtain ⟨⟨a, b⟩, hab, l, rfl, hl⟩ := rP.back hv
      obtain ⟨li, la, lb, lA, lB⟩ := ov.lt hab
      have s2 : Same H' (upd H' q (.tup [.int (i : Int), .ref l])) := same_upd hq
      have g2 : upd H' q (.tup [.int (i : Int), .ref l]) q = some (.tup [.int (i : Int), .ref l]) := upd_same
      generalize upd H' q (.tup [.int (i : Int), .ref l]) = H2 at s2 g2
      refine ⟨q, _, rfl, SqT.of g2, rfl, _, _, rfl, _, _, rfl, rfl, ?_⟩
      have hl2 := (s.trans s2) _ _ hl
      refine ⟨_, rfl, l, rfl, ⟨_, SqT.of hl2⟩, for_tup (K := K) (a := l) (xs := [.int (a : Int), .int (b : Int)]) (fun m σ H' => ∃ z us', σ = [some (.int n), some (.ref aP), some (.ref p), some (.int (i : Int)), some (.ref l), z] ∧ Same H H' ∧ H' p = some (.lst us') ∧ us'.length = n + jc t ∧ (∀ (j a b : Nat), j < i → (prs t n)[j]? = some (a, b) → us'[a]? = some (.int ((n + j : Nat) : Int)) ∧ us'[b]? = some (.int ((n + j : Nat) : Int))) ∧ (1 ≤ m → us'[a]? = some (.int ((n + i : Nat) : Int))) ∧ (2 ≤ m → us'[b]? = some (.int ((n + i : Nat) : Int)))) ?_ ?_ ?_ ?_⟩
      · exact ⟨_, us, rfl, s.trans s2, s2 _ _ gu, lu, hu, fun z => absurd z (by omega), fun z => absurd z (by omega)⟩
      · rintro m σ H' _ ⟨_, _, _, s', _⟩
        exact SqT.of (s' _ _ hl)
      · rintro m v σ H' hv ⟨z, us', rfl, s', gu', lu', hu', ha', hb'⟩
        match m, hv with
        | 0, hv =>
          cases hv
          refine ⟨_, rfl, _, rfl, _, _, rfl, rfl, _, rfl, _, rfl, p, us', _, a, rfl, rfl, gu', ixN_n (by omega), ?_⟩
          refine ⟨_, _, rfl, ((but_of s' p).trans But.upd).same hpn, upd_same, by rw [List.length_set]; exact lu', fun j c d hj hcd => ?_, fun _ => ?_, fun z => absurd z (by omega)⟩
          · obtain ⟨_, n1⟩ := flat_nd ov.nd hab hcd
            obtain ⟨n2, n3, _⟩ := n1 (by omega)
            rw [set_ne n2, set_ne n3]
            exact hu' j c d hj hcd
          · rw [set_at (by omega)]
            congr 2
        | 1, hv =>
          cases hv
          refine ⟨_, rfl, _, rfl, _, _, rfl, rfl, _, rfl, _, rfl, p, us', _, b, rfl, rfl, gu', ixN_n (by omega), ?_⟩
          obtain ⟨nab, _⟩ := flat_nd ov.nd hab hab
          refine ⟨_, _, rfl, ((but_of s' p).trans But.upd).same hpn, upd_same, by rw [List.length_set]; exact lu', fun j c d hj hcd => ?_, fun _ => ?_, fun _ => ?_⟩
          · obtain ⟨_, n1⟩ := flat_nd ov.nd hab hcd
            obtain ⟨_, _, n2, n3⟩ := n1 (by omega)
            rw [set_ne n2, set_ne n3]
            exact hu' j c d hj hcd
          · rw [set_ne nab.symm]
            exact ha' (by omega)
          · rw [set_at (by omega)]
            congr 2
        | m + 2, hv => simp at hv
      · rintro σ H' ⟨z, us', rfl, s', gu', lu', hu', ha', hb'⟩
        refine ⟨_, _, _, us', rfl, s', gu', lu', fun j c d hj hcd => ?_⟩
        by_cases ej : j = i
        · subst ej
          rw [hab] at hcd
          cases hcd
          exact ⟨ha' (by show 1 ≤ 2; omega), hb' (by show 2 ≤ 2; omega)⟩
        · exact hu' j c d (by omega) hcd
    · rintro σ H' ⟨x, y, z, us, rfl, s, gu, lu, hu⟩
      rw [lP] at hu
      exact ⟨_, rfl, kk H' p us s hpn gu ⟨lu, fun i a b hab => hu i a b (ov.lt hab).1 hab⟩⟩
/-- places by number: each where it is laid out -/
structure LaidBy (ls : List Lf) (t : Tr) (q : Pc) (Pl : Nat → Pc) : Prop where
  root : Pl (ls.length + jc t - 1) = Lr71.near (Lr72.sum ls t).area q
  side : ∀ (i a b : Nat) (x y : Tr), (prs t ls.length)[i]? = some (a, b) → (nodes ls.length t)[a]? = some x → (nodes ls.length t)[b]? = some y →
    Pl a = Lr71.near (Lr72.sum ls x).area (Pl (ls.length + i)) ∧ Pl b = Lr71.near (Lr72.sum ls y).area (Pl (ls.length + i))
def PlsAt (H : Hp) (p : Addr) (N : Nat) (Pl : Nat → Pc) : Prop := ∃ us, H p = some (.lst us) ∧ us.length = N ∧ ∀ j, j < N → ∃ l, us[j]? = some (.ref l) ∧ H l = some (plT (Pl j))
theorem nodes_jc : ∀ {n : Nat} {t : Tr} {i : Nat} {x : Tr}, (nodes n t)[i]? = some x → jc x ≤ jc t := by
  intro n t i x h
  unfold nodes at h
  by_cases hi : i < n
  · rw [List.getElem?_append_left (by simpa using hi)] at h
    obtain ⟨k, _, e⟩ := List.mem_map.mp (List.mem_of_getElem? h)
    rw [← e]
    exact Nat.zero_le _
  · rw [List.getElem?_append_right (by simpa using hi)] at h
    obtain ⟨_, _, _, l⟩ := joint_two h
    exact l
def spLaidPlaces (CO : Addr) : Sp := fun vs H Q _ => ∃ (aF aA aQ : Addr) (ls : List Lf) (t : Tr) (us : List V) (q : Pc), vs = [.ref aF, .ref aA, .ref aQ] ∧ OsAt CO H aF (sums ls t) ∧ H aA = some (.lst us) ∧ Above ls.length t us ∧ H aQ = some (plT q) ∧ Over ls.length t ∧ ls.length ≤ 8 ∧
  ∀ H' p Pl, Same H H' → PlsAt H' p (ls.length + jc t) Pl → LaidBy ls t q Pl → Q (.ref p) H'
theorem ok_laid_places (T : Txt K mg CO CD) (S : Src K mg "laid_places" s_laid_places ["found", "above", "place"]) (d_nearest : Df P w K mg base 1 "nearest" ["area", "place"] spNearest) : Df P w K mg base 2 "laid_places" ["found", "above", "place"] (spLaidPlaces CO) := by
  obtain ⟨f, fd, F, hm, hb⟩ := S.ex
  refine ⟨f, fd, F.ok (k := 1) sc_laid_places (fun vs H Q E h => ?_) (fun cdv A outer s H vs Q E hr h => ⟨_, (pss_cons (ps_set (i := 3) sc_laid_places.nd rfl (Or.inl rfl) (pe_op op_rep (pe_lst (pa_cons pe_non pa_nil)) (pe_callB call_len_seq (by rfl) T.b_len PySem.boot_len (pa_cons (pv 0) pa_nil))))
      (pss_cons (ps_asg (pe_df d_nearest (hr.mono (by decide)) (by rfl) (pa_cons (pe_fld (pe_ix ix_list (pv 0) (pe_un un_neg pe_int) (fun _ _ => rfl)) rfl) (pa_cons (pv 2) pa_nil))) (pg_sub (pv 3) (pe_un un_neg pe_int) set_list))
      (pss_cons (ps_for PassesOwn.never rfl (pi_range3 (by rfl) T.b_range (pa_cons (pe_op op_sub (pe_callB call_len_seq (by rfl) T.b_len PySem.boot_len (pa_cons (pv 0) pa_nil)) pe_int) (pa_cons (pe_un un_neg pe_int) (pa_cons (pe_un un_neg pe_int) pa_nil)))) (pg_name (i := 4) sc_laid_places.nd rfl (Or.inl rfl)) (pss_one (ps_asg (pe_df d_nearest (hr.mono (by decide)) (by rfl) (pa_cons (pe_fld (pe_ix ix_list (pv 0) (pv 4) (fun _ _ => rfl)) rfl) (pa_cons (pe_ix ix_list (pv 3) (pe_ix ix_list (pv 1) (pv 4) (fun _ _ => rfl)) (fun _ _ => rfl)) pa_nil))) (pg_sub (pv 3) (pv 4) set_list))))
      (pss_one (ps_ret (pv 3)))))), ?_⟩), hm, F.kp, hb⟩
  · obtain ⟨_, _, _, _, _, _, _, rfl, _⟩ := h
    rfl
  · obtain ⟨aF, aA, aQ, ls, t, us, q, rfl, ⟨vf, hF, rF⟩, hA, ab, hQ, ov, h8, kk⟩ := h
    have hn := ov.jc
    have lF : vf.length = ls.length + jc t := by rw [rF.1, sums_len]
    refine ⟨(by show 1 ≤ sizeLine; decide), fun p0 hp0 => ?_⟩
    have s0 : Same H (upd H p0 (.lst [.non])) := same_upd hp0
    have g0 : upd H p0 (.lst [.non]) p0 = some (.lst [.non]) := upd_same
    generalize upd H p0 (.lst [.non]) = H0 at s0 g0
    refine ⟨_, rfl, aF, _, rfl, .inl (SqL.of (s0 _ _ hF)), p0, _, _, rfl, rfl, g0, by omega, by omega, ?_, fun p hp => ?_⟩
    · have : ([V.non] : List V).length * ((vf.length : Nat) : Int).toNat ≤ 100 := by
        rw [List.length_singleton]
        omega
      exact Nat.le_trans this (by decide)
    rw [rep_one]
    have e1 : ((vf.length : Nat) : Int).toNat = ls.length + jc t := by omega
    rw [e1]
    have s1 : Same H0 (upd H0 p (.lst (List.replicate (ls.length + jc t) .non))) := same_upd hp
    have g1 : upd H0 p (.lst (List.replicate (ls.length + jc t) .non)) p = some (.lst (List.replicate (ls.length + jc t) .non)) := upd_same
    generalize upd H0 p (.lst (List.replicate (ls.length + jc t) .non)) = H1 at s1 g1
    have hpn : H p = none := s0.free hp
    have s01 := s0.trans s1
    -- the root
    have enr := ov.stands.top.1
    rw [ov.num] at enr
    obtain ⟨vr, gvr, ar, dr, pr, rfl, har, hpr⟩ := rF.2 _ _ (sums_at enr)
    obtain ⟨good1, good2⟩ := sum_good ls t (by omega)
    refine ⟨_, rfl, _, rfl, aF, _, _, _, rfl, rfl, SqL.of (s01 _ _ hF), atI_end (by rw [lF]; exact gvr), ar, CO, dr, _, _, rfl, s01 _ _ har, T.c_CO, T.n_CO_area, out_area _ pr, _, rfl, pr, aQ, _, q, rfl, s01 _ _ hpr, s01 _ _ hQ, good1, good2, fun q1 hq1 => ?_⟩
    have s2 : Same H1 (upd H1 q1 (plT (Lr71.near (Lr72.sum ls t).area q))) := same_upd hq1
    have g2 : upd H1 q1 (plT (Lr71.near (Lr72.sum ls t).area q)) q1 = some (plT (Lr71.near (Lr72.sum ls t).area q)) := upd_same
    generalize upd H1 q1 (plT (Lr71.near (Lr72.sum ls t).area q)) = H2 at s2 g2
    refine ⟨_, rfl, _, rfl, p, _, _, ls.length + jc t - 1, rfl, rfl, s2 _ _ g1, by rw [List.length_replicate]; exact ixN_last (by omega), ?_⟩
    have hset : upd H2 p (.lst ((List.replicate (ls.length + jc t) V.non).set (ls.length + jc t - 1) (.ref q1))) p = some (.lst ((List.replicate (ls.length + jc t) V.non).set (ls.length + jc t - 1) (.ref q1))) := upd_same
    have b3 : But p H2 (upd H2 p (.lst ((List.replicate (ls.length + jc t) V.non).set (ls.length + jc t - 1) (.ref q1)))) := But.upd
    have s03 : Same H (upd H2 p (.lst ((List.replicate (ls.length + jc t) V.non).set (ls.length + jc t - 1) (.ref q1)))) := ((but_of (s01.trans s2) p).trans b3).same hpn
    have g3 := b3 _ _ g2 (ne_of g2 (s2 _ _ g1) fun z => by cases z)
    generalize upd H2 p (.lst ((List.replicate (ls.length + jc t) V.non).set (ls.length + jc t - 1) (.ref q1))) = H3 at hset s03 g3
    have eT : ((vf.length : Nat) : Int) - 2 - (-1) = ((ls.length + jc t - 1 : Nat) : Int) := by omega
    refine ⟨_, rfl, aF, _, rfl, .inl (SqL.of (s03 _ _ hF)), _, _, rfl, rfl, _, rfl, _, rfl, _, _, _, _, rfl, RgC.neg (by omega) (by omega) (by decide) (by decide), for_rangeC (lo := ((vf.length : Nat) : Int) - 2) (c := -1) (n := (((vf.length : Nat) : Int) - 2 - -1).toNat) (fun i σ H' => ∃ (u : Option V) (us' : List V) (Pl : Nat → Pc), σ = [some (.ref aF), some (.ref aA), some (.ref aQ), some (.ref p), u] ∧ Same H H' ∧ H' p = some (.lst us') ∧ us'.length = ls.length + jc t ∧ Pl (ls.length + jc t - 1) = Lr71.near (Lr72.sum ls t).area q ∧
      (∀ j, ls.length + jc t - 1 - i ≤ j → j < ls.length + jc t → ∃ l, us'[j]? = some (.ref l) ∧ H' l = some (plT (Pl j))) ∧ ∀ (j m : Nat) (x : Tr), ls.length + jc t - 1 - i ≤ j → j < ls.length + jc t - 1 → us[j]? = some (.int (m : Int)) → (nodes ls.length t)[j]? = some x → Pl j = Lr71.near (Lr72.sum ls x).area (Pl m)) ?_ ?_ ?_⟩
    · refine ⟨none, _, fun _ => Lr71.near (Lr72.sum ls t).area q, rfl, s03, hset, by simp, rfl, fun j h1 h2 => ⟨q1, ?_, g3⟩, fun j m x h1 h2 => absurd h1 (by omega)⟩
      have ej : j = ls.length + jc t - 1 := by omega
      rw [ej, set_at (by simp; omega)]
    · rintro i σ H' hi ⟨u, us', Pl, rfl, s, gu, lu, rt, set', rel⟩
      have ev : ((vf.length : Nat) : Int) - 2 + (i : Nat) * (-1) = ((ls.length + jc t - 2 - i : Nat) : Int) := by omega
      obtain ⟨v, hv⟩ : ∃ v, v = ls.length + jc t - 2 - i := ⟨_, rfl⟩
      rw [ev, ← hv]
      have hi' : i < ls.length + jc t - 1 := by omega
      have hvl : v < ls.length + jc t - 1 := by omega
      obtain ⟨m, a, b, hab, hs⟩ := ov.side hvl
      obtain ⟨lm, la, lb, lA, lB⟩ := ov.lt hab
      have hup : us[v]? = some (.int ((ls.length + m : Nat) : Int)) := by
        rcases hs with e | e
        · rw [e]; exact (ab.2 m a b hab).1
        · rw [e]; exact (ab.2 m a b hab).2
      have lvm : v < ls.length + m := by rcases hs with e | e <;> omega
      obtain ⟨x, hx⟩ : ∃ x, (nodes ls.length t)[v]? = some x := ⟨_, List.getElem?_eq_getElem (by rw [nodes_len]; omega)⟩
      obtain ⟨vx, gvx, ax, dx, px, rfl, hax, hpx⟩ := rF.2 _ _ (sums_at hx)
      obtain ⟨good3, good4⟩ := sum_good ls x (Nat.le_trans (nodes_jc hx) (by omega))
      obtain ⟨lp, glp, hlp⟩ := set' (ls.length + m) (by omega) (by omega)
      refine ⟨_, rfl, _, rfl, aF, _, _, _, rfl, rfl, SqL.of (s _ _ hF), atI_nat gvx, ax, CO, dx, _, _, rfl, s _ _ hax, T.c_CO, T.n_CO_area, out_area _ px, ?_⟩
      refine ⟨_, rfl, _, rfl, _, rfl, aA, _, _, _, rfl, rfl, SqL.of (s _ _ hA), atI_nat hup, p, _, _, _, rfl, rfl, SqL.of gu, atI_nat glp, px, lp, _, Pl (ls.length + m), rfl, s _ _ hpx, hlp, good3, good4, fun q2 hq2 => ?_⟩
      have s4 : Same H' (upd H' q2 (plT (Lr71.near (Lr72.sum ls x).area (Pl (ls.length + m))))) := same_upd hq2
      have g4 : upd H' q2 (plT (Lr71.near (Lr72.sum ls x).area (Pl (ls.length + m)))) q2 = some (plT (Lr71.near (Lr72.sum ls x).area (Pl (ls.length + m)))) := upd_same
      generalize upd H' q2 (plT (Lr71.near (Lr72.sum ls x).area (Pl (ls.length + m)))) = H4 at s4 g4
      refine ⟨_, rfl, _, rfl, p, _, _, v, rfl, rfl, s4 _ _ gu, by rw [lu]; exact ixN_n (by omega), ?_⟩
      have b5 : But p H4 (upd H4 p (.lst (us'.set v (.ref q2)))) := But.upd
      have nl : ∀ {l : Addr} {z : Pc}, H4 l = some (plT z) → l ≠ p := fun h => ne_of h (s4 _ _ gu) fun z => by cases z
      refine ⟨_, us'.set v (.ref q2), fun j => if j = v then Lr71.near (Lr72.sum ls x).area (Pl (ls.length + m)) else Pl j, rfl, ((but_of (s.trans s4) p).trans b5).same hpn, upd_same, by rw [List.length_set]; exact lu, ?_, fun j h1 h2 => ?_, fun j m' x' h1 h2 h3 h4 => ?_⟩
      · show (if ls.length + jc t - 1 = v then _ else Pl (ls.length + jc t - 1)) = _
        rw [if_neg (by omega)]
        exact rt
      · by_cases ej : j = v
        · rw [ej]
          refine ⟨q2, set_at (by omega), ?_⟩
          show _ = some (plT (if v = v then _ else _))
          rw [if_pos rfl]
          exact b5 _ _ g4 (nl g4)
        · obtain ⟨l, e1, e2⟩ := set' j (by omega) h2
          refine ⟨l, by rw [set_ne (fun z => ej z.symm)]; exact e1, ?_⟩
          show _ = some (plT (if j = v then _ else Pl j))
          rw [if_neg ej]
          exact b5 _ _ (s4 _ _ e2) (nl (s4 _ _ e2))
      · by_cases ej : j = v
        · subst ej
          rw [hup] at h3
          have em : m' = ls.length + m := by
            have := V.int.inj (Option.some.inj h3)
            omega
          rw [hx] at h4
          cases h4
          show (if j = j then _ else _) = Lr71.near _ (if m' = j then _ else Pl m')
          rw [if_pos rfl, em, if_neg (by omega)]
        · have hm' : m' ≠ v := by
            intro z
            obtain ⟨i2, a2, b2, hab2, hs2⟩ := ov.side h2
            obtain ⟨_, la2, lb2, _, _⟩ := ov.lt hab2
            have h5 : us[j]? = some (.int ((ls.length + i2 : Nat) : Int)) := by
              rcases hs2 with e | e
              · rw [e]; exact (ab.2 i2 a2 b2 hab2).1
              · rw [e]; exact (ab.2 i2 a2 b2 hab2).2
            rw [h5] at h3
            have := V.int.inj (Option.some.inj h3)
            rcases hs2 with e | e <;> omega
          show (if j = v then _ else Pl j) = Lr71.near _ (if m' = v then _ else Pl m')
          rw [if_neg ej, if_neg hm']
          exact rel j m' x' (by omega) h2 h3 h4
    · rintro σ H' ⟨u, us', Pl, rfl, s, gu, lu, rt, set', rel⟩
      refine ⟨_, rfl, kk H' p Pl s ⟨us', gu, lu, fun j hj => set' j (by omega) hj⟩ ⟨rt, fun i a b x y hab hx hy => ?_⟩⟩
      obtain ⟨lm, la, lb, lA, lB⟩ := ov.lt hab
      obtain ⟨h1, h2⟩ := ab.2 i a b hab
      exact ⟨rel a _ x (by omega) (by omega) h1 hx, rel b _ y (by omega) (by omega) h2 hy⟩
end
end Sm
/-! Trees judged. -/
namespace Sm
open PySem PySem.Spec PyProof.Rows L2
abbrev intV (l : List Int) : List V := l.map V.int
theorem intV_at {l : List Int} {i : Nat} {k : Int} (h : l[i]? = some k) : (intV l)[i]? = some (.int k) := by rw [List.getElem?_map, h] <;> rfl
theorem getD_of {l : List Int} {i : Nat} {k : Int} (h : l[i]? = some k) : l.getD i 0 = k := by rw [List.getD, h] <;> rfl
theorem get_lt {l : List Int} {i : Nat} (h : i < l.length) : l[i]? = some (l.getD i 0) := by rw [List.getD, List.getElem?_eq_getElem h] <;> rfl
theorem intV_set (l : List Int) (i : Nat) (k : Int) : (intV l).set i (.int k) = intV (l.set i k) := List.map_set.symm
/-- where each is by judge's numbers -/
def plJ (ls : List Lf) (g : Nat → Int) (j : Nat) : Pc := if j < ls.length then leafAt ls j else ⟨g (4 * (j - ls.length)), g (4 * (j - ls.length) + 1)⟩
abbrev s_told_places : Stmt := topS 28
theorem sc_told_places : FnScope ["leaves", "numbers", "places", "at", "leaf"] ["leaves", "numbers"] (defScope s_told_places) := ⟨rfl, rfl, rfl, by decide +kernel, rfl, by decide +kernel, by decide +kernel⟩
abbrev s_told_lengths : Stmt := topS 29
theorem sc_told_lengths : FnScope ["n", "pairs", "numbers", "lengths", "k", "pair"] ["n", "pairs", "numbers"] (defScope s_told_lengths) := ⟨rfl, rfl, rfl, by decide +kernel, rfl, by decide +kernel, by decide +kernel⟩
abbrev s_are_long_enough : Stmt := topS 30
theorem sc_are_long_enough : FnScope ["places", "above", "lengths", "number"] ["places", "above", "lengths"] (defScope s_are_long_enough) := ⟨rfl, rfl, rfl, by decide +kernel, rfl, by decide +kernel, by decide +kernel⟩
abbrev s_leaf_moments : Stmt := topS 31
theorem sc_leaf_moments : FnScope ["leaves", "above", "lengths", "moments", "number", "leaf"] ["leaves", "above", "lengths"] (defScope s_leaf_moments) := ⟨rfl, rfl, rfl, by decide +kernel, rfl, by decide +kernel, by decide +kernel⟩
section
variable {P : Program} {w : World} {K : PySem.W.Frag} {mg : Str → Option Value} {base : Heap} {CO CD : Addr}
def spToldPlaces (K : PySem.W.Frag) : Sp := fun vs H Q _ => ∃ (aL aN : Addr) (ls : List Lf) (ns : List Int) (m : Nat), vs = [.ref aL, .ref aN] ∧ LvAt H aL ls ∧ SqL K H aN (intV ns) ∧ ns.length = 4 * m ∧ m ≤ 8 ∧ ls.length ≤ 8 ∧
  ∀ H' p, Same H H' → PlsAt H' p (ls.length + m) (plJ ls fun i => ns.getD i 0) → Q (.ref p) H'
theorem ok_told_places (T : Txt K mg CO CD) (S : Src K mg "told_places" s_told_places ["leaves", "numbers"]) (d_in_parts : Df P w K mg base 1 "in_parts" ["s", "t"] spInParts) : Df P w K mg base 2 "told_places" ["leaves", "numbers"] (spToldPlaces K) := by
  obtain ⟨f, fd, F, hm, hb⟩ := S.ex
  refine ⟨f, fd, F.ok (k := 1) sc_told_places (fun vs H Q E h => ?_) (fun cdv A outer s H vs Q E hr h => ⟨_, (pss_cons (ps_setLc (i := 2) (own := [("leaf", 4)]) (tt := tYes) (by rfl) sc_told_places.nd rfl rfl (sw_true rfl rfl rfl (by decide +kernel)) (pi_list (pv 0)) (blkOk_by (own := [("leaf", 4)]) (N := ["leaves", "numbers", "places", "at", "leaf"]) (sc := defScope s_told_places) (by decide +kernel)) (fun _ _ _ _ _ => (pg_name (i := 4) sc_told_places.nd rfl (Or.inl rfl) (Or.inr rfl))) (fun _ _ _ _ _ => pts_nil) (fun _ _ _ _ _ => (pe_df d_in_parts (hr.mono (by decide)) (by rfl) (pa_cons (pe_ix (ix_tupK (K := K) rfl) (pv 4) pe_int (fun _ _ => rfl)) (pa_cons (pe_ix (ix_tupK (K := K) rfl) (pv 4) pe_int (fun _ _ => rfl)) pa_nil)))))
      (pss_cons (ps_for PassesOwn.never rfl (pi_range3 (by rfl) T.b_range (pa_cons pe_int (pa_cons (pe_callB call_len_seq (by rfl) T.b_len PySem.boot_len (pa_cons (pv 1) pa_nil)) (pa_cons pe_int pa_nil)))) (pg_name (i := 3) sc_told_places.nd rfl (Or.inl rfl)) (pss_one (ps_expr (pe_bm PySem.F.plainAttrs_list PySem.F.slot_list_append PySem.F.type_list_append mt_append (pv 2) (pa_cons (pe_tup (pa_cons (pe_ix ix_list (pv 1) (pv 3) (fun _ _ => rfl)) (pa_cons (pe_ix ix_list (pv 1) (pe_op op_add (pv 3) pe_int) (fun _ _ => rfl)) pa_nil))) pa_nil)))))
      (pss_one (ps_ret (pv 2))))), ?_⟩), hm, F.kp, hb⟩
  · obtain ⟨_, _, _, _, _, rfl, _⟩ := h
    rfl
  · obtain ⟨aL, aN, ls, ns, m, rfl, ⟨vsL, hL, rL⟩, hN, hlen, hm8, h8, kk⟩ := h
    refine ⟨_, rfl, aL, rfl, ⟨_, SqL.of hL⟩, fun D hD => lc_list (K := K) (a := aL) (xs := vsL) (fun i H' => Same H H' ∧ ∃ us, H' D = some (.lst us) ∧ us.length = i ∧ ∀ j, j < i → ∃ l, us[j]? = some (.ref l) ∧ H' l = some (plT (plJ ls (fun i => ns.getD i 0) j))) ?_ ?_ ?_ ?_⟩
    · exact ⟨same_upd hD, [], upd_same, rfl, fun j hj => absurd hj (Nat.not_lt_zero _)⟩
    · rintro i H' _ ⟨s, _⟩
      exact SqL.of (s _ _ hL)
    · rintro i x H' hx ⟨s, us, hus, lu, hu⟩
      obtain ⟨lf, hlf, l, rfl, hl⟩ := rL.back hx
      have li : i < ls.length := (List.getElem?_eq_some_iff.mp hlf).1
      have hl' := s _ _ hl
      refine ⟨rfl, _, rfl, l, _, _, _, rfl, rfl, SqT.of hl', rfl, _, rfl, l, _, _, _, rfl, rfl, SqT.of hl', rfl, lf.at_.s, lf.at_.t, rfl, fun p hp => ?_⟩
      have s2 : Same H' (upd H' p (plT ⟨lf.at_.s * Lr72.parts, lf.at_.t * Lr72.parts⟩)) := same_upd hp
      have g2 : upd H' p (plT ⟨lf.at_.s * Lr72.parts, lf.at_.t * Lr72.parts⟩) p = some (plT (plJ ls (fun i => ns.getD i 0) i)) := by
        rw [upd_same]
        unfold plJ leafAt
        rw [if_pos li, hlf]
      have hus2 := s2 _ _ hus
      have b3 : But D (upd H' p (plT ⟨lf.at_.s * Lr72.parts, lf.at_.t * Lr72.parts⟩)) (upd (upd H' p (plT ⟨lf.at_.s * Lr72.parts, lf.at_.t * Lr72.parts⟩)) D (.lst (us ++ [.ref p]))) := But.upd
      have t3 := b3.tups (ne_lst hus2)
      refine ⟨us, hus2, Nat.lt_of_le_of_lt (show us.length ≤ 8 by omega) (by decide), ((but_of (s.trans s2) D).trans b3).same hD, _, upd_same, by rw [List.length_append, lu] <;> rfl, fun j hj => ?_⟩
      by_cases ej : j = i
      · subst ej
        exact ⟨p, by rw [← lu, List.getElem?_append_right (Nat.le_refl _), Nat.sub_self] <;> rfl, t3 _ _ g2⟩
      · obtain ⟨l2, e1, e2⟩ := hu j (by omega)
        exact ⟨l2, by rw [List.getElem?_append_left (by omega)]; exact e1, t3 _ _ (s2 _ _ e2)⟩
    · rintro H1 ⟨s1, us, hus, lu, hu⟩
      rw [rL.1] at lu hu
      have eL : (((intV ns).length : Nat) : Int) = ((4 * m : Nat) : Int) := by rw [List.length_map, hlen]
      refine ⟨_, rfl, aN, _, rfl, .inl (s1.seq hN), 0, _, 4, m, rfl, eL ▸ rgc4 m (by omega), for_rangeC (lo := 0) (c := 4) (n := m) (fun i σ H' => ∃ (u : Option V) (us : List V), σ = [some (.ref aL), some (.ref aN), some (.ref D), u, none] ∧ Same H H' ∧ H' D = some (.lst us) ∧ us.length = ls.length + i ∧ ∀ j, j < ls.length + i → ∃ l, us[j]? = some (.ref l) ∧ H' l = some (plT (plJ ls (fun i => ns.getD i 0) j))) ?_ ?_ ?_⟩
      · exact ⟨none, us, rfl, s1, hus, lu, hu⟩
      · rintro i σ H' hi ⟨u, us, rfl, s, hus, lu, hu⟩
        have ei : (0 : Int) + (i : Nat) * 4 = ((4 * i : Nat) : Int) := by omega
        have e1 : atI (intV ns) (0 + (i : Nat) * 4) = some (.int (ns.getD (4 * i) 0)) := by rw [ei]; exact atI_nat (intV_at (get_lt (by omega)))
        have e2 : atI (intV ns) (0 + (i : Nat) * 4 + 1) = some (.int (ns.getD (4 * i + 1) 0)) := by
          rw [ei, show ((4 * i : Nat) : Int) + 1 = ((4 * i + 1 : Nat) : Int) by omega]
          exact atI_nat (intV_at (get_lt (by omega)))
        refine ⟨_, rfl, .inl ⟨rfl, _, SqL.of hus⟩, _, rfl, _, rfl, aN, _, _, _, rfl, rfl, s.seq hN, e1, _, rfl, _, rfl, _, _, rfl, rfl, aN, _, _, _, rfl, rfl, s.seq hN, e2, (by show 2 ≤ sizeLine; decide), fun p hp => ?_⟩
        have s2 : Same H' (upd H' p (.tup [.int (ns.getD (4 * i) 0), .int (ns.getD (4 * i + 1) 0)])) := same_upd hp
        have g2 : upd H' p (.tup [.int (ns.getD (4 * i) 0), .int (ns.getD (4 * i + 1) 0)]) p = some (plT (plJ ls (fun i => ns.getD i 0) (ls.length + i))) := by
          rw [upd_same]
          unfold plJ
          rw [if_neg (by omega), Nat.add_sub_cancel_left]
        have hus2 := s2 _ _ hus
        have b3 : But D (upd H' p (.tup [.int (ns.getD (4 * i) 0), .int (ns.getD (4 * i + 1) 0)])) (upd (upd H' p (.tup [.int (ns.getD (4 * i) 0), .int (ns.getD (4 * i + 1) 0)])) D (.lst (us ++ [.ref p]))) := But.upd
        have t3 := b3.tups (ne_lst hus2)
        refine ⟨D, us, _, rfl, rfl, hus2, Nat.lt_of_le_of_lt (show us.length ≤ 16 by omega) (by decide), ?_⟩
        refine ⟨_, _, rfl, ((but_of (s.trans s2) D).trans b3).same hD, upd_same, by rw [List.length_append, lu] <;> rfl, fun j hj => ?_⟩
        by_cases ej : j = ls.length + i
        · subst ej
          exact ⟨p, by rw [← lu, List.getElem?_append_right (Nat.le_refl _), Nat.sub_self] <;> rfl, t3 _ _ g2⟩
        · obtain ⟨l2, e1, e2⟩ := hu j (by omega)
          exact ⟨l2, by rw [List.getElem?_append_left (by omega)]; exact e1, t3 _ _ (s2 _ _ e2)⟩
      · rintro σ H' ⟨u, us, rfl, s, hus, lu, hu⟩
        exact ⟨_, rfl, kk H' D s ⟨us, hus, lu, hu⟩⟩
/-- the lengths by number -/
structure LenBy (n : Nat) (t : Tr) (g : Nat → Int) (L : List Int) : Prop where
  len : L.length = n + jc t
  root : L[n + jc t - 1]? = some 0
  side : ∀ (i a b : Nat), (prs t n)[i]? = some (a, b) → L[a]? = some (g (4 * i + 2)) ∧ L[b]? = some (g (4 * i + 3))
def spToldLengths (K : PySem.W.Frag) : Sp := fun vs H Q _ => ∃ (n : Nat) (aP aN : Addr) (t : Tr) (ns : List Int), vs = [.int n, .ref aP, .ref aN] ∧ PrAt H aP (prs t n) ∧ SqL K H aN (intV ns) ∧ ns.length = 4 * jc t ∧ Over n t ∧ n ≤ 8 ∧
  ∀ H' p L, Same H H' → H p = none → H' p = some (.lst (intV L)) → LenBy n t (fun i => ns.getD i 0) L → Q (.ref p) H'
theorem ok_told_lengths (T : Txt K mg CO CD) (S : Src K mg "told_lengths" s_told_lengths ["n", "pairs", "numbers"]) : Df P w K mg base 1 "told_lengths" ["n", "pairs", "numbers"] (spToldLengths K) := by
  obtain ⟨f, fd, F, hm, hb⟩ := S.ex
  refine ⟨f, fd, F.ok sc_told_lengths (fun vs H Q E h => ?_) (fun cdv A outer s H vs Q E hr h => ⟨_, (pss_cons (ps_set (i := 3) sc_told_lengths.nd rfl (Or.inl rfl) (pe_op op_rep (pe_lst (pa_cons pe_int pa_nil)) (pe_op op_add (pv 0) (pe_callB call_len_seq (by rfl) T.b_len PySem.boot_len (pa_cons (pv 1) pa_nil)))))
      (pss_cons (ps_for PassesOwn.never rfl (pi_enum (by rfl) T.b_enumerate (pa_cons (pv 1) pa_nil)) (pg_tup rfl (pgs_cons (pg_name (i := 4) sc_told_lengths.nd rfl (Or.inl rfl)) (pgs_cons (pg_name (i := 5) sc_told_lengths.nd rfl (Or.inl rfl)) pgs_nil))) (pss_cons (ps_asg (pe_ix ix_list (pv 2) (pe_op op_add (pe_op op_mul pe_int (pv 4)) pe_int) (fun _ _ => rfl)) (pg_sub (pv 3) (pe_ix ix_tup (pv 5) pe_int (fun _ _ => rfl)) set_list))
      (pss_one (ps_asg (pe_ix ix_list (pv 2) (pe_op op_add (pe_op op_mul pe_int (pv 4)) pe_int) (fun _ _ => rfl)) (pg_sub (pv 3) (pe_ix ix_tup (pv 5) pe_int (fun _ _ => rfl)) set_list)))))
      (pss_one (ps_ret (pv 3))))), ?_⟩), hm, F.kp, hb⟩
  · obtain ⟨_, _, _, _, _, rfl, _⟩ := h
    rfl
  · obtain ⟨n, aP, aN, t, ns, rfl, ⟨vsP, hP, rP⟩, hN, hlen, ov, h8, kk⟩ := h
    have hn := ov.jc
    have lP : vsP.length = jc t := by rw [rP.1, prs_len]
    refine ⟨(by show 1 ≤ sizeLine; decide), fun p0 hp0 => ?_⟩
    have s0 : Same H (upd H p0 (.lst [.int 0])) := same_upd hp0
    have g0 : upd H p0 (.lst [.int 0]) p0 = some (.lst [.int 0]) := upd_same
    generalize upd H p0 (.lst [.int 0]) = H0 at s0 g0
    refine ⟨_, rfl, _, rfl, aP, _, rfl, .inl (SqL.of (s0 _ _ hP)), _, _, rfl, rfl, p0, _, _, rfl, rfl, g0, by omega, by omega, ?_, fun p hp => ?_⟩
    · have : ([V.int 0] : List V).length * ((n : Int) + (vsP.length : Nat)).toNat ≤ 100 := by
        rw [List.length_singleton]
        omega
      exact Nat.le_trans this (by decide)
    rw [rep_one]
    have e1 : ((n : Int) + (vsP.length : Nat)).toNat = n + jc t := by omega
    rw [e1]
    have s1 : Same H0 (upd H0 p (.lst (List.replicate (n + jc t) (.int 0)))) := same_upd hp
    have g1 : upd H0 p (.lst (List.replicate (n + jc t) (.int 0))) p = some (.lst (intV (List.replicate (n + jc t) 0))) := by
      rw [upd_same]
      show _ = some (HO.lst ((List.replicate (n + jc t) (0:Int)).map V.int))
      rw [List.map_replicate]
    generalize upd H0 p (.lst (List.replicate (n + jc t) (.int 0))) = H1 at s1 g1
    have hpn : H p = none := s0.free hp
    have s01 := s0.trans s1
    refine ⟨_, rfl, aP, _, rfl, SqL.of (s01 _ _ hP), for_enum (K := K) (a := aP) (xs := vsP) (fun i σ H' => ∃ (x y : Option V) (L : List Int), σ = [some (.int n), some (.ref aP), some (.ref aN), some (.ref p), x, y] ∧ Same H H' ∧ H' p = some (.lst (intV L)) ∧ L.length = n + jc t ∧ L[n + jc t - 1]? = some 0 ∧ ∀ (j a b : Nat), j < i → (prs t n)[j]? = some (a, b) → L[a]? = some (ns.getD (4 * j + 2) 0) ∧ L[b]? = some (ns.getD (4 * j + 3) 0)) ?_ ?_ ?_ ?_⟩
    · exact ⟨none, none, _, rfl, s01, g1, by simp, by rw [List.getElem?_replicate, if_pos (by omega)], fun j a b hj => absurd hj (Nat.not_lt_zero _)⟩
    · rintro i σ H' _ ⟨_, _, _, _, s, _⟩
      exact SqL.of (s _ _ hP)
    · rintro i v q σ H' hv ⟨x, y, L, rfl, s, gL, lL, rL, hu⟩ hq
      obtain ⟨⟨a, b⟩, hab, l, rfl, hl⟩ := rP.back hv
      obtain ⟨li, la, lb, lA, lB⟩ := ov.lt hab
      obtain ⟨nab, _⟩ := flat_nd ov.nd hab hab
      have s2 : Same H' (upd H' q (.tup [.int (i : Int), .ref l])) := same_upd hq
      have g2 : upd H' q (.tup [.int (i : Int), .ref l]) q = some (.tup [.int (i : Int), .ref l]) := upd_same
      generalize upd H' q (.tup [.int (i : Int), .ref l]) = H2 at s2 g2
      have s02 := s.trans s2
      have hl2 := s02 _ _ hl
      have e2 : atI (intV ns) (4 * (i : Int) + 2) = some (.int (ns.getD (4 * i + 2) 0)) := by
        rw [show 4 * (i : Int) + 2 = ((4 * i + 2 : Nat) : Int) by omega]
        exact atI_nat (intV_at (get_lt (by omega)))
      have e3 : atI (intV ns) (4 * (i : Int) + 3) = some (.int (ns.getD (4 * i + 3) 0)) := by
        rw [show 4 * (i : Int) + 3 = ((4 * i + 3 : Nat) : Int) by omega]
        exact atI_nat (intV_at (get_lt (by omega)))
      refine ⟨q, _, rfl, SqT.of g2, rfl, _, _, rfl, _, _, rfl, rfl, ?_⟩
      refine ⟨_, rfl, _, rfl, _, _, rfl, rfl, .inl ⟨by decide, by decide⟩, _, _, rfl, rfl, aN, _, _, _, rfl, rfl, s02.seq hN, e2, ?_⟩
      refine ⟨_, rfl, _, rfl, l, _, _, _, rfl, rfl, SqT.of hl2, rfl, p, _, _, a, rfl, rfl, s2 _ _ gL, by rw [List.length_map]; exact ixN_n (by omega), ?_⟩
      rw [intV_set]
      have b3 : But p H2 (upd H2 p (.lst (intV (L.set a (ns.getD (4 * i + 2) 0))))) := But.upd
      have g3 : upd H2 p (.lst (intV (L.set a (ns.getD (4 * i + 2) 0)))) p = some (.lst (intV (L.set a (ns.getD (4 * i + 2) 0)))) := upd_same
      have s03 : Same H (upd H2 p (.lst (intV (L.set a (ns.getD (4 * i + 2) 0))))) := ((but_of s02 p).trans b3).same hpn
      generalize upd H2 p (.lst (intV (L.set a (ns.getD (4 * i + 2) 0)))) = H3 at g3 s03
      refine ⟨_, rfl, _, rfl, _, _, rfl, rfl, .inl ⟨by decide, by decide⟩, _, _, rfl, rfl, aN, _, _, _, rfl, rfl, s03.seq hN, e3, ?_⟩
      refine ⟨_, rfl, _, rfl, l, _, _, _, rfl, rfl, SqT.of (s03 _ _ hl), rfl, p, _, _, b, rfl, rfl, g3, by rw [List.length_map, List.length_set]; exact ixN_n (by omega), ?_⟩
      rw [intV_set]
      have b4 : But p H3 (upd H3 p (.lst (intV ((L.set a (ns.getD (4 * i + 2) 0)).set b (ns.getD (4 * i + 3) 0))))) := But.upd
      refine ⟨_, _, _, rfl, ((but_of s03 p).trans b4).same hpn, upd_same, by rw [List.length_set, List.length_set]; exact lL, by rw [set_ne (by omega), set_ne (by omega)]; exact rL, fun j c d hj hcd => ?_⟩
      by_cases ej : j = i
      · subst ej
        rw [hab] at hcd
        cases hcd
        exact ⟨by rw [set_ne nab.symm, set_at (by omega)], by rw [set_at (by rw [List.length_set]; omega)]⟩
      · obtain ⟨_, n1⟩ := flat_nd ov.nd hab hcd
        obtain ⟨n2, n3, n4, n5⟩ := n1 (fun z => ej z.symm)
        rw [set_ne n4, set_ne n2, set_ne n5, set_ne n3]
        exact hu j c d (by omega) hcd
    · rintro σ H' ⟨x, y, L, rfl, s, gL, lL, rL, hu⟩
      rw [lP] at hu
      exact ⟨_, rfl, kk H' p L s hpn gL ⟨lL, rL, fun i a b hab => hu i a b (ov.lt hab).1 hab⟩⟩
def spLong : Sp := fun vs H Q _ => ∃ (aQ aA aG : Addr) (n : Nat) (t : Tr) (Pl : Nat → Pc) (us : List V) (L : List Int), vs = [.ref aQ, .ref aA, .ref aG] ∧ PlsAt H aQ (n + jc t) Pl ∧ H aA = some (.lst us) ∧ Above n t us ∧ H aG = some (.lst (intV L)) ∧ L.length = n + jc t ∧ Over n t ∧ n ≤ 8 ∧
  ∀ b : Bool, (b = true ↔ ∀ v m : Nat, v < n + jc t - 1 → us[v]? = some (.int (m : Int)) → Lr71.far (Pl v) (Pl m) ≤ L.getD v 0) → Q (.bl b) H
theorem ok_are_long_enough (T : Txt K mg CO CD) (S : Src K mg "are_long_enough" s_are_long_enough ["places", "above", "lengths"]) (d_apart : Df P w K mg base 1 "apart" ["one", "other"] spApart) : Df P w K mg base 2 "are_long_enough" ["places", "above", "lengths"] spLong := by
  obtain ⟨f, fd, F, hm, hb⟩ := S.ex
  refine ⟨f, fd, F.ok (k := 1) sc_are_long_enough (fun vs H Q E h => ?_) (fun cdv A outer s H vs Q E hr h => ⟨_, (pss_cons (ps_for PassesOwn.never rfl (pi_range1 (by rfl) T.b_range (pa_cons (pe_op op_sub (pe_callB call_len_seq (by rfl) T.b_len PySem.boot_len (pa_cons (pv 0) pa_nil)) pe_int) pa_nil)) (pg_name (i := 3) sc_are_long_enough.nd rfl (Or.inl rfl)) (pss_one (ps_if (pt_cmpR op_lt (pe_ix ix_list (pv 2) (pv 3) (fun _ _ => rfl)) (pe_df d_apart (hr.mono (by decide)) (by rfl) (pa_cons (pe_ix ix_list (pv 0) (pv 3) (fun _ _ => rfl)) (pa_cons (pe_ix ix_list (pv 0) (pe_ix ix_list (pv 1) (pv 3) (fun _ _ => rfl)) (fun _ _ => rfl)) pa_nil))) (nomark _)) (pss_one (ps_ret pe_bl)) pss_nil)))
      (pss_one (ps_ret pe_bl))), ?_⟩), hm, F.kp, hb⟩
  · obtain ⟨_, _, _, _, _, _, _, _, rfl, _⟩ := h
    rfl
  · obtain ⟨aQ, aA, aG, n, t, Pl, us, L, rfl, ⟨ps, hQ, lQ, hps⟩, hA, ab, hG, lL, ov, h8, kk⟩ := h
    have hn := ov.jc
    refine ⟨_, rfl, aQ, _, rfl, .inl (SqL.of hQ), _, _, rfl, rfl, ((ps.length : Nat) : Int) - 1, rfl, by omega, by omega, for_range (lo := 0) (n := (((ps.length : Nat) : Int) - 1).toNat) (fun i σ H' => ∃ u : Option V, σ = [some (.ref aQ), some (.ref aA), some (.ref aG), u] ∧ H' = H ∧ ∀ v m : Nat, v < i → us[v]? = some (.int (m : Int)) → Lr71.far (Pl v) (Pl m) ≤ L.getD v 0) ⟨none, rfl, rfl, fun v m hv => absurd hv (Nat.not_lt_zero _)⟩ ?_ ?_⟩
    · rintro i σ H' hi ⟨u, rfl, rfl, hall⟩
      have hi' : i < n + jc t - 1 := by omega
      obtain ⟨m, a, b, hab, hs⟩ := ov.side hi'
      obtain ⟨lm, la, lb, lA, lB⟩ := ov.lt hab
      have hup : us[i]? = some (.int ((n + m : Nat) : Int)) := by
        rcases hs with e | e
        · rw [e]; exact (ab.2 m a b hab).1
        · rw [e]; exact (ab.2 m a b hab).2
      obtain ⟨l1, e1, g1⟩ := hps i (by omega)
      obtain ⟨l2, e2, g2⟩ := hps (n + m) (by omega)
      have z0 : (0 : Int) + (i : Nat) = (i : Int) := by omega
      rw [z0]
      refine ⟨_, rfl, _, rfl, aG, _, _, _, rfl, rfl, SqL.of hG, atI_nat (intV_at (get_lt (by omega))), ?_⟩
      refine ⟨_, rfl, _, rfl, aQ, _, _, _, rfl, rfl, SqL.of hQ, atI_nat e1, _, rfl, _, rfl, _, rfl, aA, _, _, _, rfl, rfl, SqL.of hA, atI_nat hup, aQ, _, _, _, rfl, rfl, SqL.of hQ, atI_nat e2, l1, l2, Pl i, Pl (n + m), rfl, g1, g2, _, _, rfl, rfl, _, rfl, ite_b (fun c => ?_) (fun c => ?_)⟩
      · have c := of_decide_eq_true c
        refine kk false ⟨fun z => (by cases z), fun z => ?_⟩
        have := z i (n + m) hi' hup
        omega
      · have c := of_decide_eq_false c
        refine ⟨_, rfl, rfl, fun v m' hv hm' => ?_⟩
        by_cases ev : v = i
        · subst ev
          rw [hup] at hm'
          have em : m' = n + m := by
            have := V.int.inj (Option.some.inj hm')
            omega
          rw [em]
          omega
        · exact hall v m' (by omega) hm'
    · rintro σ H' ⟨u, rfl, rfl, hall⟩
      exact kk true ⟨fun _ v m hv hm' => hall v m (by omega) hm', fun _ => rfl⟩
def spMoments : Sp := fun vs H Q _ => ∃ (aL aA aG : Addr) (ls : List Lf) (t : Tr) (us : List V) (L : List Int), vs = [.ref aL, .ref aA, .ref aG] ∧ LvAt H aL ls ∧ H aA = some (.lst us) ∧ Above ls.length t us ∧ H aG = some (.lst (intV L)) ∧ L.length = ls.length + jc t ∧ Over ls.length t ∧ ls.length ≤ 8 ∧
  ∀ H' p (mom : Nat → Int), Same H H' → H' p = some (.lst (intV ((List.range ls.length).map fun k => mom k + lateAt ls k))) → mom (ls.length + jc t - 1) = 0 → (∀ v m : Nat, v < ls.length + jc t - 1 → us[v]? = some (.int (m : Int)) → mom v = mom m + L.getD v 0) → Q (.ref p) H'
theorem getD_set {l : List Int} {i j : Nat} {x : Int} (h : i < l.length) : (l.set i x).getD j 0 = if j = i then x else l.getD j 0 := by
  by_cases e : j = i
  · rw [if_pos e, e, List.getD, set_at h] <;> rfl
  · rw [if_neg e, List.getD, set_ne (fun z => e z.symm), ← List.getD]
theorem ok_leaf_moments (T : Txt K mg CO CD) (S : Src K mg "leaf_moments" s_leaf_moments ["leaves", "above", "lengths"]) : Df P w K mg base 1 "leaf_moments" ["leaves", "above", "lengths"] spMoments := by
  obtain ⟨f, fd, F, hm, hb⟩ := S.ex
  refine ⟨f, fd, F.ok sc_leaf_moments (fun vs H Q E h => ?_) (fun cdv A outer s H vs Q E hr h => ⟨_, (pss_cons (ps_set (i := 3) sc_leaf_moments.nd rfl (Or.inr rfl) (pe_op op_rep (pe_lst (pa_cons pe_int pa_nil)) (pe_callB call_len_seq (by rfl) T.b_len PySem.boot_len (pa_cons (pv 1) pa_nil))))
      (pss_cons (ps_for PassesOwn.never rfl (pi_range3 (by rfl) T.b_range (pa_cons (pe_op op_sub (pe_callB call_len_seq (by rfl) T.b_len PySem.boot_len (pa_cons (pv 1) pa_nil)) pe_int) (pa_cons (pe_un un_neg pe_int) (pa_cons (pe_un un_neg pe_int) pa_nil)))) (pg_name (i := 4) sc_leaf_moments.nd rfl (Or.inl rfl)) (pss_one (ps_asg (pe_op op_add (pe_ix ix_list (pv 3) (pe_ix ix_list (pv 1) (pv 4) (fun _ _ => rfl)) (fun _ _ => rfl)) (pe_ix ix_list (pv 2) (pv 4) (fun _ _ => rfl))) (pg_sub (pv 3) (pv 4) set_list))))
      (pss_one (ps_ret (pe_lc (own := [("number", 4), ("leaf", 5)]) (tt := tYes) (by rfl) sc_leaf_moments.nd (pi_enum (by rfl) T.b_enumerate (pa_cons (pv 0) pa_nil)) (blkOk_by (own := [("number", 4), ("leaf", 5)]) (N := ["leaves", "above", "lengths", "moments", "number", "leaf"]) (sc := defScope s_leaf_moments) (by decide +kernel)) (fun _ _ _ _ _ => (pg_tupK (K := K) (n := 2) rfl rfl (pgs_cons (pg_name (i := 4) sc_leaf_moments.nd rfl (Or.inl rfl) (Or.inr rfl)) (pgs_cons (pg_name (i := 5) sc_leaf_moments.nd rfl (Or.inl rfl) (Or.inr rfl)) pgs_nil)))) (fun _ _ _ _ _ => pts_nil) (fun _ _ _ _ _ => (pe_op op_add (pe_ix (ix_listK (K := K) rfl) (pv 3) (pv 4) (fun _ _ => rfl)) (pe_op op_mul (pe_gl (by rfl) T.g_PARTS) (pe_ix (ix_tupK (K := K) rfl) (pv 5) pe_int (fun _ _ => rfl)))))))))), ?_⟩), hm, F.kp, hb⟩
  · obtain ⟨_, _, _, _, _, _, _, rfl, _⟩ := h
    rfl
  · obtain ⟨aL, aA, aG, ls, t, us, L, rfl, ⟨vsL, hL, rL⟩, hA, ab, hG, lL, ov, h8, kk⟩ := h
    have hn := ov.jc
    have lA := ab.1
    refine ⟨(by show 1 ≤ sizeLine; decide), fun p0 hp0 => ?_⟩
    have s0 : Same H (upd H p0 (.lst [.int 0])) := same_upd hp0
    have g0 : upd H p0 (.lst [.int 0]) p0 = some (.lst [.int 0]) := upd_same
    generalize upd H p0 (.lst [.int 0]) = H0 at s0 g0
    refine ⟨_, rfl, aA, _, rfl, .inl (SqL.of (s0 _ _ hA)), p0, _, _, rfl, rfl, g0, by omega, by omega, ?_, fun p hp => ?_⟩
    · have : ([V.int 0] : List V).length * ((us.length : Nat) : Int).toNat ≤ 100 := by
        rw [List.length_singleton]
        omega
      exact Nat.le_trans this (by decide)
    rw [rep_one]
    have e1 : ((us.length : Nat) : Int).toNat = ls.length + jc t := by omega
    rw [e1]
    have s1 : Same H0 (upd H0 p (.lst (List.replicate (ls.length + jc t) (.int 0)))) := same_upd hp
    have g1 : upd H0 p (.lst (List.replicate (ls.length + jc t) (.int 0))) p = some (.lst (intV (List.replicate (ls.length + jc t) 0))) := by
      rw [upd_same]
      show _ = some (HO.lst ((List.replicate (ls.length + jc t) (0:Int)).map V.int))
      rw [List.map_replicate]
    generalize upd H0 p (.lst (List.replicate (ls.length + jc t) (.int 0))) = H1 at s1 g1
    have hpn : H p = none := s0.free hp
    have s01 := s0.trans s1
    refine ⟨_, rfl, aA, _, rfl, .inl (SqL.of (s01 _ _ hA)), _, _, rfl, rfl, _, rfl, _, rfl, _, _, _, _, rfl, RgC.neg (by omega) (by omega) (by decide) (by decide), for_rangeC (lo := ((us.length : Nat) : Int) - 2) (c := -1) (n := (((us.length : Nat) : Int) - 2 - -1).toNat) (fun i σ H' => ∃ (u : Option V) (M : List Int), σ = [some (.ref aL), some (.ref aA), some (.ref aG), some (.ref p), u, none] ∧ Same H H' ∧ H' p = some (.lst (intV M)) ∧ M.length = ls.length + jc t ∧ M.getD (ls.length + jc t - 1) 0 = 0 ∧
      ∀ j m : Nat, ls.length + jc t - 1 - i ≤ j → j < ls.length + jc t - 1 → us[j]? = some (.int (m : Int)) → M.getD j 0 = M.getD m 0 + L.getD j 0) ?_ ?_ ?_⟩
    · refine ⟨none, _, rfl, s01, g1, by simp, by rw [List.getD, List.getElem?_replicate, if_pos (by omega)] <;> rfl, fun j m h1 h2 => absurd h1 (by omega)⟩
    · rintro i σ H' hi ⟨u, M, rfl, s, gM, lM, rM, hM⟩
      have ev : ((us.length : Nat) : Int) - 2 + (i : Nat) * (-1) = ((ls.length + jc t - 2 - i : Nat) : Int) := by omega
      obtain ⟨v, hv⟩ : ∃ v, v = ls.length + jc t - 2 - i := ⟨_, rfl⟩
      rw [ev, ← hv]
      have hi' : i < ls.length + jc t - 1 := by omega
      have hvl : v < ls.length + jc t - 1 := by omega
      obtain ⟨m, a, b, hab, hs⟩ := ov.side hvl
      obtain ⟨lm, la, lb, lA', lB⟩ := ov.lt hab
      have hup : us[v]? = some (.int ((ls.length + m : Nat) : Int)) := by
        rcases hs with e | e
        · rw [e]; exact (ab.2 m a b hab).1
        · rw [e]; exact (ab.2 m a b hab).2
      have lvm : v < ls.length + m := by rcases hs with e | e <;> omega
      refine ⟨_, rfl, _, rfl, _, rfl, aA, _, _, _, rfl, rfl, SqL.of (s _ _ hA), atI_nat hup, p, _, _, _, rfl, rfl, SqL.of gM, atI_nat (intV_at (get_lt (by omega))), ?_⟩
      refine ⟨_, rfl, _, rfl, aG, _, _, _, rfl, rfl, SqL.of (s _ _ hG), atI_nat (intV_at (get_lt (by omega))), _, _, rfl, rfl, ?_⟩
      refine ⟨_, rfl, _, rfl, p, _, _, v, rfl, rfl, gM, by rw [List.length_map]; exact ixN_n (by omega), ?_⟩
      rw [intV_set]
      have b5 : But p H' (upd H' p (.lst (intV (M.set v (M.getD (ls.length + m) 0 + L.getD v 0))))) := But.upd
      refine ⟨_, M.set v (M.getD (ls.length + m) 0 + L.getD v 0), rfl, ((but_of s p).trans b5).same hpn, upd_same, by rw [List.length_set]; exact lM, by rw [getD_set (by omega), if_neg (by omega)]; exact rM, fun j m' h1 h2 h3 => ?_⟩
      rw [getD_set (by omega), getD_set (by omega)]
      by_cases ej : j = v
      · subst ej
        rw [hup] at h3
        have em : m' = ls.length + m := by
          have := V.int.inj (Option.some.inj h3)
          omega
        rw [if_pos rfl, em, if_neg (by omega)]
      · have hm' : m' ≠ v := by
          intro z
          obtain ⟨i2, a2, b2, hab2, hs2⟩ := ov.side h2
          obtain ⟨_, la2, lb2, _, _⟩ := ov.lt hab2
          have h5 : us[j]? = some (.int ((ls.length + i2 : Nat) : Int)) := by
            rcases hs2 with e | e
            · rw [e]; exact (ab.2 i2 a2 b2 hab2).1
            · rw [e]; exact (ab.2 i2 a2 b2 hab2).2
          rw [h5] at h3
          have := V.int.inj (Option.some.inj h3)
          rcases hs2 with e | e <;> omega
        rw [if_neg ej, if_neg hm']
        exact hM j m' (by omega) h2 h3
    · rintro σ H' ⟨u, M, rfl, s, gM, lM, rM, hM⟩
      refine ⟨_, rfl, aL, _, rfl, SqL.of (s _ _ hL), fun D hD => lc_it (walk_enum (K := K) (a := aL) (xs := vsL)) (fun i H2 => Same H' H2 ∧ H2 D = some (.lst (intV ((List.range i).map fun k => M.getD k 0 + lateAt ls k)))) ?_ ?_ ?_ ?_⟩
      · exact ⟨same_upd hD, upd_same⟩
      · rintro i H2 _ ⟨s2, _⟩
        exact SqL.of (s2 _ _ (s _ _ hL))
      · rintro i x H2 H3 hi ⟨s2, gD⟩ ⟨q, x1, y1, rfl, hq, rfl, e1, e2⟩
        have e1 : x1 = .int (i : Int) := (Option.some.inj e1).symm
        subst e1
        obtain ⟨lf, hlf, l, rfl, hl⟩ := rL.back e2
        have li : i < ls.length := (List.getElem?_eq_some_iff.mp hlf).1
        have s3 : Same H2 (upd H2 q (.tup [.int (i : Int), .ref l])) := same_upd hq
        have g3 : upd H2 q (.tup [.int (i : Int), .ref l]) q = some (.tup [.int (i : Int), .ref l]) := upd_same
        generalize upd H2 q (.tup [.int (i : Int), .ref l]) = H3 at s3 g3
        have s13 := s2.trans s3
        refine ⟨q, _, rfl, SqT.of g3, rfl, _, _, rfl, _, _, rfl, rfl, rfl, ?_⟩
        refine ⟨_, rfl, _, rfl, p, _, _, _, rfl, rfl, SqL.of (s13 _ _ gM), atI_nat (intV_at (get_lt (by omega))), ?_⟩
        refine ⟨_, rfl, l, _, _, _, rfl, rfl, SqT.of (s13 _ _ (s _ _ hl)), rfl, _, _, rfl, rfl, .inl ⟨by decide, by decide⟩, _, _, rfl, rfl, _, s3 _ _ gD, ?_, ?_, ?_⟩
        · refine Nat.lt_of_le_of_lt (m := 8) ?_ (by decide)
          rw [List.length_map, List.length_map, List.length_range]
          omega
        · exact ((but_of s13 D).trans But.upd).same hD
        · rw [upd_same, List.range_succ, List.map_append]
          show _ = some (HO.lst (intV ((List.range i).map (fun k => M.getD k 0 + lateAt ls k) ++ [M.getD i 0 + lateAt ls i])))
          unfold lateAt
          rw [hlf]
          show _ = some (HO.lst ((_ ++ [M.getD i 0 + lf.late * Lr72.parts]).map V.int))
          rw [List.map_append, Int.mul_comm]
          rfl
      · rintro H2 ⟨s2, gD⟩
        rw [rL.1] at gD
        exact kk H2 D (fun k => M.getD k 0) (s.trans s2) gD rM fun v m hv hum => hM v m (by omega) hv hum
end
end Sm
/-! The desk. -/
namespace Sm
open PySem PySem.Spec PyProof.Rows L2 LamX
abbrev Stt := Lr72.State
abbrev dF (a : Addr) (v : V) : List (Str × V) := [("leaves", .ref a), ("pairs", v)]
theorem dF_leaves (a : Addr) (v : V) : (dF a v).lookup ("leaves" : Str) = some (.ref a) := lk_here
theorem dF_pairs (a : Addr) (v : V) : (dF a v).lookup ("pairs" : Str) = some v := (lk_past (by decide +kernel)).trans lk_here
theorem dF_other {m : Str} (a : Addr) (v : V) (h1 : (m == ("leaves" : Str)) = false) (h2 : (m == ("pairs" : Str)) = false) : (dF a v).lookup m = none := (lk_past h1).trans ((lk_past h2).trans rfl)
theorem dF_putL (a b : Addr) (v : V) : putF ("leaves" : Str) (.ref b) (dF a v) = dF b v := put_here
theorem dF_putP (a : Addr) (v u : V) : putF ("pairs" : Str) u (dF a v) = dF a u := (put_past (by decide +kernel)).trans (congrArg _ put_here)
/-- nothing lies there but, it may be, a table -/
def NoL (H : Hp) (r : Addr) : Prop := ∀ o, H r = some o → ∃ ps, o = .tbl ps
/-- the pairs that are kept -/
def PsAt (H : Hp) (n : Nat) (s : Option Tr) (v : V) : Prop := match s with
  | none => v = .non
  | some t => Over n t ∧ ∃ a, v = .ref a ∧ PrAt H a (prs t n)
structure DeskAt (CD : Addr) (H : Hp) (D aL : Addr) (pv : V) (st : Stt) : Prop where
  obj : ∃ dx, H D = some (.ins CD dx (dF aL pv))
  lv : LvAt H aL st.leaves
  few : st.leaves.length ≤ 8
  ps : PsAt H st.leaves.length st.shape pv
/-- a list of tuples stays -/
theorem ls_keep {α : Type} {f : α → HO} {H H' : Hp} {a : Addr} {xs : List α} (hf : ∀ x, ∃ ys, f x = .tup ys) (h : LsAt (RefT f) H a xs) (h1 : ∀ us, H a = some (.lst us) → H' a = some (.lst us)) (h2 : ∀ b ys, H b = some (.tup ys) → H' b = some (.tup ys)) : LsAt (RefT f) H' a xs := by
  obtain ⟨vs, e, r⟩ := h
  refine ⟨vs, h1 _ e, r.mono fun x v z => ?_⟩
  obtain ⟨l, e1, e2⟩ := z
  obtain ⟨ys, e3⟩ := hf x
  rw [e3] at e2
  exact ⟨l, e1, by rw [e3]; exact h2 _ _ e2⟩
theorem lf_tup (x : Lf) : ∃ ys, lfT x = .tup ys := ⟨_, rfl⟩
theorem pr_tup (x : Nat × Nat) : ∃ ys, prT x = .tup ys := ⟨_, rfl⟩
theorem PsAt.keep {H H' : Hp} {n : Nat} {s : Option Tr} {v : V} (h : PsAt H n s v) (h1 : ∀ a us, v = .ref a → H a = some (.lst us) → H' a = some (.lst us)) (h2 : ∀ b ys, H b = some (.tup ys) → H' b = some (.tup ys)) : PsAt H' n s v := by
  cases s with
  | none => exact h
  | some t =>
    obtain ⟨ov, a, e, p⟩ := h
    exact ⟨ov, a, e, ls_keep pr_tup p (fun us z => h1 a us e z) h2⟩
theorem DeskAt.ext {CD : Addr} {H H' : Hp} {D aL : Addr} {pv : V} {st : Stt} (d : DeskAt CD H D aL pv st) (e : ExtN H H') : DeskAt CD H' D aL pv st := by
  obtain ⟨dx, h⟩ := d.obj
  have el : ∀ a us, H a = some (.lst us) → H' a = some (.lst us) := fun a us z => e _ _ z fun ps q => by cases q
  have et : ∀ a us, H a = some (.tup us) → H' a = some (.tup us) := fun a us z => e _ _ z fun ps q => by cases q
  exact ⟨⟨dx, e _ _ h fun ps q => by cases q⟩, ls_keep lf_tup d.lv (fun us z => el _ _ z) et, d.few, d.ps.keep (fun a us _ z => el _ _ z) et⟩
theorem DeskAt.same {CD : Addr} {H H' : Hp} {D aL : Addr} {pv : V} {st : Stt} (d : DeskAt CD H D aL pv st) (e : Same H H') : DeskAt CD H' D aL pv st := d.ext (ExtN.of e)
theorem tabs_keep {T : List (Addr × Str)} {H H' : Hp} (t : Tabs T H) (hk : ∀ b o, H b = some o → (∀ xs, o ≠ .lst xs) → (∀ C dx fs, o ≠ .ins C dx fs) → H' b = some o) : Tabs T H' := fun p hp => by
  obtain ⟨ps, a1, a2, a3⟩ := t p hp
  refine ⟨ps, hk _ _ a1 (fun xs z => by cases z) (fun C dx fs z => by cases z), a2, fun pos cv hc => ?_⟩
  obtain ⟨c0, e1, e2⟩ := a3 pos cv hc
  exact ⟨c0, e1, hk _ _ e2 (fun xs z => by unfold CodeO at z; cases z) (fun C dx fs z => by unfold CodeO at z; cases z)⟩
/-- all stays but the desk, its leaves, and tables -/
def Kept (D aL : Addr) (H H' : Hp) : Prop := ∀ b o, H b = some o → (∀ ps, o ≠ .tbl ps) → b ≠ D → b ≠ aL → H' b = some o
/-- what a call does: the state st behind it, the answer -/
def Told (CD Pt D aL : Addr) (pv : V) (H : Hp) (st : Stt) (ans : List Int) (Q : VK) : Prop :=
  ∀ H' aL' pv' r, DeskAt CD H' D aL' pv' st → (aL' = aL ∨ NoL H aL') → (pv' = pv ∨ ∀ a, pv' = .ref a → NoL H a) → Kept D aL H H' → Tabs [(Pt, qLam)] H' → H' r = some (.lst (intV ans)) → NoL H r → Q (.ref r) H'
theorem noL_none {H : Hp} {r : Addr} (h : H r = none) : NoL H r := fun xs z => by rw [h] at z; cases z
theorem noL_same {H H' : Hp} {r : Addr} (e : Same H H') (h : H' r = none) : NoL H r := fun xs z => by
  have := e _ _ z
  rw [h] at this
  cases this
/-- nothing changed, an answer is made -/
theorem told_same {CD Pt D aL : Addr} {pv : V} {H : Hp} {st : Stt} {ans : List Int} {Q : VK} (k : Told CD Pt D aL pv H st ans Q) (d : DeskAt CD H D aL pv st) (tb : Tabs [(Pt, qLam)] H) {H1 : Hp} (s : Same H H1) {r : Addr} (hr : H1 r = none) : Q (.ref r) (upd H1 r (.lst (intV ans))) := by
  have s2 : Same H (upd H1 r (.lst (intV ans))) := s.trans (same_upd hr)
  exact k _ aL pv r (d.same s2) (.inl rfl) (.inl rfl) (fun b o e _ _ _ => s2 _ _ e) (tabs_same tb s2) upd_same (noL_same s hr)
/-- all but D and aL stays -/
def Kp (D aL : Addr) (H H' : Hp) : Prop := ∀ b o, H b = some o → b ≠ D → b ≠ aL → H' b = some o
theorem Kp.tabs {CD D aL dx : Addr} {fs : List (Str × V)} {us : List V} {H H' : Hp} {T : List (Addr × Str)} (k : Kp D aL H H') (hD : H D = some (.ins CD dx fs)) (hL : H aL = some (.lst us)) (t : Tabs T H) : Tabs T H' :=
  tabs_keep t fun b o e h1 h2 => k b o e (ne_of e hD (h2 _ _ _)) (ne_of e hL (h1 _))
theorem told_mut {CD Pt D aL aL' dx : Addr} {pv pv' : V} {fs : List (Str × V)} {us : List V} {H H2 : Hp} {st : Stt} {ans : List Int} {Q : VK} (k : Told CD Pt D aL pv H st ans Q) (hD : H D = some (.ins CD dx fs)) (hL : H aL = some (.lst us)) (kp : Kp D aL H H2) (hd : ∃ o, H2 D = some o) (hl : ∃ o, H2 aL = some o) (tb : Tabs [(Pt, qLam)] H)
    (d2 : DeskAt CD H2 D aL' pv' st) (c1 : aL' = aL ∨ NoL H aL') (c2 : pv' = pv ∨ ∀ a, pv' = .ref a → NoL H a) {r : Addr} (hr : H2 r = none) : Q (.ref r) (upd H2 r (.lst (intV ans))) := by
  have s3 : Same H2 (upd H2 r (.lst (intV ans))) := same_upd hr
  have kp3 : Kp D aL H (upd H2 r (.lst (intV ans))) := fun b o e h1 h2 => s3 _ _ (kp b o e h1 h2)
  refine k _ aL' pv' r (d2.same s3) c1 c2 (fun b o e _ h1 h2 => kp3 b o e h1 h2) (kp3.tabs hD hL tb) upd_same fun o z => ?_
  by_cases h1 : r = D
  · obtain ⟨o, ho⟩ := hd
    rw [← h1, hr] at ho
    cases ho
  · by_cases h2 : r = aL
    · obtain ⟨o, ho⟩ := hl
      rw [← h2, hr] at ho
      cases ho
    · rw [kp _ _ z h1 h2] at hr
      cases hr
abbrev s_is_place : Stmt := topS 46
theorem sc_is_place : FnScope ["s", "t"] ["s", "t"] (defScope s_is_place) := ⟨rfl, rfl, rfl, by decide +kernel, rfl, by decide +kernel, by decide +kernel⟩
abbrev s_is_leaf : Stmt := topS 47
theorem sc_is_leaf : FnScope ["s", "t", "late"] ["s", "t", "late"] (defScope s_is_leaf) := ⟨rfl, rfl, rfl, by decide +kernel, rfl, by decide +kernel, by decide +kernel⟩
abbrev s_Desk_init : Stmt := inClass (topS 48) 0
theorem sc_Desk_init : FnScope ["self"] ["self"] (defScope s_Desk_init) := ⟨rfl, rfl, rfl, by decide +kernel, rfl, by decide +kernel, by decide +kernel⟩
abbrev s_Desk_start_anew : Stmt := inClass (topS 48) 1
theorem sc_Desk_start_anew : FnScope ["self"] ["self"] (defScope s_Desk_start_anew) := ⟨rfl, rfl, rfl, by decide +kernel, rfl, by decide +kernel, by decide +kernel⟩
abbrev s_Desk_add_leaf : Stmt := inClass (topS 48) 2
theorem sc_Desk_add_leaf : FnScope ["self", "s", "t", "late"] ["self", "s", "t", "late"] (defScope s_Desk_add_leaf) := ⟨rfl, rfl, rfl, by decide +kernel, rfl, by decide +kernel, by decide +kernel⟩
abbrev s_Desk_move_leaf : Stmt := inClass (topS 48) 3
theorem sc_Desk_move_leaf : FnScope ["self", "k", "s", "t", "late"] ["self", "k", "s", "t", "late"] (defScope s_Desk_move_leaf) := ⟨rfl, rfl, rfl, by decide +kernel, rfl, by decide +kernel, by decide +kernel⟩
section
variable {P : Program} {w : World} {K : PySem.W.Frag} {mg : Str → Option Value} {base : Heap} {CO CD : Addr}
def spIsPlace : Sp := fun vs H Q _ => ∃ s t : Int, vs = [.int s, .int t] ∧ Q (.bl (Lr72.okPlace ⟨s, t⟩)) H
theorem ok_is_place (T : Txt K mg CO CD) (S : Src K mg "is_place" s_is_place ["s", "t"]) : Df P w K mg base 1 "is_place" ["s", "t"] spIsPlace := by
  obtain ⟨f, fd, F, hm, hb⟩ := S.ex
  refine ⟨f, fd, F.ok sc_is_place (fun vs H Q E h => ?_) (fun cdv A outer s H vs Q E hr h => ⟨_, (pss_one (ps_ret (pe_and (pe_cmpR op_le (pe_callB call_abs (by rfl) T.b_abs (by decide +kernel) (pa_cons (pv 0) pa_nil)) (pe_gl (by rfl) T.g_FARTHEST) (nomark _)) (pe_one (pe_cmpR op_le (pe_callB call_abs (by rfl) T.b_abs (by decide +kernel) (pa_cons (pv 1) pa_nil)) (pe_gl (by rfl) T.g_FARTHEST) (nomark _)))))), ?_⟩), hm, F.kp, hb⟩
  · obtain ⟨_, _, rfl, _⟩ := h
    rfl
  · obtain ⟨s, t, rfl, k⟩ := h
    refine ⟨_, rfl, _, rfl, _, _, rfl, rfl, _, rfl, ite_b (fun c => ⟨_, rfl, _, rfl, _, _, rfl, rfl, ?_⟩) (fun c => ?_)⟩
    · have e : Lr72.okPlace ⟨s, t⟩ = decide (Lr71.size t ≤ 100000) := by
        rw [Bool.eq_iff_iff]
        unfold Lr72.okPlace
        rw [decide_eq_true_eq, decide_eq_true_eq]
        exact ⟨fun z => z.2, fun z => ⟨of_decide_eq_true c, z⟩⟩
      rw [e] at k
      exact k
    · have e : Lr72.okPlace ⟨s, t⟩ = false := by
        unfold Lr72.okPlace
        exact decide_eq_false fun z => of_decide_eq_false c z.1
      rw [e] at k
      exact k
def spIsLeaf : Sp := fun vs H Q _ => ∃ s t u : Int, vs = [.int s, .int t, .int u] ∧ Q (.bl (Lr72.okPlace ⟨s, t⟩ && decide (u ≤ 100000))) H
theorem ok_is_leaf (T : Txt K mg CO CD) (S : Src K mg "is_leaf" s_is_leaf ["s", "t", "late"]) (d_is_place : Df P w K mg base 1 "is_place" ["s", "t"] spIsPlace) : Df P w K mg base 2 "is_leaf" ["s", "t", "late"] spIsLeaf := by
  obtain ⟨f, fd, F, hm, hb⟩ := S.ex
  refine ⟨f, fd, F.ok (k := 1) sc_is_leaf (fun vs H Q E h => ?_) (fun cdv A outer s H vs Q E hr h => ⟨_, (pss_one (ps_ret (pe_and (pe_df d_is_place (hr.mono (by decide)) (by rfl) (pa_cons (pv 0) (pa_cons (pv 1) pa_nil))) (pe_one (pe_cmpR op_le (pv 2) (pe_gl (by rfl) T.g_LATEST) (nomark _)))))), ?_⟩), hm, F.kp, hb⟩
  · obtain ⟨_, _, _, rfl, _⟩ := h
    rfl
  · obtain ⟨s, t, u, rfl, k⟩ := h
    refine ⟨_, rfl, _, rfl, s, t, rfl, _, rfl, ite_b (fun c => ⟨_, rfl, _, _, rfl, rfl, ?_⟩) (fun c => ?_)⟩
    · rw [c, Bool.true_and] at k
      exact k
    · rw [c, Bool.false_and] at k
      exact k
def spDInit (C : Addr) : Sp := fun vs H Q _ => ∃ (p dx : Addr), vs = [.ref p] ∧ H p = some (.ins C dx []) ∧
  ∀ (H' : Hp) (l : Addr), H l = none → H' p = some (.ins C dx (dF l .non)) → H' l = some (.lst []) → (∀ b o, H b = some o → b ≠ p → H' b = some o) → Q .non H'
theorem di_new (l : Addr) : putF ("pairs" : Str) .non (putF ("leaves" : Str) (.ref l) []) = dF l .non := (put_past (by decide +kernel)).trans rfl
theorem ok_Desk_init (T : Txt K mg CO CD) (S : SrcC K mg "Desk" CD "Desk.__init__" s_Desk_init ["self"]) : Cm P w K mg base 1 "Desk" CD ["self"] (spDInit CD) := by
  obtain ⟨f, fd, F, M, hm, hb⟩ := S.ex
  refine ⟨f, fd, F.ok sc_Desk_init (fun vs H Q E h => ?_) (fun cdv A outer s H vs Q E hr h => ⟨_, (pss_cons (ps_fld (pv 0) (pe_lst pa_nil) rfl)
      (pss_one (ps_fld (pv 0) pe_non rfl))), ?_⟩), M, hm, hb⟩
  · obtain ⟨p, dx, rfl, _⟩ := h
    rfl
  · obtain ⟨p, dx, rfl, hp, k⟩ := h
    refine ⟨(by show 0 ≤ sizeLine; decide), fun l hl => ?_⟩
    have nl : l ≠ p := fun z => by rw [z, hp] at hl; cases hl
    refine ⟨_, rfl, p, CD, dx, [], rfl, (same_upd hl) _ _ hp, T.c_CD, T.n_CD_leaves, (by show 0 < 1000; decide), ?_⟩
    refine ⟨_, rfl, p, CD, dx, _, rfl, upd_same, T.c_CD, T.n_CD_pairs, (by show 1 < 1000; decide), ?_⟩
    refine k _ l hl (Eq.trans upd_same (congrArg (fun q => some (HO.ins CD dx q)) (di_new l))) ?_ fun b o e hb => ?_
    · rw [upd_ne nl, upd_ne nl, upd_same]
    · rw [upd_ne hb, upd_ne hb, upd_ne (ne_of_none e hl)]
      exact e
/-- a call that has c for its meaning -/
def spM (CD Pt : Addr) (G : Hp → List V → Lr72.Call → Prop) : Sp := fun vs H Q _ => ∃ (D aL : Addr) (pv : V) (st : Stt) (c : Lr72.Call) (xs : List V), vs = .ref D :: xs ∧ DeskAt CD H D aL pv st ∧ Tabs [(Pt, qLam)] H ∧ G H xs c ∧ Told CD Pt D aL pv H (Lr72.act st c).1 (Lr72.act st c).2 Q
def gNew : Hp → List V → Lr72.Call → Prop := fun _ xs c => xs = [] ∧ c = .new
theorem ok_start_anew (T : Txt K mg CO CD) (Pt : Addr) (S : SrcM K CD "start_anew" "Desk.start_anew" s_Desk_start_anew ["self"]) : Mt P w K mg base 1 CD "start_anew" ["self"] (spM CD Pt gNew) := by
  obtain ⟨f, fd, F, hc, hm, hb⟩ := S.ex
  refine ⟨f, fd, F.ok sc_Desk_start_anew (fun vs H Q E h => ?_) (fun cdv A outer s H vs Q E hr h => ⟨_, (pss_cons (ps_fld (pv 0) (pe_lst pa_nil) rfl)
      (pss_cons (ps_fld (pv 0) pe_non rfl)
      (pss_one (ps_ret (pe_lst (pa_cons pe_int pa_nil)))))), ?_⟩), hc, hm, hb⟩
  · obtain ⟨_, _, _, _, _, _, rfl, _, _, ⟨rfl, _⟩, _⟩ := h
    rfl
  · obtain ⟨D, aL, pv, st, c, xs, rfl, d, tb, ⟨rfl, rfl⟩, k⟩ := h
    obtain ⟨dx, hD⟩ := d.obj
    obtain ⟨vsL, hL, rL⟩ := d.lv
    refine ⟨(by show 0 ≤ sizeLine; decide), fun l hl => ?_⟩
    have nl : l ≠ D := fun z => by rw [z, hD] at hl; cases hl
    refine ⟨_, rfl, D, CD, dx, _, rfl, (same_upd hl) _ _ hD, T.c_CD, T.n_CD_leaves, (by show 2 < 1000; decide), ?_⟩
    rw [dF_putL]
    refine ⟨_, rfl, D, CD, dx, _, rfl, upd_same, T.c_CD, T.n_CD_pairs, (by show 2 < 1000; decide), ?_⟩
    rw [dF_putP, upd_upd]
    have hD2 : upd (upd H l (.lst [])) D (.ins CD dx (dF l .non)) D = some (.ins CD dx (dF l .non)) := upd_same
    have hl2 : upd (upd H l (.lst [])) D (.ins CD dx (dF l .non)) l = some (.lst []) := by rw [upd_ne nl, upd_same]
    have kp : Kp D aL H (upd (upd H l (.lst [])) D (.ins CD dx (dF l .non))) := fun b o e h1 h2 => by
      rw [upd_ne h1, upd_ne (ne_of_none e hl)]
      exact e
    have bt : But D H (upd (upd H l (.lst [])) D (.ins CD dx (dF l .non))) := (but_of (same_upd hl) D).trans But.upd
    generalize upd (upd H l (.lst [])) D (.ins CD dx (dF l .non)) = H2 at hD2 hl2 kp bt
    refine ⟨(by show 1 ≤ sizeLine; decide), fun r hr' => ?_⟩
    exact told_mut k hD hL kp ⟨_, hD2⟩ ⟨_, bt _ _ hL (ne_of hL hD fun z => by cases z)⟩ tb ⟨⟨dx, hD2⟩, ⟨[], hl2, Rel2.nil⟩, by show 0 ≤ 8; omega, rfl⟩ (.inr (noL_none hl)) (.inr fun a z => by cases z) hr'
def gLeaf : Hp → List V → Lr72.Call → Prop := fun _ xs c => ∃ (s t : Int) (u : Nat), xs = [.int s, .int t, .int u] ∧ c = .leaf ⟨s, t⟩ u
theorem okL {p : Pc} {u : Nat} (h : (!(Lr72.okPlace p && decide ((u : Int) ≤ 100000))) = true) : Lr72.okPlace p = false ∨ 100000 < u := by
  cases e : Lr72.okPlace p with
  | false => exact .inl rfl
  | true =>
    rw [e, Bool.true_and] at h
    have := nd_true h
    exact .inr (by omega)
theorem okL' {p : Pc} {u : Nat} (h : (!(Lr72.okPlace p && decide ((u : Int) ≤ 100000))) = false) : ¬ (Lr72.okPlace p = false ∨ 100000 < u) := by
  cases e : Lr72.okPlace p with
  | false =>
    rw [e] at h
    cases h
  | true =>
    rw [e, Bool.true_and] at h
    have := nd_false h
    rintro (z | z)
    · cases z
    · omega
theorem ok_add_leaf (T : Txt K mg CO CD) (Pt : Addr) (S : SrcM K CD "add_leaf" "Desk.add_leaf" s_Desk_add_leaf ["self", "s", "t", "late"]) (d_is_leaf : Df P w K mg base 2 "is_leaf" ["s", "t", "late"] spIsLeaf) : Mt P w K mg base 3 CD "add_leaf" ["self", "s", "t", "late"] (spM CD Pt gLeaf) := by
  obtain ⟨f, fd, F, hc, hm, hb⟩ := S.ex
  refine ⟨f, fd, F.ok (k := 2) sc_Desk_add_leaf (fun vs H Q E h => ?_) (fun cdv A outer s H vs Q E hr h => ⟨_, (pss_cons (ps_if (pt_not (pt_val (pe_df d_is_leaf (hr.mono (by decide)) (by rfl) (pa_cons (pv 1) (pa_cons (pv 2) (pa_cons (pv 3) pa_nil)))))) (pss_one (ps_ret (pe_lst (pa_cons (pe_gl (by rfl) T.g_NOT_ALLOWED) pa_nil)))) pss_nil)
      (pss_cons (ps_if (pt_cmpR op_eq (pe_callB call_len_seq (by rfl) T.b_len PySem.boot_len (pa_cons (pe_fld (pv 0) rfl) pa_nil)) (pe_gl (by rfl) T.g_MOST_LEAVES) (nomark _)) (pss_one (ps_ret (pe_lst (pa_cons (pe_gl (by rfl) T.g_NO_ROOM) pa_nil)))) pss_nil)
      (pss_cons (ps_expr (pe_bm PySem.F.plainAttrs_list PySem.F.slot_list_append PySem.F.type_list_append mt_append (pe_fld (pv 0) rfl) (pa_cons (pe_tup (pa_cons (pv 1) (pa_cons (pv 2) (pa_cons (pv 3) pa_nil)))) pa_nil)))
      (pss_cons (ps_fld (pv 0) pe_non rfl)
      (pss_one (ps_ret (pe_lst (pa_cons (pe_op op_sub (pe_callB call_len_seq (by rfl) T.b_len PySem.boot_len (pa_cons (pe_fld (pv 0) rfl) pa_nil)) pe_int) pa_nil)))))))), ?_⟩), hc, hm, hb⟩
  · obtain ⟨_, _, _, _, _, _, rfl, _, _, ⟨_, _, _, rfl, _⟩, _⟩ := h
    rfl
  · obtain ⟨D, aL, pv, st, c, xs, rfl, d, tb, ⟨s, t, u, rfl, rfl⟩, k⟩ := h
    obtain ⟨dx, hD⟩ := d.obj
    obtain ⟨vsL, hL, rL⟩ := d.lv
    have nLD : aL ≠ D := ne_of hL hD fun z => by cases z
    refine ⟨_, rfl, _, rfl, _, rfl, s, t, (u : Int), rfl, _, rfl, ite_b (fun c => ?_) (fun c => ?_)⟩
    · have e : Lr72.act st (.leaf ⟨s, t⟩ u) = (st, [-22]) := by
        unfold Lr72.act
        exact if_pos (okL c)
      rw [e] at k
      exact ⟨(by show 1 ≤ sizeLine; decide), fun r hr' => told_same k d tb (Same.refl H) hr'⟩
    have e0 : Lr72.act st (.leaf ⟨s, t⟩ u) = if 8 ≤ st.leaves.length then (st, [-28]) else (⟨st.leaves ++ [⟨⟨s, t⟩, Lr71.int u⟩], none⟩, [Lr71.int st.leaves.length]) := by
      show (if _ then _ else _) = _
      exact if_neg (okL' c)
    rw [e0] at k
    refine ⟨_, rfl, D, CD, dx, _, _, rfl, hD, T.c_CD, T.n_CD_leaves, dF_leaves aL pv, aL, _, rfl, .inl (SqL.of hL), rfl, _, rfl, ite_b (fun c2 => ?_) (fun c2 => ?_)⟩
    · have c2 := V.int.inj (of_decide_eq_true c2)
      rw [if_pos (by rw [← rL.1]; omega)] at k
      exact ⟨(by show 1 ≤ sizeLine; decide), fun r hr' => told_same k d tb (Same.refl H) hr'⟩
    have c2 : ¬ ((vsL.length : Nat) : Int) = 8 := fun z => of_decide_eq_false c2 (by rw [z])
    have h8 := d.few
    rw [if_neg (by rw [← rL.1]; have := rL.1; omega)] at k
    refine ⟨_, rfl, D, CD, dx, _, _, rfl, hD, T.c_CD, T.n_CD_leaves, dF_leaves aL pv, .inl ⟨rfl, _, SqL.of hL⟩, ?_⟩
    refine ⟨_, rfl, _, rfl, _, rfl, (by show 3 ≤ sizeLine; decide), fun q hq => ?_⟩
    have s1 : Same H (upd H q (.tup [.int s, .int t, .int u])) := same_upd hq
    have g1 : upd H q (.tup [.int s, .int t, .int u]) q = some (lfT ⟨⟨s, t⟩, Lr71.int u⟩) := upd_same
    generalize upd H q (.tup [.int s, .int t, .int u]) = H1 at s1 g1
    refine ⟨aL, _, _, rfl, rfl, s1 _ _ hL, Nat.lt_of_le_of_lt (show vsL.length ≤ 8 by rw [rL.1]; exact h8) (by decide), ?_⟩
    have nqL : q ≠ aL := ne_of g1 (s1 _ _ hL) fun z => by cases z
    have b2 : But aL H1 (upd H1 aL (.lst (vsL ++ [.ref q]))) := But.upd
    have gL2 : upd H1 aL (.lst (vsL ++ [.ref q])) aL = some (.lst (vsL ++ [.ref q])) := upd_same
    generalize upd H1 aL (.lst (vsL ++ [.ref q])) = H2 at b2 gL2
    have hD2 : H2 D = some (.ins CD dx (dF aL pv)) := b2 _ _ (s1 _ _ hD) nLD.symm
    refine ⟨_, rfl, D, CD, dx, _, rfl, hD2, T.c_CD, T.n_CD_pairs, (by show 2 < 1000; decide), ?_⟩
    rw [dF_putP]
    have b3 : But D H2 (upd H2 D (.ins CD dx (dF aL .non))) := But.upd
    have gD3 : upd H2 D (.ins CD dx (dF aL .non)) D = some (.ins CD dx (dF aL .non)) := upd_same
    generalize upd H2 D (.ins CD dx (dF aL .non)) = H3 at b3 gD3
    have gL3 := b3 _ _ gL2 nLD
    have kp : Kp D aL H H3 := fun b o e h1 h2 => b3 _ _ (b2 _ _ (s1 _ _ e) h2) h1
    refine ⟨_, rfl, D, CD, dx, _, _, rfl, gD3, T.c_CD, T.n_CD_leaves, dF_leaves aL _, aL, _, rfl, .inl (SqL.of gL3), _, _, rfl, rfl, (by show 1 ≤ sizeLine; decide), fun r hr' => ?_⟩
    have ea : (((vsL ++ [V.ref q]).length : Nat) : Int) - 1 = Lr71.int st.leaves.length := by
      show _ = ((st.leaves.length : Nat) : Int)
      rw [List.length_append, ← rL.1]
      simp
    have k : Told CD Pt D aL pv H ⟨st.leaves ++ [⟨⟨s, t⟩, Lr71.int u⟩], none⟩ [Lr71.int st.leaves.length] Q := k
    rw [← ea] at k
    have tp : ∀ b ys, H b = some (.tup ys) → H3 b = some (.tup ys) := fun b ys z => kp _ _ z (ne_of z hD fun y => by cases y) (ne_of z hL fun y => by cases y)
    refine told_mut (aL' := aL) (pv' := .non) k hD hL kp ⟨_, gD3⟩ ⟨_, gL3⟩ tb ⟨⟨dx, gD3⟩, ⟨_, gL3, ?_⟩, ?_, rfl⟩ (.inl rfl) (.inr fun a z => by cases z) hr'
    · refine (rL.mono fun x v z => ?_).snoc ⟨q, rfl, b3 _ _ (b2 _ _ g1 nqL) (ne_of g1 (s1 _ _ hD) fun z => by cases z)⟩
      obtain ⟨l, e1, e2⟩ := z
      exact ⟨l, e1, tp _ _ e2⟩
    · show (st.leaves ++ [_]).length ≤ 8
      rw [List.length_append, List.length_singleton]
      have := rL.1
      omega
def gMove : Hp → List V → Lr72.Call → Prop := fun _ xs c => ∃ (j : Nat) (s t : Int) (u : Nat), xs = [.int j, .int s, .int t, .int u] ∧ c = .move j ⟨s, t⟩ u
theorem ok_move_leaf (T : Txt K mg CO CD) (Pt : Addr) (S : SrcM K CD "move_leaf" "Desk.move_leaf" s_Desk_move_leaf ["self", "k", "s", "t", "late"]) (d_is_leaf : Df P w K mg base 2 "is_leaf" ["s", "t", "late"] spIsLeaf) : Mt P w K mg base 3 CD "move_leaf" ["self", "k", "s", "t", "late"] (spM CD Pt gMove) := by
  obtain ⟨f, fd, F, hc, hm, hb⟩ := S.ex
  refine ⟨f, fd, F.ok (k := 2) sc_Desk_move_leaf (fun vs H Q E h => ?_) (fun cdv A outer s H vs Q E hr h => ⟨_, (pss_cons (ps_if (pt_cmpR op_ge (pv 1) (pe_callB call_len_seq (by rfl) T.b_len PySem.boot_len (pa_cons (pe_fld (pv 0) rfl) pa_nil)) (nomark _)) (pss_one (ps_ret (pe_lst (pa_cons (pe_gl (by rfl) T.g_NOT_THERE) pa_nil)))) pss_nil)
      (pss_cons (ps_if (pt_not (pt_val (pe_df d_is_leaf (hr.mono (by decide)) (by rfl) (pa_cons (pv 2) (pa_cons (pv 3) (pa_cons (pv 4) pa_nil)))))) (pss_one (ps_ret (pe_lst (pa_cons (pe_gl (by rfl) T.g_NOT_ALLOWED) pa_nil)))) pss_nil)
      (pss_cons (ps_asg (pe_tup (pa_cons (pv 2) (pa_cons (pv 3) (pa_cons (pv 4) pa_nil)))) (pg_sub (pe_fld (pv 0) rfl) (pv 1) set_list))
      (pss_one (ps_ret (pe_lst (pa_cons pe_int pa_nil))))))), ?_⟩), hc, hm, hb⟩
  · obtain ⟨_, _, _, _, _, _, rfl, _, _, ⟨_, _, _, _, rfl, _⟩, _⟩ := h
    rfl
  · obtain ⟨D, aL, pv, st, c, xs, rfl, d, tb, ⟨j, s, t, u, rfl, rfl⟩, k⟩ := h
    obtain ⟨dx, hD⟩ := d.obj
    obtain ⟨vsL, hL, rL⟩ := d.lv
    have nLD : aL ≠ D := ne_of hL hD fun z => by cases z
    refine ⟨_, rfl, _, rfl, D, CD, dx, _, _, rfl, hD, T.c_CD, T.n_CD_leaves, dF_leaves aL pv, aL, _, rfl, .inl (SqL.of hL), _, _, rfl, rfl, _, rfl, ite_b (fun c => ?_) (fun c => ?_)⟩
    · have c := of_decide_eq_true c
      have e : Lr72.act st (.move j ⟨s, t⟩ u) = (st, [-2]) := by
        unfold Lr72.act
        exact if_pos (by have := rL.1; omega)
      rw [e] at k
      exact ⟨(by show 1 ≤ sizeLine; decide), fun r hr' => told_same k d tb (Same.refl H) hr'⟩
    have c := of_decide_eq_false c
    have lj : j < st.leaves.length := by have := rL.1; omega
    have e0 : Lr72.act st (.move j ⟨s, t⟩ u) = if Lr72.okPlace ⟨s, t⟩ = false ∨ 100000 < u then (st, [-22]) else ({ st with leaves := st.leaves.set j ⟨⟨s, t⟩, Lr71.int u⟩ }, [0]) := by
      show (if _ then _ else _) = _
      exact if_neg (by omega)
    rw [e0] at k
    refine ⟨_, rfl, _, rfl, _, rfl, s, t, (u : Int), rfl, _, rfl, ite_b (fun c2 => ?_) (fun c2 => ?_)⟩
    · rw [if_pos (okL c2)] at k
      exact ⟨(by show 1 ≤ sizeLine; decide), fun r hr' => told_same k d tb (Same.refl H) hr'⟩
    rw [if_neg (okL' c2)] at k
    refine ⟨_, rfl, _, rfl, _, rfl, (by show 3 ≤ sizeLine; decide), fun q hq => ?_⟩
    have s1 : Same H (upd H q (.tup [.int s, .int t, .int u])) := same_upd hq
    have g1 : upd H q (.tup [.int s, .int t, .int u]) q = some (lfT ⟨⟨s, t⟩, Lr71.int u⟩) := upd_same
    generalize upd H q (.tup [.int s, .int t, .int u]) = H1 at s1 g1
    refine ⟨_, rfl, D, CD, dx, _, _, rfl, s1 _ _ hD, T.c_CD, T.n_CD_leaves, dF_leaves aL pv, _, rfl, aL, _, _, j, rfl, rfl, s1 _ _ hL, ixN_n (by rw [rL.1]; exact lj), ?_⟩
    have b2 : But aL H1 (upd H1 aL (.lst (vsL.set j (.ref q)))) := But.upd
    have gL2 : upd H1 aL (.lst (vsL.set j (.ref q))) aL = some (.lst (vsL.set j (.ref q))) := upd_same
    generalize upd H1 aL (.lst (vsL.set j (.ref q))) = H2 at b2 gL2
    have hD2 : H2 D = some (.ins CD dx (dF aL pv)) := b2 _ _ (s1 _ _ hD) nLD.symm
    have kp : Kp D aL H H2 := fun b o e h1 h2 => b2 _ _ (s1 _ _ e) h2
    have tp : ∀ b ys, H b = some (.tup ys) → H2 b = some (.tup ys) := fun b ys z => b2 _ _ (s1 _ _ z) (ne_of z hL fun y => by cases y)
    refine ⟨(by show 1 ≤ sizeLine; decide), fun r hr' => ?_⟩
    refine told_mut (aL' := aL) (pv' := pv) k hD hL kp ⟨_, hD2⟩ ⟨_, gL2⟩ tb ⟨⟨dx, hD2⟩, ⟨_, gL2, ?_⟩, ?_, ?_⟩ (.inl rfl) (.inl rfl) hr'
    · refine Rel2.set (rL.mono fun x v z => ?_) j ⟨q, rfl, b2 _ _ g1 (ne_of g1 (s1 _ _ hL) fun z => by cases z)⟩
      obtain ⟨l, e1, e2⟩ := z
      exact ⟨l, e1, tp _ _ e2⟩
    · show (st.leaves.set j _).length ≤ 8
      rw [List.length_set]
      exact d.few
    · show PsAt H2 (st.leaves.set j _).length st.shape pv
      rw [List.length_set]
      have hp := d.ps
      generalize st.shape = sh at hp
      cases sh with
      | none => exact hp
      | some tr =>
        obtain ⟨ov, a, e, p⟩ := hp
        refine ⟨ov, a, e, ls_keep pr_tup p (fun us z => b2 _ _ (s1 _ _ z) fun y => ?_) tp⟩
        obtain ⟨vsP, hP, rP⟩ := p
        rw [y, hL] at hP
        cases hP
        have l1 := rL.1
        have l2 := rP.1
        rw [prs_len] at l2
        have := ov.jc
        omega
end
end Sm
/-! The desk: shapes, wires, trees laid out. -/
namespace Sm
open PySem PySem.Spec PyProof.Rows L2 LamX
theorem DeskAt.two {CD : Addr} {H : Hp} {D aL : Addr} {pv : V} {st : Stt} (d : DeskAt CD H D aL pv st) : (st.shape = none ∧ pv = .non) ∨ ∃ t a, st.shape = some t ∧ pv = .ref a ∧ Over st.leaves.length t ∧ PrAt H a (prs t st.leaves.length) := by
  have h := d.ps
  generalize st.shape = s at h
  cases s with
  | none => exact .inl ⟨rfl, h⟩
  | some t =>
    obtain ⟨ov, a, e, p⟩ := h
    exact .inr ⟨t, a, rfl, e, ov, p⟩
theorem told_same2 {CD Pt D aL : Addr} {pv : V} {H : Hp} {st : Stt} {ans : List Int} {Q : VK} (k : Told CD Pt D aL pv H st ans Q) (d : DeskAt CD H D aL pv st) (tb : Tabs [(Pt, qLam)] H) {H' : Hp} (s : Same H H') {r : Addr} (h : H' r = some (.lst (intV ans))) (hr : NoL H r) : Q (.ref r) H' :=
  k _ aL pv r (d.same s) (.inl rfl) (.inl rfl) (fun b o e _ _ _ => s _ _ e) (tabs_same tb s) h hr
abbrev s_Desk_take_shape : Stmt := inClass (topS 48) 4
theorem sc_Desk_take_shape : FnScope ["self", "numbers"] ["self", "numbers"] (defScope s_Desk_take_shape) := ⟨rfl, rfl, rfl, by decide +kernel, rfl, by decide +kernel, by decide +kernel⟩
abbrev s_Desk_keep_shape : Stmt := inClass (topS 48) 5
theorem sc_Desk_keep_shape : FnScope ["self", "shape"] ["self", "shape"] (defScope s_Desk_keep_shape) := ⟨rfl, rfl, rfl, by decide +kernel, rfl, by decide +kernel, by decide +kernel⟩
abbrev s_Desk_tell_shape : Stmt := inClass (topS 48) 6
theorem sc_Desk_tell_shape : FnScope ["self", "told", "pair"] ["self"] (defScope s_Desk_tell_shape) := ⟨rfl, rfl, rfl, by decide +kernel, rfl, by decide +kernel, by decide +kernel⟩
abbrev s_Desk_tell_wire : Stmt := inClass (topS 48) 7
theorem sc_Desk_tell_wire : FnScope ["self", "root"] ["self"] (defScope s_Desk_tell_wire) := ⟨rfl, rfl, rfl, by decide +kernel, rfl, by decide +kernel, by decide +kernel⟩
abbrev s_Desk_tell_joint : Stmt := inClass (topS 48) 8
theorem sc_Desk_tell_joint : FnScope ["self", "k", "joint"] ["self", "k"] (defScope s_Desk_tell_joint) := ⟨rfl, rfl, rfl, by decide +kernel, rfl, by decide +kernel, by decide +kernel⟩
abbrev s_Desk_lay_out : Stmt := inClass (topS 48) 9
theorem sc_Desk_lay_out : FnScope ["self", "s", "t", "start", "root", "trunk"] ["self", "s", "t"] (defScope s_Desk_lay_out) := ⟨rfl, rfl, rfl, by decide +kernel, rfl, by decide +kernel, by decide +kernel⟩
abbrev s_Desk_tell_laid : Stmt := inClass (topS 48) 10
theorem sc_Desk_tell_laid : FnScope ["self", "s", "t", "k", "n", "found", "place", "lengths", "side"] ["self", "s", "t", "k"] (defScope s_Desk_tell_laid) := ⟨rfl, rfl, rfl, by decide +kernel, rfl, by decide +kernel, by decide +kernel⟩
section
variable {P : Program} {w : World} {K : PySem.W.Frag} {mg : Str → Option Value} {base : Heap} {CO CD : Addr}
def spKeep (CD : Addr) : Sp := fun vs H Q _ => ∃ (D aL : Addr) (pv : V) (st : Stt) (sh : V) (t : Tr), vs = [.ref D, sh] ∧ DeskAt CD H D aL pv st ∧ ShAt H sh t ∧ Over st.leaves.length t ∧
  ∀ H' a, But D H H' → H a = none → DeskAt CD H' D aL (.ref a) { st with shape := some t } → Q .non H'
theorem ok_keep_shape (T : Txt K mg CO CD) (S : SrcM K CD "keep_shape" "Desk.keep_shape" s_Desk_keep_shape ["self", "shape"]) (d_ordered_pairs : Df P w K mg base 10 "ordered_pairs" ["n", "shape"] spOrdered) : Mt P w K mg base 11 CD "keep_shape" ["self", "shape"] (spKeep CD) := by
  obtain ⟨f, fd, F, hc, hm, hb⟩ := S.ex
  refine ⟨f, fd, F.ok (k := 10) sc_Desk_keep_shape (fun vs H Q E h => ?_) (fun cdv A outer s H vs Q E hr h => ⟨_, (pss_one (ps_fld (pv 0) (pe_df d_ordered_pairs (hr.mono (by decide)) (by rfl) (pa_cons (pe_callB call_len_seq (by rfl) T.b_len PySem.boot_len (pa_cons (pe_fld (pv 0) rfl) pa_nil)) (pa_cons (pv 1) pa_nil))) rfl)), ?_⟩), hc, hm, hb⟩
  · obtain ⟨_, _, _, _, _, _, rfl, _⟩ := h
    rfl
  · obtain ⟨D, aL, pv, st, sh, t, rfl, d, hsh, ov, k⟩ := h
    obtain ⟨dx, hD⟩ := d.obj
    obtain ⟨vsL, hL, rL⟩ := d.lv
    have hj := ov.jc
    have h8 := d.few
    refine ⟨_, rfl, D, CD, dx, _, _, rfl, hD, T.c_CD, T.n_CD_leaves, dF_leaves aL pv, aL, _, rfl, .inl (SqL.of hL), _, rfl, st.leaves.length, sh, t, (by rw [rL.1]; rfl), hsh, by omega, fun H1 p s1 hp pr => ?_⟩
    refine ⟨_, rfl, D, CD, dx, _, rfl, s1 _ _ hD, T.c_CD, T.n_CD_pairs, (by show 2 < 1000; decide), ?_⟩
    rw [dF_putP]
    have b2 : But D H1 (upd H1 D (.ins CD dx (dF aL (.ref p)))) := But.upd
    have gD : upd H1 D (.ins CD dx (dF aL (.ref p))) D = some (.ins CD dx (dF aL (.ref p))) := upd_same
    generalize upd H1 D (.ins CD dx (dF aL (.ref p))) = H2 at b2 gD
    have l2 : ∀ b ys, H1 b = some (.lst ys) → H2 b = some (.lst ys) := fun b ys z => b2 _ _ z (ne_of z (s1 _ _ hD) fun y => by cases y)
    have t2 : ∀ b ys, H1 b = some (.tup ys) → H2 b = some (.tup ys) := fun b ys z => b2 _ _ z (ne_of z (s1 _ _ hD) fun y => by cases y)
    exact k H2 p ((but_of s1 D).trans b2) hp ⟨⟨dx, gD⟩, ls_keep lf_tup (ls_keep lf_tup d.lv (fun us z => s1 _ _ z) (fun b ys z => s1 _ _ z)) (fun us z => l2 _ _ z) t2, d.few, ⟨ov, p, rfl, ls_keep pr_tup pr (fun us z => l2 _ _ z) t2⟩⟩
def gShape (K : PySem.W.Frag) : Hp → List V → Lr72.Call → Prop := fun H xs c => ∃ (a : Addr) (l : List Nat), xs = [.ref a] ∧ SqL K H a (natV l) ∧ l.length ≤ 20 ∧ c = .shape l
theorem ok_take_shape (T : Txt K mg CO CD) (Pt : Addr) (S : SrcM K CD "take_shape" "Desk.take_shape" s_Desk_take_shape ["self", "numbers"]) (d_is_shape : Df P w K mg base 1 "is_shape" ["n", "numbers"] (spIsShape K)) (d_shape_of_pairs : Df P w K mg base 1 "shape_of_pairs" ["n", "numbers"] (spShapeOf K))
    (m_keep_shape : Mt P w K mg base 11 CD "keep_shape" ["self", "shape"] (spKeep CD)) : Mt P w K mg base 12 CD "take_shape" ["self", "numbers"] (spM CD Pt (gShape K)) := by
  obtain ⟨f, fd, F, hc, hm, hb⟩ := S.ex
  refine ⟨f, fd, F.ok (k := 11) sc_Desk_take_shape (fun vs H Q E h => ?_) (fun cdv A outer s H vs Q E hr h => ⟨_, (pss_cons (ps_if (pt_cmpR op_eq (pe_callB call_len_seq (by rfl) T.b_len PySem.boot_len (pa_cons (pe_fld (pv 0) rfl) pa_nil)) pe_int (nomark _)) (pss_one (ps_ret (pe_lst (pa_cons (pe_gl (by rfl) T.g_NOTHING_YET) pa_nil)))) pss_nil)
      (pss_cons (ps_if (pt_not (pt_val (pe_df d_is_shape (hr.mono (by decide)) (by rfl) (pa_cons (pe_callB call_len_seq (by rfl) T.b_len PySem.boot_len (pa_cons (pe_fld (pv 0) rfl) pa_nil)) (pa_cons (pv 1) pa_nil))))) (pss_one (ps_ret (pe_lst (pa_cons (pe_gl (by rfl) T.g_NOT_ALLOWED) pa_nil)))) pss_nil)
      (pss_cons (ps_expr (pe_mt m_keep_shape (pv 0) (hr.mono (by decide)) (pa_cons (pe_df d_shape_of_pairs (hr.mono (by decide)) (by rfl) (pa_cons (pe_callB call_len_seq (by rfl) T.b_len PySem.boot_len (pa_cons (pe_fld (pv 0) rfl) pa_nil)) (pa_cons (pv 1) pa_nil))) pa_nil)))
      (pss_one (ps_ret (pe_lst (pa_cons pe_int pa_nil))))))), ?_⟩), hc, hm, hb⟩
  · obtain ⟨_, _, _, _, _, _, rfl, _, _, ⟨_, _, rfl, _⟩, _⟩ := h
    rfl
  · obtain ⟨D, aL, pv, st, c, xs, rfl, d, tb, ⟨a, l, rfl, hS, h20, rfl⟩, k⟩ := h
    obtain ⟨dx, hD⟩ := d.obj
    obtain ⟨vsL, hL, rL⟩ := d.lv
    have h8 := d.few
    refine ⟨_, rfl, D, CD, dx, _, _, rfl, hD, T.c_CD, T.n_CD_leaves, dF_leaves aL pv, aL, _, rfl, .inl (SqL.of hL), rfl, _, rfl, ite_b (fun c => ?_) (fun c => ?_)⟩
    · have c := V.int.inj (of_decide_eq_true c)
      have e : Lr72.act st (.shape l) = (st, [-16]) := by
        unfold Lr72.act
        exact if_pos (List.eq_nil_of_length_eq_zero (by have := rL.1; omega))
      rw [e] at k
      exact ⟨(by show 1 ≤ sizeLine; decide), fun r hr' => told_same k d tb (Same.refl H) hr'⟩
    have c : ¬ ((vsL.length : Nat) : Int) = 0 := fun z => of_decide_eq_false c (by rw [z])
    have h0 : 0 < st.leaves.length := by have := rL.1; omega
    have e0 : Lr72.act st (.shape l) = match Lr72.treeOf st.leaves.length l with
        | none => (st, [-22])
        | some t => ({ st with shape := some t }, [0]) := by
      show (if _ then _ else _) = _
      exact if_neg fun z => by rw [z] at h0; exact absurd h0 (by decide)
    rw [e0] at k
    refine ⟨_, rfl, D, CD, dx, _, _, rfl, hD, T.c_CD, T.n_CD_leaves, dF_leaves aL pv, aL, _, rfl, .inl (SqL.of hL), _, rfl, st.leaves.length, a, l, (by rw [rL.1]; rfl), hS, h0, h20, fun H1 s1 => ⟨_, rfl, ite_b (fun c2 => ?_) (fun c2 => ?_)⟩⟩
    · rw [treeOf_is h0, if_neg (by cases e : shapeOk st.leaves.length l <;> simp_all)] at k
      exact ⟨(by show 1 ≤ sizeLine; decide), fun r hr' => told_same k d tb s1 hr'⟩
    have ok : shapeOk st.leaves.length l = true := by cases e : shapeOk st.leaves.length l <;> simp_all
    have hlen : l.length = 2 * st.leaves.length - 2 := by
      unfold shapeOk at ok
      rw [Bool.and_eq_true, decide_eq_true_eq] at ok
      exact ok.1
    obtain ⟨t, ht⟩ : ∃ t, Lr72.treeOf st.leaves.length l = some t := by
      rw [treeOf_is h0, if_pos ok]
      refine ⟨_, List.getElem?_eq_getElem ?_⟩
      rw [madeBy_len]
      have : (leaves0 st.leaves.length).length = st.leaves.length := by simp [leaves0]
      omega
    rw [ht] at k
    have hD1 := s1 _ _ hD
    refine ⟨_, rfl, D, dx, _, rfl, hD1, dF_other aL pv (by decide +kernel) (by decide +kernel), ?_⟩
    refine ⟨_, rfl, D, CD, dx, _, _, rfl, hD1, T.c_CD, T.n_CD_leaves, dF_leaves aL pv, aL, _, rfl, .inl (SqL.of (s1 _ _ hL)), _, rfl, st.leaves.length, a, l, t, (by rw [rL.1]; rfl), s1.seq hS, h0, h8, ht, fun H2 v s2 sh => ?_⟩
    have s12 := s1.trans s2
    refine ⟨D, aL, pv, st, v, t, rfl, d.same s12, sh, treeOf_over ht, fun H3 a3 b3 n3 d3 => ?_⟩
    refine ⟨(by show 1 ≤ sizeLine; decide), fun r hr' => ?_⟩
    have b03 := (but_of s12 D).trans b3
    obtain ⟨dx3, hD3⟩ := d3.obj
    refine told_mut k hD hL (fun b o e h1 _ => b03 _ _ e h1) ⟨_, hD3⟩ ⟨_, b03 _ _ hL (ne_of hL hD fun z => by cases z)⟩ tb d3 (.inl rfl) (.inr fun b z => ?_) hr'
    cases z
    exact noL_same s12 n3
def gZero (c0 : Lr72.Call) : Hp → List V → Lr72.Call → Prop := fun H xs c => xs = [] ∧ c = c0
theorem ok_tell_shape (T : Txt K mg CO CD) (Pt : Addr) (S : SrcM K CD "tell_shape" "Desk.tell_shape" s_Desk_tell_shape ["self"]) : Mt P w K mg base 1 CD "tell_shape" ["self"] (spM CD Pt (gZero .told)) := by
  obtain ⟨f, fd, F, hc, hm, hb⟩ := S.ex
  refine ⟨f, fd, F.ok sc_Desk_tell_shape (fun vs H Q E h => ?_) (fun cdv A outer s H vs Q E hr h => ⟨_, (pss_cons (ps_if (pt_cmp (pc_isN (pe_fld (pv 0) rfl))) (pss_one (ps_ret (pe_lst (pa_cons (pe_gl (by rfl) T.g_NOTHING_YET) pa_nil)))) pss_nil)
      (pss_cons (ps_set (i := 1) sc_Desk_tell_shape.nd rfl (Or.inl rfl) (pe_lst (pa_cons (pe_op op_mul pe_int (pe_callB call_len_seq (by rfl) T.b_len PySem.boot_len (pa_cons (pe_fld (pv 0) rfl) pa_nil))) pa_nil)))
      (pss_cons (ps_for PassesOwn.never rfl (pi_list (pe_fld (pv 0) rfl)) (pg_name (i := 2) sc_Desk_tell_shape.nd rfl (Or.inl rfl)) (pss_one (ps_expr (pe_bm PySem.F.plainAttrs_list PySem.F.slot_list_extend PySem.F.type_list_extend mt_extendT (pv 1) (pa_cons (pv 2) pa_nil)))))
      (pss_one (ps_ret (pv 1)))))), ?_⟩), hc, hm, hb⟩
  · obtain ⟨_, _, _, _, _, _, rfl, _, _, ⟨rfl, _⟩, _⟩ := h
    rfl
  · obtain ⟨D, aL, pv, st, c, xs, rfl, d, tb, ⟨rfl, rfl⟩, k⟩ := h
    obtain ⟨dx, hD⟩ := d.obj
    rcases d.two with ⟨hs, rfl⟩ | ⟨t, aP, hs, rfl, ov, ⟨vsP, hP, rP⟩⟩
    · have e : Lr72.act st .told = (st, [-16]) := by
        unfold Lr72.act
        rw [hs]
      rw [e] at k
      exact ⟨_, rfl, D, CD, dx, _, _, rfl, hD, T.c_CD, T.n_CD_pairs, dF_pairs aL _, _, rfl, ite_b (fun c => ⟨(by show 1 ≤ sizeLine; decide), fun r hr' => told_same k d tb (Same.refl H) hr'⟩) (fun c => absurd rfl (of_decide_eq_false c))⟩
    have e : Lr72.act st .told = (st, Lr71.int (Lr72.pairsOf st.leaves.length t).length :: (Lr72.pairsOf st.leaves.length t).map Lr71.int) := by
      unfold Lr72.act
      rw [hs]
    rw [e, pairsOf_is] at k
    have hj := ov.jc
    have h8 := d.few
    refine ⟨_, rfl, D, CD, dx, _, _, rfl, hD, T.c_CD, T.n_CD_pairs, dF_pairs aL _, _, rfl, ite_b (fun c => by cases of_decide_eq_true c) (fun c => ?_)⟩
    refine ⟨_, rfl, D, CD, dx, _, _, rfl, hD, T.c_CD, T.n_CD_pairs, dF_pairs aL _, aP, _, rfl, .inl (SqL.of hP), _, _, rfl, rfl, .inl ⟨by decide, by decide⟩, (by show 1 ≤ sizeLine; decide), fun p hp => ?_⟩
    have lP : vsP.length = jc t := by rw [rP.1, prs_len]
    have s1 : Same H (upd H p (.lst [.int (2 * (vsP.length : Nat))])) := same_upd hp
    have g1 : upd H p (.lst [.int (2 * (vsP.length : Nat))]) p = some (.lst (intV [2 * ((vsP.length : Nat) : Int)])) := upd_same
    refine ⟨_, rfl, D, CD, dx, _, _, rfl, s1 _ _ hD, T.c_CD, T.n_CD_pairs, dF_pairs aL _, aP, rfl, ⟨_, SqL.of (s1 _ _ hP)⟩, for_list (K := K) (a := aP) (xs := vsP) (fun i σ H' => ∃ u : Option V, σ = [some (.ref D), some (.ref p), u] ∧ Same H H' ∧ H' p = some (.lst (intV ((2 * ((vsP.length : Nat) : Int)) :: (flat ((prs t st.leaves.length).take i)).map Lr71.int)))) ⟨none, rfl, s1, g1⟩ ?_ ?_ ?_⟩
    · rintro i σ H' _ ⟨_, _, s, _⟩
      exact SqL.of (s _ _ hP)
    · rintro i v σ H' hv ⟨u, rfl, s, gp⟩
      obtain ⟨⟨x, y⟩, hxy, l, rfl, hl⟩ := rP.back hv
      have li : i < jc t := by rw [← lP]; exact (List.getElem?_eq_some_iff.mp hv).1
      refine ⟨_, rfl, .inl ⟨rfl, _, SqL.of gp⟩, _, rfl, p, l, _, _, rfl, rfl, gp, s _ _ hl, ?_, ?_⟩
      · refine Nat.le_trans (m := 100) ?_ (by decide)
        rw [List.length_map, List.length_cons, List.length_map, flat_len, List.length_take]
        show _ + 2 ≤ 100
        omega
      · refine ⟨_, rfl, ((but_of s p).trans But.upd).same hp, ?_⟩
        rw [upd_same, take_snoc hxy, flat_append]
        show _ = some (HO.lst (intV (_ :: (flat ((prs t st.leaves.length).take i) ++ [x, y]).map Lr71.int)))
        rw [List.map_append]
        show _ = some (HO.lst (((2 * ((vsP.length : Nat) : Int)) :: ((flat ((prs t st.leaves.length).take i)).map Lr71.int ++ [Lr71.int x, Lr71.int y])).map V.int))
        rw [← List.cons_append, List.map_append]
        rfl
    · rintro σ H' ⟨u, rfl, s, gp⟩
      refine ⟨_, rfl, told_same2 k d tb s (gp.trans ?_) (noL_none hp)⟩
      rw [List.take_of_length_le (by rw [prs_len, lP]; exact Nat.le_refl _), flat_len, prs_len, lP]
      congr 3
/-- the outcome of the root -/
theorem root_at {ls : List Lf} {t : Tr} {H : Hp} {p : Addr} {vf : List V} (ov : Over ls.length t) (rF : Rel2 (OutAt CO H) (sums ls t) vf) : ∃ ar dr pr, atI vf (-1) = some (.ref ar) ∧ H ar = some (.ins CO dr (outF (Lr72.sum ls t) pr)) ∧ H pr = some (arT (Lr72.sum ls t).area) := by
  have lF : vf.length = ls.length + jc t := by rw [rF.1, sums_len]
  have enr := ov.stands.top.1
  rw [ov.num] at enr
  obtain ⟨vr, gvr, ar, dr, pr, rfl, har, hpr⟩ := rF.2 _ _ (sums_at enr)
  exact ⟨ar, dr, pr, atI_end (by rw [lF]; exact gvr), har, hpr⟩
theorem ok_tell_wire (T : Txt K mg CO CD) (Pt : Addr) (S : SrcM K CD "tell_wire" "Desk.tell_wire" s_Desk_tell_wire ["self"]) (d_outcomes : Df P w K mg base 4 "outcomes" ["leaves", "pairs"] (spOutcomes CO)) : Mt P w K mg base 5 CD "tell_wire" ["self"] (spM CD Pt (gZero .wire)) := by
  obtain ⟨f, fd, F, hc, hm, hb⟩ := S.ex
  refine ⟨f, fd, F.ok (k := 4) sc_Desk_tell_wire (fun vs H Q E h => ?_) (fun cdv A outer s H vs Q E hr h => ⟨_, (pss_cons (ps_if (pt_cmp (pc_isN (pe_fld (pv 0) rfl))) (pss_one (ps_ret (pe_lst (pa_cons (pe_gl (by rfl) T.g_NOTHING_YET) pa_nil)))) pss_nil)
      (pss_cons (ps_set (i := 1) sc_Desk_tell_wire.nd rfl (Or.inl rfl) (pe_ix ix_list (pe_df d_outcomes (hr.mono (by decide)) (by rfl) (pa_cons (pe_fld (pv 0) rfl) (pa_cons (pe_fld (pv 0) rfl) pa_nil))) (pe_un un_neg pe_int) (fun _ _ => rfl)))
      (pss_one (ps_ret (pe_lst (pa_cons (pe_fld (pv 1) rfl) (pa_cons (pe_fld (pv 1) rfl) pa_nil))))))), ?_⟩), hc, hm, hb⟩
  · obtain ⟨_, _, _, _, _, _, rfl, _, _, ⟨rfl, _⟩, _⟩ := h
    rfl
  · obtain ⟨D, aL, pv, st, c, xs, rfl, d, tb, ⟨rfl, rfl⟩, k⟩ := h
    obtain ⟨dx, hD⟩ := d.obj
    rcases d.two with ⟨hs, rfl⟩ | ⟨t, aP, hs, rfl, ov, pr⟩
    · have e : Lr72.act st .wire = (st, [-16]) := by
        unfold Lr72.act
        rw [hs]
      rw [e] at k
      exact ⟨_, rfl, D, CD, dx, _, _, rfl, hD, T.c_CD, T.n_CD_pairs, dF_pairs aL _, _, rfl, ite_b (fun c => ⟨(by show 1 ≤ sizeLine; decide), fun r hr' => told_same k d tb (Same.refl H) hr'⟩) (fun c => absurd rfl (of_decide_eq_false c))⟩
    have e : Lr72.act st .wire = (st, [(Lr72.sum st.leaves t).wire, (Lr72.sum st.leaves t).time]) := by
      unfold Lr72.act
      rw [hs]
    rw [e] at k
    refine ⟨_, rfl, D, CD, dx, _, _, rfl, hD, T.c_CD, T.n_CD_pairs, dF_pairs aL _, _, rfl, ite_b (fun c => by cases of_decide_eq_true c) (fun c => ?_)⟩
    refine ⟨_, rfl, D, CD, dx, _, _, rfl, hD, T.c_CD, T.n_CD_leaves, dF_leaves aL _, _, rfl, D, CD, dx, _, _, rfl, hD, T.c_CD, T.n_CD_pairs, dF_pairs aL _, aL, aP, st.leaves, t, rfl, d.lv, pr, ov, d.few, fun H1 p s1 hp os => ?_⟩
    obtain ⟨vf, hF, rF⟩ := os
    obtain ⟨ar, dr, pa, e1, har, hpr⟩ := root_at (p := p) ov rF
    refine ⟨_, rfl, p, _, _, _, rfl, rfl, SqL.of hF, e1, ?_⟩
    refine ⟨_, rfl, ar, CO, dr, _, _, rfl, har, T.c_CO, T.n_CO_wire, out_wire _ pa, _, rfl, ar, CO, dr, _, _, rfl, har, T.c_CO, T.n_CO_time, out_time _ pa, (by show 2 ≤ sizeLine; decide), fun r hr' => ?_⟩
    exact told_same k d tb s1 hr'
def gJoint : Hp → List V → Lr72.Call → Prop := fun H xs c => ∃ j : Nat, xs = [.int j] ∧ c = .joint j
theorem ok_tell_joint (T : Txt K mg CO CD) (Pt : Addr) (S : SrcM K CD "tell_joint" "Desk.tell_joint" s_Desk_tell_joint ["self", "k"]) (d_outcomes : Df P w K mg base 4 "outcomes" ["leaves", "pairs"] (spOutcomes CO)) : Mt P w K mg base 5 CD "tell_joint" ["self", "k"] (spM CD Pt gJoint) := by
  obtain ⟨f, fd, F, hc, hm, hb⟩ := S.ex
  refine ⟨f, fd, F.ok (k := 4) sc_Desk_tell_joint (fun vs H Q E h => ?_) (fun cdv A outer s H vs Q E hr h => ⟨_, (pss_cons (ps_if (pt_cmp (pc_isN (pe_fld (pv 0) rfl))) (pss_one (ps_ret (pe_lst (pa_cons (pe_gl (by rfl) T.g_NOTHING_YET) pa_nil)))) pss_nil)
      (pss_cons (ps_if (pt_cmpR op_ge (pv 1) (pe_callB call_len_seq (by rfl) T.b_len PySem.boot_len (pa_cons (pe_fld (pv 0) rfl) pa_nil)) (nomark _)) (pss_one (ps_ret (pe_lst (pa_cons (pe_gl (by rfl) T.g_NOT_THERE) pa_nil)))) pss_nil)
      (pss_cons (ps_set (i := 2) sc_Desk_tell_joint.nd rfl (Or.inl rfl) (pe_ix ix_list (pe_df d_outcomes (hr.mono (by decide)) (by rfl) (pa_cons (pe_fld (pv 0) rfl) (pa_cons (pe_fld (pv 0) rfl) pa_nil))) (pe_op op_add (pe_callB call_len_seq (by rfl) T.b_len PySem.boot_len (pa_cons (pe_fld (pv 0) rfl) pa_nil)) (pv 1)) (fun _ _ => rfl)))
      (pss_one (ps_ret (pe_op op_cat (pe_lst (pa_cons (pe_fld (pv 2) rfl) (pa_cons (pe_fld (pv 2) rfl) pa_nil))) (pe_callTy call_list_of (by rfl) T.b_list (by decide +kernel) (pa_cons (pe_fld (pv 2) rfl) pa_nil)))))))), ?_⟩), hc, hm, hb⟩
  · obtain ⟨_, _, _, _, _, _, rfl, _, _, ⟨_, rfl, _⟩, _⟩ := h
    rfl
  · obtain ⟨D, aL, pv, st, c, xs, rfl, d, tb, ⟨j, rfl, rfl⟩, k⟩ := h
    obtain ⟨dx, hD⟩ := d.obj
    obtain ⟨vsL, hL, rL⟩ := d.lv
    rcases d.two with ⟨hs, rfl⟩ | ⟨t, aP, hs, rfl, ov, pr⟩
    · have e : Lr72.act st (.joint j) = (st, [-16]) := by
        unfold Lr72.act
        rw [hs]
      rw [e] at k
      exact ⟨_, rfl, D, CD, dx, _, _, rfl, hD, T.c_CD, T.n_CD_pairs, dF_pairs aL _, _, rfl, ite_b (fun c => ⟨(by show 1 ≤ sizeLine; decide), fun r hr' => told_same k d tb (Same.refl H) hr'⟩) (fun c => absurd rfl (of_decide_eq_false c))⟩
    have e : Lr72.act st (.joint j) = match (Lr72.joints t)[j]? with
        | none => (st, [-2])
        | some x => (st, [(Lr72.sum st.leaves x).time, (Lr72.sum st.leaves x).wire, (Lr72.sum st.leaves x).area.a, (Lr72.sum st.leaves x).area.b, (Lr72.sum st.leaves x).area.c, (Lr72.sum st.leaves x).area.d]) := by
      unfold Lr72.act
      rw [hs]
      rfl
    rw [e] at k
    obtain ⟨vsP, hP, rP⟩ := pr
    have lP : vsP.length = jc t := by rw [rP.1, prs_len]
    refine ⟨_, rfl, D, CD, dx, _, _, rfl, hD, T.c_CD, T.n_CD_pairs, dF_pairs aL _, _, rfl, ite_b (fun c => by cases of_decide_eq_true c) (fun c => ?_)⟩
    refine ⟨_, rfl, _, rfl, D, CD, dx, _, _, rfl, hD, T.c_CD, T.n_CD_pairs, dF_pairs aL _, aP, _, rfl, .inl (SqL.of hP), _, _, rfl, rfl, _, rfl, ite_b (fun c2 => ?_) (fun c2 => ?_)⟩
    · have c2 := of_decide_eq_true c2
      rw [List.getElem?_eq_none (by rw [joints_len]; omega)] at k
      exact ⟨(by show 1 ≤ sizeLine; decide), fun r hr' => told_same k d tb (Same.refl H) hr'⟩
    have c2 := of_decide_eq_false c2
    have lj : j < jc t := by omega
    obtain ⟨x, hx⟩ : ∃ x, (Lr72.joints t)[j]? = some x := ⟨_, List.getElem?_eq_getElem (by rw [joints_len]; exact lj)⟩
    rw [hx] at k
    refine ⟨_, rfl, D, CD, dx, _, _, rfl, hD, T.c_CD, T.n_CD_leaves, dF_leaves aL _, _, rfl, D, CD, dx, _, _, rfl, hD, T.c_CD, T.n_CD_pairs, dF_pairs aL _, aL, aP, st.leaves, t, rfl, d.lv, ⟨vsP, hP, rP⟩, ov, d.few, fun H1 p s1 hp os => ?_⟩
    obtain ⟨vf, hF, rF⟩ := os
    have hnx : (nodes st.leaves.length t)[st.leaves.length + j]? = some x := by
      unfold nodes
      rw [List.getElem?_append_right (by simp)]
      simp only [List.length_map, List.length_range, Nat.add_sub_cancel_left]
      exact hx
    obtain ⟨vx, gvx, ax, ddx, px, rfl, hax, hpx⟩ := rF.2 _ _ (sums_at hnx)
    have gvx2 : atI vf (((vsL.length : Nat) : Int) + (j : Nat)) = some (.ref ax) := by
      rw [show ((vsL.length : Nat) : Int) + (j : Nat) = ((st.leaves.length + j : Nat) : Int) by have := rL.1; omega]
      exact atI_nat gvx
    refine ⟨_, rfl, D, CD, dx, _, _, rfl, s1 _ _ hD, T.c_CD, T.n_CD_leaves, dF_leaves aL _, aL, _, rfl, .inl (SqL.of (s1 _ _ hL)), _, rfl, _, _, rfl, rfl, p, _, _, _, rfl, rfl, SqL.of hF, gvx2, ?_⟩
    refine ⟨_, rfl, ax, CO, ddx, _, _, rfl, hax, T.c_CO, T.n_CO_time, out_time _ px, _, rfl, ax, CO, ddx, _, _, rfl, hax, T.c_CO, T.n_CO_wire, out_wire _ px, (by show 2 ≤ sizeLine; decide), fun q hq => ?_⟩
    have s2 : Same H1 (upd H1 q (.lst [.int (Lr72.sum st.leaves x).time, .int (Lr72.sum st.leaves x).wire])) := same_upd hq
    have g2 : upd H1 q (.lst [.int (Lr72.sum st.leaves x).time, .int (Lr72.sum st.leaves x).wire]) q = some (.lst [.int (Lr72.sum st.leaves x).time, .int (Lr72.sum st.leaves x).wire]) := upd_same
    generalize upd H1 q (.lst [.int (Lr72.sum st.leaves x).time, .int (Lr72.sum st.leaves x).wire]) = H2 at s2 g2
    refine ⟨_, rfl, ax, CO, ddx, _, _, rfl, s2 _ _ hax, T.c_CO, T.n_CO_area, out_area _ px, px, _, rfl, .inr (SqT.of (s2 _ _ hpx)), fun l hl => ?_⟩
    have s3 : Same H2 (upd H2 l (.lst [.int (Lr72.sum st.leaves x).area.a, .int (Lr72.sum st.leaves x).area.b, .int (Lr72.sum st.leaves x).area.c, .int (Lr72.sum st.leaves x).area.d])) := same_upd hl
    refine ⟨q, l, _, _, rfl, rfl, s3 _ _ g2, upd_same, (by show 6 ≤ sizeLine; decide), fun r hr' => ?_⟩
    exact told_same k d tb ((s1.trans s2).trans s3) hr'
def gLay : Hp → List V → Lr72.Call → Prop := fun H xs c => ∃ s t : Int, xs = [.int s, .int t] ∧ c = .lay ⟨s, t⟩
theorem ok_lay_out (T : Txt K mg CO CD) (Pt : Addr) (S : SrcM K CD "lay_out" "Desk.lay_out" s_Desk_lay_out ["self", "s", "t"]) (d_outcomes : Df P w K mg base 4 "outcomes" ["leaves", "pairs"] (spOutcomes CO)) (d_is_place : Df P w K mg base 1 "is_place" ["s", "t"] spIsPlace)
    (d_in_parts : Df P w K mg base 1 "in_parts" ["s", "t"] spInParts) (d_apart : Df P w K mg base 1 "apart" ["one", "other"] spApart) (d_nearest : Df P w K mg base 1 "nearest" ["area", "place"] spNearest) : Mt P w K mg base 5 CD "lay_out" ["self", "s", "t"] (spM CD Pt gLay) := by
  obtain ⟨f, fd, F, hc, hm, hb⟩ := S.ex
  refine ⟨f, fd, F.ok (k := 4) sc_Desk_lay_out (fun vs H Q E h => ?_) (fun cdv A outer s H vs Q E hr h => ⟨_, (pss_cons (ps_if (pt_cmp (pc_isN (pe_fld (pv 0) rfl))) (pss_one (ps_ret (pe_lst (pa_cons (pe_gl (by rfl) T.g_NOTHING_YET) pa_nil)))) pss_nil)
      (pss_cons (ps_if (pt_not (pt_val (pe_df d_is_place (hr.mono (by decide)) (by rfl) (pa_cons (pv 1) (pa_cons (pv 2) pa_nil))))) (pss_one (ps_ret (pe_lst (pa_cons (pe_gl (by rfl) T.g_NOT_ALLOWED) pa_nil)))) pss_nil)
      (pss_cons (ps_set (i := 3) sc_Desk_lay_out.nd rfl (Or.inl rfl) (pe_df d_in_parts (hr.mono (by decide)) (by rfl) (pa_cons (pv 1) (pa_cons (pv 2) pa_nil))))
      (pss_cons (ps_set (i := 4) sc_Desk_lay_out.nd rfl (Or.inl rfl) (pe_ix ix_list (pe_df d_outcomes (hr.mono (by decide)) (by rfl) (pa_cons (pe_fld (pv 0) rfl) (pa_cons (pe_fld (pv 0) rfl) pa_nil))) (pe_un un_neg pe_int) (fun _ _ => rfl)))
      (pss_cons (ps_set (i := 5) sc_Desk_lay_out.nd rfl (Or.inl rfl) (pe_df d_apart (hr.mono (by decide)) (by rfl) (pa_cons (pv 3) (pa_cons (pe_df d_nearest (hr.mono (by decide)) (by rfl) (pa_cons (pe_fld (pv 4) rfl) (pa_cons (pv 3) pa_nil))) pa_nil))))
      (pss_one (ps_ret (pe_lst (pa_cons (pe_op op_add (pe_fld (pv 4) rfl) (pv 5)) (pa_cons (pe_op op_add (pe_fld (pv 4) rfl) (pv 5)) pa_nil)))))))))), ?_⟩), hc, hm, hb⟩
  · obtain ⟨_, _, _, _, _, _, rfl, _, _, ⟨_, _, rfl, _⟩, _⟩ := h
    rfl
  · obtain ⟨D, aL, pv, st, c, xs, rfl, d, tb, ⟨s, t, rfl, rfl⟩, k⟩ := h
    obtain ⟨dx, hD⟩ := d.obj
    rcases d.two with ⟨hs, rfl⟩ | ⟨tr, aP, hs, rfl, ov, pr⟩
    · have e : Lr72.act st (.lay ⟨s, t⟩) = (st, [-16]) := by
        unfold Lr72.act
        rw [hs]
      rw [e] at k
      exact ⟨_, rfl, D, CD, dx, _, _, rfl, hD, T.c_CD, T.n_CD_pairs, dF_pairs aL _, _, rfl, ite_b (fun c => ⟨(by show 1 ≤ sizeLine; decide), fun r hr' => told_same k d tb (Same.refl H) hr'⟩) (fun c => absurd rfl (of_decide_eq_false c))⟩
    obtain ⟨q, hq⟩ : ∃ q : Pc, q = ⟨s * Lr72.parts, t * Lr72.parts⟩ := ⟨_, rfl⟩
    have e : Lr72.act st (.lay ⟨s, t⟩) = if Lr72.okPlace ⟨s, t⟩ = false then (st, [-22]) else (st, [(Lr72.sum st.leaves tr).wire + Lr71.far q (Lr71.near (Lr72.sum st.leaves tr).area q), (Lr72.sum st.leaves tr).time + Lr71.far q (Lr71.near (Lr72.sum st.leaves tr).area q)]) := by
      unfold Lr72.act
      rw [hs, hq]
    rw [e] at k
    have hj := ov.jc
    have h8 := d.few
    refine ⟨_, rfl, D, CD, dx, _, _, rfl, hD, T.c_CD, T.n_CD_pairs, dF_pairs aL _, _, rfl, ite_b (fun c => by cases of_decide_eq_true c) (fun c => ?_)⟩
    refine ⟨_, rfl, _, rfl, s, t, rfl, _, rfl, ite_b (fun c2 => ?_) (fun c2 => ?_)⟩
    · rw [if_pos (by cases e : Lr72.okPlace ⟨s, t⟩ <;> simp_all)] at k
      exact ⟨(by show 1 ≤ sizeLine; decide), fun r hr' => told_same k d tb (Same.refl H) hr'⟩
    rw [if_neg (by cases e : Lr72.okPlace ⟨s, t⟩ <;> simp_all)] at k
    refine ⟨_, rfl, _, rfl, s, t, rfl, fun a1 h1 => ?_⟩
    rw [← hq]
    have s1 : Same H (upd H a1 (plT q)) := same_upd h1
    have g1 : upd H a1 (plT q) a1 = some (plT q) := upd_same
    generalize upd H a1 (plT q) = H1 at s1 g1
    have d1 := d.same s1
    refine ⟨_, rfl, D, CD, dx, _, _, rfl, s1 _ _ hD, T.c_CD, T.n_CD_leaves, dF_leaves aL _, _, rfl, D, CD, dx, _, _, rfl, s1 _ _ hD, T.c_CD, T.n_CD_pairs, dF_pairs aL _, aL, aP, st.leaves, tr, rfl, d1.lv, ls_keep pr_tup pr (fun us z => s1 _ _ z) (fun b ys z => s1 _ _ z), ov, d.few, fun H2 p s2 hp os => ?_⟩
    obtain ⟨vf, hF, rF⟩ := os
    obtain ⟨ar, dr, pa, e1, har, hpr⟩ := root_at (p := p) ov rF
    obtain ⟨good1, good2⟩ := sum_good st.leaves tr (by omega)
    refine ⟨_, rfl, p, _, _, _, rfl, rfl, SqL.of hF, e1, ?_⟩
    refine ⟨_, rfl, _, rfl, ar, CO, dr, _, _, rfl, har, T.c_CO, T.n_CO_area, out_area _ pa, _, rfl, pa, a1, _, q, rfl, hpr, s2 _ _ g1, good1, good2, fun a3 h3 => ?_⟩
    have s3 : Same H2 (upd H2 a3 (plT (Lr71.near (Lr72.sum st.leaves tr).area q))) := same_upd h3
    have g3 : upd H2 a3 (plT (Lr71.near (Lr72.sum st.leaves tr).area q)) a3 = some (plT (Lr71.near (Lr72.sum st.leaves tr).area q)) := upd_same
    generalize upd H2 a3 (plT (Lr71.near (Lr72.sum st.leaves tr).area q)) = H3 at s3 g3
    refine ⟨a1, a3, q, _, rfl, s3 _ _ (s2 _ _ g1), g3, ?_⟩
    have har3 := s3 _ _ har
    refine ⟨_, rfl, ar, CO, dr, _, _, rfl, har3, T.c_CO, T.n_CO_wire, out_wire _ pa, _, rfl, _, _, rfl, rfl, _, rfl, ar, CO, dr, _, _, rfl, har3, T.c_CO, T.n_CO_time, out_time _ pa, _, rfl, _, _, rfl, rfl, (by show 2 ≤ sizeLine; decide), fun r hr' => ?_⟩
    exact told_same k d tb ((s1.trans s2).trans s3) hr'
def gLaid : Hp → List V → Lr72.Call → Prop := fun H xs c => ∃ (s t : Int) (j : Nat), xs = [.int s, .int t, .int j] ∧ c = .laid ⟨s, t⟩ j
theorem ok_tell_laid (T : Txt K mg CO CD) (Pt : Addr) (S : SrcM K CD "tell_laid" "Desk.tell_laid" s_Desk_tell_laid ["self", "s", "t", "k"]) (d_outcomes : Df P w K mg base 4 "outcomes" ["leaves", "pairs"] (spOutcomes CO)) (d_is_place : Df P w K mg base 1 "is_place" ["s", "t"] spIsPlace)
    (d_in_parts : Df P w K mg base 1 "in_parts" ["s", "t"] spInParts) (d_joints_above : Df P w K mg base 1 "joints_above" ["n", "pairs"] spAbove) (d_laid_places : Df P w K mg base 2 "laid_places" ["found", "above", "place"] (spLaidPlaces CO)) : Mt P w K mg base 5 CD "tell_laid" ["self", "s", "t", "k"] (spM CD Pt gLaid) := by
  obtain ⟨f, fd, F, hc, hm, hb⟩ := S.ex
  refine ⟨f, fd, F.ok (k := 4) sc_Desk_tell_laid (fun vs H Q E h => ?_) (fun cdv A outer s H vs Q E hr h => ⟨_, (pss_cons (ps_if (pt_cmp (pc_isN (pe_fld (pv 0) rfl))) (pss_one (ps_ret (pe_lst (pa_cons (pe_gl (by rfl) T.g_NOTHING_YET) pa_nil)))) pss_nil)
      (pss_cons (ps_if (pt_not (pt_val (pe_df d_is_place (hr.mono (by decide)) (by rfl) (pa_cons (pv 1) (pa_cons (pv 2) pa_nil))))) (pss_one (ps_ret (pe_lst (pa_cons (pe_gl (by rfl) T.g_NOT_ALLOWED) pa_nil)))) pss_nil)
      (pss_cons (ps_if (pt_cmpR op_ge (pv 3) (pe_callB call_len_seq (by rfl) T.b_len PySem.boot_len (pa_cons (pe_fld (pv 0) rfl) pa_nil)) (nomark _)) (pss_one (ps_ret (pe_lst (pa_cons (pe_gl (by rfl) T.g_NOT_THERE) pa_nil)))) pss_nil)
      (pss_cons (ps_set (i := 4) sc_Desk_tell_laid.nd rfl (Or.inr rfl) (pe_callB call_len_seq (by rfl) T.b_len PySem.boot_len (pa_cons (pe_fld (pv 0) rfl) pa_nil)))
      (pss_cons (ps_set (i := 5) sc_Desk_tell_laid.nd rfl (Or.inr rfl) (pe_df d_outcomes (hr.mono (by decide)) (by rfl) (pa_cons (pe_fld (pv 0) rfl) (pa_cons (pe_fld (pv 0) rfl) pa_nil))))
      (pss_cons (ps_set (i := 6) sc_Desk_tell_laid.nd rfl (Or.inl rfl) (pe_ix ix_list (pe_df d_laid_places (hr.mono (by decide)) (by rfl) (pa_cons (pv 5) (pa_cons (pe_df d_joints_above (hr.mono (by decide)) (by rfl) (pa_cons (pv 4) (pa_cons (pe_fld (pv 0) rfl) pa_nil))) (pa_cons (pe_df d_in_parts (hr.mono (by decide)) (by rfl) (pa_cons (pv 1) (pa_cons (pv 2) pa_nil))) pa_nil)))) (pe_op op_add (pv 4) (pv 3)) (fun _ _ => rfl)))
      (pss_cons (ps_setLc (i := 7) (own := [("side", 8)]) (tt := tYes) (by rfl) sc_Desk_tell_laid.nd rfl rfl (sw_true rfl rfl rfl (by decide +kernel)) (pi_tup (pe_ix ix_list (pe_fld (pv 0) rfl) (pv 3) (fun _ _ => rfl))) (blkOk_by (own := [("side", 8)]) (N := ["self", "s", "t", "k", "n", "found", "place", "lengths", "side"]) (sc := defScope s_Desk_tell_laid) (by decide +kernel)) (fun _ _ _ _ _ => (pg_name (i := 8) sc_Desk_tell_laid.nd rfl (Or.inl rfl) (Or.inr rfl))) (fun _ _ _ _ _ => pts_nil) (fun _ _ _ _ _ => (pe_op op_sub (pe_fldK (K := K) rfl (pe_ix (ix_listK (K := K) rfl) (pv 5) (pe_op op_add (pv 4) (pv 3)) (fun _ _ => rfl)) rfl) (pe_fldK (K := K) rfl (pe_ix (ix_listK (K := K) rfl) (pv 5) (pv 8) (fun _ _ => rfl)) rfl))))
      (pss_one (ps_ret (pe_op op_cat (pe_lst (pa_cons pe_int (pa_cons (pe_ix ix_tup (pv 6) pe_int (fun _ _ => rfl)) (pa_cons (pe_ix ix_tup (pv 6) pe_int (fun _ _ => rfl)) pa_nil)))) (pv 7))))))))))), ?_⟩), hc, hm, hb⟩
  · obtain ⟨_, _, _, _, _, _, rfl, _, _, ⟨_, _, _, rfl, _⟩, _⟩ := h
    rfl
  · obtain ⟨D, aL, pv, st, c, xs, rfl, d, tb, ⟨s, t, j, rfl, rfl⟩, k⟩ := h
    obtain ⟨dx, hD⟩ := d.obj
    obtain ⟨vsL, hL, rL⟩ := d.lv
    rcases d.two with ⟨hs, rfl⟩ | ⟨tr, aP, hs, rfl, ov, pr⟩
    · have e : Lr72.act st (.laid ⟨s, t⟩ j) = (st, [-16]) := by
        unfold Lr72.act
        rw [hs]
      rw [e] at k
      exact ⟨_, rfl, D, CD, dx, _, _, rfl, hD, T.c_CD, T.n_CD_pairs, dF_pairs aL _, _, rfl, ite_b (fun c => ⟨(by show 1 ≤ sizeLine; decide), fun r hr' => told_same k d tb (Same.refl H) hr'⟩) (fun c => absurd rfl (of_decide_eq_false c))⟩
    obtain ⟨q, hq⟩ : ∃ q : Pc, q = ⟨s * Lr72.parts, t * Lr72.parts⟩ := ⟨_, rfl⟩
    have e : Lr72.act st (.laid ⟨s, t⟩ j) = if Lr72.okPlace ⟨s, t⟩ = false then (st, [-22]) else match (Lr72.laidJoints (Lr72.lay st.leaves q tr))[j]? with
        | none => (st, [-2])
        | some (q, wx, wy) => (st, [0, q.s, q.t, wx, wy]) := by
      unfold Lr72.act
      rw [hs, hq]
      rfl
    rw [e] at k
    have hj := ov.jc
    have h8 := d.few
    refine ⟨_, rfl, D, CD, dx, _, _, rfl, hD, T.c_CD, T.n_CD_pairs, dF_pairs aL _, _, rfl, ite_b (fun c => by cases of_decide_eq_true c) (fun c => ?_)⟩
    refine ⟨_, rfl, _, rfl, s, t, rfl, _, rfl, ite_b (fun c2 => ?_) (fun c2 => ?_)⟩
    · rw [if_pos (by cases e : Lr72.okPlace ⟨s, t⟩ <;> simp_all)] at k
      exact ⟨(by show 1 ≤ sizeLine; decide), fun r hr' => told_same k d tb (Same.refl H) hr'⟩
    rw [if_neg (by cases e : Lr72.okPlace ⟨s, t⟩ <;> simp_all)] at k
    obtain ⟨vsP, hP, rP⟩ := pr
    have lP : vsP.length = jc tr := by rw [rP.1, prs_len]
    refine ⟨_, rfl, _, rfl, D, CD, dx, _, _, rfl, hD, T.c_CD, T.n_CD_pairs, dF_pairs aL _, aP, _, rfl, .inl (SqL.of hP), _, _, rfl, rfl, _, rfl, ite_b (fun c3 => ?_) (fun c3 => ?_)⟩
    · have c3 := of_decide_eq_true c3
      rw [List.getElem?_eq_none (by rw [laid_len]; omega)] at k
      exact ⟨(by show 1 ≤ sizeLine; decide), fun r hr' => told_same k d tb (Same.refl H) hr'⟩
    have c3 := of_decide_eq_false c3
    have lj : j < jc tr := by omega
    refine ⟨_, rfl, D, CD, dx, _, _, rfl, hD, T.c_CD, T.n_CD_leaves, dF_leaves aL _, aL, _, rfl, .inl (SqL.of hL), ?_⟩
    refine ⟨_, rfl, D, CD, dx, _, _, rfl, hD, T.c_CD, T.n_CD_leaves, dF_leaves aL _, _, rfl, D, CD, dx, _, _, rfl, hD, T.c_CD, T.n_CD_pairs, dF_pairs aL _, aL, aP, st.leaves, tr, rfl, d.lv, ⟨vsP, hP, rP⟩, ov, d.few, fun H1 p s1 hp os => ?_⟩
    have pr1 : PrAt H1 aP (prs tr st.leaves.length) := ls_keep pr_tup ⟨vsP, hP, rP⟩ (fun us z => s1 _ _ z) (fun b ys z => s1 _ _ z)
    refine ⟨_, rfl, _, rfl, _, rfl, D, CD, dx, _, _, rfl, s1 _ _ hD, T.c_CD, T.n_CD_pairs, dF_pairs aL _, st.leaves.length, aP, tr, (by rw [rL.1]; rfl), pr1, ov, h8, fun H2 pA us s2 hpA gA ab => ?_⟩
    refine ⟨_, rfl, _, rfl, s, t, rfl, fun a3 h3 => ?_⟩
    rw [← hq]
    have s3 : Same H2 (upd H2 a3 (plT q)) := same_upd h3
    have g3 : upd H2 a3 (plT q) a3 = some (plT q) := upd_same
    generalize upd H2 a3 (plT q) = H3 at s3 g3
    have s13 := s2.trans s3
    have os3 : OsAt CO H3 p (sums st.leaves tr) := os.same s13 fun x v z => z.same s13
    refine ⟨p, pA, a3, st.leaves, tr, us, q, rfl, os3, s3 _ _ gA, ab, g3, ov, h8, fun H4 pl Pl s4 pls lb => ?_⟩
    obtain ⟨ul, hul, lul, hpl⟩ := pls
    obtain ⟨la, ela, gla⟩ := hpl (st.leaves.length + j) (by omega)
    have en : ((vsL.length : Nat) : Int) + (j : Nat) = ((st.leaves.length + j : Nat) : Int) := by have := rL.1; omega
    have eix : atI ul (((vsL.length : Nat) : Int) + (j : Nat)) = some (.ref la) := by
      rw [en]
      exact atI_nat ela
    refine ⟨_, rfl, _, rfl, _, _, rfl, rfl, pl, _, _, _, rfl, rfl, SqL.of hul, eix, ?_⟩
    have s04 := (s1.trans s13).trans s4
    have os4 : OsAt CO H4 p (sums st.leaves tr) := os3.same s4 fun x v z => z.same s4
    obtain ⟨vf, hF, rF⟩ := os4
    obtain ⟨⟨a, b⟩, hab⟩ : ∃ z, (prs tr st.leaves.length)[j]? = some z := ⟨_, List.getElem?_eq_getElem (by rw [prs_len]; exact lj)⟩
    obtain ⟨vp, gvp, lp, rfl, hlp⟩ := rP.2 _ _ hab
    obtain ⟨x, y, hx, hy, hxy, hjt, _⟩ := ov.stands.pair hab
    obtain ⟨vx, gvx, ax, dax, pax, rfl, hax, hpax⟩ := rF.2 _ _ (sums_at hx)
    obtain ⟨vy, gvy, ay, day, pay, rfl, hay, hpay⟩ := rF.2 _ _ (sums_at hy)
    obtain ⟨vz, gvz, az, daz, paz, rfl, haz, hpaz⟩ := rF.2 _ _ (sums_at hxy)
    have eiz : atI vf (((vsL.length : Nat) : Int) + (j : Nat)) = some (.ref az) := by
      rw [en]
      exact atI_nat gvz
    have kl := laid_by st.leaves (nodes st.leaves.length tr) Pl tr st.leaves.length q ov.stands lb.side (by rw [ov.num]; exact lb.root) j x y hjt
    rw [kl] at k
    obtain ⟨wx, hwx⟩ : ∃ z, z = (Lr72.sum st.leaves (.two x y)).time - (Lr72.sum st.leaves x).time := ⟨_, rfl⟩
    obtain ⟨wy, hwy⟩ : ∃ z, z = (Lr72.sum st.leaves (.two x y)).time - (Lr72.sum st.leaves y).time := ⟨_, rfl⟩
    rw [← hwx, ← hwy] at k
    have hlp4 := s04 _ _ hlp
    refine ⟨_, rfl, D, CD, dx, _, _, rfl, s04 _ _ hD, T.c_CD, T.n_CD_pairs, dF_pairs aL _, _, rfl, aP, _, _, _, rfl, rfl, SqL.of (s04 _ _ hP), atI_nat gvp, lp, rfl, ⟨_, SqT.of hlp4⟩, fun E1 hE1 => lc_tup (K := K) (a := lp) (xs := [.int (a : Int), .int (b : Int)]) (fun i H5 => Same H4 H5 ∧ H5 E1 = some (.lst (intV ([wx, wy].take i)))) ⟨same_upd hE1, upd_same⟩ ?_ ?_ ?_⟩
    · rintro i H5 _ ⟨s5, _⟩
      exact SqT.of (s5 _ _ hlp4)
    · rintro i v H5 hv ⟨s5, g5⟩
      match i, hv with
      | 0, hv =>
        cases hv
        refine ⟨rfl, _, rfl, _, rfl, _, rfl, _, _, rfl, rfl, p, _, _, _, rfl, rfl, SqL.of (s5 _ _ hF), eiz, az, CO, daz, _, _, rfl, s5 _ _ haz, T.c_CO, T.n_CO_time, out_time _ paz, ?_⟩
        refine ⟨_, rfl, _, rfl, p, _, _, _, rfl, rfl, SqL.of (s5 _ _ hF), atI_nat gvx, ax, CO, dax, _, _, rfl, s5 _ _ hax, T.c_CO, T.n_CO_time, out_time _ pax, _, _, rfl, rfl, _, g5, (by show 0 < sizeLine; decide), ((but_of s5 E1).trans But.upd).same hE1, ?_⟩
        rw [upd_same]
        show _ = some (HO.lst [.int wx])
        rw [hwx]
        rfl
      | 1, hv =>
        cases hv
        refine ⟨rfl, _, rfl, _, rfl, _, rfl, _, _, rfl, rfl, p, _, _, _, rfl, rfl, SqL.of (s5 _ _ hF), eiz, az, CO, daz, _, _, rfl, s5 _ _ haz, T.c_CO, T.n_CO_time, out_time _ paz, ?_⟩
        refine ⟨_, rfl, _, rfl, p, _, _, _, rfl, rfl, SqL.of (s5 _ _ hF), atI_nat gvy, ay, CO, day, _, _, rfl, s5 _ _ hay, T.c_CO, T.n_CO_time, out_time _ pay, _, _, rfl, rfl, _, g5, (by show 1 < sizeLine; decide), ((but_of s5 E1).trans But.upd).same hE1, ?_⟩
        rw [upd_same]
        show _ = some (HO.lst [.int wx, .int wy])
        rw [hwy]
        rfl
      | i + 2, hv => simp at hv
    · rintro H5 ⟨s5, g5⟩
      have gla5 := s5 _ _ gla
      refine ⟨_, rfl, la, _, _, _, rfl, rfl, SqT.of gla5, rfl, _, rfl, la, _, _, _, rfl, rfl, SqT.of gla5, rfl, (by show 3 ≤ sizeLine; decide), fun q6 hq6 => ?_⟩
      have s6 : Same H5 (upd H5 q6 (.lst [.int 0, .int (Pl (st.leaves.length + j)).s, .int (Pl (st.leaves.length + j)).t])) := same_upd hq6
      refine ⟨_, rfl, q6, E1, _, _, rfl, rfl, upd_same, s6 _ _ g5, (by show 5 ≤ sizeLine; decide), fun r hr' => ?_⟩
      exact told_same k d tb ((s04.trans s5).trans s6) hr'
end
end Sm
/-! The desk: judge, least, rank, many. -/
namespace Sm
open PySem PySem.Spec PyProof.Rows L2 LamX
theorem size_neg (z : Int) : Lr71.size (-z) = Lr71.size z := by
  unfold Lr71.size
  split <;> split <;> omega
theorem far_sym (p q : Pc) : Lr71.far p q = Lr71.far q p := by
  unfold Lr71.far
  rw [← size_neg (p.s - q.s), ← size_neg (p.t - q.t), show -(p.s - q.s) = q.s - p.s by omega, show -(p.t - q.t) = q.t - p.t by omega]
theorem plJ_leaf (ls : List Lf) (g : Nat → Int) (k : Nat) (h : k < ls.length) : plJ ls g k = leafAt ls k := if_pos h
theorem plJ_joint (ls : List Lf) (g : Nat → Int) (r : Nat) : plJ ls g (ls.length + r) = ⟨g (4 * r), g (4 * r + 1)⟩ := by
  unfold plJ
  rw [if_neg (by omega), Nat.add_sub_cancel_left]
theorem over_lt {n : Nat} {t : Tr} (ov : Over n t) : ∀ k ∈ lvs t, k < n := fun k hk => List.mem_range.mp (ov.mem_iff.mp hk)
/-- each wire is long enough, by number and by the tree -/
theorem long_is {ls : List Lf} {t : Tr} {g : Nat → Int} {us : List V} {L : List Int} (ov : Over ls.length t) (ab : Above ls.length t us) (lb : LenBy ls.length t g L) :
    (∀ v m : Nat, v < ls.length + jc t - 1 → us[v]? = some (.int (m : Int)) → Lr71.far (plJ ls g v) (plJ ls g m) ≤ L.getD v 0) ↔ Lr72.sound ls (laidG ls g t 0) = true := by
  rw [sound_is ls g ls.length rfl (plJ ls g) (plJ_leaf ls g) (plJ_joint ls g) t 0 (over_lt ov)]
  constructor
  · intro h i a b e
    obtain ⟨li, la, lb', lA, lB⟩ := ov.lt e
    obtain ⟨ua, ub⟩ := ab.2 i a b e
    obtain ⟨ga, gb⟩ := lb.side i a b e
    have h1 := h a _ (by omega) ua
    have h2 := h b _ (by omega) ub
    rw [getD_of ga, far_sym] at h1
    rw [getD_of gb, far_sym] at h2
    rw [Nat.zero_add]
    exact ⟨h1, h2⟩
  · intro h v m hv hu
    obtain ⟨i, a, b, e, hs⟩ := ov.side hv
    obtain ⟨ua, ub⟩ := ab.2 i a b e
    obtain ⟨ga, gb⟩ := lb.side i a b e
    have z := h i a b e
    rw [Nat.zero_add] at z
    have em : ∀ {v : Nat}, us[v]? = some (.int (m : Int)) → us[v]? = some (.int ((ls.length + i : Nat) : Int)) → m = ls.length + i := fun e1 e2 => by
      rw [e1] at e2
      have := V.int.inj (Option.some.inj e2)
      omega
    rcases hs with rfl | rfl
    · rw [em hu ua, getD_of ga, far_sym]
      exact z.1
    · rw [em hu ub, getD_of gb, far_sym]
      exact z.2
/-- when the signal is where, by number and by the tree -/
theorem moments_is {ls : List Lf} {t : Tr} {g : Nat → Int} {us : List V} {L : List Int} {mom : Nat → Int} (ov : Over ls.length t) (ab : Above ls.length t us) (lb : LenBy ls.length t g L) (h0 : mom (ls.length + jc t - 1) = 0)
    (hm : ∀ v m : Nat, v < ls.length + jc t - 1 → us[v]? = some (.int (m : Int)) → mom v = mom m + L.getD v 0) : ((List.range ls.length).map fun k => mom k + lateAt ls k).Perm (Lr72.times ls (laidG ls g t 0)) := by
  have e := times_is ls g ls.length rfl mom t 0 (over_lt ov) fun i a b e => by
    obtain ⟨li, la, lb', lA, lB⟩ := ov.lt e
    obtain ⟨ua, ub⟩ := ab.2 i a b e
    obtain ⟨ga, gb⟩ := lb.side i a b e
    have h1 := hm a _ (by omega) ua
    have h2 := hm b _ (by omega) ub
    rw [getD_of ga] at h1
    rw [getD_of gb] at h2
    rw [Nat.zero_add]
    exact ⟨h1, h2⟩
  rw [Nat.add_zero, ov.num, h0] at e
  have e2 : (Lr72.times ls (laidG ls g t 0)).map (0 + ·) = Lr72.times ls (laidG ls g t 0) := by
    have : ((0 : Int) + ·) = id := by
      funext z
      exact Int.zero_add z
    rw [this, List.map_id]
  rw [e2] at e
  rw [e]
  exact (ov.map _).symm
theorem judged_all (ls : List Lf) (t : Tr) (l : List Int) (ov : Over ls.length t) (h : l.length = 4 * jc t) : Lr72.judged ls t l = some (laidG ls (fun i => l.getD i 0) t 0, []) := by
  have e := judged_is ls l t 0 (over_lt ov)
  rw [Nat.mul_zero, List.drop_zero, Nat.zero_add, if_pos (.inl (by omega)), List.drop_of_length_le (by omega)] at e
  exact e
theorem judged_not (ls : List Lf) (t : Tr) (l : List Int) (ov : Over ls.length t) (h : l.length ≠ 4 * jc t) : ∀ x, Lr72.judged ls t l ≠ some (x, []) := by
  have e := judged_is ls l t 0 (over_lt ov)
  rw [Nat.mul_zero, List.drop_zero, Nat.zero_add] at e
  intro x z
  rw [z] at e
  split at e
  · rename_i hc
    have e2 := congrArg List.length (congrArg Prod.snd (Option.some.inj e))
    rw [List.length_drop] at e2
    have e2 : 0 = l.length - 4 * jc t := e2
    omega
  · cases e
theorem Told.trans {CD Pt D aL a dx dx2 : Addr} {pv : V} {fs fs2 : List (Str × V)} {H H2 : Hp} {st : Stt} {ans : List Int} {Q : VK} (k : Told CD Pt D aL pv H st ans Q) (hD : H D = some (.ins CD dx fs)) (hD2 : H2 D = some (.ins CD dx2 fs2)) (hs : ∀ b o, H b = some o → (∀ ps, o ≠ .tbl ps) → b ≠ D → H2 b = some o) (ha : NoL H a) : Told CD Pt D aL (.ref a) H2 st ans Q := by
  have fre : ∀ b, NoL H2 b → NoL H b := fun b hb o e => by
    cases o with
    | tbl ps => exact ⟨ps, rfl⟩
    | _ =>
      exfalso
      by_cases h1 : b = D
      · rw [h1] at hb
        obtain ⟨ps, z⟩ := hb _ hD2
        cases z
      · obtain ⟨ps, z⟩ := hb _ (hs b _ e (fun ps z => by cases z) h1)
        cases z
  intro H' aL' pv' r d c1 c2 kp tb h nr
  refine k H' aL' pv' r d (c1.imp id (fre _)) (.inr fun a' e => ?_) (fun b o e n h1 h2 => kp b o (hs b o e n h1) n h1 h2) tb h (fre _ nr)
  rcases c2 with e2 | e2
  · rw [e2] at e
    cases e
    exact ha
  · exact fre _ (e2 a' e)
abbrev s_Desk_judge : Stmt := inClass (topS 48) 11
theorem sc_Desk_judge : FnScope ["self", "numbers", "n", "above", "lengths", "moments"] ["self", "numbers"] (defScope s_Desk_judge) := ⟨rfl, rfl, rfl, by decide +kernel, rfl, by decide +kernel, by decide +kernel⟩
abbrev s_Desk_take_least : Stmt := inClass (topS 48) 12
theorem sc_Desk_take_least : FnScope ["self"] ["self"] (defScope s_Desk_take_least) := ⟨rfl, rfl, rfl, by decide +kernel, rfl, by decide +kernel, by decide +kernel⟩
abbrev s_Desk_take_ranked : Stmt := inClass (topS 48) 13
theorem sc_Desk_take_ranked : FnScope ["self", "k"] ["self", "k"] (defScope s_Desk_take_ranked) := ⟨rfl, rfl, rfl, by decide +kernel, rfl, by decide +kernel, by decide +kernel⟩
abbrev s_Desk_count_shapes : Stmt := inClass (topS 48) 14
theorem sc_Desk_count_shapes : FnScope ["self"] ["self"] (defScope s_Desk_count_shapes) := ⟨rfl, rfl, rfl, by decide +kernel, rfl, by decide +kernel, by decide +kernel⟩
section
variable {P : Program} {w : World} {K : PySem.W.Frag} {mg : Str → Option Value} {base : Heap} {CO CD : Addr}
def gJudge (K : PySem.W.Frag) : Hp → List V → Lr72.Call → Prop := fun H xs c => ∃ (a : Addr) (ns : List Int), xs = [.ref a] ∧ SqL K H a (intV ns) ∧ c = .judge ns
theorem ok_judge (T : Txt K mg CO CD) (Pt : Addr) (S : SrcM K CD "judge" "Desk.judge" s_Desk_judge ["self", "numbers"]) (d_joints_above : Df P w K mg base 1 "joints_above" ["n", "pairs"] spAbove) (d_told_lengths : Df P w K mg base 1 "told_lengths" ["n", "pairs", "numbers"] (spToldLengths K))
    (d_told_places : Df P w K mg base 2 "told_places" ["leaves", "numbers"] (spToldPlaces K)) (d_are_long_enough : Df P w K mg base 2 "are_long_enough" ["places", "above", "lengths"] spLong) (d_leaf_moments : Df P w K mg base 1 "leaf_moments" ["leaves", "above", "lengths"] spMoments) : Mt P w K mg base 3 CD "judge" ["self", "numbers"] (spM CD Pt (gJudge K)) := by
  obtain ⟨f, fd, F, hc, hm, hb⟩ := S.ex
  refine ⟨f, fd, F.ok (k := 2) sc_Desk_judge (fun vs H Q E h => ?_) (fun cdv A outer s H vs Q E hr h => ⟨_, (pss_cons (ps_if (pt_cmp (pc_isN (pe_fld (pv 0) rfl))) (pss_one (ps_ret (pe_lst (pa_cons (pe_gl (by rfl) T.g_NOTHING_YET) pa_nil)))) pss_nil)
      (pss_cons (ps_if (pt_cmpR op_ne (pe_callB call_len_seq (by rfl) T.b_len PySem.boot_len (pa_cons (pv 1) pa_nil)) (pe_op op_mul pe_int (pe_callB call_len_seq (by rfl) T.b_len PySem.boot_len (pa_cons (pe_fld (pv 0) rfl) pa_nil))) (nomark _)) (pss_one (ps_ret (pe_lst (pa_cons (pe_gl (by rfl) T.g_NOT_ALLOWED) pa_nil)))) pss_nil)
      (pss_cons (ps_set (i := 2) sc_Desk_judge.nd rfl (Or.inl rfl) (pe_callB call_len_seq (by rfl) T.b_len PySem.boot_len (pa_cons (pe_fld (pv 0) rfl) pa_nil)))
      (pss_cons (ps_set (i := 3) sc_Desk_judge.nd rfl (Or.inl rfl) (pe_df d_joints_above (hr.mono (by decide)) (by rfl) (pa_cons (pv 2) (pa_cons (pe_fld (pv 0) rfl) pa_nil))))
      (pss_cons (ps_set (i := 4) sc_Desk_judge.nd rfl (Or.inl rfl) (pe_df d_told_lengths (hr.mono (by decide)) (by rfl) (pa_cons (pv 2) (pa_cons (pe_fld (pv 0) rfl) (pa_cons (pv 1) pa_nil)))))
      (pss_cons (ps_if (pt_not (pt_val (pe_df d_are_long_enough (hr.mono (by decide)) (by rfl) (pa_cons (pe_df d_told_places (hr.mono (by decide)) (by rfl) (pa_cons (pe_fld (pv 0) rfl) (pa_cons (pv 1) pa_nil))) (pa_cons (pv 3) (pa_cons (pv 4) pa_nil)))))) (pss_one (ps_ret (pe_lst (pa_cons (pe_gl (by rfl) T.g_TOO_SHORT) pa_nil)))) pss_nil)
      (pss_cons (ps_set (i := 5) sc_Desk_judge.nd rfl (Or.inl rfl) (pe_df d_leaf_moments (hr.mono (by decide)) (by rfl) (pa_cons (pe_fld (pv 0) rfl) (pa_cons (pv 3) (pa_cons (pv 4) pa_nil)))))
      (pss_one (ps_ret (pe_lst (pa_cons (pe_callB (cr_sum rfl) (by rfl) T.b_sum (by decide +kernel) (pa_cons (pv 4) pa_nil)) (pa_cons (pe_callB (cr_min rfl) (by rfl) T.b_min (by decide +kernel) (pa_cons (pv 5) pa_nil)) (pa_cons (pe_callB (cr_max rfl) (by rfl) T.b_max (by decide +kernel) (pa_cons (pv 5) pa_nil)) pa_nil))))))))))))), ?_⟩), hc, hm, hb⟩
  · obtain ⟨_, _, _, _, _, _, rfl, _, _, ⟨_, _, rfl, _⟩, _⟩ := h
    rfl
  · obtain ⟨D, aL, pv, st, c, xs, rfl, d, tb, ⟨aN, ns, rfl, hN, rfl⟩, k⟩ := h
    obtain ⟨dx, hD⟩ := d.obj
    obtain ⟨vsL, hL, rL⟩ := d.lv
    rcases d.two with ⟨hs, rfl⟩ | ⟨tr, aP, hs, rfl, ov, pr⟩
    · have e : Lr72.act st (.judge ns) = (st, [-16]) := by
        unfold Lr72.act
        rw [hs]
      rw [e] at k
      exact ⟨_, rfl, D, CD, dx, _, _, rfl, hD, T.c_CD, T.n_CD_pairs, dF_pairs aL _, _, rfl, ite_b (fun c => ⟨(by show 1 ≤ sizeLine; decide), fun r hr' => told_same k d tb (Same.refl H) hr'⟩) (fun c => absurd rfl (of_decide_eq_false c))⟩
    have e : Lr72.act st (.judge ns) = match Lr72.judged st.leaves tr ns with
      | some (x, []) => if Lr72.sound st.leaves x then (st, [Lr72.wireOf x, (Lr72.times st.leaves x).foldl min ((Lr72.times st.leaves x).headD 0), (Lr72.times st.leaves x).foldl max ((Lr72.times st.leaves x).headD 0)]) else (st, [-33])
      | _ => (st, [-22]) := by
      unfold Lr72.act
      rw [hs]
      rfl
    rw [e] at k
    have hj := ov.jc
    have h8 := d.few
    obtain ⟨vsP, hP, rP⟩ := pr
    have lP : vsP.length = jc tr := by rw [rP.1, prs_len]
    refine ⟨_, rfl, D, CD, dx, _, _, rfl, hD, T.c_CD, T.n_CD_pairs, dF_pairs aL _, _, rfl, ite_b (fun c => by cases of_decide_eq_true c) (fun c => ?_)⟩
    refine ⟨_, rfl, aN, _, rfl, .inl hN, _, rfl, D, CD, dx, _, _, rfl, hD, T.c_CD, T.n_CD_pairs, dF_pairs aL _, aP, _, rfl, .inl (SqL.of hP), _, _, rfl, rfl, .inl ⟨by decide, by decide⟩, rfl, _, rfl, ite_b (fun c2 => ?_) (fun c2 => ?_)⟩
    · have c2 := nd_true c2
      have hne : ns.length ≠ 4 * jc tr := fun z => c2 (by
        rw [List.length_map, z, lP]
        congr 1)
      have jn := judged_not st.leaves tr ns ov hne
      have e2 : (match Lr72.judged st.leaves tr ns with
        | some (x, []) => if Lr72.sound st.leaves x then (st, [Lr72.wireOf x, (Lr72.times st.leaves x).foldl min ((Lr72.times st.leaves x).headD 0), (Lr72.times st.leaves x).foldl max ((Lr72.times st.leaves x).headD 0)]) else (st, [-33])
        | _ => (st, [-22])) = (st, [-22]) := by
        split
        · rename_i x hx
          exact absurd hx (jn x)
        · rfl
      rw [e2] at k
      exact ⟨(by show 1 ≤ sizeLine; decide), fun r hr' => told_same k d tb (Same.refl H) hr'⟩
    have c2 := V.int.inj (nd_false c2)
    have hlen : ns.length = 4 * jc tr := by
      rw [List.length_map, lP] at c2
      omega
    rw [judged_all st.leaves tr ns ov hlen] at k
    obtain ⟨g, hg⟩ : ∃ g : Nat → Int, g = fun i => ns.getD i 0 := ⟨_, rfl⟩
    rw [← hg] at k
    obtain ⟨X, hX⟩ : ∃ X, X = laidG st.leaves g tr 0 := ⟨_, rfl⟩
    rw [← hX] at k
    have k : Told CD Pt D aL (.ref aP) H (if Lr72.sound st.leaves X then (st, [Lr72.wireOf X, (Lr72.times st.leaves X).foldl min ((Lr72.times st.leaves X).headD 0), (Lr72.times st.leaves X).foldl max ((Lr72.times st.leaves X).headD 0)]) else (st, [-33])).1 (if Lr72.sound st.leaves X then (st, [Lr72.wireOf X, (Lr72.times st.leaves X).foldl min ((Lr72.times st.leaves X).headD 0), (Lr72.times st.leaves X).foldl max ((Lr72.times st.leaves X).headD 0)]) else (st, [-33])).2 Q := k
    refine ⟨_, rfl, D, CD, dx, _, _, rfl, hD, T.c_CD, T.n_CD_leaves, dF_leaves aL _, aL, _, rfl, .inl (SqL.of hL), ?_⟩
    refine ⟨_, rfl, _, rfl, D, CD, dx, _, _, rfl, hD, T.c_CD, T.n_CD_pairs, dF_pairs aL _, st.leaves.length, aP, tr, (by rw [rL.1]; rfl), ⟨vsP, hP, rP⟩, ov, h8, fun H1 pA us s1 hpA gA ab => ?_⟩
    have pr1 : PrAt H1 aP (prs tr st.leaves.length) := ls_keep pr_tup ⟨vsP, hP, rP⟩ (fun us z => s1 _ _ z) (fun b ys z => s1 _ _ z)
    refine ⟨_, rfl, _, rfl, D, CD, dx, _, _, rfl, s1 _ _ hD, T.c_CD, T.n_CD_pairs, dF_pairs aL _, _, rfl, st.leaves.length, aP, aN, tr, ns, (by rw [rL.1]; rfl), pr1, s1.seq hN, hlen, ov, h8, fun H2 pL L s2 hpL gL lb => ?_⟩
    rw [← hg] at lb
    have s12 := s1.trans s2
    have d2 := d.same s12
    refine ⟨_, rfl, D, CD, dx, _, _, rfl, s12 _ _ hD, T.c_CD, T.n_CD_leaves, dF_leaves aL _, _, rfl, aL, aN, st.leaves, ns, jc tr, rfl, d2.lv, s12.seq hN, hlen, by omega, h8, fun H3 pQ s3 pls => ?_⟩
    rw [← hg] at pls
    have s13 := s12.trans s3
    refine ⟨_, rfl, _, rfl, pQ, pA, pL, st.leaves.length, tr, plJ st.leaves g, us, L, rfl, pls, s3 _ _ (s2 _ _ gA), ab, s3 _ _ gL, lb.len, ov, h8, fun b hb => ⟨_, rfl, ite_b (fun c3 => ?_) (fun c3 => ?_)⟩⟩
    · rw [long_is ov ab lb, ← hX] at hb
      rw [if_neg (fun z => by rw [hb.mpr z] at c3; cases c3)] at k
      exact ⟨(by show 1 ≤ sizeLine; decide), fun r hr' => told_same k d tb s13 hr'⟩
    · rw [long_is ov ab lb, ← hX] at hb
      have hbt : b = true := by cases b <;> simp_all
      rw [if_pos (hb.mp hbt)] at k
      have d3 := d.same s13
      refine ⟨_, rfl, D, CD, dx, _, _, rfl, s13 _ _ hD, T.c_CD, T.n_CD_leaves, dF_leaves aL _, _, rfl, _, rfl, aL, pA, pL, st.leaves, tr, us, L, rfl, d3.lv, s3 _ _ (s2 _ _ gA), ab, s3 _ _ gL, lb.len, ov, h8, fun H4 pM mom s4 gM m0 hmom => ?_⟩
      have pm := moments_is ov ab lb m0 hmom
      rw [← hX] at pm
      obtain ⟨ms, hms⟩ : ∃ ms, ms = (List.range st.leaves.length).map fun k => mom k + lateAt st.leaves k := ⟨_, rfl⟩
      rw [← hms] at pm gM
      have hne : Lr72.times st.leaves X ≠ [] := fun z => by
        rw [z] at pm
        have := pm.length_eq
        rw [hms, List.length_map, List.length_range] at this
        have : st.leaves.length = 0 := this
        omega
      have mlen : 0 < ms.length := by
        rw [hms, List.length_map, List.length_range]
        omega
      refine ⟨_, rfl, pL, L, rfl, SqL.of (s4 _ _ (s3 _ _ gL)), _, rfl, pM, ms, rfl, SqL.of gM, mlen, fun m1 hm1 hm2 => ⟨_, rfl, pM, ms, rfl, SqL.of gM, mlen, fun m3 hm3 hm4 => ⟨(by show 3 ≤ sizeLine; decide), fun r hr' => ?_⟩⟩⟩
      have e1 : m1 = (Lr72.times st.leaves X).foldl min ((Lr72.times st.leaves X).headD 0) := IsMin.uniq ⟨hm1, hm2⟩ (isMin_fold hne) pm
      have e3 : m3 = (Lr72.times st.leaves X).foldl max ((Lr72.times st.leaves X).headD 0) := IsMax.uniq ⟨hm3, hm4⟩ (isMax_fold hne) pm
      have e0 : L.sum = Lr72.wireOf X := by
        rw [hX, wire_is]
        exact sum_lengths ov L g lb.len (getD_of lb.root) fun i a b e => ⟨getD_of (lb.side i a b e).1, getD_of (lb.side i a b e).2⟩
      rw [← e1, ← e3, ← e0] at k
      exact told_same k d tb (s13.trans s4) hr'
theorem act_wire (st : Stt) (t : Tr) (h : st.shape = some t) : Lr72.act st .wire = (st, [(Lr72.sum st.leaves t).wire, (Lr72.sum st.leaves t).time]) := by
  unfold Lr72.act
  rw [h]
theorem ok_take_least (T : Txt K mg CO CD) (Pt : Addr) (S : SrcM K CD "take_least" "Desk.take_least" s_Desk_take_least ["self"]) (d_least_shape : Df P w K mg base 16 "least_shape" ["leaves"] (spLeast Pt)) (m_keep_shape : Mt P w K mg base 11 CD "keep_shape" ["self", "shape"] (spKeep CD))
    (m_tell_wire : Mt P w K mg base 5 CD "tell_wire" ["self"] (spM CD Pt (gZero .wire))) : Mt P w K mg base 17 CD "take_least" ["self"] (spM CD Pt (gZero .least)) := by
  obtain ⟨f, fd, F, hc, hm, hb⟩ := S.ex
  refine ⟨f, fd, F.ok (k := 16) sc_Desk_take_least (fun vs H Q E h => ?_) (fun cdv A outer s H vs Q E hr h => ⟨_, (pss_cons (ps_if (pt_cmpR op_eq (pe_callB call_len_seq (by rfl) T.b_len PySem.boot_len (pa_cons (pe_fld (pv 0) rfl) pa_nil)) pe_int (nomark _)) (pss_one (ps_ret (pe_lst (pa_cons (pe_gl (by rfl) T.g_NOTHING_YET) pa_nil)))) pss_nil)
      (pss_cons (ps_if (pt_cmpR op_gt (pe_callB call_len_seq (by rfl) T.b_len PySem.boot_len (pa_cons (pe_fld (pv 0) rfl) pa_nil)) (pe_gl (by rfl) T.g_MOST_FOR_ALL_SHAPES) (nomark _)) (pss_one (ps_ret (pe_lst (pa_cons (pe_gl (by rfl) T.g_TOO_MANY) pa_nil)))) pss_nil)
      (pss_cons (ps_expr (pe_mt m_keep_shape (pv 0) (hr.mono (by decide)) (pa_cons (pe_df d_least_shape (hr.mono (by decide)) (by rfl) (pa_cons (pe_fld (pv 0) rfl) pa_nil)) pa_nil)))
      (pss_one (ps_ret (pe_mt0 m_tell_wire (pv 0) (hr.mono (by decide)))))))), ?_⟩), hc, hm, hb⟩
  · obtain ⟨_, _, _, _, _, _, rfl, _, _, ⟨rfl, _⟩, _⟩ := h
    rfl
  · obtain ⟨D, aL, pv, st, c, xs, rfl, d, tb, ⟨rfl, rfl⟩, k⟩ := h
    obtain ⟨dx, hD⟩ := d.obj
    obtain ⟨vsL, hL, rL⟩ := d.lv
    have h8 := d.few
    refine ⟨_, rfl, D, CD, dx, _, _, rfl, hD, T.c_CD, T.n_CD_leaves, dF_leaves aL pv, aL, _, rfl, .inl (SqL.of hL), rfl, _, rfl, ite_b (fun c => ?_) (fun c => ?_)⟩
    · have c := V.int.inj (of_decide_eq_true c)
      have e : Lr72.act st .least = (st, [-16]) := by
        unfold Lr72.act
        exact if_pos (List.eq_nil_of_length_eq_zero (by have := rL.1; omega))
      rw [e] at k
      exact ⟨(by show 1 ≤ sizeLine; decide), fun r hr' => told_same k d tb (Same.refl H) hr'⟩
    have c : ¬ ((vsL.length : Nat) : Int) = 0 := fun z => of_decide_eq_false c (by rw [z])
    have h0 : 0 < st.leaves.length := by have := rL.1; omega
    have e0 : Lr72.act st .least = if 6 < st.leaves.length then (st, [-7]) else match Lr72.best st.leaves (Lr72.allShapes st.leaves.length) with
        | none => (st, [-16])
        | some t => ({ st with shape := some t }, [(Lr72.sum st.leaves t).wire, (Lr72.sum st.leaves t).time]) := by
      show (if _ then _ else _) = _
      exact if_neg fun z => by rw [z] at h0; exact absurd h0 (by decide)
    rw [e0] at k
    refine ⟨_, rfl, D, CD, dx, _, _, rfl, hD, T.c_CD, T.n_CD_leaves, dF_leaves aL pv, aL, _, rfl, .inl (SqL.of hL), _, _, rfl, rfl, _, rfl, ite_b (fun c2 => ?_) (fun c2 => ?_)⟩
    · have c2 := of_decide_eq_true c2
      rw [if_pos (show 6 < st.leaves.length by have := rL.1; omega)] at k
      exact ⟨(by show 1 ≤ sizeLine; decide), fun r hr' => told_same k d tb (Same.refl H) hr'⟩
    have c2 := of_decide_eq_false c2
    have h6 : st.leaves.length ≤ 6 := by have := rL.1; omega
    rw [if_neg (show ¬ 6 < st.leaves.length by omega)] at k
    refine ⟨_, rfl, D, dx, _, rfl, hD, dF_other aL pv (by decide +kernel) (by decide +kernel), ?_⟩
    refine ⟨_, rfl, D, CD, dx, _, _, rfl, hD, T.c_CD, T.n_CD_leaves, dF_leaves aL pv, aL, st.leaves, rfl, d.lv, h0, h6, tb, fun H1 v t e1 tb1 hbest sh => ?_⟩
    rw [hbest] at k
    have ov : Over st.leaves.length t := all_over (best_mem _ _ _ hbest)
    have nt : ∀ {o : HO}, (∃ C dx fs, o = .ins C dx fs) → ∀ ps, o ≠ .tbl ps := fun ⟨_, _, _, e⟩ ps z => by rw [e] at z; cases z
    have hD1 := e1 _ _ hD (nt ⟨_, _, _, rfl⟩)
    refine ⟨D, aL, pv, st, v, t, rfl, d.ext e1, sh, ov, fun H2 a b2 n2 d2 => ?_⟩
    obtain ⟨dx2, hD2⟩ := d2.obj
    have tb2 : Tabs [(Pt, qLam)] H2 := tabs_keep tb1 fun b o e h1 h2 => b2 _ _ e (ne_of e hD1 (h2 _ _ _))
    refine ⟨_, rfl, D, dx2, _, rfl, hD2, dF_other aL _ (by decide +kernel) (by decide +kernel), ?_⟩
    refine ⟨D, aL, .ref a, { st with shape := some t }, .wire, [], rfl, d2, tb2, ⟨rfl, rfl⟩, ?_⟩
    rw [act_wire _ t rfl]
    refine Told.trans k hD hD2 (fun b o e n h1 => b2 _ _ (e1 _ _ e n) h1) fun o e => ?_
    cases o with
    | tbl ps => exact ⟨ps, rfl⟩
    | _ =>
      rw [e1 _ _ e fun ps z => by cases z] at n2
      cases n2
def gRank : Hp → List V → Lr72.Call → Prop := fun H xs c => ∃ j : Nat, xs = [.int j] ∧ c = .rank j
theorem ok_take_ranked (T : Txt K mg CO CD) (Pt : Addr) (S : SrcM K CD "take_ranked" "Desk.take_ranked" s_Desk_take_ranked ["self", "k"]) (d_shape_count : Df P w K mg base 1 "shape_count" ["n"] spCount) (d_all_shapes : Df P w K mg base 9 "all_shapes" ["n"] spAll) (m_keep_shape : Mt P w K mg base 11 CD "keep_shape" ["self", "shape"] (spKeep CD))
    (m_tell_wire : Mt P w K mg base 5 CD "tell_wire" ["self"] (spM CD Pt (gZero .wire))) : Mt P w K mg base 12 CD "take_ranked" ["self", "k"] (spM CD Pt gRank) := by
  obtain ⟨f, fd, F, hc, hm, hb⟩ := S.ex
  refine ⟨f, fd, F.ok (k := 11) sc_Desk_take_ranked (fun vs H Q E h => ?_) (fun cdv A outer s H vs Q E hr h => ⟨_, (pss_cons (ps_if (pt_cmpR op_eq (pe_callB call_len_seq (by rfl) T.b_len PySem.boot_len (pa_cons (pe_fld (pv 0) rfl) pa_nil)) pe_int (nomark _)) (pss_one (ps_ret (pe_lst (pa_cons (pe_gl (by rfl) T.g_NOTHING_YET) pa_nil)))) pss_nil)
      (pss_cons (ps_if (pt_cmpR op_gt (pe_callB call_len_seq (by rfl) T.b_len PySem.boot_len (pa_cons (pe_fld (pv 0) rfl) pa_nil)) (pe_gl (by rfl) T.g_MOST_FOR_ALL_SHAPES) (nomark _)) (pss_one (ps_ret (pe_lst (pa_cons (pe_gl (by rfl) T.g_TOO_MANY) pa_nil)))) pss_nil)
      (pss_cons (ps_if (pt_cmpR op_ge (pv 1) (pe_df d_shape_count (hr.mono (by decide)) (by rfl) (pa_cons (pe_callB call_len_seq (by rfl) T.b_len PySem.boot_len (pa_cons (pe_fld (pv 0) rfl) pa_nil)) pa_nil)) (nomark _)) (pss_one (ps_ret (pe_lst (pa_cons (pe_gl (by rfl) T.g_NOT_THERE) pa_nil)))) pss_nil)
      (pss_cons (ps_expr (pe_mt m_keep_shape (pv 0) (hr.mono (by decide)) (pa_cons (pe_ix ix_list (pe_df d_all_shapes (hr.mono (by decide)) (by rfl) (pa_cons (pe_callB call_len_seq (by rfl) T.b_len PySem.boot_len (pa_cons (pe_fld (pv 0) rfl) pa_nil)) pa_nil)) (pv 1) (fun _ _ => rfl)) pa_nil)))
      (pss_one (ps_ret (pe_mt0 m_tell_wire (pv 0) (hr.mono (by decide))))))))), ?_⟩), hc, hm, hb⟩
  · obtain ⟨_, _, _, _, _, _, rfl, _, _, ⟨_, rfl, _⟩, _⟩ := h
    rfl
  · obtain ⟨D, aL, pv, st, c, xs, rfl, d, tb, ⟨j, rfl, rfl⟩, k⟩ := h
    obtain ⟨dx, hD⟩ := d.obj
    obtain ⟨vsL, hL, rL⟩ := d.lv
    have h8 := d.few
    refine ⟨_, rfl, D, CD, dx, _, _, rfl, hD, T.c_CD, T.n_CD_leaves, dF_leaves aL pv, aL, _, rfl, .inl (SqL.of hL), rfl, _, rfl, ite_b (fun c => ?_) (fun c => ?_)⟩
    · have c := V.int.inj (of_decide_eq_true c)
      have e : Lr72.act st (.rank j) = (st, [-16]) := by
        unfold Lr72.act
        exact if_pos (List.eq_nil_of_length_eq_zero (by have := rL.1; omega))
      rw [e] at k
      exact ⟨(by show 1 ≤ sizeLine; decide), fun r hr' => told_same k d tb (Same.refl H) hr'⟩
    have c : ¬ ((vsL.length : Nat) : Int) = 0 := fun z => of_decide_eq_false c (by rw [z])
    have h0 : 0 < st.leaves.length := by have := rL.1; omega
    have e0 : Lr72.act st (.rank j) = if 6 < st.leaves.length then (st, [-7]) else match (Lr72.allShapes st.leaves.length)[j]? with
        | none => (st, [-2])
        | some t => ({ st with shape := some t }, [(Lr72.sum st.leaves t).wire, (Lr72.sum st.leaves t).time]) := by
      show (if _ then _ else _) = _
      exact if_neg fun z => by rw [z] at h0; exact absurd h0 (by decide)
    rw [e0] at k
    refine ⟨_, rfl, D, CD, dx, _, _, rfl, hD, T.c_CD, T.n_CD_leaves, dF_leaves aL pv, aL, _, rfl, .inl (SqL.of hL), _, _, rfl, rfl, _, rfl, ite_b (fun c2 => ?_) (fun c2 => ?_)⟩
    · have c2 := of_decide_eq_true c2
      rw [if_pos (show 6 < st.leaves.length by have := rL.1; omega)] at k
      exact ⟨(by show 1 ≤ sizeLine; decide), fun r hr' => told_same k d tb (Same.refl H) hr'⟩
    have c2 := of_decide_eq_false c2
    have h6 : st.leaves.length ≤ 6 := by have := rL.1; omega
    rw [if_neg (show ¬ 6 < st.leaves.length by omega)] at k
    have hcnt := cnt_is _ h6
    refine ⟨_, rfl, _, rfl, D, CD, dx, _, _, rfl, hD, T.c_CD, T.n_CD_leaves, dF_leaves aL pv, aL, _, rfl, .inl (SqL.of hL), st.leaves.length, (by rw [rL.1]; rfl), h6, _, _, rfl, rfl, _, rfl, ite_b (fun c3 => ?_) (fun c3 => ?_)⟩
    · have c3 := of_decide_eq_true c3
      rw [List.getElem?_eq_none (by omega)] at k
      exact ⟨(by show 1 ≤ sizeLine; decide), fun r hr' => told_same k d tb (Same.refl H) hr'⟩
    have c3 := of_decide_eq_false c3
    obtain ⟨t, ht⟩ : ∃ t, (Lr72.allShapes st.leaves.length)[j]? = some t := ⟨_, List.getElem?_eq_getElem (by omega)⟩
    rw [ht] at k
    have ov : Over st.leaves.length t := all_over (List.mem_of_getElem? ht)
    refine ⟨_, rfl, D, dx, _, rfl, hD, dF_other aL pv (by decide +kernel) (by decide +kernel), ?_⟩
    refine ⟨_, rfl, D, CD, dx, _, _, rfl, hD, T.c_CD, T.n_CD_leaves, dF_leaves aL pv, aL, _, rfl, .inl (SqL.of hL), st.leaves.length, (by rw [rL.1]; rfl), h0, h6, fun H1 q s1 Ls => ?_⟩
    obtain ⟨vs1, hq1, r1⟩ := Ls
    obtain ⟨v, hv, sh⟩ := r1.2 _ _ ht
    refine ⟨_, rfl, q, _, _, _, rfl, rfl, SqL.of hq1, atI_nat hv, ?_⟩
    refine ⟨D, aL, pv, st, v, t, rfl, d.same s1, sh, ov, fun H2 a b2 n2 d2 => ?_⟩
    obtain ⟨dx2, hD2⟩ := d2.obj
    have tb2 : Tabs [(Pt, qLam)] H2 := tabs_keep (tabs_same tb s1) fun b o e h1 h2 => b2 _ _ e (ne_of e (s1 _ _ hD) (h2 _ _ _))
    refine ⟨_, rfl, D, dx2, _, rfl, hD2, dF_other aL _ (by decide +kernel) (by decide +kernel), ?_⟩
    refine ⟨D, aL, .ref a, { st with shape := some t }, .wire, [], rfl, d2, tb2, ⟨rfl, rfl⟩, ?_⟩
    rw [act_wire _ t rfl]
    exact Told.trans k hD hD2 (fun b o e n h1 => b2 _ _ (s1 _ _ e) h1) (noL_same s1 n2)
theorem ok_count_shapes (T : Txt K mg CO CD) (Pt : Addr) (S : SrcM K CD "count_shapes" "Desk.count_shapes" s_Desk_count_shapes ["self"]) (d_shape_count : Df P w K mg base 1 "shape_count" ["n"] spCount) : Mt P w K mg base 2 CD "count_shapes" ["self"] (spM CD Pt (gZero .many)) := by
  obtain ⟨f, fd, F, hc, hm, hb⟩ := S.ex
  refine ⟨f, fd, F.ok (k := 1) sc_Desk_count_shapes (fun vs H Q E h => ?_) (fun cdv A outer s H vs Q E hr h => ⟨_, (pss_cons (ps_if (pt_cmpR op_gt (pe_callB call_len_seq (by rfl) T.b_len PySem.boot_len (pa_cons (pe_fld (pv 0) rfl) pa_nil)) (pe_gl (by rfl) T.g_MOST_FOR_ALL_SHAPES) (nomark _)) (pss_one (ps_ret (pe_lst (pa_cons (pe_gl (by rfl) T.g_TOO_MANY) pa_nil)))) pss_nil)
      (pss_one (ps_ret (pe_lst (pa_cons (pe_df d_shape_count (hr.mono (by decide)) (by rfl) (pa_cons (pe_callB call_len_seq (by rfl) T.b_len PySem.boot_len (pa_cons (pe_fld (pv 0) rfl) pa_nil)) pa_nil)) pa_nil))))), ?_⟩), hc, hm, hb⟩
  · obtain ⟨_, _, _, _, _, _, rfl, _, _, ⟨rfl, _⟩, _⟩ := h
    rfl
  · obtain ⟨D, aL, pv, st, c, xs, rfl, d, tb, ⟨rfl, rfl⟩, k⟩ := h
    obtain ⟨dx, hD⟩ := d.obj
    obtain ⟨vsL, hL, rL⟩ := d.lv
    have e0 : Lr72.act st .many = if 6 < st.leaves.length then (st, [-7]) else (st, [Lr71.int (Lr72.allShapes st.leaves.length).length]) := rfl
    rw [e0] at k
    refine ⟨_, rfl, D, CD, dx, _, _, rfl, hD, T.c_CD, T.n_CD_leaves, dF_leaves aL pv, aL, _, rfl, .inl (SqL.of hL), _, _, rfl, rfl, _, rfl, ite_b (fun c2 => ?_) (fun c2 => ?_)⟩
    · have c2 := of_decide_eq_true c2
      rw [if_pos (show 6 < st.leaves.length by have := rL.1; omega)] at k
      exact ⟨(by show 1 ≤ sizeLine; decide), fun r hr' => told_same k d tb (Same.refl H) hr'⟩
    have c2 := of_decide_eq_false c2
    have h6 : st.leaves.length ≤ 6 := by have := rL.1; omega
    rw [if_neg (show ¬ 6 < st.leaves.length by omega), cnt_is _ h6] at k
    refine ⟨_, rfl, D, CD, dx, _, _, rfl, hD, T.c_CD, T.n_CD_leaves, dF_leaves aL pv, aL, _, rfl, .inl (SqL.of hL), st.leaves.length, (by rw [rL.1]; rfl), h6, (by show 1 ≤ sizeLine; decide), fun r hr' => ?_⟩
    exact told_same k d tb (Same.refl H) hr'
end
end Sm
/-! The calls. -/
namespace Sm
open PySem PySem.Spec PyProof.Rows L2 LamX
theorem ite_no {p : Prop} [Decidable p] {A B : Prop} (h : ¬ p) (b : B) : if decide p = true then A else B := by
  rw [decide_eq_false h]
  exact b
theorem ite_yes {p : Prop} [Decidable p] {A B : Prop} (h : p) (a : A) : if decide p = true then A else B := by
  rw [decide_eq_true h]
  exact a
theorem int_ne {i j : Int} (h : i ≠ j) : ¬ V.int i = V.int j := fun z => h (V.int.inj z)
abbrev askd := Lr72Neutral.asked1
theorem nat_of {z : Int} {b : Nat} (h : Lr72Neutral.natural z b = true) : ∃ u : Nat, z = u := by
  unfold Lr72Neutral.natural at h
  rw [Bool.and_eq_true, decide_eq_true_eq] at h
  exact ⟨z.toNat, (Int.toNat_of_nonneg h.1).symm⟩
theorem nats_of (l : List Int) (h : (l.all fun (z : Int) => Lr72Neutral.natural z 32) = true) : ∃ k : List Nat, l = k.map (fun (u : Nat) => (u : Int)) ∧ Lr72Neutral.nats l = k := by
  induction l with
  | nil => exact ⟨[], rfl, rfl⟩
  | cons z l ih =>
    rw [List.all_cons, Bool.and_eq_true] at h
    obtain ⟨k, e1, e2⟩ := ih h.2
    obtain ⟨u, e3⟩ := nat_of h.1
    refine ⟨u :: k, by rw [e1, e3] <;> rfl, ?_⟩
    show z.toNat :: Lr72Neutral.nats l = u :: k
    rw [e2, e3] <;> rfl
theorem askd_0 {gs : List Int} (h : askd (form 0 gs) = true) : gs = [] := by
  have h : askd [0 :: gs] = true := h
  match gs, h with
  | [], h => rfl
  | y0 :: _, h => exact absurd (show false = true from h) (by decide)
theorem askd_1 {gs : List Int} (h : askd (form 1 gs) = true) : ∃ (x0 : Int) (x1 : Int) (x2 : Nat), gs = [x0, x1, (x2 : Int)] := by
  have h : askd [1 :: gs] = true := h
  match gs, h with
  | [], h => exact absurd (show false = true from h) (by decide)
  | [y0], h => exact absurd (show false = true from h) (by decide)
  | [y0, y1], h => exact absurd (show false = true from h) (by decide)
  | [y0, y1, y2], h =>
    have h : (Lr72Neutral.place32 y0 && (Lr72Neutral.place32 y1 && Lr72Neutral.natural y2 32)) = true := h
    rw [Bool.and_eq_true, Bool.and_eq_true] at h
    obtain ⟨u, e⟩ := nat_of h.2.2
    exact ⟨y0, y1, u, by rw [e]⟩
  | y0 :: y1 :: y2 :: y3 :: _, h => exact absurd (show false = true from h) (by decide)
theorem askd_2 {gs : List Int} (h : askd (form 2 gs) = true) : ∃ (x0 : Nat) (x1 : Int) (x2 : Int) (x3 : Nat), gs = [(x0 : Int), x1, x2, (x3 : Int)] := by
  have h : askd [2 :: gs] = true := h
  match gs, h with
  | [], h => exact absurd (show false = true from h) (by decide)
  | [y0], h => exact absurd (show false = true from h) (by decide)
  | [y0, y1], h => exact absurd (show false = true from h) (by decide)
  | [y0, y1, y2], h => exact absurd (show false = true from h) (by decide)
  | [y0, y1, y2, y3], h =>
    have h : (Lr72Neutral.natural y0 32 && (Lr72Neutral.place32 y1 && (Lr72Neutral.place32 y2 && Lr72Neutral.natural y3 32))) = true := h
    rw [Bool.and_eq_true, Bool.and_eq_true, Bool.and_eq_true] at h
    obtain ⟨u, e⟩ := nat_of h.1
    obtain ⟨v, e2⟩ := nat_of h.2.2.2
    exact ⟨u, y1, y2, v, by rw [e, e2]⟩
  | y0 :: y1 :: y2 :: y3 :: y4 :: _, h => exact absurd (show false = true from h) (by decide)
theorem askd_4 {gs : List Int} (h : askd (form 4 gs) = true) : gs = [] := by
  have h : askd [4 :: gs] = true := h
  match gs, h with
  | [], h => rfl
  | y0 :: _, h => exact absurd (show false = true from h) (by decide)
theorem askd_5 {gs : List Int} (h : askd (form 5 gs) = true) : gs = [] := by
  have h : askd [5 :: gs] = true := h
  match gs, h with
  | [], h => rfl
  | y0 :: _, h => exact absurd (show false = true from h) (by decide)
theorem askd_6 {gs : List Int} (h : askd (form 6 gs) = true) : ∃ (x0 : Nat), gs = [(x0 : Int)] := by
  have h : askd [6 :: gs] = true := h
  match gs, h with
  | [], h => exact absurd (show false = true from h) (by decide)
  | [y0], h =>
    have h : Lr72Neutral.natural y0 32 = true := h
    obtain ⟨u, e⟩ := nat_of h
    exact ⟨u, by rw [e]⟩
  | y0 :: y1 :: _, h => exact absurd (show false = true from h) (by decide)
theorem askd_7 {gs : List Int} (h : askd (form 7 gs) = true) : ∃ (x0 : Int) (x1 : Int), gs = [x0, x1] := by
  have h : askd [7 :: gs] = true := h
  match gs, h with
  | [], h => exact absurd (show false = true from h) (by decide)
  | [y0], h => exact absurd (show false = true from h) (by decide)
  | [y0, y1], h =>
    have h : (Lr72Neutral.place32 y0 && Lr72Neutral.place32 y1) = true := h
    exact ⟨y0, y1, rfl⟩
  | y0 :: y1 :: y2 :: _, h => exact absurd (show false = true from h) (by decide)
theorem askd_8 {gs : List Int} (h : askd (form 8 gs) = true) : ∃ (x0 : Int) (x1 : Int) (x2 : Nat), gs = [x0, x1, (x2 : Int)] := by
  have h : askd [8 :: gs] = true := h
  match gs, h with
  | [], h => exact absurd (show false = true from h) (by decide)
  | [y0], h => exact absurd (show false = true from h) (by decide)
  | [y0, y1], h => exact absurd (show false = true from h) (by decide)
  | [y0, y1, y2], h =>
    have h : (Lr72Neutral.place32 y0 && (Lr72Neutral.place32 y1 && Lr72Neutral.natural y2 32)) = true := h
    rw [Bool.and_eq_true, Bool.and_eq_true] at h
    obtain ⟨u, e⟩ := nat_of h.2.2
    exact ⟨y0, y1, u, by rw [e]⟩
  | y0 :: y1 :: y2 :: y3 :: _, h => exact absurd (show false = true from h) (by decide)
theorem askd_10 {gs : List Int} (h : askd (form 10 gs) = true) : gs = [] := by
  have h : askd [10 :: gs] = true := h
  match gs, h with
  | [], h => rfl
  | y0 :: _, h => exact absurd (show false = true from h) (by decide)
theorem askd_11 {gs : List Int} (h : askd (form 11 gs) = true) : ∃ (x0 : Nat), gs = [(x0 : Int)] := by
  have h : askd [11 :: gs] = true := h
  match gs, h with
  | [], h => exact absurd (show false = true from h) (by decide)
  | [y0], h =>
    have h : Lr72Neutral.natural y0 32 = true := h
    obtain ⟨u, e⟩ := nat_of h
    exact ⟨u, by rw [e]⟩
  | y0 :: y1 :: _, h => exact absurd (show false = true from h) (by decide)
theorem askd_12 {gs : List Int} (h : askd (form 12 gs) = true) : gs = [] := by
  have h : askd [12 :: gs] = true := h
  match gs, h with
  | [], h => rfl
  | y0 :: _, h => exact absurd (show false = true from h) (by decide)
theorem askd_3 {gs : List Int} (h : askd (form 3 gs) = true) : ∃ k : List Nat, gs = k.map (fun (u : Nat) => (u : Int)) ∧ Lr72Neutral.nats gs = k ∧ k.length ≤ 20 := by
  have h : Lr72Neutral.long gs 20 = true := h
  unfold Lr72Neutral.long at h
  rw [Bool.and_eq_true, decide_eq_true_eq] at h
  obtain ⟨k, e1, e2⟩ := nats_of gs h.2
  refine ⟨k, e1, e2, ?_⟩
  have := h.1
  rw [e1, List.length_map] at this
  exact this
abbrev s_has_row : Stmt := topS 63
theorem sc_has_row : FnScope ["call"] ["call"] (defScope s_has_row) := ⟨rfl, rfl, rfl, by decide +kernel, rfl, by decide +kernel, by decide +kernel⟩
abbrev s_head_length : Stmt := topS 64
theorem sc_head_length : FnScope ["call"] ["call"] (defScope s_head_length) := ⟨rfl, rfl, rfl, by decide +kernel, rfl, by decide +kernel, by decide +kernel⟩
abbrev s_body_length : Stmt := topS 65
theorem sc_body_length : FnScope ["calls", "at"] ["calls", "at"] (defScope s_body_length) := ⟨rfl, rfl, rfl, by decide +kernel, rfl, by decide +kernel, by decide +kernel⟩
abbrev s_answer : Stmt := topS 66
theorem sc_answer : FnScope ["desk", "call", "given"] ["desk", "call", "given"] (defScope s_answer) := ⟨rfl, rfl, rfl, by decide +kernel, rfl, by decide +kernel, by decide +kernel⟩
section
variable {P : Program} {w : World} {K : PySem.W.Frag} {mg : Str → Option Value} {base : Heap} {CO CD : Addr}
def spHasRow : Sp := fun vs H Q _ => ∃ p : Int, vs = [.int p] ∧ Q (.bl (decide (p = 3 ∨ p = 9))) H
theorem ok_has_row (T : Txt K mg CO CD) (S : Src K mg "has_row" s_has_row ["call"]) : Df P w K mg base 1 "has_row" ["call"] spHasRow := by
  obtain ⟨f, fd, F, hm, hb⟩ := S.ex
  refine ⟨f, fd, F.ok sc_has_row (fun vs H Q E h => ?_) (fun cdv A outer s H vs Q E hr h => ⟨_, (pss_one (ps_ret (pe_or (pe_cmpR op_eq (pv 0) (pe_gl (by rfl) T.g_SHAPE) (nomark _)) (pe_one (pe_cmpR op_eq (pv 0) (pe_gl (by rfl) T.g_JUDGE) (nomark _)))))), ?_⟩), hm, F.kp, hb⟩
  · obtain ⟨_, rfl, _⟩ := h
    rfl
  · obtain ⟨p, rfl, k⟩ := h
    refine ⟨_, rfl, rfl, _, rfl, ite_b (fun c => ?_) (fun c => ⟨_, rfl, rfl, ?_⟩)⟩
    · have c := V.int.inj (of_decide_eq_true c)
      rw [decide_eq_true (.inl c)] at k
      exact k
    · have c : ¬ p = 3 := fun z => of_decide_eq_false c (by rw [z])
      have e : decide (p = 3 ∨ p = 9) = decide (V.int p = V.int 9) := by
        rw [Bool.eq_iff_iff, decide_eq_true_eq, decide_eq_true_eq]
        exact ⟨fun z => by rw [z.resolve_left c], fun z => .inr (V.int.inj z)⟩
      rw [e] at k
      exact k
def spHead : Sp := fun vs H Q _ => ∃ (p : Int) (hd : Nat), vs = [.int p] ∧ ((p = 3 ∨ p = 9) → hd = 2) ∧ (¬ (p = 3 ∨ p = 9) → hd = 1) ∧ Q (.int hd) H
theorem ok_head_length (T : Txt K mg CO CD) (S : Src K mg "head_length" s_head_length ["call"]) (d_has_row : Df P w K mg base 1 "has_row" ["call"] spHasRow) : Df P w K mg base 2 "head_length" ["call"] spHead := by
  obtain ⟨f, fd, F, hm, hb⟩ := S.ex
  refine ⟨f, fd, F.ok (k := 1) sc_head_length (fun vs H Q E h => ?_) (fun cdv A outer s H vs Q E hr h => ⟨_, (pss_cons (ps_if (pt_val (pe_df d_has_row (hr.mono (by decide)) (by rfl) (pa_cons (pv 0) pa_nil))) (pss_one (ps_ret pe_int)) pss_nil)
      (pss_one (ps_ret pe_int))), ?_⟩), hm, F.kp, hb⟩
  · obtain ⟨_, _, rfl, _⟩ := h
    rfl
  · obtain ⟨p, hd, rfl, h1, h2, k⟩ := h
    refine ⟨_, rfl, p, rfl, _, rfl, ite_b (fun c => ?_) (fun c => ?_)⟩
    · rw [h1 (of_decide_eq_true c)] at k
      exact k
    · rw [h2 (of_decide_eq_false c)] at k
      exact k
theorem counts_at {p : Int} (h0 : 0 ≤ p) (h1 : p ≤ 12) (h : ¬ (p = 3 ∨ p = 9)) : atI (([0, 3, 4, 0, 0, 0, 1, 2, 3, 0, 0, 1, 0] : List Int).map V.int) p = some (.int (hasN p : Nat)) := by
  have hc : p = 0 ∨ p = 1 ∨ p = 2 ∨ p = 4 ∨ p = 5 ∨ p = 6 ∨ p = 7 ∨ p = 8 ∨ p = 10 ∨ p = 11 ∨ p = 12 := by omega
  rcases hc with rfl | rfl | rfl | rfl | rfl | rfl | rfl | rfl | rfl | rfl | rfl <;> rfl
def spBody (K : PySem.W.Frag) : Sp := fun vs H Q _ => ∃ (aC : Addr) (at_ bd : Nat) (ns : List Int) (p : Int), vs = [.ref aC, .int at_] ∧ SqL K H aC (intV ns) ∧ ns[at_]? = some p ∧ 0 ≤ p ∧ p ≤ 12 ∧ ((p = 3 ∨ p = 9) → ns[at_ + 1]? = some (bd : Int)) ∧ (¬ (p = 3 ∨ p = 9) → bd = hasN p) ∧ Q (.int bd) H
theorem ok_body_length (T : Txt K mg CO CD) (S : Src K mg "body_length" s_body_length ["calls", "at"]) (d_has_row : Df P w K mg base 1 "has_row" ["call"] spHasRow) : Df P w K mg base 2 "body_length" ["calls", "at"] (spBody K) := by
  obtain ⟨f, fd, F, hm, hb⟩ := S.ex
  refine ⟨f, fd, F.ok (k := 1) sc_body_length (fun vs H Q E h => ?_) (fun cdv A outer s H vs Q E hr h => ⟨_, (pss_cons (ps_if (pt_val (pe_df d_has_row (hr.mono (by decide)) (by rfl) (pa_cons (pe_ix ix_list (pv 0) (pv 1) (fun _ _ => rfl)) pa_nil))) (pss_one (ps_ret (pe_ix ix_list (pv 0) (pe_op op_add (pv 1) pe_int) (fun _ _ => rfl)))) pss_nil)
      (pss_one (ps_ret (pe_ix ix_tup (pe_glT (by rfl) T.g_COUNTS) (pe_ix ix_list (pv 0) (pv 1) (fun _ _ => rfl)) (fun _ _ => rfl))))), ?_⟩), hm, F.kp, hb⟩
  · obtain ⟨_, _, _, _, _, rfl, _⟩ := h
    rfl
  · obtain ⟨aC, at_, bd, ns, p, rfl, hC, hp, h0, h12, h1, h2, k⟩ := h
    refine ⟨_, rfl, _, rfl, aC, _, _, _, rfl, rfl, hC, atI_nat (intV_at hp), p, rfl, _, rfl, ite_b (fun c => ?_) (fun c => ?_)⟩
    · have e : atI (intV ns) ((at_ : Int) + 1) = some (.int bd) := by
        rw [show (at_ : Int) + 1 = ((at_ + 1 : Nat) : Int) by omega]
        exact atI_nat (intV_at (h1 (of_decide_eq_true c)))
      exact ⟨_, rfl, _, rfl, _, _, rfl, rfl, aC, _, _, _, rfl, rfl, hC, e, k⟩
    · have c := of_decide_eq_false c
      rw [h2 c] at k
      exact fun a hS => ⟨_, rfl, _, rfl, aC, _, _, _, rfl, rfl, hC, atI_nat (intV_at hp), a, _, _, _, rfl, rfl, hS, counts_at h0 h12 c, k⟩
def spAnswer (K : PySem.W.Frag) (CD Pt : Addr) : Sp := fun vs H Q _ => ∃ (D aL aG : Addr) (pv : V) (st : Stt) (p : Int) (gs : List Int), vs = [.ref D, .int p, .ref aG] ∧ DeskAt CD H D aL pv st ∧ Tabs [(Pt, qLam)] H ∧ SqL K H aG (intV gs) ∧ 0 ≤ p ∧ p ≤ 12 ∧ askd (form p gs) = true ∧ Told CD Pt D aL pv H (Lr72Neutral.step st (form p gs)).1 (Lr72Neutral.step st (form p gs)).2 Q
theorem ok_answer (T : Txt K mg CO CD) (Pt : Addr) (S : Src K mg "answer" s_answer ["desk", "call", "given"])
    (m_start_anew : Mt P w K mg base 1 CD "start_anew" ["self"] (spM CD Pt gNew))
    (m_add_leaf : Mt P w K mg base 3 CD "add_leaf" ["self", "s", "t", "late"] (spM CD Pt gLeaf))
    (m_move_leaf : Mt P w K mg base 3 CD "move_leaf" ["self", "k", "s", "t", "late"] (spM CD Pt gMove))
    (m_take_shape : Mt P w K mg base 12 CD "take_shape" ["self", "numbers"] (spM CD Pt (gShape K)))
    (m_tell_shape : Mt P w K mg base 1 CD "tell_shape" ["self"] (spM CD Pt (gZero .told)))
    (m_tell_wire : Mt P w K mg base 5 CD "tell_wire" ["self"] (spM CD Pt (gZero .wire)))
    (m_tell_joint : Mt P w K mg base 5 CD "tell_joint" ["self", "k"] (spM CD Pt gJoint))
    (m_lay_out : Mt P w K mg base 5 CD "lay_out" ["self", "s", "t"] (spM CD Pt gLay))
    (m_tell_laid : Mt P w K mg base 5 CD "tell_laid" ["self", "s", "t", "k"] (spM CD Pt gLaid))
    (m_judge : Mt P w K mg base 3 CD "judge" ["self", "numbers"] (spM CD Pt (gJudge K)))
    (m_take_least : Mt P w K mg base 17 CD "take_least" ["self"] (spM CD Pt (gZero .least)))
    (m_take_ranked : Mt P w K mg base 12 CD "take_ranked" ["self", "k"] (spM CD Pt gRank))
    (m_count_shapes : Mt P w K mg base 2 CD "count_shapes" ["self"] (spM CD Pt (gZero .many))) : Df P w K mg base 18 "answer" ["desk", "call", "given"] (spAnswer K CD Pt) := by
  obtain ⟨f, fd, F, hm, hb⟩ := S.ex
  refine ⟨f, fd, F.ok (k := 17) sc_answer (fun vs H Q E h => ?_) (fun cdv A outer s H vs Q E hr h => ⟨_, (pss_cons (ps_if (pt_cmpR op_eq (pv 1) (pe_gl (by rfl) T.g_NEW) (nomark _)) (pss_one (ps_ret (pe_mt0 m_start_anew (pv 0) (hr.mono (by decide))))) pss_nil)
      (pss_cons (ps_if (pt_cmpR op_eq (pv 1) (pe_gl (by rfl) T.g_LEAF) (nomark _)) (pss_one (ps_ret (pe_mt m_add_leaf (pv 0) (hr.mono (by decide)) (pa_cons (pe_ix ix_list (pv 2) pe_int (fun _ _ => rfl)) (pa_cons (pe_ix ix_list (pv 2) pe_int (fun _ _ => rfl)) (pa_cons (pe_ix ix_list (pv 2) pe_int (fun _ _ => rfl)) pa_nil)))))) pss_nil)
      (pss_cons (ps_if (pt_cmpR op_eq (pv 1) (pe_gl (by rfl) T.g_MOVE) (nomark _)) (pss_one (ps_ret (pe_mt m_move_leaf (pv 0) (hr.mono (by decide)) (pa_cons (pe_ix ix_list (pv 2) pe_int (fun _ _ => rfl)) (pa_cons (pe_ix ix_list (pv 2) pe_int (fun _ _ => rfl)) (pa_cons (pe_ix ix_list (pv 2) pe_int (fun _ _ => rfl)) (pa_cons (pe_ix ix_list (pv 2) pe_int (fun _ _ => rfl)) pa_nil))))))) pss_nil)
      (pss_cons (ps_if (pt_cmpR op_eq (pv 1) (pe_gl (by rfl) T.g_SHAPE) (nomark _)) (pss_one (ps_ret (pe_mt m_take_shape (pv 0) (hr.mono (by decide)) (pa_cons (pv 2) pa_nil)))) pss_nil)
      (pss_cons (ps_if (pt_cmpR op_eq (pv 1) (pe_gl (by rfl) T.g_TOLD) (nomark _)) (pss_one (ps_ret (pe_mt0 m_tell_shape (pv 0) (hr.mono (by decide))))) pss_nil)
      (pss_cons (ps_if (pt_cmpR op_eq (pv 1) (pe_gl (by rfl) T.g_WIRE) (nomark _)) (pss_one (ps_ret (pe_mt0 m_tell_wire (pv 0) (hr.mono (by decide))))) pss_nil)
      (pss_cons (ps_if (pt_cmpR op_eq (pv 1) (pe_gl (by rfl) T.g_JOINT) (nomark _)) (pss_one (ps_ret (pe_mt m_tell_joint (pv 0) (hr.mono (by decide)) (pa_cons (pe_ix ix_list (pv 2) pe_int (fun _ _ => rfl)) pa_nil)))) pss_nil)
      (pss_cons (ps_if (pt_cmpR op_eq (pv 1) (pe_gl (by rfl) T.g_LAY) (nomark _)) (pss_one (ps_ret (pe_mt m_lay_out (pv 0) (hr.mono (by decide)) (pa_cons (pe_ix ix_list (pv 2) pe_int (fun _ _ => rfl)) (pa_cons (pe_ix ix_list (pv 2) pe_int (fun _ _ => rfl)) pa_nil))))) pss_nil)
      (pss_cons (ps_if (pt_cmpR op_eq (pv 1) (pe_gl (by rfl) T.g_LAID) (nomark _)) (pss_one (ps_ret (pe_mt m_tell_laid (pv 0) (hr.mono (by decide)) (pa_cons (pe_ix ix_list (pv 2) pe_int (fun _ _ => rfl)) (pa_cons (pe_ix ix_list (pv 2) pe_int (fun _ _ => rfl)) (pa_cons (pe_ix ix_list (pv 2) pe_int (fun _ _ => rfl)) pa_nil)))))) pss_nil)
      (pss_cons (ps_if (pt_cmpR op_eq (pv 1) (pe_gl (by rfl) T.g_JUDGE) (nomark _)) (pss_one (ps_ret (pe_mt m_judge (pv 0) (hr.mono (by decide)) (pa_cons (pv 2) pa_nil)))) pss_nil)
      (pss_cons (ps_if (pt_cmpR op_eq (pv 1) (pe_gl (by rfl) T.g_LEAST) (nomark _)) (pss_one (ps_ret (pe_mt0 m_take_least (pv 0) (hr.mono (by decide))))) pss_nil)
      (pss_cons (ps_if (pt_cmpR op_eq (pv 1) (pe_gl (by rfl) T.g_RANK) (nomark _)) (pss_one (ps_ret (pe_mt m_take_ranked (pv 0) (hr.mono (by decide)) (pa_cons (pe_ix ix_list (pv 2) pe_int (fun _ _ => rfl)) pa_nil)))) pss_nil)
      (pss_one (ps_ret (pe_mt0 m_count_shapes (pv 0) (hr.mono (by decide))))))))))))))))), ?_⟩), hm, F.kp, hb⟩
  · obtain ⟨_, _, _, _, _, _, _, rfl, _⟩ := h
    rfl
  · obtain ⟨D, aL, aG, pv, st, p, gs, rfl, d, tb, hG, h0, h12, ha, k⟩ := h
    obtain ⟨dx, hD⟩ := d.obj
    have hc : p = 0 ∨ p = 1 ∨ p = 2 ∨ p = 3 ∨ p = 4 ∨ p = 5 ∨ p = 6 ∨ p = 7 ∨ p = 8 ∨ p = 9 ∨ p = 10 ∨ p = 11 ∨ p = 12 := by omega
    rcases hc with rfl | rfl | rfl | rfl | rfl | rfl | rfl | rfl | rfl | rfl | rfl | rfl | rfl
    · obtain rfl := askd_0 ha
      exact ⟨_, rfl, rfl, _, rfl, ite_yes rfl ⟨_, rfl, D, dx, _, rfl, hD, dF_other aL pv (by decide +kernel) (by decide +kernel), D, aL, pv, st, _, _, rfl, d, tb, ⟨rfl, rfl⟩, k⟩⟩
    · obtain ⟨x0, x1, x2, rfl⟩ := askd_1 ha
      exact ⟨_, rfl, rfl, _, rfl, ite_no (int_ne (by decide)) ⟨_, rfl, rfl, _, rfl, ite_yes rfl ⟨_, rfl, D, dx, _, rfl, hD, dF_other aL pv (by decide +kernel) (by decide +kernel), _, rfl, aG, _, _, _, rfl, rfl, hG, rfl, _, rfl, aG, _, _, _, rfl, rfl, hG, rfl, _, rfl, aG, _, _, _, rfl, rfl, hG, rfl, D, aL, pv, st, _, _, rfl, d, tb, ⟨x0, x1, x2, rfl, rfl⟩, k⟩⟩⟩
    · obtain ⟨x0, x1, x2, x3, rfl⟩ := askd_2 ha
      exact ⟨_, rfl, rfl, _, rfl, ite_no (int_ne (by decide)) ⟨_, rfl, rfl, _, rfl, ite_no (int_ne (by decide)) ⟨_, rfl, rfl, _, rfl, ite_yes rfl ⟨_, rfl, D, dx, _, rfl, hD, dF_other aL pv (by decide +kernel) (by decide +kernel), _, rfl, aG, _, _, _, rfl, rfl, hG, rfl, _, rfl, aG, _, _, _, rfl, rfl, hG, rfl, _, rfl, aG, _, _, _, rfl, rfl, hG, rfl, _, rfl, aG, _, _, _, rfl, rfl, hG, rfl, D, aL, pv, st, _, _, rfl, d, tb, ⟨x0, x1, x2, x3, rfl, rfl⟩, k⟩⟩⟩⟩
    · obtain ⟨ks, e1, e2, e3⟩ := askd_3 ha
      have hG : SqL K H aG (natV ks) := by
        rw [e1, intV, List.map_map] at hG
        exact hG
      have k : Told CD Pt D aL pv H (Lr72.act st (.shape ks)).1 (Lr72.act st (.shape ks)).2 Q := by
        rw [← e2]
        exact k
      exact ⟨_, rfl, rfl, _, rfl, ite_no (int_ne (by decide)) ⟨_, rfl, rfl, _, rfl, ite_no (int_ne (by decide)) ⟨_, rfl, rfl, _, rfl, ite_no (int_ne (by decide)) ⟨_, rfl, rfl, _, rfl, ite_yes rfl ⟨_, rfl, D, dx, _, rfl, hD, dF_other aL pv (by decide +kernel) (by decide +kernel), _, rfl, D, aL, pv, st, .shape ks, _, rfl, d, tb, ⟨aG, ks, rfl, hG, e3, rfl⟩, k⟩⟩⟩⟩⟩
    · obtain rfl := askd_4 ha
      exact ⟨_, rfl, rfl, _, rfl, ite_no (int_ne (by decide)) ⟨_, rfl, rfl, _, rfl, ite_no (int_ne (by decide)) ⟨_, rfl, rfl, _, rfl, ite_no (int_ne (by decide)) ⟨_, rfl, rfl, _, rfl, ite_no (int_ne (by decide)) ⟨_, rfl, rfl, _, rfl, ite_yes rfl ⟨_, rfl, D, dx, _, rfl, hD, dF_other aL pv (by decide +kernel) (by decide +kernel), D, aL, pv, st, _, _, rfl, d, tb, ⟨rfl, rfl⟩, k⟩⟩⟩⟩⟩⟩
    · obtain rfl := askd_5 ha
      exact ⟨_, rfl, rfl, _, rfl, ite_no (int_ne (by decide)) ⟨_, rfl, rfl, _, rfl, ite_no (int_ne (by decide)) ⟨_, rfl, rfl, _, rfl, ite_no (int_ne (by decide)) ⟨_, rfl, rfl, _, rfl, ite_no (int_ne (by decide)) ⟨_, rfl, rfl, _, rfl, ite_no (int_ne (by decide)) ⟨_, rfl, rfl, _, rfl, ite_yes rfl ⟨_, rfl, D, dx, _, rfl, hD, dF_other aL pv (by decide +kernel) (by decide +kernel), D, aL, pv, st, _, _, rfl, d, tb, ⟨rfl, rfl⟩, k⟩⟩⟩⟩⟩⟩⟩
    · obtain ⟨x0, rfl⟩ := askd_6 ha
      exact ⟨_, rfl, rfl, _, rfl, ite_no (int_ne (by decide)) ⟨_, rfl, rfl, _, rfl, ite_no (int_ne (by decide)) ⟨_, rfl, rfl, _, rfl, ite_no (int_ne (by decide)) ⟨_, rfl, rfl, _, rfl, ite_no (int_ne (by decide)) ⟨_, rfl, rfl, _, rfl, ite_no (int_ne (by decide)) ⟨_, rfl, rfl, _, rfl, ite_no (int_ne (by decide)) ⟨_, rfl, rfl, _, rfl, ite_yes rfl ⟨_, rfl, D, dx, _, rfl, hD, dF_other aL pv (by decide +kernel) (by decide +kernel), _, rfl, aG, _, _, _, rfl, rfl, hG, rfl, D, aL, pv, st, _, _, rfl, d, tb, ⟨x0, rfl, rfl⟩, k⟩⟩⟩⟩⟩⟩⟩⟩
    · obtain ⟨x0, x1, rfl⟩ := askd_7 ha
      exact ⟨_, rfl, rfl, _, rfl, ite_no (int_ne (by decide)) ⟨_, rfl, rfl, _, rfl, ite_no (int_ne (by decide)) ⟨_, rfl, rfl, _, rfl, ite_no (int_ne (by decide)) ⟨_, rfl, rfl, _, rfl, ite_no (int_ne (by decide)) ⟨_, rfl, rfl, _, rfl, ite_no (int_ne (by decide)) ⟨_, rfl, rfl, _, rfl, ite_no (int_ne (by decide)) ⟨_, rfl, rfl, _, rfl, ite_no (int_ne (by decide)) ⟨_, rfl, rfl, _, rfl, ite_yes rfl ⟨_, rfl, D, dx, _, rfl, hD, dF_other aL pv (by decide +kernel) (by decide +kernel), _, rfl, aG, _, _, _, rfl, rfl, hG, rfl, _, rfl, aG, _, _, _, rfl, rfl, hG, rfl, D, aL, pv, st, _, _, rfl, d, tb, ⟨x0, x1, rfl, rfl⟩, k⟩⟩⟩⟩⟩⟩⟩⟩⟩
    · obtain ⟨x0, x1, x2, rfl⟩ := askd_8 ha
      exact ⟨_, rfl, rfl, _, rfl, ite_no (int_ne (by decide)) ⟨_, rfl, rfl, _, rfl, ite_no (int_ne (by decide)) ⟨_, rfl, rfl, _, rfl, ite_no (int_ne (by decide)) ⟨_, rfl, rfl, _, rfl, ite_no (int_ne (by decide)) ⟨_, rfl, rfl, _, rfl, ite_no (int_ne (by decide)) ⟨_, rfl, rfl, _, rfl, ite_no (int_ne (by decide)) ⟨_, rfl, rfl, _, rfl, ite_no (int_ne (by decide)) ⟨_, rfl, rfl, _, rfl, ite_no (int_ne (by decide)) ⟨_, rfl, rfl, _, rfl, ite_yes rfl ⟨_, rfl, D, dx, _, rfl, hD, dF_other aL pv (by decide +kernel) (by decide +kernel), _, rfl, aG, _, _, _, rfl, rfl, hG, rfl, _, rfl, aG, _, _, _, rfl, rfl, hG, rfl, _, rfl, aG, _, _, _, rfl, rfl, hG, rfl, D, aL, pv, st, _, _, rfl, d, tb, ⟨x0, x1, x2, rfl, rfl⟩, k⟩⟩⟩⟩⟩⟩⟩⟩⟩⟩
    · exact ⟨_, rfl, rfl, _, rfl, ite_no (int_ne (by decide)) ⟨_, rfl, rfl, _, rfl, ite_no (int_ne (by decide)) ⟨_, rfl, rfl, _, rfl, ite_no (int_ne (by decide)) ⟨_, rfl, rfl, _, rfl, ite_no (int_ne (by decide)) ⟨_, rfl, rfl, _, rfl, ite_no (int_ne (by decide)) ⟨_, rfl, rfl, _, rfl, ite_no (int_ne (by decide)) ⟨_, rfl, rfl, _, rfl, ite_no (int_ne (by decide)) ⟨_, rfl, rfl, _, rfl, ite_no (int_ne (by decide)) ⟨_, rfl, rfl, _, rfl, ite_no (int_ne (by decide)) ⟨_, rfl, rfl, _, rfl, ite_yes rfl ⟨_, rfl, D, dx, _, rfl, hD, dF_other aL pv (by decide +kernel) (by decide +kernel), _, rfl, D, aL, pv, st, .judge gs, _, rfl, d, tb, ⟨aG, gs, rfl, hG, rfl⟩, k⟩⟩⟩⟩⟩⟩⟩⟩⟩⟩⟩
    · obtain rfl := askd_10 ha
      exact ⟨_, rfl, rfl, _, rfl, ite_no (int_ne (by decide)) ⟨_, rfl, rfl, _, rfl, ite_no (int_ne (by decide)) ⟨_, rfl, rfl, _, rfl, ite_no (int_ne (by decide)) ⟨_, rfl, rfl, _, rfl, ite_no (int_ne (by decide)) ⟨_, rfl, rfl, _, rfl, ite_no (int_ne (by decide)) ⟨_, rfl, rfl, _, rfl, ite_no (int_ne (by decide)) ⟨_, rfl, rfl, _, rfl, ite_no (int_ne (by decide)) ⟨_, rfl, rfl, _, rfl, ite_no (int_ne (by decide)) ⟨_, rfl, rfl, _, rfl, ite_no (int_ne (by decide)) ⟨_, rfl, rfl, _, rfl, ite_no (int_ne (by decide)) ⟨_, rfl, rfl, _, rfl, ite_yes rfl ⟨_, rfl, D, dx, _, rfl, hD, dF_other aL pv (by decide +kernel) (by decide +kernel), D, aL, pv, st, _, _, rfl, d, tb, ⟨rfl, rfl⟩, k⟩⟩⟩⟩⟩⟩⟩⟩⟩⟩⟩⟩
    · obtain ⟨x0, rfl⟩ := askd_11 ha
      exact ⟨_, rfl, rfl, _, rfl, ite_no (int_ne (by decide)) ⟨_, rfl, rfl, _, rfl, ite_no (int_ne (by decide)) ⟨_, rfl, rfl, _, rfl, ite_no (int_ne (by decide)) ⟨_, rfl, rfl, _, rfl, ite_no (int_ne (by decide)) ⟨_, rfl, rfl, _, rfl, ite_no (int_ne (by decide)) ⟨_, rfl, rfl, _, rfl, ite_no (int_ne (by decide)) ⟨_, rfl, rfl, _, rfl, ite_no (int_ne (by decide)) ⟨_, rfl, rfl, _, rfl, ite_no (int_ne (by decide)) ⟨_, rfl, rfl, _, rfl, ite_no (int_ne (by decide)) ⟨_, rfl, rfl, _, rfl, ite_no (int_ne (by decide)) ⟨_, rfl, rfl, _, rfl, ite_no (int_ne (by decide)) ⟨_, rfl, rfl, _, rfl, ite_yes rfl ⟨_, rfl, D, dx, _, rfl, hD, dF_other aL pv (by decide +kernel) (by decide +kernel), _, rfl, aG, _, _, _, rfl, rfl, hG, rfl, D, aL, pv, st, _, _, rfl, d, tb, ⟨x0, rfl, rfl⟩, k⟩⟩⟩⟩⟩⟩⟩⟩⟩⟩⟩⟩⟩
    · obtain rfl := askd_12 ha
      exact ⟨_, rfl, rfl, _, rfl, ite_no (int_ne (by decide)) ⟨_, rfl, rfl, _, rfl, ite_no (int_ne (by decide)) ⟨_, rfl, rfl, _, rfl, ite_no (int_ne (by decide)) ⟨_, rfl, rfl, _, rfl, ite_no (int_ne (by decide)) ⟨_, rfl, rfl, _, rfl, ite_no (int_ne (by decide)) ⟨_, rfl, rfl, _, rfl, ite_no (int_ne (by decide)) ⟨_, rfl, rfl, _, rfl, ite_no (int_ne (by decide)) ⟨_, rfl, rfl, _, rfl, ite_no (int_ne (by decide)) ⟨_, rfl, rfl, _, rfl, ite_no (int_ne (by decide)) ⟨_, rfl, rfl, _, rfl, ite_no (int_ne (by decide)) ⟨_, rfl, rfl, _, rfl, ite_no (int_ne (by decide)) ⟨_, rfl, rfl, _, rfl, ite_no (int_ne (by decide)) ⟨_, rfl, D, dx, _, rfl, hD, dF_other aL pv (by decide +kernel) (by decide +kernel), D, aL, pv, st, _, _, rfl, d, tb, ⟨rfl, rfl⟩, k⟩⟩⟩⟩⟩⟩⟩⟩⟩⟩⟩⟩⟩
end
end Sm
/-! The calls, one behind another. -/
namespace Sm
open PySem PySem.Spec PyProof.Rows L2 LamX
theorem dec_step {f : Nat} {p : Int} {r : List Int} {cs : List (List (List Int))} (h : PyFlat.calls PyLr72.shape f (p :: r) = some cs) :
    ∃ f' c t cs', PyFlat.call PyLr72.shape (p :: r) = some (c, t) ∧ PyFlat.calls PyLr72.shape f' t = some cs' ∧ cs = c :: cs' := by
  cases f with
  | zero => cases h
  | succ f =>
    have h : (match PyFlat.call PyLr72.shape (p :: r) with
      | none => none
      | some (c, t) => match PyFlat.calls PyLr72.shape f t with
        | none => none
        | some cs => some (c :: cs)) = some cs := h
    cases e : PyFlat.call PyLr72.shape (p :: r) with
    | none => rw [e] at h; cases h
    | some ct =>
      obtain ⟨c, t⟩ := ct
      rw [e] at h
      have h : (match PyFlat.calls PyLr72.shape f t with
        | none => none
        | some cs => some (c :: cs)) = some cs := h
      cases e2 : PyFlat.calls PyLr72.shape f t with
      | none => rw [e2] at h; cases h
      | some cs' =>
        rw [e2] at h
        cases h
        exact ⟨f, c, t, cs', rfl, e2, rfl⟩
theorem call_at {ns : List Int} {i f : Nat} {cs : List (List (List Int))} (hi : i < ns.length) (h : PyFlat.calls PyLr72.shape f (ns.drop i) = some cs) :
    ∃ (f' : Nat) (p : Int) (hd bd : Nat) (cs' : List (List (List Int))), ns[i]? = some p ∧ 0 ≤ p ∧ p ≤ 12 ∧ ((p = 3 ∨ p = 9) → hd = 2) ∧ (¬ (p = 3 ∨ p = 9) → hd = 1) ∧ ((p = 3 ∨ p = 9) → ns[i + 1]? = some (bd : Int)) ∧ (¬ (p = 3 ∨ p = 9) → bd = hasN p) ∧ 0 < hd ∧ i + hd + bd ≤ ns.length ∧
      cs = form p ((ns.drop (i + hd)).take bd) :: cs' ∧ PyFlat.calls PyLr72.shape f' (ns.drop (i + hd + bd)) = some cs' := by
  have hdr : ns.drop i = ns[i] :: ns.drop (i + 1) := List.drop_eq_getElem_cons hi
  rw [hdr] at h
  obtain ⟨f', c, t, cs', h1, h2, rfl⟩ := dec_step h
  obtain ⟨⟨hp0, hp12⟩, hh⟩ := call_is h1
  rcases hh with ⟨n3, n9, hl, rfl, rfl⟩ | ⟨h39, z, r', er, hz, hl, rfl, rfl⟩
  · have nn : ¬ (ns[i] = 3 ∨ ns[i] = 9) := fun q => q.elim n3 n9
    rw [List.length_drop] at hl
    refine ⟨f', ns[i], 1, hasN ns[i], cs', List.getElem?_eq_getElem hi, hp0, hp12, fun q => absurd q nn, fun _ => rfl, fun q => absurd q nn, fun _ => rfl, by omega, by omega, rfl, ?_⟩
    rw [List.drop_drop] at h2
    exact h2
  · have l1 : i + 1 < ns.length := by
      have := congrArg List.length er
      rw [List.length_drop, List.length_cons] at this
      omega
    have e2 : ns.drop (i + 1) = ns[i + 1] :: ns.drop (i + 1 + 1) := List.drop_eq_getElem_cons l1
    rw [e2] at er
    obtain ⟨e3, e4⟩ := List.cons.inj er
    subst e4
    rw [List.length_drop] at hl
    refine ⟨f', ns[i], 2, z.toNat, cs', List.getElem?_eq_getElem hi, hp0, hp12, fun _ => rfl, fun q => absurd h39 q, fun _ => ?_, fun q => absurd h39 q, by omega, by omega, rfl, ?_⟩
    · rw [List.getElem?_eq_getElem l1, e3, Int.toNat_of_nonneg hz]
    · rw [List.drop_drop] at h2
      exact h2
theorem cut_is {l : List Int} {i j : Nat} (h : i + j ≤ l.length) : cutV (intV l) (some (i : Int)) (some ((i + j : Nat) : Int)) = intV ((l.drop i).take j) := by
  unfold cutV
  rw [HT.sIx_nat, HT.sIx_nat, List.length_map, Nat.min_eq_left h, Nat.min_eq_left (show i ≤ l.length by omega), Nat.add_sub_cancel_left]
  rw [intV, ← List.map_drop, ← List.map_take]
theorem DeskAt.but {CD : Addr} {H H' : Hp} {D aL p : Addr} {pv : V} {st : Stt} {us : List V} (d : DeskAt CD H D aL pv st) (b : But p H H') (hp : H p = some (.lst us)) (n1 : p ≠ aL) (n2 : ∀ a, pv = .ref a → a ≠ p) : DeskAt CD H' D aL pv st := by
  obtain ⟨dx, h⟩ := d.obj
  have et : ∀ a us, H a = some (.tup us) → H' a = some (.tup us) := fun a us z => b _ _ z (ne_of z hp fun q => by cases q)
  exact ⟨⟨dx, b _ _ h (ne_of h hp fun q => by cases q)⟩, ls_keep lf_tup d.lv (fun us z => b _ _ z n1.symm) et, d.few, d.ps.keep (fun a us e z => b _ _ z (n2 a e)) et⟩
theorem tabs_but {T : List (Addr × Str)} {H H' : Hp} {p : Addr} {us : List V} (t : Tabs T H) (b : But p H H') (hp : H p = some (.lst us)) : Tabs T H' := tabs_keep t fun c o e h1 _ => b _ _ e (ne_of e hp (h1 _))
theorem tabs_new {H : Hp} {Pt : Addr} {q : Str} (h : H Pt = some (.tbl #[])) : Tabs [(Pt, q)] H := fun p hp => by
  rw [List.mem_singleton.mp hp]
  exact ⟨#[], h, trivial, fun pos cv hc => by cases hc⟩
theorem noL_ext {H H' : Hp} {a : Addr} (e : ExtN H H') (h : NoL H' a) : NoL H a := fun o z => by
  cases o with
  | tbl ps => exact ⟨ps, rfl⟩
  | _ => exact h _ (e _ _ z fun ps q => by cases q)
abbrev stp := Lr72Neutral.step
abbrev tld (st : Stt) (cs : List (List (List Int))) : List Int := PyFlat.told (PyFlat.played stp st cs)
theorem tld_cons (st : Stt) (c : List (List Int)) (cs : List (List (List Int))) : tld st (c :: cs) = ((stp st c).2.length : Int) :: (stp st c).2 ++ tld (stp st c).1 cs := rfl
abbrev s_answers : Stmt := topS 67
theorem sc_answers : FnScope ["calls", "desk", "told", "at", "first", "behind", "numbers"] ["calls"] (defScope s_answers) := ⟨rfl, rfl, rfl, by decide +kernel, rfl, by decide +kernel, by decide +kernel⟩
section
variable {P : Program} {w : World} {K : PySem.W.Frag} {mg : Str → Option Value} {base : Heap} {CO CD : Addr}
def spAnswers (K : PySem.W.Frag) (Pt : Addr) : Sp := fun vs H Q _ => ∃ (aC : Addr) (ns : List Int) (cs : List (List (List Int))), vs = [.ref aC] ∧ SqL K H aC (intV ns) ∧ H Pt = some (.tbl #[]) ∧ PyFlat.calls PyLr72.shape ns.length ns = some cs ∧ (∀ c ∈ cs, askd c = true) ∧ (tld Lr72.start cs).length ≤ 10000000 ∧
  ∀ H' r, H' r = some (.lst (intV (tld Lr72.start cs))) → Q (.ref r) H'
theorem fn_answers (T : Txt K mg CO CD) (Pt : Addr) {f : Addr} {fd : FuncData} (F : Fun K "answers" "answers" s_answers f fd) (d_Desk_init : Cm P w K mg base 1 "Desk" CD ["self"] (spDInit CD)) (d_head_length : Df P w K mg base 2 "head_length" ["call"] spHead) (d_body_length : Df P w K mg base 2 "body_length" ["calls", "at"] (spBody K))
    (d_answer : Df P w K mg base 18 "answer" ["desk", "call", "given"] (spAnswer K CD Pt)) : FnOk P w K mg base CX0 19 f fd ["calls"] (spAnswers K Pt) := by
  refine F.ok (k := 18) sc_answers (fun vs H Q E h => ?_) (fun cdv A outer s H vs Q E hr h => ⟨_, (pss_cons (ps_set (i := 1) sc_answers.nd rfl (Or.inl rfl) (pe_mkD d_Desk_init (hr.mono (by decide)) (by rfl)))
      (pss_cons (ps_set (i := 2) sc_answers.nd rfl (Or.inl rfl) (pe_lst pa_nil))
      (pss_cons (ps_set (i := 3) sc_answers.nd rfl (Or.inl rfl) pe_int)
      (pss_cons (ps_while PassesOwn.never (pt_cmpR op_lt (pv 3) (pe_callB call_len_seq (by rfl) T.b_len PySem.boot_len (pa_cons (pv 0) pa_nil)) (nomark _)) (pss_cons (ps_set (i := 4) sc_answers.nd rfl (Or.inl rfl) (pe_op op_add (pv 3) (pe_df d_head_length (hr.mono (by decide)) (by rfl) (pa_cons (pe_ix ix_list (pv 0) (pv 3) (fun _ _ => rfl)) pa_nil))))
      (pss_cons (ps_set (i := 5) sc_answers.nd rfl (Or.inl rfl) (pe_op op_add (pv 4) (pe_df d_body_length (hr.mono (by decide)) (by rfl) (pa_cons (pv 0) (pa_cons (pv 3) pa_nil)))))
      (pss_cons (ps_set (i := 6) sc_answers.nd rfl (Or.inl rfl) (pe_df d_answer (hr.mono (by decide)) (by rfl) (pa_cons (pv 1) (pa_cons (pe_ix ix_list (pv 0) (pv 3) (fun _ _ => rfl)) (pa_cons (pe_slice sl_list (pv 0) (po_some (pv 4)) (po_some (pv 5))) pa_nil)))))
      (pss_cons (ps_expr (pe_bm PySem.F.plainAttrs_list PySem.F.slot_list_append PySem.F.type_list_append mt_append (pv 2) (pa_cons (pe_callB call_len_seq (by rfl) T.b_len PySem.boot_len (pa_cons (pv 6) pa_nil)) pa_nil)))
      (pss_cons (ps_expr (pe_bm PySem.F.plainAttrs_list PySem.F.slot_list_extend PySem.F.type_list_extend mt_extend (pv 2) (pa_cons (pv 6) pa_nil)))
      (pss_one (ps_set (i := 3) sc_answers.nd rfl (Or.inl rfl) (pv 5)))))))))
      (pss_one (ps_ret (pv 2))))))), ?_⟩)
  · obtain ⟨_, _, _, rfl, _⟩ := h
    rfl
  · obtain ⟨aC, ns, cs0, rfl, hC, hPt, hcs, hask, hlen, kk⟩ := h
    intro D dx nD ndx ne
    refine ⟨D, dx, rfl, upd_same, fun H1 aL0 hl hD1 hL1 hk => ⟨rfl, ?_⟩⟩
    have s1 : Same H H1 := Same.made nD ndx hk
    have hl0 : H aL0 = none := Same.free ((same_upd ndx).trans (same_upd (by rw [upd_ne ne.symm]; exact nD))) hl
    refine ⟨(by show 0 ≤ sizeLine; decide), fun p hp => ?_⟩
    have s2 : Same H1 (upd H1 p (.lst [])) := same_upd hp
    have g2 : upd H1 p (.lst []) p = some (.lst (intV [])) := upd_same
    generalize upd H1 p (.lst []) = H2 at s2 g2
    have s12 := s1.trans s2
    have hpn : H p = none := s1.free hp
    have sl : sizeLine = 16777216 := by decide
    refine while_by (fun σ H' => ∃ (i : Nat) (x y z : Option V) (f : Nat) (cs : List (List (List Int))) (st : Stt) (tl : List Int) (aL : Addr) (pv : V), σ = [some (.ref aC), some (.ref D), some (.ref p), some (.int (i : Int)), x, y, z] ∧ i ≤ ns.length ∧ PyFlat.calls PyLr72.shape f (ns.drop i) = some cs ∧ (∀ c ∈ cs, askd c = true) ∧
      DeskAt CD H' D aL pv st ∧ Tabs [(Pt, qLam)] H' ∧ ExtN H H' ∧ H' p = some (.lst (intV tl)) ∧ tl ++ tld st cs = tld Lr72.start cs0 ∧ p ≠ aL ∧ (∀ a, pv = .ref a → a ≠ p) ∧ NoL H aL) (fun (σ : L2.St) (_ : Hp) => match σ[3]? with
        | some (some (V.int i)) => ns.length - i.toNat
        | _ => 0) ?_ ?_ ?_
    · refine ⟨0, none, none, none, ns.length, cs0, Lr72.start, [], aL0, .non, rfl, Nat.zero_le _, hcs, hask, ⟨⟨dx, s2 _ _ hD1⟩, ⟨[], s2 _ _ hL1, Rel2.nil⟩, by show 0 ≤ 8; omega, rfl⟩, tabs_new (s12 _ _ hPt), ExtN.of s12, g2, rfl, (ne_of_none hL1 hp).symm, (fun a z => by cases z), noL_none hl0⟩
    · rintro σ H' ⟨i, x, y, z, f', cs, st, tl, aL, pv, rfl, hi, hcs', hask', d, tb, eN, gp, htl, npL, npP, nL⟩
      have hC' : SqL K H' aC (intV ns) := by
        rcases hC with (h | ⟨o, h⟩) | h
        · exact .inl (.inl (eN _ _ h fun ps z => by cases z))
        · exact .inl (.inr ⟨o, eN _ _ h fun ps z => by cases z⟩)
        · exact .inr h
      refine ⟨_, rfl, _, rfl, aC, _, rfl, .inl hC', _, _, rfl, rfl, _, rfl, ite_b (fun c => ?_) (fun c => ?_)⟩
      · have c := of_decide_eq_true c
        have hi' : i < ns.length := by
          rw [List.length_map] at c
          omega
        obtain ⟨f2, q, hd, bd, cs', e1, e2, e3, e4, e5, e6, e7, e8, e9, rfl, e10⟩ := call_at hi' hcs'
        refine ⟨_, rfl, _, rfl, _, rfl, aC, _, _, _, rfl, rfl, hC', atI_nat (intV_at e1), q, hd, rfl, e4, e5, _, _, rfl, rfl, ?_⟩
        refine ⟨_, rfl, _, rfl, _, rfl, aC, i, bd, ns, q, rfl, hC', e1, e2, e3, e6, e7, _, _, rfl, rfl, ?_⟩
        refine ⟨_, rfl, _, rfl, _, rfl, aC, _, _, _, rfl, rfl, hC', atI_nat (intV_at e1), _, rfl, _, rfl, _, rfl, _, rfl, _, rfl, aC, _, rfl, hC', fun a1 h1 => ?_⟩
        have ecut : cutV (intV ns) (some ((i : Int) + (hd : Nat))) (some ((i : Int) + (hd : Nat) + (bd : Nat))) = intV ((ns.drop (i + hd)).take bd) := by
          have z := cut_is (l := ns) (i := i + hd) (j := bd) e9
          rw [show ((i + hd : Nat) : Int) = (i : Int) + (hd : Nat) by omega, show ((i + hd + bd : Nat) : Int) = (i : Int) + (hd : Nat) + (bd : Nat) by omega] at z
          exact z
        obtain ⟨gs, hgs⟩ : ∃ gs, gs = (ns.drop (i + hd)).take bd := ⟨_, rfl⟩
        rw [← hgs] at ecut hask' htl
        have s3 : Same H' (upd H' a1 (.lst (cutV (intV ns) (some ((i : Int) + (hd : Nat))) (some ((i : Int) + (hd : Nat) + (bd : Nat)))))) := same_upd h1
        have g3 : upd H' a1 (.lst (cutV (intV ns) (some ((i : Int) + (hd : Nat))) (some ((i : Int) + (hd : Nat) + (bd : Nat))))) a1 = some (.lst (intV gs)) := by rw [upd_same, ecut]
        refine ⟨D, aL, a1, pv, st, q, gs, rfl, d.same s3, tabs_same tb s3, SqL.of g3, e2, e3, hask' _ (List.mem_cons_self ..), fun H4 aL4 pv4 r d4 c1 c2 kp tb4 hr4 nr => ?_⟩
        have gp3 := s3 _ _ gp
        have eN3 : ExtN H (upd H' a1 (.lst (cutV (intV ns) (some ((i : Int) + (hd : Nat))) (some ((i : Int) + (hd : Nat) + (bd : Nat)))))) := eN.trans (ExtN.of s3)
        generalize upd H' a1 (.lst (cutV (intV ns) (some ((i : Int) + (hd : Nat))) (some ((i : Int) + (hd : Nat) + (bd : Nat))))) = H3 at s3 g3 gp3 eN3 c1 c2 kp nr
        have fr : ∀ b, NoL H3 b → p ≠ b := fun b hb z => by
          rw [← z] at hb
          obtain ⟨ps, y⟩ := hb _ gp3
          cases y
        have npr : r ≠ p := (fr r nr).symm
        obtain ⟨dx', hD'⟩ := d.obj
        have npD : p ≠ D := ne_of gp hD' fun z => by cases z
        have gp4 : H4 p = some (.lst (intV tl)) := kp _ _ gp3 (fun ps z => by cases z) npD npL
        have npL4 : p ≠ aL4 := by
          rcases c1 with z | z
          · rw [z]; exact npL
          · exact fr _ z
        have npP4 : ∀ a, pv4 = .ref a → a ≠ p := fun a ha => by
          rcases c2 with z | z
          · exact npP a (z ▸ ha)
          · exact (fr _ (z a ha)).symm
        have nL4 : NoL H aL4 := by
          rcases c1 with z | z
          · rw [z]; exact nL
          · exact noL_ext eN3 z
        have eN4 : ExtN H H4 := fun b o e n => kp b o (eN3 b o e n) n (ne_of_none e nD) fun z => by
          rw [z] at e
          obtain ⟨ps, y⟩ := nL _ e
          exact n ps y
        obtain ⟨ans, hans⟩ : ∃ ans, ans = (stp st (form q gs)).2 := ⟨_, rfl⟩
        rw [← hans] at hr4
        rw [tld_cons, ← hans] at htl
        have hlt : tl.length + 1 + ans.length ≤ 10000000 := by
          have := congrArg List.length htl
          rw [List.length_append, List.length_append, List.length_cons] at this
          omega
        refine ⟨_, rfl, .inl ⟨rfl, _, SqL.of gp4⟩, _, rfl, r, _, rfl, .inl (SqL.of hr4), p, _, _, rfl, rfl, gp4, by rw [List.length_map]; omega, ?_⟩
        have b5 : But p H4 (upd H4 p (.lst (intV tl ++ [.int ((intV ans).length : Nat)]))) := But.upd
        have g5 : upd H4 p (.lst (intV tl ++ [.int ((intV ans).length : Nat)])) p = some (.lst (intV tl ++ [.int ((intV ans).length : Nat)])) := upd_same
        have r5 := b5 _ _ hr4 npr
        generalize upd H4 p (.lst (intV tl ++ [.int ((intV ans).length : Nat)])) = H5 at b5 g5 r5
        refine ⟨_, rfl, .inl ⟨rfl, _, SqL.of g5⟩, _, rfl, p, r, _, _, rfl, rfl, g5, r5, by rw [List.length_append, List.length_map, List.length_map, List.length_singleton]; omega, ?_⟩
        have b6 : But p H4 (upd H5 p (.lst (intV tl ++ [.int ((intV ans).length : Nat)] ++ intV ans))) := b5.trans But.upd
        have g6 : upd H5 p (.lst (intV tl ++ [.int ((intV ans).length : Nat)] ++ intV ans)) p = some (.lst (intV (tl ++ ((ans.length : Int) :: ans)))) := by
          rw [upd_same, List.length_map]
          show _ = some (HO.lst ((tl ++ ((ans.length : Int) :: ans)).map V.int))
          rw [List.map_append, List.append_assoc]
          rfl
        generalize upd H5 p (.lst (intV tl ++ [.int ((intV ans).length : Nat)] ++ intV ans)) = H6 at b6 g6
        refine ⟨_, rfl, ⟨i + hd + bd, some (.int ((i : Int) + (hd : Nat))), some (.int ((i : Int) + (hd : Nat) + (bd : Nat))), some (.ref r), f2, cs', (stp st (form q gs)).1, tl ++ ((ans.length : Int) :: ans), aL4, pv4, ?_, e9, e10, fun c hc => hask' c (List.mem_cons_of_mem _ hc), d4.but b6 gp4 npL4 npP4, tabs_but tb4 b6 gp4, fun b o e n => b6 _ _ (eN4 b o e n) (ne_of_none e hpn), g6, ?_, npL4, npP4, nL4⟩, ?_⟩
        · rw [show ((i + hd + bd : Nat) : Int) = (i : Int) + (hd : Nat) + (bd : Nat) by omega]
          rfl
        · rw [List.append_assoc]
          exact htl
        · show ns.length - ((i : Int) + (hd : Nat) + (bd : Nat)).toNat < ns.length - ((i : Int)).toNat
          omega
      · have c := of_decide_eq_false c
        have ei : i = ns.length := by
          rw [List.length_map] at c
          omega
        rw [ei, List.drop_length] at hcs'
        have ecs : cs = [] := by
          cases f' with
          | zero => exact (Option.some.inj hcs').symm
          | succ f' => exact (Option.some.inj hcs').symm
        rw [ecs] at htl
        have htl : tl ++ [] = tld Lr72.start cs0 := htl
        rw [List.append_nil] at htl
        rw [htl] at gp
        exact ⟨_, rfl, kk H' p gp⟩
    · rintro σ H Q Q' hq ⟨v1, e1, v2, e2, a, ys, e3, e4, i, j, e5, e6, b, e7, q⟩
      exact ⟨v1, e1, v2, e2, a, ys, e3, e4, i, j, e5, e6, b, e7, hq _ _ q⟩
end
end Sm
/-! What the top has written. -/
namespace Sm
open PySem PySem.Spec PyProof.Rows L2 LamX
section
variable {K : PySem.W.Frag} {h : Heap} {mg : Str → Option Value} {x m qual : Str} {st : Stmt} {ps : List Str} {f C c : Addr} {oc : Value} {od an : Option Addr} {osl : Array (Option Value)} {kV doc pm cdv ct : Value}
abbrev Bd (x qual : Str) (st : Stmt) (ps : List Str) : Prop := ∀ (kV doc pm : Value) (an : Option Addr) (cdv ct : Value) (us : List Value), us.length = ps.length → bindArgs (PySem.W.fnOf x qual (defArgs st) (defBody st) (defScope st) .none kV doc pm an cdv ct) ⟨us, []⟩ = pure (ps.zip us)
theorem src_mk (X : K.In h) (G : h.Ns mainGlobals mg) (hb : Bd x x st ps) (a : PySem.W.nsIn K mainGlobals x = some (some (.ref f))) (l : K.lookup f = some ⟨oc, od, .func (PySem.W.fnOf x x (defArgs st) (defBody st) (defScope st) .none kV doc pm an cdv ct), osl⟩) (e : PySem.W.codeIn K cdv x = true) (k : PySem.W.keepIn K (.ref f) = true) : Src K mg x st ps :=
  ⟨f, _, fun_mk l e k, PySem.W.mg_of X G a, (fun_mk l e k).binds hb⟩
theorem srcM_mk (hc : Cls K C) (hb : Bd m qual st ps) (a : PySem.W.findIn K (.ref C) m = some (some (.ref f))) (i : PySem.W.isFn K (.ref f) = true) (l : K.lookup f = some ⟨oc, od, .func (PySem.W.fnOf m qual (defArgs st) (defBody st) (defScope st) .none kV doc pm an cdv ct), osl⟩) (e : PySem.W.codeIn K cdv qual = true) (k : PySem.W.keepIn K (.ref f) = true) : SrcM K C m qual st ps :=
  ⟨f, _, fun_mk l e k, hc, ⟨a, i, k⟩, (fun_mk l e k).binds hb⟩
theorem srcC_mk (X : K.In h) (G : h.Ns mainGlobals mg) (hb : Bd "__init__" qual st ps) (n : PySem.W.nsIn K mainGlobals x = some (some (.ref C))) (mk : PySem.W.makesIn K C = true) (kc : PySem.W.keepIn K (.ref C) = true) (a : PySem.W.findIn K (.ref C) "__init__" = some (some (.ref f))) (i : PySem.W.isFn K (.ref f) = true) (l : K.lookup f = some ⟨oc, od, .func (PySem.W.fnOf "__init__" qual (defArgs st) (defBody st) (defScope st) .none kV doc pm an cdv ct), osl⟩) (e : PySem.W.codeIn K cdv qual = true) (k : PySem.W.keepIn K (.ref f) = true) : SrcC K mg x C qual st ps :=
  ⟨f, _, fun_mk l e k, ⟨mk, a, i, kc⟩, PySem.W.mg_of X G n, (fun_mk l e k).binds hb⟩
theorem srcT_mk (X : K.In h) (G : h.Ns mainGlobals mg) (hb : Bd "least_shape" "least_shape" s_least_shape ["leaves"]) (a : PySem.W.nsIn K mainGlobals "least_shape" = some (some (.ref f))) (l : K.lookup f = some ⟨oc, od, .func (PySem.W.fnOf "least_shape" "least_shape" (defArgs s_least_shape) (defBody s_least_shape) (defScope s_least_shape) .none kV doc pm an (.ref c) ct), osl⟩) (e : PySem.W.codeIn K (.ref c) "least_shape" = true) (k : PySem.W.keepIn K (.ref f) = true) : SrcT K mg c :=
  ⟨f, oc, od, an, kV, doc, pm, ct, osl, l, e, PySem.W.mg_of X G a, k, (fun_mk (st := s_least_shape) l e k).binds hb⟩
theorem tab_is {P : Addr} {fd : FuncData} {oc2 : Value} {od2 : Option Addr} {vs : Array Value} {sl2 : Array (Option Value)} (a : PySem.W.nsIn K mainGlobals x = some (some (.ref f))) (l : K.lookup f = some ⟨oc, od, .func fd, osl⟩) (hc : fd.code = .ref c) (lc : K.lookup c = some ⟨oc2, od2, .fields vs, sl2⟩) (hv : vs[11]? = some (.ref P)) : PySem.W.tabIn K x = some (c, P) := by
  unfold PySem.W.tabIn
  rw [a]
  dsimp only
  rw [l]
  dsimp only
  rw [hc]
  dsimp only
  rw [lc]
  dsimp only
  rw [hv]
theorem no_tab {P : Addr} (X : K.In h) (hK : PySem.W.noTabs K = true) (e : h.get? P = some (PySem.W.tabObj #[])) : K.lookup P = none := by
  cases q : K.lookup P with
  | none => rfl
  | some o =>
    have e2 := X _ _ q
    rw [e] at e2
    cases e2
    have h2 := List.all_eq_true.mp hK _ (PySem.W.mem_of_lookupK q)
    exact absurd (show false = true from h2) Bool.false_ne_true
theorem int_top {i : Int} {t : Tok} (X : K.In h) (G : h.Ns mainGlobals mg) (a : PySem.W.nsIn K mainGlobals x = some (some (.int i t))) : ∃ t, mg x = some (.int i t) := ⟨t, PySem.W.mg_of X G a⟩
theorem counts_mk {a : Addr} {dd : Option Addr} {n : Nat} {sl : Array (Option Value)} {t0 t1 t2 t3 t4 t5 t6 t7 t8 t9 t10 t11 t12 : Tok} (X : K.In h) (G : h.Ns mainGlobals mg) (e : PySem.W.nsIn K mainGlobals "COUNTS" = some (some (.ref a)))
    (l : K.lookup a = some ⟨.type "tuple", dd, .seq #[.int 0 t0, .int 3 t1, .int 4 t2, .int 0 t3, .int 0 t4, .int 0 t5, .int 1 t6, .int 2 t7, .int 3 t8, .int 0 t9, .int 0 t10, .int 1 t11, .int 0 t12] n, sl⟩) :
    ∃ a, mg "COUNTS" = some (.ref a) ∧ ∀ H, SqT K H a (([0, 3, 4, 0, 0, 0, 1, 2, 3, 0, 0, 1, 0] : List Int).map V.int) :=
  ⟨a, PySem.W.mg_of X G e, fun H => .inr ⟨_, _, n, l, rfl, rfl, (by show 13 ≤ sizeLine; decide), .cons ⟨_, rfl⟩ (.cons ⟨_, rfl⟩ (.cons ⟨_, rfl⟩ (.cons ⟨_, rfl⟩ (.cons ⟨_, rfl⟩ (.cons ⟨_, rfl⟩ (.cons ⟨_, rfl⟩ (.cons ⟨_, rfl⟩ (.cons ⟨_, rfl⟩ (.cons ⟨_, rfl⟩ (.cons ⟨_, rfl⟩ (.cons ⟨_, rfl⟩ (.cons ⟨_, rfl⟩ .nil))))))))))))⟩⟩
end
theorem bd_is_shape : Bd "is_shape" "is_shape" s_is_shape ["n", "numbers"] := fun _ _ _ _ _ _ us hl => match us, hl with | [_, _], _ => rfl
theorem bd_shape_of_pairs : Bd "shape_of_pairs" "shape_of_pairs" s_shape_of_pairs ["n", "numbers"] := fun _ _ _ _ _ _ us hl => match us, hl with | [_, _], _ => rfl
theorem bd_gather : Bd "gather" "gather" s_gather ["n", "shape", "pairs"] := fun _ _ _ _ _ _ us hl => match us, hl with | [_, _, _], _ => rfl
theorem bd_ordered_pairs : Bd "ordered_pairs" "ordered_pairs" s_ordered_pairs ["n", "shape"] := fun _ _ _ _ _ _ us hl => match us, hl with | [_, _], _ => rfl
theorem bd_splits : Bd "splits" "splits" s_splits ["members"] := fun _ _ _ _ _ _ us hl => match us, hl with | [_], _ => rfl
theorem bd_shapes_over : Bd "shapes_over" "shapes_over" s_shapes_over ["members", "known"] := fun _ _ _ _ _ _ us hl => match us, hl with | [_, _], _ => rfl
theorem bd_all_shapes : Bd "all_shapes" "all_shapes" s_all_shapes ["n"] := fun _ _ _ _ _ _ us hl => match us, hl with | [_], _ => rfl
theorem bd_shape_count : Bd "shape_count" "shape_count" s_shape_count ["n"] := fun _ _ _ _ _ _ us hl => match us, hl with | [_], _ => rfl
theorem bd_in_parts : Bd "in_parts" "in_parts" s_in_parts ["s", "t"] := fun _ _ _ _ _ _ us hl => match us, hl with | [_, _], _ => rfl
theorem bd_apart : Bd "apart" "apart" s_apart ["one", "other"] := fun _ _ _ _ _ _ us hl => match us, hl with | [_, _], _ => rfl
theorem bd_nearest : Bd "nearest" "nearest" s_nearest ["area", "place"] := fun _ _ _ _ _ _ us hl => match us, hl with | [_, _], _ => rfl
theorem bd_leaf_outcome : Bd "leaf_outcome" "leaf_outcome" s_leaf_outcome ["leaf"] := fun _ _ _ _ _ _ us hl => match us, hl with | [_], _ => rfl
theorem bd_gap : Bd "gap" "gap" s_gap ["low", "high", "other_low", "other_high"] := fun _ _ _ _ _ _ us hl => match us, hl with | [_, _, _, _], _ => rfl
theorem bd_distance : Bd "distance" "distance" s_distance ["one", "other"] := fun _ _ _ _ _ _ us hl => match us, hl with | [_, _], _ => rfl
theorem bd_widened : Bd "widened" "widened" s_widened ["area", "length"] := fun _ _ _ _ _ _ us hl => match us, hl with | [_, _], _ => rfl
theorem bd_overlap : Bd "overlap" "overlap" s_overlap ["one", "other"] := fun _ _ _ _ _ _ us hl => match us, hl with | [_, _], _ => rfl
theorem bd_joint_outcome : Bd "joint_outcome" "joint_outcome" s_joint_outcome ["first", "second"] := fun _ _ _ _ _ _ us hl => match us, hl with | [_, _], _ => rfl
theorem bd_outcomes : Bd "outcomes" "outcomes" s_outcomes ["leaves", "pairs"] := fun _ _ _ _ _ _ us hl => match us, hl with | [_, _], _ => rfl
theorem bd_shape_outcome : Bd "shape_outcome" "shape_outcome" s_shape_outcome ["shape", "known"] := fun _ _ _ _ _ _ us hl => match us, hl with | [_, _], _ => rfl
theorem bd_cost : Bd "cost" "cost" s_cost ["shape", "known"] := fun _ _ _ _ _ _ us hl => match us, hl with | [_, _], _ => rfl
theorem bd_least_shape : Bd "least_shape" "least_shape" s_least_shape ["leaves"] := fun _ _ _ _ _ _ us hl => match us, hl with | [_], _ => rfl
theorem bd_told_places : Bd "told_places" "told_places" s_told_places ["leaves", "numbers"] := fun _ _ _ _ _ _ us hl => match us, hl with | [_, _], _ => rfl
theorem bd_told_lengths : Bd "told_lengths" "told_lengths" s_told_lengths ["n", "pairs", "numbers"] := fun _ _ _ _ _ _ us hl => match us, hl with | [_, _, _], _ => rfl
theorem bd_are_long_enough : Bd "are_long_enough" "are_long_enough" s_are_long_enough ["places", "above", "lengths"] := fun _ _ _ _ _ _ us hl => match us, hl with | [_, _, _], _ => rfl
theorem bd_leaf_moments : Bd "leaf_moments" "leaf_moments" s_leaf_moments ["leaves", "above", "lengths"] := fun _ _ _ _ _ _ us hl => match us, hl with | [_, _, _], _ => rfl
theorem bd_joints_above : Bd "joints_above" "joints_above" s_joints_above ["n", "pairs"] := fun _ _ _ _ _ _ us hl => match us, hl with | [_, _], _ => rfl
theorem bd_laid_places : Bd "laid_places" "laid_places" s_laid_places ["found", "above", "place"] := fun _ _ _ _ _ _ us hl => match us, hl with | [_, _, _], _ => rfl
theorem bd_is_place : Bd "is_place" "is_place" s_is_place ["s", "t"] := fun _ _ _ _ _ _ us hl => match us, hl with | [_, _], _ => rfl
theorem bd_is_leaf : Bd "is_leaf" "is_leaf" s_is_leaf ["s", "t", "late"] := fun _ _ _ _ _ _ us hl => match us, hl with | [_, _, _], _ => rfl
theorem bd_has_row : Bd "has_row" "has_row" s_has_row ["call"] := fun _ _ _ _ _ _ us hl => match us, hl with | [_], _ => rfl
theorem bd_head_length : Bd "head_length" "head_length" s_head_length ["call"] := fun _ _ _ _ _ _ us hl => match us, hl with | [_], _ => rfl
theorem bd_body_length : Bd "body_length" "body_length" s_body_length ["calls", "at"] := fun _ _ _ _ _ _ us hl => match us, hl with | [_, _], _ => rfl
theorem bd_answer : Bd "answer" "answer" s_answer ["desk", "call", "given"] := fun _ _ _ _ _ _ us hl => match us, hl with | [_, _, _], _ => rfl
theorem bd_answers : Bd "answers" "answers" s_answers ["calls"] := fun _ _ _ _ _ _ us hl => match us, hl with | [_], _ => rfl
theorem bd_Desk_start_anew : Bd "start_anew" "Desk.start_anew" s_Desk_start_anew ["self"] := fun _ _ _ _ _ _ us hl => match us, hl with | [_], _ => rfl
theorem bd_Desk_add_leaf : Bd "add_leaf" "Desk.add_leaf" s_Desk_add_leaf ["self", "s", "t", "late"] := fun _ _ _ _ _ _ us hl => match us, hl with | [_, _, _, _], _ => rfl
theorem bd_Desk_move_leaf : Bd "move_leaf" "Desk.move_leaf" s_Desk_move_leaf ["self", "k", "s", "t", "late"] := fun _ _ _ _ _ _ us hl => match us, hl with | [_, _, _, _, _], _ => rfl
theorem bd_Desk_take_shape : Bd "take_shape" "Desk.take_shape" s_Desk_take_shape ["self", "numbers"] := fun _ _ _ _ _ _ us hl => match us, hl with | [_, _], _ => rfl
theorem bd_Desk_keep_shape : Bd "keep_shape" "Desk.keep_shape" s_Desk_keep_shape ["self", "shape"] := fun _ _ _ _ _ _ us hl => match us, hl with | [_, _], _ => rfl
theorem bd_Desk_tell_shape : Bd "tell_shape" "Desk.tell_shape" s_Desk_tell_shape ["self"] := fun _ _ _ _ _ _ us hl => match us, hl with | [_], _ => rfl
theorem bd_Desk_tell_wire : Bd "tell_wire" "Desk.tell_wire" s_Desk_tell_wire ["self"] := fun _ _ _ _ _ _ us hl => match us, hl with | [_], _ => rfl
theorem bd_Desk_tell_joint : Bd "tell_joint" "Desk.tell_joint" s_Desk_tell_joint ["self", "k"] := fun _ _ _ _ _ _ us hl => match us, hl with | [_, _], _ => rfl
theorem bd_Desk_lay_out : Bd "lay_out" "Desk.lay_out" s_Desk_lay_out ["self", "s", "t"] := fun _ _ _ _ _ _ us hl => match us, hl with | [_, _, _], _ => rfl
theorem bd_Desk_tell_laid : Bd "tell_laid" "Desk.tell_laid" s_Desk_tell_laid ["self", "s", "t", "k"] := fun _ _ _ _ _ _ us hl => match us, hl with | [_, _, _, _], _ => rfl
theorem bd_Desk_judge : Bd "judge" "Desk.judge" s_Desk_judge ["self", "numbers"] := fun _ _ _ _ _ _ us hl => match us, hl with | [_, _], _ => rfl
theorem bd_Desk_take_least : Bd "take_least" "Desk.take_least" s_Desk_take_least ["self"] := fun _ _ _ _ _ _ us hl => match us, hl with | [_], _ => rfl
theorem bd_Desk_take_ranked : Bd "take_ranked" "Desk.take_ranked" s_Desk_take_ranked ["self", "k"] := fun _ _ _ _ _ _ us hl => match us, hl with | [_, _], _ => rfl
theorem bd_Desk_count_shapes : Bd "count_shapes" "Desk.count_shapes" s_Desk_count_shapes ["self"] := fun _ _ _ _ _ _ us hl => match us, hl with | [_], _ => rfl
theorem bd_Outcome_init : Bd "__init__" "Outcome.__init__" s_Outcome_init ["self", "time", "wire", "area"] := fun _ _ _ _ _ _ us hl => match us, hl with | [_, _, _, _], _ => rfl
theorem bd_Desk_init : Bd "__init__" "Desk.__init__" s_Desk_init ["self"] := fun _ _ _ _ _ _ us hl => match us, hl with | [_], _ => rfl
/-- all defs of the text -/
structure All (K : PySem.W.Frag) (mg : Str → Option Value) (CO CD c : Addr) : Prop where
  T : Txt K mg CO CD
  s_is_shape : Src K mg "is_shape" s_is_shape ["n", "numbers"]
  s_shape_of_pairs : Src K mg "shape_of_pairs" s_shape_of_pairs ["n", "numbers"]
  s_gather : Src K mg "gather" s_gather ["n", "shape", "pairs"]
  s_ordered_pairs : Src K mg "ordered_pairs" s_ordered_pairs ["n", "shape"]
  s_splits : Src K mg "splits" s_splits ["members"]
  s_shapes_over : Src K mg "shapes_over" s_shapes_over ["members", "known"]
  s_all_shapes : Src K mg "all_shapes" s_all_shapes ["n"]
  s_shape_count : Src K mg "shape_count" s_shape_count ["n"]
  s_in_parts : Src K mg "in_parts" s_in_parts ["s", "t"]
  s_apart : Src K mg "apart" s_apart ["one", "other"]
  s_nearest : Src K mg "nearest" s_nearest ["area", "place"]
  s_leaf_outcome : Src K mg "leaf_outcome" s_leaf_outcome ["leaf"]
  s_gap : Src K mg "gap" s_gap ["low", "high", "other_low", "other_high"]
  s_distance : Src K mg "distance" s_distance ["one", "other"]
  s_widened : Src K mg "widened" s_widened ["area", "length"]
  s_overlap : Src K mg "overlap" s_overlap ["one", "other"]
  s_joint_outcome : Src K mg "joint_outcome" s_joint_outcome ["first", "second"]
  s_outcomes : Src K mg "outcomes" s_outcomes ["leaves", "pairs"]
  s_shape_outcome : Src K mg "shape_outcome" s_shape_outcome ["shape", "known"]
  s_cost : Src K mg "cost" s_cost ["shape", "known"]
  s_least_shape : SrcT K mg c
  s_told_places : Src K mg "told_places" s_told_places ["leaves", "numbers"]
  s_told_lengths : Src K mg "told_lengths" s_told_lengths ["n", "pairs", "numbers"]
  s_are_long_enough : Src K mg "are_long_enough" s_are_long_enough ["places", "above", "lengths"]
  s_leaf_moments : Src K mg "leaf_moments" s_leaf_moments ["leaves", "above", "lengths"]
  s_joints_above : Src K mg "joints_above" s_joints_above ["n", "pairs"]
  s_laid_places : Src K mg "laid_places" s_laid_places ["found", "above", "place"]
  s_is_place : Src K mg "is_place" s_is_place ["s", "t"]
  s_is_leaf : Src K mg "is_leaf" s_is_leaf ["s", "t", "late"]
  s_has_row : Src K mg "has_row" s_has_row ["call"]
  s_head_length : Src K mg "head_length" s_head_length ["call"]
  s_body_length : Src K mg "body_length" s_body_length ["calls", "at"]
  s_answer : Src K mg "answer" s_answer ["desk", "call", "given"]
  s_answers : Src K mg "answers" s_answers ["calls"]
  s_start_anew : SrcM K CD "start_anew" "Desk.start_anew" s_Desk_start_anew ["self"]
  s_add_leaf : SrcM K CD "add_leaf" "Desk.add_leaf" s_Desk_add_leaf ["self", "s", "t", "late"]
  s_move_leaf : SrcM K CD "move_leaf" "Desk.move_leaf" s_Desk_move_leaf ["self", "k", "s", "t", "late"]
  s_take_shape : SrcM K CD "take_shape" "Desk.take_shape" s_Desk_take_shape ["self", "numbers"]
  s_keep_shape : SrcM K CD "keep_shape" "Desk.keep_shape" s_Desk_keep_shape ["self", "shape"]
  s_tell_shape : SrcM K CD "tell_shape" "Desk.tell_shape" s_Desk_tell_shape ["self"]
  s_tell_wire : SrcM K CD "tell_wire" "Desk.tell_wire" s_Desk_tell_wire ["self"]
  s_tell_joint : SrcM K CD "tell_joint" "Desk.tell_joint" s_Desk_tell_joint ["self", "k"]
  s_lay_out : SrcM K CD "lay_out" "Desk.lay_out" s_Desk_lay_out ["self", "s", "t"]
  s_tell_laid : SrcM K CD "tell_laid" "Desk.tell_laid" s_Desk_tell_laid ["self", "s", "t", "k"]
  s_judge : SrcM K CD "judge" "Desk.judge" s_Desk_judge ["self", "numbers"]
  s_take_least : SrcM K CD "take_least" "Desk.take_least" s_Desk_take_least ["self"]
  s_take_ranked : SrcM K CD "take_ranked" "Desk.take_ranked" s_Desk_take_ranked ["self", "k"]
  s_count_shapes : SrcM K CD "count_shapes" "Desk.count_shapes" s_Desk_count_shapes ["self"]
  s_Outcome_init : SrcC K mg "Outcome" CO "Outcome.__init__" s_Outcome_init ["self", "time", "wire", "area"]
  s_Desk_init : SrcC K mg "Desk" CD "Desk.__init__" s_Desk_init ["self"]
theorem all_ok {P : Program} {w : World} {K : PySem.W.Frag} {mg : Str → Option Value} {base : Heap} {CO CD c Pt : Addr} (A : All K mg CO CD c) (TB : TabB base mg c Pt) {f : Addr} {fd : FuncData} (F : Fun K "answers" "answers" s_answers f fd) : FnOk P w K mg base CX0 19 f fd ["calls"] (spAnswers K Pt) := by
  have T := A.T
  have d_in_parts := ok_in_parts (P := P) (w := w) (base := base) (T := T) (S := A.s_in_parts)
  have d_apart := ok_apart (P := P) (w := w) (base := base) (T := T) (S := A.s_apart)
  have d_nearest := ok_nearest (P := P) (w := w) (base := base) (T := T) (S := A.s_nearest)
  have d_Outcome_init := ok_Outcome_init (P := P) (w := w) (base := base) (T := T) (S := A.s_Outcome_init)
  have d_leaf_outcome := ok_leaf_outcome (P := P) (w := w) (base := base) (T := T) (S := A.s_leaf_outcome) (d_in_parts := d_in_parts) (d_Outcome_init := d_Outcome_init)
  have d_gap := ok_gap (P := P) (w := w) (base := base) (T := T) (S := A.s_gap)
  have d_distance := ok_distance (P := P) (w := w) (base := base) (T := T) (S := A.s_distance) (d_gap := d_gap)
  have d_widened := ok_widened (P := P) (w := w) (base := base) (T := T) (S := A.s_widened)
  have d_overlap := ok_overlap (P := P) (w := w) (base := base) (T := T) (S := A.s_overlap)
  have d_joint_outcome := ok_joint_outcome (P := P) (w := w) (base := base) (T := T) (S := A.s_joint_outcome) (d_distance := d_distance) (d_overlap := d_overlap) (d_widened := d_widened) (d_Outcome_init := d_Outcome_init)
  have d_outcomes := ok_outcomes (P := P) (w := w) (base := base) (T := T) (S := A.s_outcomes) (d_leaf_outcome := d_leaf_outcome) (d_joint_outcome := d_joint_outcome)
  have d_is_shape := ok_is_shape (P := P) (w := w) (base := base) (T := T) (S := A.s_is_shape)
  have d_shape_of_pairs := ok_shape_of_pairs (P := P) (w := w) (base := base) (T := T) (S := A.s_shape_of_pairs)
  have d_gather := ok_gather (P := P) (w := w) (base := base) (T := T) (S := A.s_gather) 9
  have d_ordered_pairs := ok_ordered_pairs (P := P) (w := w) (base := base) (T := T) (S := A.s_ordered_pairs) (d_gather := d_gather)
  have d_splits := ok_splits (P := P) (w := w) (base := base) (T := T) (S := A.s_splits)
  have d_shapes_over := ok_shapes_over (P := P) (w := w) (base := base) (T := T) (S := A.s_shapes_over) (d_splits := d_splits) 7
  have d_all_shapes := ok_all_shapes (P := P) (w := w) (base := base) (T := T) (S := A.s_all_shapes) (d_shapes_over := d_shapes_over)
  have d_shape_count := ok_shape_count (P := P) (w := w) (base := base) (T := T) (S := A.s_shape_count)
  have d_shape_outcome := ok_shape_outcome (P := P) (w := w) (base := base) (T := T) (S := A.s_shape_outcome) (d_joint_outcome := d_joint_outcome) 9
  have d_cost := ok_cost (P := P) (w := w) (base := base) (T := T) (S := A.s_cost) (d_shape_outcome := d_shape_outcome)
  have d_least_shape := ok_least_shape (P := P) (w := w) (base := base) (T := T) (S := A.s_least_shape) (TB := TB) (d_leaf_outcome := d_leaf_outcome) (d_all_shapes := d_all_shapes) (d_cost := d_cost)
  have d_joints_above := ok_joints_above (P := P) (w := w) (base := base) (T := T) (S := A.s_joints_above)
  have d_laid_places := ok_laid_places (P := P) (w := w) (base := base) (T := T) (S := A.s_laid_places) (d_nearest := d_nearest)
  have d_told_places := ok_told_places (P := P) (w := w) (base := base) (T := T) (S := A.s_told_places) (d_in_parts := d_in_parts)
  have d_told_lengths := ok_told_lengths (P := P) (w := w) (base := base) (T := T) (S := A.s_told_lengths)
  have d_are_long_enough := ok_are_long_enough (P := P) (w := w) (base := base) (T := T) (S := A.s_are_long_enough) (d_apart := d_apart)
  have d_leaf_moments := ok_leaf_moments (P := P) (w := w) (base := base) (T := T) (S := A.s_leaf_moments)
  have d_is_place := ok_is_place (P := P) (w := w) (base := base) (T := T) (S := A.s_is_place)
  have d_is_leaf := ok_is_leaf (P := P) (w := w) (base := base) (T := T) (S := A.s_is_leaf) (d_is_place := d_is_place)
  have d_Desk_init := ok_Desk_init (P := P) (w := w) (base := base) (T := T) (S := A.s_Desk_init)
  have m_start_anew := ok_start_anew (P := P) (w := w) (base := base) (T := T) (Pt := Pt) (S := A.s_start_anew)
  have m_add_leaf := ok_add_leaf (P := P) (w := w) (base := base) (T := T) (Pt := Pt) (S := A.s_add_leaf) (d_is_leaf := d_is_leaf)
  have m_move_leaf := ok_move_leaf (P := P) (w := w) (base := base) (T := T) (Pt := Pt) (S := A.s_move_leaf) (d_is_leaf := d_is_leaf)
  have m_keep_shape := ok_keep_shape (P := P) (w := w) (base := base) (T := T) (S := A.s_keep_shape) (d_ordered_pairs := d_ordered_pairs)
  have m_take_shape := ok_take_shape (P := P) (w := w) (base := base) (T := T) (Pt := Pt) (S := A.s_take_shape) (d_is_shape := d_is_shape) (d_shape_of_pairs := d_shape_of_pairs) (m_keep_shape := m_keep_shape)
  have m_tell_shape := ok_tell_shape (P := P) (w := w) (base := base) (T := T) (Pt := Pt) (S := A.s_tell_shape)
  have m_tell_wire := ok_tell_wire (P := P) (w := w) (base := base) (T := T) (Pt := Pt) (S := A.s_tell_wire) (d_outcomes := d_outcomes)
  have m_tell_joint := ok_tell_joint (P := P) (w := w) (base := base) (T := T) (Pt := Pt) (S := A.s_tell_joint) (d_outcomes := d_outcomes)
  have m_lay_out := ok_lay_out (P := P) (w := w) (base := base) (T := T) (Pt := Pt) (S := A.s_lay_out) (d_outcomes := d_outcomes) (d_is_place := d_is_place) (d_in_parts := d_in_parts) (d_apart := d_apart) (d_nearest := d_nearest)
  have m_tell_laid := ok_tell_laid (P := P) (w := w) (base := base) (T := T) (Pt := Pt) (S := A.s_tell_laid) (d_outcomes := d_outcomes) (d_is_place := d_is_place) (d_in_parts := d_in_parts) (d_joints_above := d_joints_above) (d_laid_places := d_laid_places)
  have m_judge := ok_judge (P := P) (w := w) (base := base) (T := T) (Pt := Pt) (S := A.s_judge) (d_joints_above := d_joints_above) (d_told_lengths := d_told_lengths) (d_told_places := d_told_places) (d_are_long_enough := d_are_long_enough) (d_leaf_moments := d_leaf_moments)
  have m_take_least := ok_take_least (P := P) (w := w) (base := base) (T := T) (Pt := Pt) (S := A.s_take_least) (d_least_shape := d_least_shape) (m_keep_shape := m_keep_shape) (m_tell_wire := m_tell_wire)
  have m_take_ranked := ok_take_ranked (P := P) (w := w) (base := base) (T := T) (Pt := Pt) (S := A.s_take_ranked) (d_shape_count := d_shape_count) (d_all_shapes := d_all_shapes) (m_keep_shape := m_keep_shape) (m_tell_wire := m_tell_wire)
  have m_count_shapes := ok_count_shapes (P := P) (w := w) (base := base) (T := T) (Pt := Pt) (S := A.s_count_shapes) (d_shape_count := d_shape_count)
  have d_has_row := ok_has_row (P := P) (w := w) (base := base) (T := T) (S := A.s_has_row)
  have d_head_length := ok_head_length (P := P) (w := w) (base := base) (T := T) (S := A.s_head_length) (d_has_row := d_has_row)
  have d_body_length := ok_body_length (P := P) (w := w) (base := base) (T := T) (S := A.s_body_length) (d_has_row := d_has_row)
  have d_answer := ok_answer (P := P) (w := w) (base := base) (T := T) (Pt := Pt) (S := A.s_answer) (m_start_anew := m_start_anew) (m_add_leaf := m_add_leaf) (m_move_leaf := m_move_leaf) (m_take_shape := m_take_shape) (m_tell_shape := m_tell_shape) (m_tell_wire := m_tell_wire) (m_tell_joint := m_tell_joint) (m_lay_out := m_lay_out) (m_tell_laid := m_tell_laid) (m_judge := m_judge) (m_take_least := m_take_least) (m_take_ranked := m_take_ranked) (m_count_shapes := m_count_shapes)
  exact fn_answers T Pt F d_Desk_init d_head_length d_body_length d_answer
theorem whole_all (cs : List (List (List Int))) : cs.map PyLr72.whole = cs := (List.map_congr_left fun c _ => whole_id c).trans (List.map_id cs)
open PySem.W (Codec) in
theorem end_mk {q : Program} {loose : List Str} {w : World} {K : PySem.W.Frag} {h : Heap} {mg mb : Str → Option Value} {mean : ExcName → Option Value} {fa CO CD c Pt : Addr} {d : DefRec} (X : K.In h) (G : h.Ns mainGlobals mg) (TP : Top q loose mean mg mb h) (hfa : mg "answers" = some (.ref fa))
    (hr : (recsOf q).find? (fun e => e.name == ("least_shape" : Str)) = some d) (ht : PySem.W.tabIn K "least_shape" = some (c, Pt)) (hn : PySem.W.noTabs K = true) (A : All K mg CO CD c) : SpecAt PySem.Challenge.rw_samemomentdesk_s01_answers w K CX0 19 ["calls"] mg fa h := by
  obtain ⟨f, fd, F, hm, hb⟩ := A.s_answers.ex
  rw [hfa] at hm
  cases hm
  obtain ⟨cd, et⟩ := PySem.W.tab_of TP X hr ht
  refine ⟨fd, [(c, Pt)], spAnswers K Pt, fun p hp => ?_, fun p hp => ?_, fun p hp => ?_, fun s us hu => ?_, fun H xs a hH hwi hask hx => ?_, fun base _ _ TB => all_ok A (TB _ (List.mem_singleton.mpr rfl)) F⟩
  · rw [List.mem_singleton.mp hp]
    exact et
  · rw [List.mem_singleton.mp hp]
    exact no_tab X hn et
  · rw [List.mem_singleton.mp hp]
    exact cd
  · obtain ⟨oc, od, kV, doc, pm, an, cdv, ct, osl, rfl, _, _⟩ := F.ex
    exact match us, hu with | [_], _ => .of_eq rfl
  · cases hx with
    | cons h1 h2 =>
      cases h2
      cases h1 with
      | lst hs ha =>
        have e := L2.ints_dw a.1 _ ha
        subst e
        have hask : PyLr72.answers_asked a.1 = true := hask
        have hl : PyLr72.answers_asked a.1 = (match PyFlat.calls PyLr72.shape a.1.length a.1 with
          | none => false
          | some raw => !raw.isEmpty && PyFlat.atMost 150 raw && PyInside.calls PyLr72.bound raw && Lr72Neutral.asked (raw.map PyLr72.whole) && PyFlat.short 10000000 (PyLr72.answers a.1)) := rfl
        rw [hl] at hask
        cases ec : PyFlat.calls PyLr72.shape a.1.length a.1 with
        | none => rw [ec] at hask; cases hask
        | some cs =>
          rw [ec] at hask
          have hask : (!cs.isEmpty && PyFlat.atMost 150 cs && PyInside.calls PyLr72.bound cs && Lr72Neutral.asked (cs.map PyLr72.whole) && PyFlat.short 10000000 (PyLr72.answers a.1)) = true := hask
          rw [Bool.and_eq_true, Bool.and_eq_true] at hask
          obtain ⟨⟨_, h3⟩, h4⟩ := hask
          rw [whole_all] at h3
          unfold Lr72Neutral.asked at h3
          rw [Bool.and_eq_true, Bool.and_eq_true] at h3
          have e4 : PyLr72.answers a.1 = tld Lr72.start cs := by
            show (match (match PyFlat.calls PyLr72.shape a.1.length a.1 with
              | none => none
              | some cs => some (cs.map PyLr72.whole)) with
              | none => []
              | some cs => PyFlat.told (PyFlat.played Lr72Neutral.step Lr72Neutral.start cs)) = _
            rw [ec]
            show PyFlat.told (PyFlat.played Lr72Neutral.step Lr72Neutral.start (cs.map PyLr72.whole)) = _
            rw [whole_all]
            rfl
          rw [e4] at h4
          refine ⟨_, a.1, cs, rfl, hs, hH _ (List.mem_singleton.mpr rfl), ec, fun c hc => List.all_eq_true.mp h3.2.2 c hc, of_decide_eq_true h4, fun H' r hr => ?_⟩
          have e5 : PySem.Challenge.rw_samemomentdesk_s01_answers.ret.enc (Codec.app PySem.Challenge.rw_samemomentdesk_s01_answers.args PySem.Challenge.rw_samemomentdesk_s01_answers.f a) = .list ((tld Lr72.start cs).map PySem.W.WData.int) := by
            show PySem.W.WData.list ((PyLr72.answers a.1).map PySem.W.WData.int) = _
            rw [e4]
          rw [e5]
          exact .lst (L2.SqL.of hr) (L2.dw_ints _)
end Sm
open PySem PySem.W PyProof.Rows
set_option maxRecDepth 100000 in
set_option maxHeartbeats 8000000 in
theorem PySem.Challenge.cw_samemomentdesk_s01_answers_holds : PySem.Challenge.rw_samemomentdesk_s01_answers.Holds := by
  w_on; k_headS; (case hw => exact ⟨[.list [.int 12]], by decide +kernel, by decide +kernel⟩)
  k_fillS
  refine Sm.walk_specT (r := PySem.Challenge.rw_samemomentdesk_s01_answers) (k := 19) (CX := L2.CX0) (ps := ["calls"]) (by decide +kernel) rfl ⟨rfl, by decide, by decide⟩ (fun w h Y => PySem.W.kIn_of Y) ?F (fun _ _ _ _ z => z)
  case F =>
    intro w mg mb mean fa h TP Y KX G hmg
    refine' Sm.end_mk KX G TP hmg rfl (Sm.tab_is ?a_least_shape ?l_least_shape rfl ?lc ?hv) ?hn ⟨⟨(mg_none_of KX G ?b_len), (mg_none_of KX G ?b_enumerate), (mg_none_of KX G ?b_list), (mg_none_of KX G ?b_range), (mg_none_of KX G ?b_isinstance), (mg_none_of KX G ?b_int), (mg_none_of KX G ?b_tuple), (mg_none_of KX G ?b_max), (mg_none_of KX G ?b_min), (mg_none_of KX G ?b_abs), (mg_none_of KX G ?b_sum), (Sm.int_top KX G ?g_PARTS), (Sm.int_top KX G ?g_MOST_LEAVES), (Sm.int_top KX G ?g_MOST_FOR_ALL_SHAPES), (Sm.int_top KX G ?g_FARTHEST), (Sm.int_top KX G ?g_LATEST), (Sm.int_top KX G ?g_NOT_THERE), (Sm.int_top KX G ?g_TOO_MANY), (Sm.int_top KX G ?g_NOTHING_YET), (Sm.int_top KX G ?g_NOT_ALLOWED), (Sm.int_top KX G ?g_NO_ROOM), (Sm.int_top KX G ?g_TOO_SHORT), (Sm.int_top KX G ?g_NEW), (Sm.int_top KX G ?g_LEAF), (Sm.int_top KX G ?g_MOVE), (Sm.int_top KX G ?g_SHAPE), (Sm.int_top KX G ?g_TOLD), (Sm.int_top KX G ?g_WIRE), (Sm.int_top KX G ?g_JOINT), (Sm.int_top KX G ?g_LAY), (Sm.int_top KX G ?g_LAID), (Sm.int_top KX G ?g_JUDGE), (Sm.int_top KX G ?g_LEAST), (Sm.int_top KX G ?g_RANK), (Sm.counts_mk KX G ?aN ?lN), ⟨?pgO, ?hdO, ?poO, ?saO⟩, ?n_CO_time, ?n_CO_wire, ?n_CO_area, ⟨?pgD, ?hdD, ?poD, ?saD⟩, ?n_CD_leaves, ?n_CD_pairs⟩, (Sm.src_mk KX G Sm.bd_is_shape ?a_is_shape ?l_is_shape ?e_is_shape ?k_is_shape), (Sm.src_mk KX G Sm.bd_shape_of_pairs ?a_shape_of_pairs ?l_shape_of_pairs ?e_shape_of_pairs ?k_shape_of_pairs), (Sm.src_mk KX G Sm.bd_gather ?a_gather ?l_gather ?e_gather ?k_gather), (Sm.src_mk KX G Sm.bd_ordered_pairs ?a_ordered_pairs ?l_ordered_pairs ?e_ordered_pairs ?k_ordered_pairs), (Sm.src_mk KX G Sm.bd_splits ?a_splits ?l_splits ?e_splits ?k_splits), (Sm.src_mk KX G Sm.bd_shapes_over ?a_shapes_over ?l_shapes_over ?e_shapes_over ?k_shapes_over), (Sm.src_mk KX G Sm.bd_all_shapes ?a_all_shapes ?l_all_shapes ?e_all_shapes ?k_all_shapes), (Sm.src_mk KX G Sm.bd_shape_count ?a_shape_count ?l_shape_count ?e_shape_count ?k_shape_count), (Sm.src_mk KX G Sm.bd_in_parts ?a_in_parts ?l_in_parts ?e_in_parts ?k_in_parts), (Sm.src_mk KX G Sm.bd_apart ?a_apart ?l_apart ?e_apart ?k_apart), (Sm.src_mk KX G Sm.bd_nearest ?a_nearest ?l_nearest ?e_nearest ?k_nearest), (Sm.src_mk KX G Sm.bd_leaf_outcome ?a_leaf_outcome ?l_leaf_outcome ?e_leaf_outcome ?k_leaf_outcome), (Sm.src_mk KX G Sm.bd_gap ?a_gap ?l_gap ?e_gap ?k_gap), (Sm.src_mk KX G Sm.bd_distance ?a_distance ?l_distance ?e_distance ?k_distance), (Sm.src_mk KX G Sm.bd_widened ?a_widened ?l_widened ?e_widened ?k_widened), (Sm.src_mk KX G Sm.bd_overlap ?a_overlap ?l_overlap ?e_overlap ?k_overlap), (Sm.src_mk KX G Sm.bd_joint_outcome ?a_joint_outcome ?l_joint_outcome ?e_joint_outcome ?k_joint_outcome), (Sm.src_mk KX G Sm.bd_outcomes ?a_outcomes ?l_outcomes ?e_outcomes ?k_outcomes), (Sm.src_mk KX G Sm.bd_shape_outcome ?a_shape_outcome ?l_shape_outcome ?e_shape_outcome ?k_shape_outcome), (Sm.src_mk KX G Sm.bd_cost ?a_cost ?l_cost ?e_cost ?k_cost), (Sm.srcT_mk KX G Sm.bd_least_shape ?a_least_shape ?l_least_shape ?e_least_shape ?k_least_shape), (Sm.src_mk KX G Sm.bd_told_places ?a_told_places ?l_told_places ?e_told_places ?k_told_places), (Sm.src_mk KX G Sm.bd_told_lengths ?a_told_lengths ?l_told_lengths ?e_told_lengths ?k_told_lengths), (Sm.src_mk KX G Sm.bd_are_long_enough ?a_are_long_enough ?l_are_long_enough ?e_are_long_enough ?k_are_long_enough), (Sm.src_mk KX G Sm.bd_leaf_moments ?a_leaf_moments ?l_leaf_moments ?e_leaf_moments ?k_leaf_moments), (Sm.src_mk KX G Sm.bd_joints_above ?a_joints_above ?l_joints_above ?e_joints_above ?k_joints_above), (Sm.src_mk KX G Sm.bd_laid_places ?a_laid_places ?l_laid_places ?e_laid_places ?k_laid_places), (Sm.src_mk KX G Sm.bd_is_place ?a_is_place ?l_is_place ?e_is_place ?k_is_place), (Sm.src_mk KX G Sm.bd_is_leaf ?a_is_leaf ?l_is_leaf ?e_is_leaf ?k_is_leaf), (Sm.src_mk KX G Sm.bd_has_row ?a_has_row ?l_has_row ?e_has_row ?k_has_row), (Sm.src_mk KX G Sm.bd_head_length ?a_head_length ?l_head_length ?e_head_length ?k_head_length), (Sm.src_mk KX G Sm.bd_body_length ?a_body_length ?l_body_length ?e_body_length ?k_body_length), (Sm.src_mk KX G Sm.bd_answer ?a_answer ?l_answer ?e_answer ?k_answer), (Sm.src_mk KX G Sm.bd_answers ?a_answers ?l_answers ?e_answers ?k_answers), (Sm.srcM_mk ⟨?pgD, ?hdD, ?poD, ?saD⟩ Sm.bd_Desk_start_anew ?a_start_anew ?i_start_anew ?l_start_anew ?e_start_anew ?k_start_anew), (Sm.srcM_mk ⟨?pgD, ?hdD, ?poD, ?saD⟩ Sm.bd_Desk_add_leaf ?a_add_leaf ?i_add_leaf ?l_add_leaf ?e_add_leaf ?k_add_leaf), (Sm.srcM_mk ⟨?pgD, ?hdD, ?poD, ?saD⟩ Sm.bd_Desk_move_leaf ?a_move_leaf ?i_move_leaf ?l_move_leaf ?e_move_leaf ?k_move_leaf), (Sm.srcM_mk ⟨?pgD, ?hdD, ?poD, ?saD⟩ Sm.bd_Desk_take_shape ?a_take_shape ?i_take_shape ?l_take_shape ?e_take_shape ?k_take_shape), (Sm.srcM_mk ⟨?pgD, ?hdD, ?poD, ?saD⟩ Sm.bd_Desk_keep_shape ?a_keep_shape ?i_keep_shape ?l_keep_shape ?e_keep_shape ?k_keep_shape), (Sm.srcM_mk ⟨?pgD, ?hdD, ?poD, ?saD⟩ Sm.bd_Desk_tell_shape ?a_tell_shape ?i_tell_shape ?l_tell_shape ?e_tell_shape ?k_tell_shape), (Sm.srcM_mk ⟨?pgD, ?hdD, ?poD, ?saD⟩ Sm.bd_Desk_tell_wire ?a_tell_wire ?i_tell_wire ?l_tell_wire ?e_tell_wire ?k_tell_wire), (Sm.srcM_mk ⟨?pgD, ?hdD, ?poD, ?saD⟩ Sm.bd_Desk_tell_joint ?a_tell_joint ?i_tell_joint ?l_tell_joint ?e_tell_joint ?k_tell_joint), (Sm.srcM_mk ⟨?pgD, ?hdD, ?poD, ?saD⟩ Sm.bd_Desk_lay_out ?a_lay_out ?i_lay_out ?l_lay_out ?e_lay_out ?k_lay_out), (Sm.srcM_mk ⟨?pgD, ?hdD, ?poD, ?saD⟩ Sm.bd_Desk_tell_laid ?a_tell_laid ?i_tell_laid ?l_tell_laid ?e_tell_laid ?k_tell_laid), (Sm.srcM_mk ⟨?pgD, ?hdD, ?poD, ?saD⟩ Sm.bd_Desk_judge ?a_judge ?i_judge ?l_judge ?e_judge ?k_judge), (Sm.srcM_mk ⟨?pgD, ?hdD, ?poD, ?saD⟩ Sm.bd_Desk_take_least ?a_take_least ?i_take_least ?l_take_least ?e_take_least ?k_take_least), (Sm.srcM_mk ⟨?pgD, ?hdD, ?poD, ?saD⟩ Sm.bd_Desk_take_ranked ?a_take_ranked ?i_take_ranked ?l_take_ranked ?e_take_ranked ?k_take_ranked), (Sm.srcM_mk ⟨?pgD, ?hdD, ?poD, ?saD⟩ Sm.bd_Desk_count_shapes ?a_count_shapes ?i_count_shapes ?l_count_shapes ?e_count_shapes ?k_count_shapes), (Sm.srcC_mk KX G Sm.bd_Outcome_init ?n_Outcome_init ?mk_Outcome_init ?kc_Outcome_init ?a_Outcome_init ?i_Outcome_init ?l_Outcome_init ?e_Outcome_init ?k_Outcome_init), (Sm.srcC_mk KX G Sm.bd_Desk_init ?n_Desk_init ?mk_Desk_init ?kc_Desk_init ?a_Desk_init ?i_Desk_init ?l_Desk_init ?e_Desk_init ?k_Desk_init)⟩
    (case n_Desk_init => k_is); (case mk_Desk_init => k_is); (case kc_Desk_init => k_is); (case a_Desk_init => k_is); (case i_Desk_init => k_is); (case l_Desk_init => k_is); (case e_Desk_init => k_is); (case k_Desk_init => k_is)
    (case n_Outcome_init => k_is); (case mk_Outcome_init => k_is); (case kc_Outcome_init => k_is); (case a_Outcome_init => k_is); (case i_Outcome_init => k_is); (case l_Outcome_init => k_is); (case e_Outcome_init => k_is); (case k_Outcome_init => k_is)
    (case pgO => k_is); (case hdO => k_is); (case poO => k_is); (case saO => k_is); (case n_CO_time => (show findIn _ _ _ = some none; k_is)); (case n_CO_wire => (show findIn _ _ _ = some none; k_is)); (case n_CO_area => (show findIn _ _ _ = some none; k_is)); (case pgD => k_is); (case hdD => k_is); (case poD => k_is); (case saD => k_is); (case n_CD_leaves => (show findIn _ _ _ = some none; k_is)); (case n_CD_pairs => (show findIn _ _ _ = some none; k_is))
    (case a_is_shape => k_is); (case l_is_shape => k_is); (case e_is_shape => k_is); (case k_is_shape => k_is)
    (case a_shape_of_pairs => k_is); (case l_shape_of_pairs => k_is); (case e_shape_of_pairs => k_is); (case k_shape_of_pairs => k_is)
    (case a_gather => k_is); (case l_gather => k_is); (case e_gather => k_is); (case k_gather => k_is)
    (case a_ordered_pairs => k_is); (case l_ordered_pairs => k_is); (case e_ordered_pairs => k_is); (case k_ordered_pairs => k_is)
    (case a_splits => k_is); (case l_splits => k_is); (case e_splits => k_is); (case k_splits => k_is)
    (case a_shapes_over => k_is); (case l_shapes_over => k_is); (case e_shapes_over => k_is); (case k_shapes_over => k_is)
    (case a_all_shapes => k_is); (case l_all_shapes => k_is); (case e_all_shapes => k_is); (case k_all_shapes => k_is)
    (case a_shape_count => k_is); (case l_shape_count => k_is); (case e_shape_count => k_is); (case k_shape_count => k_is)
    (case a_in_parts => k_is); (case l_in_parts => k_is); (case e_in_parts => k_is); (case k_in_parts => k_is)
    (case a_apart => k_is); (case l_apart => k_is); (case e_apart => k_is); (case k_apart => k_is)
    (case a_nearest => k_is); (case l_nearest => k_is); (case e_nearest => k_is); (case k_nearest => k_is)
    (case a_leaf_outcome => k_is); (case l_leaf_outcome => k_is); (case e_leaf_outcome => k_is); (case k_leaf_outcome => k_is)
    (case a_gap => k_is); (case l_gap => k_is); (case e_gap => k_is); (case k_gap => k_is)
    (case a_distance => k_is); (case l_distance => k_is); (case e_distance => k_is); (case k_distance => k_is)
    (case a_widened => k_is); (case l_widened => k_is); (case e_widened => k_is); (case k_widened => k_is)
    (case a_overlap => k_is); (case l_overlap => k_is); (case e_overlap => k_is); (case k_overlap => k_is)
    (case a_joint_outcome => k_is); (case l_joint_outcome => k_is); (case e_joint_outcome => k_is); (case k_joint_outcome => k_is)
    (case a_outcomes => k_is); (case l_outcomes => k_is); (case e_outcomes => k_is); (case k_outcomes => k_is)
    (case a_shape_outcome => k_is); (case l_shape_outcome => k_is); (case e_shape_outcome => k_is); (case k_shape_outcome => k_is)
    (case a_cost => k_is); (case l_cost => k_is); (case e_cost => k_is); (case k_cost => k_is)
    (case a_least_shape => k_is); (case l_least_shape => k_is); (case e_least_shape => k_is); (case k_least_shape => k_is)
    (case a_told_places => k_is); (case l_told_places => k_is); (case e_told_places => k_is); (case k_told_places => k_is)
    (case a_told_lengths => k_is); (case l_told_lengths => k_is); (case e_told_lengths => k_is); (case k_told_lengths => k_is)
    (case a_are_long_enough => k_is); (case l_are_long_enough => k_is); (case e_are_long_enough => k_is); (case k_are_long_enough => k_is)
    (case a_leaf_moments => k_is); (case l_leaf_moments => k_is); (case e_leaf_moments => k_is); (case k_leaf_moments => k_is)
    (case a_joints_above => k_is); (case l_joints_above => k_is); (case e_joints_above => k_is); (case k_joints_above => k_is)
    (case a_laid_places => k_is); (case l_laid_places => k_is); (case e_laid_places => k_is); (case k_laid_places => k_is)
    (case a_is_place => k_is); (case l_is_place => k_is); (case e_is_place => k_is); (case k_is_place => k_is)
    (case a_is_leaf => k_is); (case l_is_leaf => k_is); (case e_is_leaf => k_is); (case k_is_leaf => k_is)
    (case a_has_row => k_is); (case l_has_row => k_is); (case e_has_row => k_is); (case k_has_row => k_is)
    (case a_head_length => k_is); (case l_head_length => k_is); (case e_head_length => k_is); (case k_head_length => k_is)
    (case a_body_length => k_is); (case l_body_length => k_is); (case e_body_length => k_is); (case k_body_length => k_is)
    (case a_answer => k_is); (case l_answer => k_is); (case e_answer => k_is); (case k_answer => k_is)
    (case a_answers => k_is); (case l_answers => k_is); (case e_answers => k_is); (case k_answers => k_is)
    (case a_start_anew => k_is); (case i_start_anew => k_is); (case l_start_anew => k_is); (case e_start_anew => k_is); (case k_start_anew => k_is)
    (case a_add_leaf => k_is); (case i_add_leaf => k_is); (case l_add_leaf => k_is); (case e_add_leaf => k_is); (case k_add_leaf => k_is)
    (case a_move_leaf => k_is); (case i_move_leaf => k_is); (case l_move_leaf => k_is); (case e_move_leaf => k_is); (case k_move_leaf => k_is)
    (case a_take_shape => k_is); (case i_take_shape => k_is); (case l_take_shape => k_is); (case e_take_shape => k_is); (case k_take_shape => k_is)
    (case a_keep_shape => k_is); (case i_keep_shape => k_is); (case l_keep_shape => k_is); (case e_keep_shape => k_is); (case k_keep_shape => k_is)
    (case a_tell_shape => k_is); (case i_tell_shape => k_is); (case l_tell_shape => k_is); (case e_tell_shape => k_is); (case k_tell_shape => k_is)
    (case a_tell_wire => k_is); (case i_tell_wire => k_is); (case l_tell_wire => k_is); (case e_tell_wire => k_is); (case k_tell_wire => k_is)
    (case a_tell_joint => k_is); (case i_tell_joint => k_is); (case l_tell_joint => k_is); (case e_tell_joint => k_is); (case k_tell_joint => k_is)
    (case a_lay_out => k_is); (case i_lay_out => k_is); (case l_lay_out => k_is); (case e_lay_out => k_is); (case k_lay_out => k_is)
    (case a_tell_laid => k_is); (case i_tell_laid => k_is); (case l_tell_laid => k_is); (case e_tell_laid => k_is); (case k_tell_laid => k_is)
    (case a_judge => k_is); (case i_judge => k_is); (case l_judge => k_is); (case e_judge => k_is); (case k_judge => k_is)
    (case a_take_least => k_is); (case i_take_least => k_is); (case l_take_least => k_is); (case e_take_least => k_is); (case k_take_least => k_is)
    (case a_take_ranked => k_is); (case i_take_ranked => k_is); (case l_take_ranked => k_is); (case e_take_ranked => k_is); (case k_take_ranked => k_is)
    (case a_count_shapes => k_is); (case i_count_shapes => k_is); (case l_count_shapes => k_is); (case e_count_shapes => k_is); (case k_count_shapes => k_is)
    (case b_len => k_is); (case b_enumerate => k_is); (case b_list => k_is); (case b_range => k_is); (case b_isinstance => k_is); (case b_int => k_is); (case b_tuple => k_is); (case b_max => k_is); (case b_min => k_is); (case b_abs => k_is); (case b_sum => k_is)
    (case g_PARTS => k_is); (case g_MOST_LEAVES => k_is); (case g_MOST_FOR_ALL_SHAPES => k_is); (case g_FARTHEST => k_is); (case g_LATEST => k_is); (case g_NOT_THERE => k_is); (case g_TOO_MANY => k_is); (case g_NOTHING_YET => k_is); (case g_NOT_ALLOWED => k_is); (case g_NO_ROOM => k_is); (case g_TOO_SHORT => k_is); (case g_NEW => k_is); (case g_LEAF => k_is); (case g_MOVE => k_is); (case g_SHAPE => k_is); (case g_TOLD => k_is); (case g_WIRE => k_is); (case g_JOINT => k_is); (case g_LAY => k_is); (case g_LAID => k_is); (case g_JUDGE => k_is); (case g_LEAST => k_is); (case g_RANK => k_is); (case aN => k_is); (case lN => k_is)
    (case lc => k_is); (case hv => rfl); (case hn => kernel_rfl)
#print axioms PySem.Challenge.cw_samemomentdesk_s01_answers_holds
