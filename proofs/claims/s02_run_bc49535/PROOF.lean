import PyProof.Rows.All
import Wide.All
import OpenK.AllK
import Wide.FinOn
import Open.SpecLaws
import KE.OsGo
import HandS.ForMost
import HandS.ForSpec
import HandS.Deep
import HandS.Walk
import PySem.Challenge.RW_withpebble_s02_run
set_option Elab.async false
set_option linter.all false
set_option maxRecDepth 100000
set_option maxHeartbeats 4000000
namespace Wp
open Ks536 (Net)

/-! ## Exits, link by link -/
def touch (p : Nat × Nat) (u : Nat) : Bool := p.1 == u || p.2 == u
def oth (p : Nat × Nat) (u : Nat) : Nat := if p.1 = u then p.2 else p.1
def exs (ls : List (Nat × Nat)) (u : Nat) : List Nat := Ks536.exits ⟨0, ls⟩ u
def touchAt (ls : List (Nat × Nat)) (u i : Nat) : Bool := match ls[i]? with
  | some p => p.1 == u || p.2 == u
  | none => false
theorem exs_def (ls : List (Nat × Nat)) (u : Nat) : exs ls u = (List.range ls.length).filter (touchAt ls u) := rfl
theorem exits_eq (n : Nat) (ls : List (Nat × Nat)) (u : Nat) : Ks536.exits ⟨n, ls⟩ u = exs ls u := rfl
theorem exits_eq' (t : Net) (u : Nat) : Ks536.exits t u = exs t.links u := rfl
def endAt (ls : List (Nat × Nat)) (i u : Nat) : Nat := match ls[i]? with
  | some p => if p.1 = u then p.2 else p.1
  | none => u
theorem end_eq (t : Net) (i u : Nat) : Ks536.end_ t i u = endAt t.links i u := rfl
theorem endAt_some {ls : List (Nat × Nat)} {i u : Nat} {p : Nat × Nat} (h : ls[i]? = some p) : endAt ls i u = oth p u := by
  unfold endAt; rw [h]; rfl
theorem touchAt_some {ls : List (Nat × Nat)} {i u : Nat} {p : Nat × Nat} (h : ls[i]? = some p) : touchAt ls u i = touch p u := by
  unfold touchAt; rw [h]; rfl
theorem touch_oth {p : Nat × Nat} {u : Nat} (h : touch p u = true) : touch p (oth p u) = true := by
  unfold touch oth at *
  simp only [Bool.or_eq_true, beq_iff_eq] at *
  split
  · exact .inr rfl
  · exact .inl rfl
/-- a prefix of the links has the same exits, as far as it goes -/
theorem exs_take {ls : List (Nat × Nat)} {k : Nat} (u : Nat) (h : k ≤ ls.length) : exs (ls.take k) u = (List.range k).filter (touchAt ls u) := by
  rw [exs_def, List.length_take, Nat.min_eq_left h]
  apply List.filter_congr
  intro i hi
  have hi' : i < k := List.mem_range.mp hi
  unfold touchAt
  rw [List.getElem?_take_of_lt hi']
theorem exs_snoc (ls : List (Nat × Nat)) (p : Nat × Nat) (u : Nat) : exs (ls ++ [p]) u = exs ls u ++ if touch p u then [ls.length] else [] := by
  have e : exs ls u = exs ((ls ++ [p]).take ls.length) u := by
    rw [List.take_left' rfl]
  rw [e, exs_take u (by simp), exs_def, List.length_append, List.length_singleton, List.range_succ, List.filter_append]
  congr 1
  have h : (ls ++ [p])[ls.length]? = some p := by simp
  rw [List.filter_cons, touchAt_some h]
  cases touch p u <;> simp
/-- of place u, exit by exit: the place that it leads to, and the exit there -/
def row (ls : List (Nat × Nat)) (u : Nat) : List (Nat × Nat) := (exs ls u).map fun i => (endAt ls i u, (exs (ls.take i) (endAt ls i u)).length)
theorem row_length (ls : List (Nat × Nat)) (u : Nat) : (row ls u).length = (exs ls u).length := by
  unfold row; rw [List.length_map]
theorem degree_eq (t : Net) (u : Nat) : Ks536.degree t u = (row t.links u).length := by
  rw [row_length]; rfl
theorem row_nil (u : Nat) : row [] u = [] := rfl
theorem row_snoc (ls : List (Nat × Nat)) (p : Nat × Nat) (u : Nat) : row (ls ++ [p]) u = row ls u ++ if touch p u then [(oth p u, (row ls (oth p u)).length)] else [] := by
  unfold row
  rw [exs_snoc, List.map_append]
  congr 1
  · apply List.map_congr_left
    intro i hi
    have hi' : i < ls.length := by
      rw [exs_def] at hi
      exact List.mem_range.mp (List.mem_filter.mp hi).1
    have e : endAt (ls ++ [p]) i u = endAt ls i u := by
      unfold endAt; rw [List.getElem?_append_left hi']
    rw [e, List.take_append_of_le_length (Nat.le_of_lt hi')]
  · have h : (ls ++ [p])[ls.length]? = some p := by simp
    cases touch p u
    · rfl
    · simp only [if_true, List.map_cons, List.map_nil]
      rw [endAt_some h, List.take_left' rfl, List.length_map]
theorem takeWhile_ne {c : Nat → Bool} {m i : Nat} (him : i < m) (hc : c i = true) : ((List.range m).filter c).takeWhile (fun j => j != i) = (List.range i).filter c := by
  have e : List.range m = List.range i ++ i :: (List.range (m - i - 1)).map (· + (i + 1)) := by
    have : m = i + (1 + (m - i - 1)) := by omega
    conv => lhs; rw [this, List.range_add, List.range_add]
    simp [List.range_succ]
    intro a _
    omega
  rw [e, List.filter_append, List.filter_cons, if_pos hc]
  rw [List.takeWhile_append_of_pos]
  · rw [List.takeWhile_cons]
    simp
  · intro a ha
    have := List.mem_range.mp (List.mem_filter.mp ha).1
    simp only [bne_iff_ne]
    omega
theorem out_eq (t : Net) (u e : Nat) : Ks536.out t u e = (row t.links u)[e]? := by
  unfold Ks536.out row
  rw [exits_eq', List.getElem?_map]
  cases h : (exs t.links u)[e]? with
  | none => rfl
  | some i =>
    have hi : i ∈ exs t.links u := List.mem_of_getElem? h
    rw [exs_def] at hi
    obtain ⟨h1, h2⟩ := List.mem_filter.mp hi
    have him := List.mem_range.mp h1
    have hp : t.links[i]? = some t.links[i] := List.getElem?_eq_getElem him
    rw [touchAt_some hp] at h2
    have h3 : touchAt t.links (endAt t.links i u) i = true := by
      rw [touchAt_some hp, endAt_some hp]
      exact touch_oth h2
    simp only [Option.map_some, exits_eq', end_eq]
    congr 2
    rw [exs_take _ (Nat.le_of_lt him), ← takeWhile_ne him h3]
    rfl
theorem go_succ (t : Net) (u e : Nat) : Ks536.go t u (e + 1) = (((row t.links u)[e]?).map (·.1)).getD u := by
  unfold Ks536.go
  simp only [out_eq]
  cases (row t.links u)[e]? <;> rfl
theorem came_succ (t : Net) (u e : Nat) : Ks536.came t u (e + 1) = (((row t.links u)[e]?).map (·.2 + 1)).getD 0 := by
  unfold Ks536.came
  simp only [out_eq]
  cases (row t.links u)[e]? <;> rfl

/-! ## What is allowed -/
def Ok1 (n : Nat) (p : Nat × Nat) : Prop := p.1 < n ∧ p.2 < n ∧ p.1 ≠ p.2
def Apt (p q : Nat × Nat) : Prop := p ≠ q ∧ p ≠ (q.2, q.1)
def Allowed (n : Nat) (ls : List (Nat × Nat)) : Prop := (∀ p ∈ ls, Ok1 n p) ∧ ls.Pairwise Apt
instance (n : Nat) (p : Nat × Nat) : Decidable (Ok1 n p) := by unfold Ok1; infer_instance
instance (p q : Nat × Nat) : Decidable (Apt p q) := by unfold Apt; infer_instance
instance (n : Nat) (ls : List (Nat × Nat)) : Decidable (Allowed n ls) := by unfold Allowed; infer_instance
theorem allowed_nil (n : Nat) : Allowed n [] := ⟨fun _ h => (nomatch h), List.Pairwise.nil⟩
theorem allowed_snoc {n : Nat} {ls : List (Nat × Nat)} {p : Nat × Nat} : Allowed n (ls ++ [p]) ↔ Allowed n ls ∧ Ok1 n p ∧ ∀ q ∈ ls, Apt q p := by
  unfold Allowed
  constructor
  · rintro ⟨h1, h2⟩
    rw [List.pairwise_append] at h2
    exact ⟨⟨fun q hq => h1 q (List.mem_append_left _ hq), h2.1⟩, h1 p (by simp), fun q hq => h2.2.2 q hq p (by simp)⟩
  · rintro ⟨⟨h1, h2⟩, h3, h4⟩
    refine ⟨fun q hq => ?_, ?_⟩
    · rcases List.mem_append.mp hq with h | h
      · exact h1 q h
      · rw [List.mem_singleton.mp h]; exact h3
    · rw [List.pairwise_append]
      exact ⟨h2, List.pairwise_singleton _ _, fun a ha b hb => by rw [List.mem_singleton.mp hb]; exact h4 a ha⟩
theorem allowed_take {n : Nat} {ls : List (Nat × Nat)} (h : Allowed n ls) (k : Nat) : Allowed n (ls.take k) :=
  ⟨fun p hp => h.1 p (List.mem_of_mem_take hp), h.2.sublist (List.take_sublist k ls)⟩
/-- the specification's words for it -/
def specOk (n : Nat) (ls : List (Nat × Nat)) : Bool := ls.all (fun p => decide (p.1 < n) && decide (p.2 < n) && p.1 != p.2) && (List.range ls.length).all (fun i => (List.range ls.length).all fun j => i == j || match ls[i]?, ls[j]? with
  | some p, some q => !((p.1 == q.1 && p.2 == q.2) || (p.1 == q.2 && p.2 == q.1))
  | _, _ => true)
theorem apt_iff (p q : Nat × Nat) : (!((p.1 == q.1 && p.2 == q.2) || (p.1 == q.2 && p.2 == q.1))) = true ↔ Apt p q := by
  obtain ⟨a, b⟩ := p
  obtain ⟨c, d⟩ := q
  unfold Apt
  simp only [Bool.not_eq_true', Bool.or_eq_false_iff, ne_eq, Prod.mk.injEq, Bool.and_eq_false_iff, beq_eq_false_iff_ne]
  constructor
  · rintro ⟨h1, h2⟩
    exact ⟨fun z => by rcases h1 with h | h <;> simp_all, fun z => by rcases h2 with h | h <;> simp_all⟩
  · rintro ⟨h1, h2⟩
    constructor
    · by_cases e : a = c
      · exact .inr fun z => h1 ⟨e, z⟩
      · exact .inl e
    · by_cases e : a = d
      · exact .inr fun z => h2 ⟨e, z⟩
      · exact .inl e
theorem apt_symm {p q : Nat × Nat} (h : Apt p q) : Apt q p := by
  obtain ⟨a, b⟩ := p
  obtain ⟨c, d⟩ := q
  unfold Apt at *
  refine ⟨fun e => h.1 e.symm, fun e => h.2 ?_⟩
  simp only [Prod.mk.injEq] at *
  exact ⟨e.2.symm, e.1.symm⟩
theorem specOk_iff (n : Nat) (ls : List (Nat × Nat)) : specOk n ls = true ↔ Allowed n ls := by
  unfold specOk Allowed
  rw [Bool.and_eq_true, List.all_eq_true, List.all_eq_true, List.pairwise_iff_getElem]
  refine and_congr ?_ ?_
  · refine forall_congr' fun p => forall_congr' fun _ => ?_
    unfold Ok1
    simp [and_assoc]
  · constructor
    · intro h i j hi hj hij
      have := List.all_eq_true.mp (h i (List.mem_range.mpr hi)) j (List.mem_range.mpr hj)
      rw [List.getElem?_eq_getElem hi, List.getElem?_eq_getElem hj] at this
      have ne : (i == j) = false := by simp; omega
      rw [ne, Bool.false_or] at this
      exact (apt_iff _ _).mp this
    · intro h i hi
      rw [List.all_eq_true]
      intro j hj
      have hi' := List.mem_range.mp hi
      have hj' := List.mem_range.mp hj
      rw [List.getElem?_eq_getElem hi', List.getElem?_eq_getElem hj']
      rcases Nat.lt_trichotomy i j with c | c | c
      · rw [Bool.or_eq_true]; right
        exact (apt_iff _ _).mpr (h i j hi' hj' c)
      · subst c; simp
      · rw [Bool.or_eq_true]; right
        exact (apt_iff _ _).mpr (apt_symm (h j i hj' hi' c))

/-! ## The links of a list -/
def prs : List Nat → List (Nat × Nat)
  | a :: b :: r => (a, b) :: prs r
  | _ => []
theorem linksOf_eq : ∀ l : List Nat, Ks536.linksOf l = if l.length % 2 = 0 then some (prs l) else none
  | [] => rfl
  | [_] => rfl
  | a :: b :: r => by
    have ih := linksOf_eq r
    have e : (a :: b :: r).length % 2 = r.length % 2 := by
      simp only [List.length_cons]; omega
    rw [e]
    show (Ks536.linksOf r).map (fun z => (a, b) :: z) = _
    rw [ih]
    by_cases c : r.length % 2 = 0
    · rw [if_pos c, if_pos c]; rfl
    · rw [if_neg c, if_neg c]; rfl
theorem prs_length : ∀ l : List Nat, (prs l).length = l.length / 2
  | [] => rfl
  | [_] => by simp [prs]
  | a :: b :: r => by
    have ih := prs_length r
    show (prs r).length + 1 = (r.length + 1 + 1) / 2
    rw [ih]; omega
theorem prs_get : ∀ (l : List Nat) (i : Nat) (a b : Nat), l[2 * i]? = some a → l[2 * i + 1]? = some b → (prs l)[i]? = some (a, b)
  | [], _, _, _, h, _ => by simp at h
  | [_], 0, _, _, _, h => by simp at h
  | [_], i + 1, _, _, h, _ => by
    rw [show 2 * (i + 1) = 2 * i + 1 + 1 by omega] at h
    simp at h
  | x :: y :: r, 0, a, b, h1, h2 => by
    have e1 : x = a := Option.some.inj h1
    have e2 : y = b := Option.some.inj h2
    rw [e1, e2]; rfl
  | x :: y :: r, i + 1, a, b, h1, h2 => prs_get r i a b h1 h2

/-! ## Hanging together -/
def pass1 (r : List Bool) (p : Nat × Nat) : List Bool := if r.getD p.1 false || r.getD p.2 false then (r.set p.1 true).set p.2 true else r
def pass (ls : List (Nat × Nat)) (r : List Bool) : List Bool := ls.foldl pass1 r
def rounds (ls : List (Nat × Nat)) : Nat → List Bool → List Bool
  | 0, r => r
  | k + 1, r => pass ls (rounds ls k r)
def reach0 (n : Nat) : List Bool := (List.range n).map fun i => decide (i = 0)
def hangs (n : Nat) (ls : List (Nat × Nat)) : Bool := (rounds ls n (reach0 n)).all id
theorem pass1_length (r : List Bool) (p : Nat × Nat) : (pass1 r p).length = r.length := by
  unfold pass1
  split <;> simp
theorem pass_length : ∀ (ls : List (Nat × Nat)) (r : List Bool), (pass ls r).length = r.length
  | [], _ => rfl
  | p :: ls, r => by
    show (pass ls (pass1 r p)).length = r.length
    rw [pass_length ls, pass1_length]
theorem rounds_length (ls : List (Nat × Nat)) : ∀ (k : Nat) (r : List Bool), (rounds ls k r).length = r.length
  | 0, _ => rfl
  | k + 1, r => by
    show (pass ls (rounds ls k r)).length = r.length
    rw [pass_length, rounds_length ls k]
theorem getD_set (r : List Bool) (i j : Nat) : (r.set i true).getD j false = if i = j ∧ j < r.length then true else r.getD j false := by
  rw [List.getD_eq_getElem?_getD, List.getD_eq_getElem?_getD, List.getElem?_set]
  by_cases c : i = j
  · subst c
    by_cases d : i < r.length
    · simp [d]
    · simp [d]
  · simp [c]
/-- what is reached stays so -/
theorem pass1_mono (r : List Bool) (p : Nat × Nat) (v : Nat) (h : r.getD v false = true) : (pass1 r p).getD v false = true := by
  unfold pass1
  split
  · rw [getD_set, getD_set]
    split
    · rfl
    · split
      · rfl
      · exact h
  · exact h
theorem pass_mono : ∀ (ls : List (Nat × Nat)) (r : List Bool) (v : Nat), r.getD v false = true → (pass ls r).getD v false = true
  | [], _, _, h => h
  | p :: ls, r, v, h => pass_mono ls _ v (pass1_mono r p v h)
/-- two are neighbours -/
def Nb (ls : List (Nat × Nat)) (u w : Nat) : Prop := ∃ p ∈ ls, (p.1 = u ∧ p.2 = w) ∨ (p.2 = u ∧ p.1 = w)
theorem pass_nb : ∀ (ls : List (Nat × Nat)) (r : List Bool) (u w : Nat), w < r.length → Nb ls u w → r.getD u false = true → (pass ls r).getD w false = true
  | [], _, _, _, _, ⟨_, h, _⟩, _ => nomatch h
  | p :: ls, r, u, w, hw, ⟨q, hq, hn⟩, h => by
    show (pass ls (pass1 r p)).getD w false = true
    rcases List.mem_cons.mp hq with e | e
    · subst e
      apply pass_mono
      unfold pass1
      rcases hn with ⟨e1, e2⟩ | ⟨e1, e2⟩
      · rw [e1, e2, h, Bool.true_or, if_pos rfl, getD_set, if_pos ⟨rfl, by simpa using hw⟩]
      · rw [e1, e2, h, Bool.or_true, if_pos rfl, getD_set]
        split
        · rfl
        · rw [getD_set, if_pos ⟨rfl, hw⟩]
    · exact pass_nb ls _ u w (by rw [pass1_length]; exact hw) ⟨q, e, hn⟩ (pass1_mono r p u h)
/-- a closed set holds all that is reached -/
def Closed (ls : List (Nat × Nat)) (C : Nat → Prop) : Prop := ∀ u w, Nb ls u w → C u → C w
theorem pass1_in {C : Nat → Prop} (r : List Bool) (p : Nat × Nat) (h1 : C p.1 → C p.2) (h2 : C p.2 → C p.1) (h : ∀ v, r.getD v false = true → C v) (v : Nat) (hv : (pass1 r p).getD v false = true) : C v := by
  unfold pass1 at hv
  split at hv
  · rename_i c
    have both : C p.1 ∧ C p.2 := by
      rcases (Bool.or_eq_true _ _).mp c with c | c
      · exact ⟨h _ c, h1 (h _ c)⟩
      · exact ⟨h2 (h _ c), h _ c⟩
    rw [getD_set] at hv
    split at hv
    · rename_i d; rw [← d.1]; exact both.2
    · rw [getD_set] at hv
      split at hv
      · rename_i d; rw [← d.1]; exact both.1
      · exact h v hv
  · exact h v hv
theorem pass_in {C : Nat → Prop} : ∀ (ls : List (Nat × Nat)) (r : List Bool), Closed ls C → (∀ v, r.getD v false = true → C v) → ∀ v, (pass ls r).getD v false = true → C v
  | [], _, _, h, v, hv => h v hv
  | p :: ls, r, hc, h, v, hv => by
    refine pass_in ls (pass1 r p) (fun u w ⟨q, hq, hn⟩ => hc u w ⟨q, List.mem_cons_of_mem _ hq, hn⟩) ?_ v hv
    exact pass1_in r p (hc p.1 p.2 ⟨p, by simp, .inl ⟨rfl, rfl⟩⟩) (hc p.2 p.1 ⟨p, by simp, .inr ⟨rfl, rfl⟩⟩) h
theorem rounds_in {C : Nat → Prop} (ls : List (Nat × Nat)) (hc : Closed ls C) (r : List Bool) (h : ∀ v, r.getD v false = true → C v) : ∀ k v, (rounds ls k r).getD v false = true → C v
  | 0, v, hv => h v hv
  | k + 1, v, hv => pass_in ls _ hc (rounds_in ls hc r h k) v hv
theorem reach0_get (n v : Nat) : (reach0 n).getD v false = true ↔ v = 0 ∧ v < n := by
  unfold reach0
  rw [List.getD_eq_getElem?_getD, List.getElem?_map]
  by_cases c : v < n
  · rw [List.getElem?_range c]
    simp [c]
  · rw [List.getElem?_eq_none (by simp; omega)]
    simp [c]
/-- the specification's rounds -/
def nxt (t : Net) (l : List Nat) : List Nat := (List.range t.n).filter fun w => l.contains w || l.any fun u => (List.range (Ks536.degree t u)).any fun e => Ks536.go t u (e + 1) == w
def balls (t : Net) : Nat → List Nat → List Nat
  | 0, l => l
  | k + 1, l => nxt t (balls t k l)
theorem balls_succ' (t : Net) : ∀ (k : Nat) (l : List Nat), balls t (k + 1) l = balls t k (nxt t l)
  | 0, _ => rfl
  | k + 1, l => by
    show nxt t (balls t (k + 1) l) = nxt t (balls t k (nxt t l))
    rw [balls_succ' t k l]
theorem dist_some (t : Net) : ∀ (f : Nat) (l : List Nat) (v : Nat), (Ks536.dist t f l v).isSome = true ↔ ∃ k, k ≤ f ∧ v ∈ balls t k l
  | 0, l, v => by
    unfold Ks536.dist
    by_cases c : l.contains v = true
    · rw [if_pos c]
      exact ⟨fun _ => ⟨0, Nat.le_refl _, List.contains_iff_mem.mp c⟩, fun _ => rfl⟩
    · rw [if_neg c]
      refine ⟨fun h => (nomatch h), fun ⟨k, hk, hv⟩ => ?_⟩
      have : k = 0 := by omega
      subst this
      exact absurd (List.contains_iff_mem.mpr hv) c
  | f + 1, l, v => by
    unfold Ks536.dist
    by_cases c : l.contains v = true
    · rw [if_pos c]
      exact ⟨fun _ => ⟨0, Nat.zero_le _, List.contains_iff_mem.mp c⟩, fun _ => rfl⟩
    · rw [if_neg c, Option.isSome_map]
      have ih := dist_some t f (nxt t l) v
      refine Iff.trans ih ⟨fun ⟨k, hk, hv⟩ => ⟨k + 1, by omega, by rw [balls_succ']; exact hv⟩, fun ⟨k, hk, hv⟩ => ?_⟩
      cases k with
      | zero => exact absurd (List.contains_iff_mem.mpr hv) c
      | succ k => exact ⟨k, by omega, by rw [← balls_succ']; exact hv⟩
theorem mem_exs {ls : List (Nat × Nat)} {u i : Nat} : i ∈ exs ls u ↔ ∃ p, ls[i]? = some p ∧ touch p u = true := by
  rw [exs_def, List.mem_filter, List.mem_range]
  constructor
  · rintro ⟨h1, h2⟩
    have e : ls[i]? = some ls[i] := List.getElem?_eq_getElem h1
    exact ⟨_, e, by rw [← touchAt_some e]; exact h2⟩
  · rintro ⟨p, h1, h2⟩
    exact ⟨(List.getElem?_eq_some_iff.mp h1).1, by rw [touchAt_some h1]; exact h2⟩
theorem goes_iff {n : Nat} {ls : List (Nat × Nat)} (h : ∀ p ∈ ls, Ok1 n p) (u w : Nat) : ((List.range (Ks536.degree ⟨n, ls⟩ u)).any fun e => Ks536.go ⟨n, ls⟩ u (e + 1) == w) = true ↔ Nb ls u w := by
  rw [List.any_eq_true]
  simp only [List.mem_range, beq_iff_eq, degree_eq, go_succ]
  constructor
  · rintro ⟨e, he, hw⟩
    rw [List.getElem?_eq_getElem he] at hw
    have hm : (row ls u)[e] ∈ row ls u := List.getElem_mem he
    unfold row at hm
    obtain ⟨i, hi, hie⟩ := List.mem_map.mp hm
    obtain ⟨p, hp, ht⟩ := mem_exs.mp hi
    have hw' : (row ls u)[e].1 = w := hw
    have hend : oth p u = w := by
      rw [← endAt_some (u := u) hp, ← hw']
      exact congrArg Prod.fst hie
    refine ⟨p, List.mem_of_getElem? hp, ?_⟩
    unfold touch at ht
    unfold oth at hend
    simp only [Bool.or_eq_true, beq_iff_eq] at ht
    split at hend
    · rename_i c; exact .inl ⟨c, hend⟩
    · rename_i c
      rcases ht with ht | ht
      · exact absurd ht c
      · exact .inr ⟨ht, hend⟩
  · rintro ⟨p, hp, hn⟩
    obtain ⟨i, hi, hpi⟩ := List.getElem_of_mem hp
    have hp' : ls[i]? = some p := by rw [List.getElem?_eq_getElem hi, hpi]
    have ht : touch p u = true := by
      unfold touch
      simp only [Bool.or_eq_true, beq_iff_eq]
      rcases hn with ⟨a, _⟩ | ⟨a, _⟩
      · exact .inl a
      · exact .inr a
    have ho : oth p u = w := by
      unfold oth
      have := (h p hp).2.2
      rcases hn with ⟨a, b⟩ | ⟨a, b⟩
      · rw [if_pos a]; exact b
      · rw [if_neg (by rw [← a]; exact this)]; exact b
    have hm : (endAt ls i u, (exs (ls.take i) (endAt ls i u)).length) ∈ row ls u := List.mem_map.mpr ⟨i, mem_exs.mpr ⟨p, hp', ht⟩, rfl⟩
    obtain ⟨e, he, hee⟩ := List.getElem_of_mem hm
    refine ⟨e, he, ?_⟩
    rw [List.getElem?_eq_getElem he, hee]
    show endAt ls i u = w
    rw [endAt_some hp', ho]
theorem mem_nxt {n : Nat} {ls : List (Nat × Nat)} (h : ∀ p ∈ ls, Ok1 n p) (l : List Nat) (w : Nat) : w ∈ nxt ⟨n, ls⟩ l ↔ w < n ∧ (w ∈ l ∨ ∃ u ∈ l, Nb ls u w) := by
  unfold nxt
  rw [List.mem_filter, List.mem_range, Bool.or_eq_true, List.contains_iff_mem, List.any_eq_true]
  refine and_congr Iff.rfl (or_congr Iff.rfl ?_)
  exact exists_congr fun u => and_congr Iff.rfl (goes_iff h u w)
theorem nb_lt {n : Nat} {ls : List (Nat × Nat)} (h : ∀ p ∈ ls, Ok1 n p) {u w : Nat} (hn : Nb ls u w) : w < n := by
  obtain ⟨p, hp, hn⟩ := hn
  have := h p hp
  rcases hn with ⟨_, b⟩ | ⟨_, b⟩
  · rw [← b]; exact this.2.1
  · rw [← b]; exact this.1
theorem countP_le {p q : Nat → Bool} : ∀ {l : List Nat}, (∀ x ∈ l, p x = true → q x = true) → l.countP p ≤ l.countP q
  | [], _ => Nat.le_refl _
  | a :: l, h => by
    have ih := countP_le (l := l) fun x hx => h x (List.mem_cons_of_mem _ hx)
    have ha := h a (by simp)
    rw [List.countP_cons, List.countP_cons]
    cases hp : p a
    · simp; omega
    · rw [ha hp]; simp; omega
theorem countP_eq {p q : Nat → Bool} : ∀ {l : List Nat}, (∀ x ∈ l, p x = true → q x = true) → l.countP q ≤ l.countP p → ∀ x ∈ l, q x = true → p x = true
  | [], _, _, _, hx, _ => nomatch hx
  | a :: l, h, hc, x, hx, hq => by
    have hm := countP_le (l := l) fun x hx => h x (List.mem_cons_of_mem _ hx)
    have ha := h a (by simp)
    rw [List.countP_cons, List.countP_cons] at hc
    have hl : l.countP q ≤ l.countP p := by
      cases hp : p a
      · cases hq : q a
        · rw [hp, hq] at hc; simpa using hc
        · rw [hp, hq] at hc; simp at hc; omega
      · rw [hp, ha hp] at hc; simp at hc; omega
    rcases List.mem_cons.mp hx with e | e
    · subst e
      cases hp : p x
      · rw [hp, hq] at hc; simp at hc; omega
      · rfl
    · exact countP_eq (l := l) (fun x hx => h x (List.mem_cons_of_mem _ hx)) hl x e hq
theorem balls_lt {n : Nat} {ls : List (Nat × Nat)} (h : ∀ p ∈ ls, Ok1 n p) (hn : 1 ≤ n) : ∀ (k v : Nat), v ∈ balls ⟨n, ls⟩ k [0] → v < n
  | 0, v, hv => by
    have : v = 0 := List.mem_singleton.mp hv
    omega
  | k + 1, v, hv => ((mem_nxt h _ _).mp hv).1
theorem balls_mono {n : Nat} {ls : List (Nat × Nat)} (h : ∀ p ∈ ls, Ok1 n p) (hn : 1 ≤ n) (k v : Nat) (hv : v ∈ balls ⟨n, ls⟩ k [0]) : v ∈ balls ⟨n, ls⟩ (k + 1) [0] :=
  (mem_nxt h _ _).mpr ⟨balls_lt h hn k v hv, .inl hv⟩
theorem balls_le {n : Nat} {ls : List (Nat × Nat)} (h : ∀ p ∈ ls, Ok1 n p) (hn : 1 ≤ n) (v : Nat) {j : Nat} : ∀ {k : Nat}, j ≤ k → v ∈ balls ⟨n, ls⟩ j [0] → v ∈ balls ⟨n, ls⟩ k [0]
  | 0, hk, hv => by
    have : j = 0 := by omega
    subst this; exact hv
  | k + 1, hk, hv => by
    by_cases c : j = k + 1
    · rw [← c]; exact hv
    · exact balls_mono h hn k v (balls_le h hn v (by omega) hv)
/-- within n rounds nothing more is reached -/
theorem grows {n : Nat} {ls : List (Nat × Nat)} (h : ∀ p ∈ ls, Ok1 n p) (hn : 1 ≤ n) : ∀ k : Nat, k + 1 ≤ (List.range n).countP (fun v => (balls ⟨n, ls⟩ k [0]).contains v) ∨ ∃ j, j < k ∧ ∀ v, v ∈ balls ⟨n, ls⟩ (j + 1) [0] → v ∈ balls ⟨n, ls⟩ j [0]
  | 0 => by
    left
    have : 0 < (List.range n).countP (fun v => (balls ⟨n, ls⟩ 0 [0]).contains v) := by
      rw [List.countP_pos_iff]
      exact ⟨0, List.mem_range.mpr hn, rfl⟩
    omega
  | k + 1 => by
    rcases grows h hn k with ih | ⟨j, hj, hs⟩
    · have mono : ∀ x ∈ List.range n, (balls ⟨n, ls⟩ k [0]).contains x = true → (balls ⟨n, ls⟩ (k + 1) [0]).contains x = true := fun x _ hx =>
        List.contains_iff_mem.mpr (balls_mono h hn k x (List.contains_iff_mem.mp hx))
      by_cases c : (List.range n).countP (fun v => (balls ⟨n, ls⟩ (k + 1) [0]).contains v) ≤ (List.range n).countP (fun v => (balls ⟨n, ls⟩ k [0]).contains v)
      · right
        refine ⟨k, by omega, fun v hv => ?_⟩
        exact List.contains_iff_mem.mp (countP_eq mono c v (List.mem_range.mpr (balls_lt h hn _ v hv)) (List.contains_iff_mem.mpr hv))
      · left
        omega
    · exact .inr ⟨j, by omega, hs⟩
theorem stays {n : Nat} {ls : List (Nat × Nat)} (h : ∀ p ∈ ls, Ok1 n p) {j : Nat} (hs : ∀ v, v ∈ balls ⟨n, ls⟩ (j + 1) [0] → v ∈ balls ⟨n, ls⟩ j [0]) : ∀ k v, v ∈ balls ⟨n, ls⟩ (j + k) [0] → v ∈ balls ⟨n, ls⟩ j [0]
  | 0, _, hv => hv
  | k + 1, v, hv => by
    apply hs
    have hv' := (mem_nxt h _ _).mp hv
    refine (mem_nxt h _ _).mpr ⟨hv'.1, ?_⟩
    rcases hv'.2 with a | ⟨u, hu, hb⟩
    · exact .inl (stays h hs k v a)
    · exact .inr ⟨u, stays h hs k u hu, hb⟩
theorem ball_closed {n : Nat} {ls : List (Nat × Nat)} (h : ∀ p ∈ ls, Ok1 n p) (hn : 1 ≤ n) : Closed ls (fun v => v ∈ balls ⟨n, ls⟩ n [0]) := by
  rcases grows h hn n with g | ⟨j, hj, hs⟩
  · have : (List.range n).countP (fun v => (balls ⟨n, ls⟩ n [0]).contains v) ≤ n := by
      refine Nat.le_trans List.countP_le_length ?_
      rw [List.length_range]
      exact Nat.le_refl n
    omega
  · intro u w hb hu
    have hu' : u ∈ balls ⟨n, ls⟩ j [0] := stays h hs (n - j) u (by rw [show j + (n - j) = n by omega]; exact hu)
    have hw : w ∈ balls ⟨n, ls⟩ (j + 1) [0] := (mem_nxt h _ _).mpr ⟨nb_lt h hb, .inr ⟨u, hu', hb⟩⟩
    exact balls_le h hn w (by omega) hw
theorem rounds_ball {n : Nat} {ls : List (Nat × Nat)} (h : ∀ p ∈ ls, Ok1 n p) (hn : 1 ≤ n) : ∀ k v, v ∈ balls ⟨n, ls⟩ k [0] → (rounds ls k (reach0 n)).getD v false = true
  | 0, v, hv => (reach0_get n v).mpr ⟨List.mem_singleton.mp hv, by have := List.mem_singleton.mp hv; omega⟩
  | k + 1, v, hv => by
    have hv' := (mem_nxt h _ _).mp hv
    show (pass ls (rounds ls k (reach0 n))).getD v false = true
    rcases hv'.2 with a | ⟨u, hu, hb⟩
    · exact pass_mono ls _ v (rounds_ball h hn k v a)
    · refine pass_nb ls _ u v ?_ hb (rounds_ball h hn k u hu)
      rw [rounds_length]
      unfold reach0
      simpa using hv'.1
theorem hangs_iff {n : Nat} {ls : List (Nat × Nat)} : hangs n ls = true ↔ ∀ v, v < n → (rounds ls n (reach0 n)).getD v false = true := by
  unfold hangs
  have hl : (rounds ls n (reach0 n)).length = n := by
    rw [rounds_length]; unfold reach0; simp
  rw [List.all_eq_true]
  constructor
  · intro h v hv
    rw [List.getD_eq_getElem?_getD, List.getElem?_eq_getElem (by rw [hl]; exact hv)]
    exact h _ (List.getElem_mem _)
  · intro h x hx
    obtain ⟨v, hv, rfl⟩ := List.getElem_of_mem hx
    have := h v (by rw [hl] at hv; exact hv)
    rw [List.getD_eq_getElem?_getD, List.getElem?_eq_getElem hv] at this
    exact this
theorem joined_eq {n : Nat} {ls : List (Nat × Nat)} (h : ∀ p ∈ ls, Ok1 n p) (hn : 1 ≤ n) : Ks536.joined ⟨n, ls⟩ = hangs n ls := by
  rw [Bool.eq_iff_iff, hangs_iff]
  unfold Ks536.joined Ks536.distance
  rw [List.all_eq_true]
  simp only [List.mem_range, dist_some]
  constructor
  · intro g v hv
    obtain ⟨k, hk, hb⟩ := g v hv
    exact rounds_ball h hn n v (balls_le h hn v hk hb)
  · intro g v hv
    refine ⟨n, Nat.le_refl _, ?_⟩
    refine rounds_in (C := fun v => v ∈ balls ⟨n, ls⟩ n [0]) ls (ball_closed h hn) (reach0 n) (fun v hv => ?_) n v (g v hv)
    have e : v = 0 := ((reach0_get n v).mp hv).1
    subst e
    exact balls_le h hn 0 (Nat.zero_le n) (List.mem_singleton.mpr rfl)

/-! ## What is a net -/
/-- as the program asks it -/
def isNet (n : Nat) (l : List Nat) : Bool := decide (1 ≤ n ∧ n ≤ 7) && (decide (l.length % 2 = 0 ∧ l.length ≤ 20) && (decide (Allowed n (prs l)) && hangs n (prs l)))
theorem okNet_eq (n : Nat) (ls : List (Nat × Nat)) : Ks536.okNet ⟨n, ls⟩ = (decide (1 ≤ n) && decide (n ≤ 7) && decide (ls.length ≤ 10) && (decide (Allowed n ls) && Ks536.joined ⟨n, ls⟩)) := by
  have e : Ks536.okNet ⟨n, ls⟩ = (decide (1 ≤ n) && decide (n ≤ 7) && decide (ls.length ≤ 10) && ls.all (fun p => decide (p.1 < n) && decide (p.2 < n) && p.1 != p.2) && (List.range ls.length).all (fun i => (List.range ls.length).all fun j => i == j || match ls[i]?, ls[j]? with
      | some p, some q => !((p.1 == q.1 && p.2 == q.2) || (p.1 == q.2 && p.2 == q.1))
      | _, _ => true) && Ks536.joined ⟨n, ls⟩) := rfl
  have s : specOk n ls = decide (Allowed n ls) := by
    rw [Bool.eq_iff_iff, specOk_iff, decide_eq_true_iff]
  rw [e, ← s]
  unfold specOk
  simp only [Bool.and_assoc]
theorem netOf_eq (n : Nat) (l : List Nat) : Ks536.netOf n l = if isNet n l = true then some ⟨n, prs l⟩ else none := by
  unfold Ks536.netOf
  by_cases c1 : n < 1 ∨ Ks536.NODES < n
  · rw [if_pos c1, if_neg]
    unfold isNet
    have : ¬ (1 ≤ n ∧ n ≤ 7) := by
      unfold Ks536.NODES at c1; omega
    rw [decide_eq_false this, Bool.false_and]
    exact Bool.false_ne_true
  · rw [if_neg c1, linksOf_eq]
    have c1' : 1 ≤ n ∧ n ≤ 7 := by
      unfold Ks536.NODES at c1; omega
    by_cases c2 : l.length % 2 = 0
    · rw [if_pos c2]
      show (if Ks536.LINKS < (prs l).length then none else if Ks536.okNet ⟨n, prs l⟩ = true then some (⟨n, prs l⟩ : Net) else none) = _
      rw [prs_length]
      by_cases c3 : l.length ≤ 20
      · have c3' : ¬ Ks536.LINKS < l.length / 2 := by
          unfold Ks536.LINKS; omega
        rw [if_neg c3', okNet_eq, prs_length]
        unfold isNet
        rw [decide_eq_true c1', decide_eq_true c1'.1, decide_eq_true c1'.2, decide_eq_true (And.intro c2 c3), decide_eq_true (show l.length / 2 ≤ 10 by omega)]
        simp only [Bool.true_and, Bool.and_true]
        by_cases c4 : Allowed n (prs l)
        · rw [joined_eq c4.1 c1'.1]
        · rw [decide_eq_false c4, Bool.false_and, Bool.false_and]
      · have c3' : Ks536.LINKS < l.length / 2 := by
          unfold Ks536.LINKS; omega
        rw [if_pos c3', if_neg]
        unfold isNet
        rw [decide_eq_false (fun z : l.length % 2 = 0 ∧ l.length ≤ 20 => c3 z.2), Bool.false_and, Bool.and_false]
        exact Bool.false_ne_true
    · rw [if_neg c2, if_neg]
      unfold isNet
      rw [decide_eq_false (fun z : l.length % 2 = 0 ∧ l.length ≤ 20 => c2 z.1), Bool.false_and, Bool.and_false]
      exact Bool.false_ne_true
theorem isNet_iff {n : Nat} {l : List Nat} : isNet n l = true ↔ (1 ≤ n ∧ n ≤ 7) ∧ (l.length % 2 = 0 ∧ l.length ≤ 20) ∧ Allowed n (prs l) ∧ hangs n (prs l) = true := by
  unfold isNet
  simp only [Bool.and_eq_true, decide_eq_true_iff]
end Wp
namespace Wp
open Ks536 (Net)
/-! ## What is seen -/
/-- where the pebble is, as the program tells it -/
def peb : Option Nat → Nat
  | none => 0
  | some v => v + 1
theorem seen_snoc (t : Net) : ∀ (w : List Nat) (s : Ks539.Stand) (x : Nat), Ks539.seen t s (w ++ [x]) = Ks539.seen t s w ++ Ks539.in_ t (Ks539.run t s w) x :: Ks539.look t (Ks539.step t (Ks539.run t s w) x)
  | [], s, x => rfl
  | y :: w, s, x => by
    have ih := seen_snoc t w (Ks539.step t s y) x
    show Ks539.look t s ++ Ks539.in_ t s y :: Ks539.seen t (Ks539.step t s y) (w ++ [x]) = (Ks539.look t s ++ Ks539.in_ t s y :: Ks539.seen t (Ks539.step t s y) w) ++ _
    rw [ih]
    simp only [List.append_assoc, List.cons_append]
    rfl
theorem run_snoc (t : Net) : ∀ (w : List Nat) (s : Ks539.Stand) (x : Nat), Ks539.run t s (w ++ [x]) = Ks539.step t (Ks539.run t s w) x
  | [], _, _ => rfl
  | y :: w, s, x => run_snoc t w (Ks539.step t s y) x
theorem look_length (t : Net) (s : Ks539.Stand) : (Ks539.look t s).length = 2 := rfl
theorem seen_length (t : Net) : ∀ (w : List Nat) (s : Ks539.Stand), (Ks539.seen t s w).length = 2 + 3 * w.length
  | [], _ => rfl
  | y :: w, s => by
    show (Ks539.look t s ++ Ks539.in_ t s y :: Ks539.seen t (Ks539.step t s y) w).length = _
    rw [List.length_append, List.length_cons, seen_length t w, look_length, List.length_cons]
    omega
/-- one step stays in the net -/
theorem row_lt {n : Nat} {ls : List (Nat × Nat)} (h : ∀ p ∈ ls, Ok1 n p) {u e : Nat} {p : Nat × Nat} (hp : (row ls u)[e]? = some p) : p.1 < n := by
  have hm := List.mem_of_getElem? hp
  unfold row at hm
  obtain ⟨i, hi, rfl⟩ := List.mem_map.mp hm
  obtain ⟨q, hq, ht⟩ := mem_exs.mp hi
  show endAt ls i u < n
  rw [endAt_some hq]
  have := h q (List.mem_of_getElem? hq)
  unfold oth
  split
  · exact this.2.1
  · exact this.1
theorem step_lt {n : Nat} {ls : List (Nat × Nat)} (h : ∀ p ∈ ls, Ok1 n p) (s : Ks539.Stand) (hs : s.u < n) (x : Nat) : (Ks539.step ⟨n, ls⟩ s x).u < n := by
  unfold Ks539.step
  split
  · exact hs
  · split <;> exact hs
  · split <;> exact hs
  · rename_i e
    show Ks536.go ⟨n, ls⟩ s.u (e + 1) < n
    rw [go_succ]
    cases hr : (row ls s.u)[e]? with
    | none => exact hs
    | some p => exact row_lt h hr
theorem run_lt {n : Nat} {ls : List (Nat × Nat)} (h : ∀ p ∈ ls, Ok1 n p) : ∀ (w : List Nat) (s : Ks539.Stand), s.u < n → (Ks539.run ⟨n, ls⟩ s w).u < n
  | [], _, hs => hs
  | x :: w, s, hs => run_lt h w _ (step_lt h s hs x)
theorem take_more {α : Type} {l : List α} {i : Nat} {x : α} (h : l[i]? = some x) : l.take (i + 1) = l.take i ++ [x] := by
  rw [List.take_add_one, h]; rfl
/-- the refusal that is due, or 0 -/
def refusal (n u : Nat) (net word : List Nat) : Int := if isNet n net = true then (if n ≤ u then -2 else if 30 < word.length then -22 else 0) else -22
def ansSeen (n u : Nat) (net word : List Nat) : List Int := if refusal n u net word = 0 then ((Ks539.seen ⟨n, prs net⟩ (Ks539.start u) word).length : Int) :: (Ks539.seen ⟨n, prs net⟩ (Ks539.start u) word).map Int.ofNat else [refusal n u net word]
theorem seen_spec (n u : Nat) (net word : List Nat) : Ks539Neutral.out (Ks539.answer (.seen n u net word)) = ansSeen n u net word := by
  unfold ansSeen refusal
  show Ks539Neutral.out (Ks536.net n net fun t => if n ≤ u then Ks539.no (-2) else if Ks536.LONG < word.length then Ks539.no (-22) else Ks536.rows (Ks539.seen t (Ks539.start u) word)) = _
  unfold Ks536.net
  rw [netOf_eq]
  by_cases c : isNet n net = true
  · rw [if_pos c, if_pos c]
    show Ks539Neutral.out (if n ≤ u then Ks539.no (-2) else if Ks536.LONG < word.length then Ks539.no (-22) else Ks536.rows (Ks539.seen ⟨n, prs net⟩ (Ks539.start u) word)) = _
    by_cases c2 : n ≤ u
    · rw [if_pos c2, if_pos c2]; rfl
    · rw [if_neg c2, if_neg c2]
      unfold Ks536.LONG
      by_cases c3 : 30 < word.length
      · rw [if_pos c3, if_pos c3]; rfl
      · rw [if_neg c3, if_neg c3]; rfl
  · rw [if_neg c, if_neg c]; rfl
theorem seen_is (n u : Int) (net word : List Int) : PyKs539.seen n u net word = ansSeen n.toNat u.toNat (net.map Int.toNat) (word.map Int.toNat) := by
  rw [← seen_spec]; rfl
end Wp
namespace Wp
open PySem PySem.Spec PyProof.Rows L2
/-! ## The text, and what its top has written -/
def topS (i : Nat) : Stmt := PySem.Challenge.pw_withpebble_s02_run.main.body.getD i (.Pass ⟨0, 0, 0, 0⟩)
abbrev s_run : Stmt := topS 13
abbrev s_refusal : Stmt := topS 14
abbrev s_is_net : Stmt := topS 15
abbrev s_links_of : Stmt := topS 16
abbrev s_links_are_allowed : Stmt := topS 17
abbrev s_hang_together : Stmt := topS 18
abbrev s_exits_of_places : Stmt := topS 19
abbrev s_steps_by : Stmt := topS 20
abbrev s_step_by : Stmt := topS 21
structure Txt (mg : Str → Option Value) : Prop where
  c_NOT_A_NET : ∃ t, mg "NOT_A_NET" = some (.int (-22) t)
  c_NO_PLACE : ∃ t, mg "NO_PLACE" = some (.int (-2) t)
  c_WORD_TOO_LONG : ∃ t, mg "WORD_TOO_LONG" = some (.int (-22) t)
  c_NOT_REFUSED : ∃ t, mg "NOT_REFUSED" = some (.int 0 t)
  c_MOST_PLACES : ∃ t, mg "MOST_PLACES" = some (.int 7 t)
  c_MOST_LINKS : ∃ t, mg "MOST_LINKS" = some (.int 10 t)
  c_MOST_LETTERS : ∃ t, mg "MOST_LETTERS" = some (.int 30 t)
  c_PUT_DOWN : ∃ t, mg "PUT_DOWN" = some (.int 1 t)
  c_TAKE_UP : ∃ t, mg "TAKE_UP" = some (.int 2 t)
  c_FIRST_EXIT : ∃ t, mg "FIRST_EXIT" = some (.int 3 t)
  c_CARRIED : ∃ t, mg "CARRIED" = some (.int 0 t)
  c_DID_NOT_GO : ∃ t, mg "DID_NOT_GO" = some (.int 0 t)
  b_len : mg "len" = none
  b_range : mg "range" = none
  b_all : mg "all" = none
/-- a def of the text, found by its name -/
structure Dfn (K : PySem.W.Frag) (mg : Str → Option Value) (x : Str) (st : Stmt) (ps : List Str) (f : Addr) (fd : FuncData) : Prop where
  F : Fun K x x st f fd
  g : mg x = some (.ref f)
  b : Binds K fd ps []
end Wp
namespace Wp
open Ks536 (Net)
open Ks539 (Stand Two)
/-! ## Steps by a word -/
def trip (t : Net) (s : Stand) (x : Nat) : Nat × Nat × Nat := ((Ks539.step t s x).u, peb (Ks539.step t s x).p, Ks539.in_ t s x)
def behind (t : Net) : Stand → List Nat → List (Nat × Nat × Nat)
  | _, [] => []
  | s, x :: w => trip t s x :: behind t (Ks539.step t s x) w
def stepsL (c : Nat) (t : Net) (s : Stand) (w : List Nat) : List (Nat × Nat × Nat) := (s.u, peb s.p, c) :: behind t s w
theorem behind_snoc (t : Net) : ∀ (w : List Nat) (s : Stand) (x : Nat), behind t s (w ++ [x]) = behind t s w ++ [trip t (Ks539.run t s w) x]
  | [], _, _ => rfl
  | y :: w, s, x => by
    show trip t s y :: behind t (Ks539.step t s y) (w ++ [x]) = _
    rw [behind_snoc t w]
    rfl
theorem behind_length (t : Net) : ∀ (w : List Nat) (s : Stand), (behind t s w).length = w.length
  | [], _ => rfl
  | y :: w, s => by
    show (behind t (Ks539.step t s y) w).length + 1 = w.length + 1
    rw [behind_length t w]
theorem stepsL_length (c : Nat) (t : Net) (s : Stand) (w : List Nat) : (stepsL c t s w).length = w.length + 1 := by
  show (behind t s w).length + 1 = _
  rw [behind_length]
theorem stepsL_snoc (c : Nat) (t : Net) (s : Stand) (w : List Nat) (x : Nat) : stepsL c t s (w ++ [x]) = stepsL c t s w ++ [trip t (Ks539.run t s w) x] := by
  unfold stepsL
  rw [behind_snoc]
  rfl
theorem behind_get (t : Net) : ∀ (w : List Nat) (s : Stand) (i x : Nat), w[i]? = some x → (behind t s w)[i]? = some (trip t (Ks539.run t s (w.take i)) x)
  | [], _, _, _, h => by simp at h
  | y :: w, s, 0, x, h => by
    have e : y = x := Option.some.inj h
    subst e
    rfl
  | y :: w, s, i + 1, x, h => behind_get t w (Ks539.step t s y) i x h
theorem stepsL_last (t : Net) : ∀ (w : List Nat) (s : Stand) (c : Nat), ∃ d, (stepsL c t s w)[w.length]? = some ((Ks539.run t s w).u, peb (Ks539.run t s w).p, d)
  | [], _, c => ⟨c, rfl⟩
  | y :: w, s, c => by
    obtain ⟨d, h⟩ := stepsL_last t w (Ks539.step t s y) (Ks539.in_ t s y)
    exact ⟨d, h⟩
/-! ## run -/
def ansRun (n u : Nat) (net word : List Nat) : List Int := if refusal n u net word = 0 then [((Ks539.run ⟨n, prs net⟩ (Ks539.start u) word).u : Int), (peb (Ks539.run ⟨n, prs net⟩ (Ks539.start u) word).p : Int)] else [refusal n u net word]
theorem run_spec (n u : Nat) (net word : List Nat) : Ks539Neutral.out (Ks539.answer (.run n u net word)) = ansRun n u net word := by
  unfold ansRun refusal
  show Ks539Neutral.out (Ks536.net n net fun t => if n ≤ u then Ks539.no (-2) else if Ks536.LONG < word.length then Ks539.no (-22) else
    { ret := (Ks539.run t (Ks539.start u) word).u, out := [match (Ks539.run t (Ks539.start u) word).p with
        | none => 0
        | some v => v + 1] }) = _
  unfold Ks536.net
  rw [netOf_eq]
  by_cases c : isNet n net = true
  · rw [if_pos c, if_pos c]
    dsimp only
    by_cases c2 : n ≤ u
    · rw [if_pos c2, if_pos c2]; rfl
    · rw [if_neg c2, if_neg c2]
      unfold Ks536.LONG
      by_cases c3 : 30 < word.length
      · rw [if_pos c3, if_pos c3]; rfl
      · rw [if_neg c3, if_neg c3]
        generalize Ks539.run ⟨n, prs net⟩ (Ks539.start u) word = s
        obtain ⟨a, p⟩ := s
        cases p <;> rfl
  · rw [if_neg c, if_neg c]; rfl
theorem run_is (n u : Int) (net word : List Int) : PyKs539.run n u net word = ansRun n.toNat u.toNat (net.map Int.toNat) (word.map Int.toNat) := by
  rw [← run_spec]; rfl
/-! ## apart: what is refused, what is answered -/
def refusal2 (n m u v : Nat) (net second : List Nat) : Int := if isNet n net = true ∧ isNet m second = true then (if n ≤ u ∨ m ≤ v then -2 else if 5 < n ∨ 5 < m then -75 else 0) else -22
def ansApart (n m u v : Nat) (net second : List Nat) : List Int := if refusal2 n m u v net second = 0 then (match Ks539.apart ⟨n, prs net⟩ ⟨m, prs second⟩ u v with
    | none => [-6]
    | some w => (w.length : Int) :: w.map Int.ofNat) else [refusal2 n m u v net second]
theorem apart_spec (n m u v : Nat) (net second : List Nat) : Ks539Neutral.out (Ks539.answer (.apart n m u v net second)) = ansApart n m u v net second := by
  show Ks539Neutral.out (Ks536.net n net fun s => Ks536.net m second fun t => if n ≤ u ∨ m ≤ v then Ks539.no (-2) else if Ks539.FEW < n ∨ Ks539.FEW < m then Ks539.no (-75) else match Ks539.apart s t u v with
    | none => Ks539.no (-6)
    | some w => Ks536.rows w) = _
  unfold Ks536.net
  rw [netOf_eq, netOf_eq]
  unfold ansApart
  by_cases c : isNet n net = true
  · rw [if_pos c]
    dsimp only
    by_cases d : isNet m second = true
    · have r : refusal2 n m u v net second = (if n ≤ u ∨ m ≤ v then -2 else if 5 < n ∨ 5 < m then -75 else 0) := if_pos ⟨c, d⟩
      rw [if_pos d, r]
      dsimp only
      by_cases c2 : n ≤ u ∨ m ≤ v
      · simp only [if_pos c2]; rfl
      · simp only [if_neg c2]
        unfold Ks539.FEW
        by_cases c3 : 5 < n ∨ 5 < m
        · simp only [if_pos c3]; rfl
        · simp only [if_neg c3, if_true]
          cases Ks539.apart ⟨n, prs net⟩ ⟨m, prs second⟩ u v <;> rfl
    · have r : refusal2 n m u v net second = -22 := if_neg (fun z => d z.2)
      rw [if_neg d, r]; rfl
  · have r : refusal2 n m u v net second = -22 := if_neg (fun z => c z.1)
    rw [if_neg c, r]; rfl
theorem apart_is (n m u v : Int) (net second : List Int) : PyKs539.apart n m u v net second = ansApart n.toNat m.toNat u.toNat v.toNat (net.map Int.toNat) (second.map Int.toNat) := by
  rw [← apart_spec]; rfl
/-! ## The letters -/
theorem foldl_max_ge : ∀ (l : List Nat) (a : Nat), a ≤ l.foldl max a ∧ ∀ y ∈ l, y ≤ l.foldl max a
  | [], a => ⟨Nat.le_refl a, fun _ h => (nomatch h)⟩
  | x :: l, a => by
    obtain ⟨h1, h2⟩ := foldl_max_ge l (max a x)
    refine ⟨Nat.le_trans (Nat.le_max_left a x) h1, fun y hy => ?_⟩
    rcases List.mem_cons.mp hy with e | e
    · subst e
      exact Nat.le_trans (Nat.le_max_right a y) h1
    · exact h2 y e
theorem foldl_max_le : ∀ (l : List Nat) (a m : Nat), a ≤ m → (∀ y ∈ l, y ≤ m) → l.foldl max a ≤ m
  | [], _, _, h, _ => h
  | x :: l, a, m, h, h2 => foldl_max_le l (max a x) m (Nat.max_le.mpr ⟨h, h2 x (by simp)⟩) (fun y hy => h2 y (List.mem_cons_of_mem _ hy))
/-- the counts of exits, place by place -/
def lens (n : Nat) (ls : List (Nat × Nat)) : List Nat := (List.range n).map fun u => (row ls u).length
theorem letters_eq (n m : Nat) (ls ks : List (Nat × Nat)) : Ks539.letters ⟨n, ls⟩ ⟨m, ks⟩ = (lens n ls ++ lens m ks).foldl max 0 + 3 := by
  unfold Ks539.letters lens
  have e1 : Ks536.degree ⟨n, ls⟩ = fun u => (row ls u).length := funext fun u => degree_eq ⟨n, ls⟩ u
  have e2 : Ks536.degree ⟨m, ks⟩ = fun u => (row ks u).length := funext fun u => degree_eq ⟨m, ks⟩ u
  rw [e1, e2]
theorem letters_of {n m : Nat} {ls ks : List (Nat × Nat)} {x : Nat} (hx : x ∈ lens n ls ++ lens m ks) (hle : ∀ y ∈ lens n ls ++ lens m ks, y ≤ x) : Ks539.letters ⟨n, ls⟩ ⟨m, ks⟩ = x + 3 := by
  rw [letters_eq]
  have h1 := (foldl_max_ge (lens n ls ++ lens m ks) 0).2 x hx
  have h2 := foldl_max_le (lens n ls ++ lens m ks) 0 x (Nat.zero_le x) hle
  omega
/-! ## The search -/
/-- a stand within n places -/
def StIn (n : Nat) (s : Stand) : Prop := s.u < n ∧ ∀ v, s.p = some v → v < n
theorem stIn_start {n u : Nat} (h : u < n) : StIn n (Ks539.start u) := ⟨h, fun v e => (nomatch e)⟩
theorem stIn_step {n : Nat} {ls : List (Nat × Nat)} (h : ∀ p ∈ ls, Ok1 n p) {s : Stand} (hs : StIn n s) (x : Nat) : StIn n (Ks539.step ⟨n, ls⟩ s x) := by
  refine ⟨step_lt h s hs.1 x, ?_⟩
  obtain ⟨u, p⟩ := s
  obtain ⟨h1, h2⟩ := hs
  match x with
  | 0 => exact h2
  | 1 =>
    cases p with
    | none =>
      intro v e
      have e' : u = v := Option.some.inj e
      rw [← e']
      exact h1
    | some q => exact h2
  | 2 =>
    by_cases c : p = some u
    · subst c
      have e : Ks539.step ⟨n, ls⟩ ⟨u, some u⟩ 2 = ⟨u, none⟩ := if_pos rfl
      rw [e]
      exact fun v z => (nomatch z)
    · have e : Ks539.step ⟨n, ls⟩ ⟨u, p⟩ 2 = ⟨u, p⟩ := if_neg c
      rw [e]
      exact h2
  | e + 3 => exact h2
def TwIn (n m : Nat) (q : Two) : Prop := StIn n q.1 ∧ StIn m q.2
/-- their code -/
def cod (q : Two) : Nat := (q.1.u * 6 + peb q.1.p) * 30 + (q.2.u * 6 + peb q.2.p)
theorem peb_inj {p q : Option Nat} (h : peb p = peb q) : p = q := by
  cases p <;> cases q <;> simp_all [peb]
theorem peb_le {n : Nat} {s : Stand} (h : StIn n s) : peb s.p ≤ n := by
  have := h.2
  cases e : s.p with
  | none => exact Nat.zero_le n
  | some v => exact this v e
theorem stand_eq {s t : Stand} (h1 : s.u = t.u) (h2 : peb s.p = peb t.p) : s = t := by
  obtain ⟨a, p⟩ := s
  obtain ⟨b, q⟩ := t
  have e1 : a = b := h1
  have e2 : p = q := peb_inj h2
  rw [e1, e2]
theorem cod_inj {n m : Nat} (hn : n ≤ 5) (hm : m ≤ 5) {q r : Two} (hq : TwIn n m q) (hr : TwIn n m r) (h : cod q = cod r) : q = r := by
  obtain ⟨a, b⟩ := q
  obtain ⟨c, d⟩ := r
  obtain ⟨h1, h2⟩ := hq
  obtain ⟨h3, h4⟩ := hr
  have g1 := h1.1
  have g2 := h2.1
  have g3 := h3.1
  have g4 := h4.1
  have p1 := peb_le h1
  have p2 := peb_le h2
  have p3 := peb_le h3
  have p4 := peb_le h4
  unfold cod at h
  dsimp only at *
  have e1 : a = c := stand_eq (by omega) (by omega)
  have e2 : b = d := stand_eq (by omega) (by omega)
  rw [e1, e2]
theorem cod_lt {n m : Nat} (hn : n ≤ 5) (hm : m ≤ 5) {q : Two} (hq : TwIn n m q) : cod q < 900 := by
  obtain ⟨h1, h2⟩ := hq
  have g1 := h1.1
  have g2 := h2.1
  have p1 := peb_le h1
  have p2 := peb_le h2
  unfold cod
  omega
theorem nodup_lt : ∀ (n : Nat) (l : List Nat), l.Nodup → (∀ x ∈ l, x < n) → l.length ≤ n
  | 0, [], _, _ => Nat.le_refl 0
  | 0, x :: _, _, h => absurd (h x (by simp)) (Nat.not_lt_zero x)
  | n + 1, l, nd, h => by
    have h1 := nodup_lt n (l.erase n) (nd.erase n) (fun x hx => by
      have hx' := nd.mem_erase_iff.mp hx
      have := h x hx'.2
      have := hx'.1
      omega)
    have h2 : l.length ≤ (l.erase n).length + 1 := by
      rw [List.length_erase]
      split <;> omega
    omega
theorem map_nodup {n m : Nat} (hn : n ≤ 5) (hm : m ≤ 5) : ∀ (l : List Two), l.Nodup → (∀ q ∈ l, TwIn n m q) → (l.map cod).Nodup
  | [], _, _ => List.nodup_nil
  | q :: l, nd, h => by
    rw [List.nodup_cons] at nd
    rw [List.map_cons, List.nodup_cons]
    refine ⟨fun z => ?_, map_nodup hn hm l nd.2 (fun r hr => h r (List.mem_cons_of_mem _ hr))⟩
    obtain ⟨r, hr, e⟩ := List.mem_map.mp z
    have e' := cod_inj hn hm (h r (List.mem_cons_of_mem _ hr)) (h q (by simp)) e
    exact nd.1 (e' ▸ hr)
theorem few {n m : Nat} (hn : n ≤ 5) (hm : m ≤ 5) {l : List Two} (nd : l.Nodup) (h : ∀ q ∈ l, TwIn n m q) : l.length ≤ 900 := by
  have := nodup_lt 900 (l.map cod) (map_nodup hn hm l nd h) (fun x hx => by
    obtain ⟨q, hq, e⟩ := List.mem_map.mp hx
    rw [← e]
    exact cod_lt hn hm (h q hq))
  rw [List.length_map] at this
  exact this
abbrev Lev := List (Two × List Nat)
abbrev Gr := Sum (List Nat) (Lev × List Two)
/-- behind one letter, in both nets -/
def nxt2 (s t : Net) (p : Two) (x : Nat) : Two := (Ks539.step s p.1 x, Ks539.step t p.2 x)
def tells (s t : Net) (p : Two) (x : Nat) : Bool := Ks539.in_ s p.1 x != Ks539.in_ t p.2 x || Ks539.differ s t (nxt2 s t p x)
def inner (s t : Net) (p : Two × List Nat) (r : Gr) (x : Nat) : Gr := match r with
  | .inl w => .inl w
  | .inr z => if tells s t p.1 x = true then .inl (p.2 ++ [x]) else if z.2.contains (nxt2 s t p.1 x) = true then .inr z else .inr (z.1 ++ [(nxt2 s t p.1 x, p.2 ++ [x])], z.2 ++ [nxt2 s t p.1 x])
def outer (s t : Net) (r : Gr) (p : Two × List Nat) : Gr := match r with
  | .inl w => .inl w
  | .inr z => (List.range (Ks539.letters s t)).foldl (inner s t p) (.inr z)
def innN (s t : Net) (p : Two × List Nat) (z : Lev × List Two) (k : Nat) : Gr := (List.range k).foldl (inner s t p) (.inr z)
def outN (s t : Net) (old : Lev) (done : List Two) (i : Nat) : Gr := (old.take i).foldl (outer s t) (.inr ([], done))
theorem grow_eq (s t : Net) (old : Lev) (done : List Two) : Ks539.grow s t old done = outN s t old done old.length := by
  unfold outN
  rw [List.take_length]
  rfl
theorem inner_inl (s t : Net) (p : Two × List Nat) (w : List Nat) : ∀ l : List Nat, l.foldl (inner s t p) (.inl w) = .inl w
  | [] => rfl
  | _ :: l => inner_inl s t p w l
theorem outer_inl (s t : Net) (w : List Nat) : ∀ l : Lev, l.foldl (outer s t) (.inl w) = .inl w
  | [] => rfl
  | _ :: l => outer_inl s t w l
theorem innN_succ (s t : Net) (p : Two × List Nat) (z : Lev × List Two) (k : Nat) : innN s t p z (k + 1) = inner s t p (innN s t p z k) k := by
  unfold innN
  rw [List.range_succ, List.foldl_append]
  rfl
theorem innN_stop {s t : Net} {p : Two × List Nat} {z : Lev × List Two} {w : List Nat} {k : Nat} (h : innN s t p z k = .inl w) : ∀ j, innN s t p z (k + j) = .inl w
  | 0 => h
  | j + 1 => by
    rw [← Nat.add_assoc, innN_succ, innN_stop h j]
    rfl
theorem outN_succ {s t : Net} {old : Lev} {done : List Two} {i : Nat} {p : Two × List Nat} (hp : old[i]? = some p) : outN s t old done (i + 1) = outer s t (outN s t old done i) p := by
  unfold outN
  rw [take_more hp, List.foldl_append]
  rfl
theorem outN_go {s t : Net} {old : Lev} {done : List Two} {i : Nat} {p : Two × List Nat} {z : Lev × List Two} (hp : old[i]? = some p) (h : outN s t old done i = .inr z) : outN s t old done (i + 1) = innN s t p z (Ks539.letters s t) := by
  rw [outN_succ hp, h]
  rfl
theorem outN_stop {s t : Net} {old : Lev} {done : List Two} {i : Nat} {w : List Nat} (h : outN s t old done i = .inl w) : outN s t old done old.length = .inl w := by
  unfold outN at h ⊢
  rw [List.take_length]
  conv => lhs; rw [← List.take_append_drop i old]
  rw [List.foldl_append, h, outer_inl]
/-- the word is found behind k letters of the place i -/
theorem grow_found {s t : Net} {old : Lev} {done : List Two} {i k : Nat} {p : Two × List Nat} {z z' : Lev × List Two} (hp : old[i]? = some p) (h : outN s t old done i = .inr z) (hk : innN s t p z k = .inr z') (hl : k < Ks539.letters s t)
    (ht : tells s t p.1 k = true) : Ks539.grow s t old done = .inl (p.2 ++ [k]) := by
  rw [grow_eq]
  refine outN_stop (i := i + 1) ?_
  rw [outN_go hp h]
  have e : innN s t p z (k + 1) = .inl (p.2 ++ [k]) := by
    rw [innN_succ, hk]
    exact if_pos ht
  have := innN_stop e (Ks539.letters s t - (k + 1))
  rw [show k + 1 + (Ks539.letters s t - (k + 1)) = Ks539.letters s t by omega] at this
  exact this
/-- what holds while a level is gone through -/
structure Gd (n m d0 k : Nat) (z : Lev × List Two) : Prop where
  nd : z.2.Nodup
  tw : ∀ q ∈ z.2, TwIn n m q
  lv : ∀ e ∈ z.1, TwIn n m e.1 ∧ e.2.length = k
  ln : z.1.length + d0 = z.2.length
theorem inner_old {z : Lev × List Two} {s t : Net} {p : Two × List Nat} {x : Nat} (ht : tells s t p.1 x = false) (hc : nxt2 s t p.1 x ∈ z.2) : inner s t p (.inr z) x = .inr z := by
  show (if _ then _ else _) = _
  rw [ht, if_neg Bool.false_ne_true, if_pos (List.contains_iff_mem.mpr hc)]
theorem inner_new {z : Lev × List Two} {s t : Net} {p : Two × List Nat} {x : Nat} (ht : tells s t p.1 x = false) (hc : nxt2 s t p.1 x ∉ z.2) : inner s t p (.inr z) x = .inr (z.1 ++ [(nxt2 s t p.1 x, p.2 ++ [x])], z.2 ++ [nxt2 s t p.1 x]) := by
  show (if _ then _ else _) = _
  rw [ht, if_neg Bool.false_ne_true, if_neg (fun h => hc (List.contains_iff_mem.mp h))]
theorem Gd.new {n m d0 k : Nat} {z : Lev × List Two} {q : Two} {w : List Nat} (g : Gd n m d0 k z) (hq : TwIn n m q) (hw : w.length = k) (hc : q ∉ z.2) : Gd n m d0 k (z.1 ++ [(q, w)], z.2 ++ [q]) := by
  refine ⟨?_, fun r hr => ?_, fun e he => ?_, ?_⟩
  · show (z.2 ++ [q]).Nodup
    rw [List.nodup_append]
    exact ⟨g.nd, by simp, fun a ha b hb => by
      rw [List.mem_singleton.mp hb]
      intro e
      exact hc (e ▸ ha)⟩
  · rcases List.mem_append.mp hr with h | h
    · exact g.tw r h
    · rw [List.mem_singleton.mp h]
      exact hq
  · rcases List.mem_append.mp he with h | h
    · exact g.lv e h
    · rw [List.mem_singleton.mp h]
      exact ⟨hq, hw⟩
  · show (z.1 ++ [(q, w)]).length + d0 = (z.2 ++ [q]).length
    have := g.ln
    rw [List.length_append, List.length_append, List.length_singleton, List.length_singleton]
    omega
theorem nxt2_in {n m : Nat} {ls ks : List (Nat × Nat)} (h : ∀ p ∈ ls, Ok1 n p) (h' : ∀ p ∈ ks, Ok1 m p) {p : Two} (hp : TwIn n m p) (x : Nat) : TwIn n m (nxt2 ⟨n, ls⟩ ⟨m, ks⟩ p x) := ⟨stIn_step h hp.1 x, stIn_step h' hp.2 x⟩
theorem search_nil (s t : Net) (f : Nat) (done : List Two) : Ks539.search s t f [] done = none := by
  cases f <;> rfl
theorem search_inl {s t : Net} {f : Nat} {lev : Lev} {done : List Two} {w : List Nat} (hl : lev ≠ []) (h : Ks539.grow s t lev done = .inl w) : Ks539.search s t (f + 1) lev done = some w := by
  cases lev with
  | nil => exact absurd rfl hl
  | cons a r =>
    show (match Ks539.grow s t (a :: r) done with
      | .inl w => some w
      | .inr z => Ks539.search s t f z.1 z.2) = _
    rw [h]
theorem search_inr {s t : Net} {f : Nat} {lev : Lev} {done : List Two} {z : Lev × List Two} (hl : lev ≠ []) (h : Ks539.grow s t lev done = .inr z) : Ks539.search s t (f + 1) lev done = Ks539.search s t f z.1 z.2 := by
  cases lev with
  | nil => exact absurd rfl hl
  | cons a r =>
    show (match Ks539.grow s t (a :: r) done with
      | .inl w => some w
      | .inr z => Ks539.search s t f z.1 z.2) = _
    rw [h]
end Wp
namespace Wp
open PySem PySem.Spec PyProof.Rows L2
/-! ## Heaps -/
abbrev nv (x : Nat) : V := .int (x : Int)
def PairsAt (H : Hp) (vs : List V) (ps : List (Nat × Nat)) : Prop := vs.length = ps.length ∧ ∀ (i : Nat) (p : Nat × Nat), ps[i]? = some p → ∃ t, vs[i]? = some (.ref t) ∧ H t = some (.tup [nv p.1, nv p.2])
def LinksAt (H : Hp) (a : Addr) (ls : List (Nat × Nat)) : Prop := ∃ vs, H a = some (.lst vs) ∧ PairsAt H vs ls
def TabAt (H : Hp) (a : Addr) (tab : List (List (Nat × Nat))) : Prop := ∃ qs : List Addr, H a = some (.lst (qs.map V.ref)) ∧ qs.length = tab.length ∧
  ∀ (i : Nat) (r : List (Nat × Nat)), tab[i]? = some r → ∃ q vs, qs[i]? = some q ∧ H q = some (.lst vs) ∧ PairsAt H vs r
/-- tuples stay -/
def STup (H H' : Hp) : Prop := ∀ b xs, H b = some (.tup xs) → H' b = some (.tup xs)
theorem Same.stup {H H' : Hp} (s : Same H H') : STup H H' := fun b xs e => s b _ e
theorem STup.trans {H H1 H2 : Hp} (a : STup H H1) (b : STup H1 H2) : STup H H2 := fun c xs e => b c xs (a c xs e)
theorem STup.refl (H : Hp) : STup H H := fun _ _ e => e
theorem stup_lst {H : Hp} {l : Addr} {xs : List V} {o : HO} (h : H l = some (.lst xs)) : STup H (upd H l o) := fun b ys e => by
  rw [upd_ne (ne_of e h (fun z => by cases z))]
  exact e
theorem same_upd {H : Hp} {p : Addr} {o : HO} (h : H p = none) : Same H (upd H p o) := fun b x e => by
  rw [upd_ne (ne_of_none e h)]
  exact e
theorem stup_new {H : Hp} {p : Addr} {o : HO} (h : H p = none) : STup H (upd H p o) := Same.stup (same_upd h)
theorem PairsAt.keep {H H' : Hp} {vs : List V} {ps : List (Nat × Nat)} (s : STup H H') (h : PairsAt H vs ps) : PairsAt H' vs ps :=
  ⟨h.1, fun i p e => by
    obtain ⟨t, e1, e2⟩ := h.2 i p e
    exact ⟨t, e1, s t _ e2⟩⟩
theorem PairsAt.nil {H : Hp} : PairsAt H [] [] := ⟨rfl, fun i p e => by simp at e⟩
theorem PairsAt.snoc {H : Hp} {vs : List V} {ps : List (Nat × Nat)} {p : Nat × Nat} {t : Addr} (h : PairsAt H vs ps) (e : H t = some (.tup [nv p.1, nv p.2])) : PairsAt H (vs ++ [.ref t]) (ps ++ [p]) := by
  refine ⟨by rw [List.length_append, List.length_append, h.1]; rfl, fun i q hq => ?_⟩
  by_cases c : i < ps.length
  · rw [List.getElem?_append_left c] at hq
    obtain ⟨t', e1, e2⟩ := h.2 i q hq
    refine ⟨t', ?_, e2⟩
    rw [List.getElem?_append_left (by rw [h.1]; exact c)]
    exact e1
  · have ci : i = ps.length := by
      have := (List.getElem?_eq_some_iff.mp hq).1
      rw [List.length_append, List.length_singleton] at this
      omega
    subst ci
    rw [List.getElem?_append_right (Nat.le_refl _), Nat.sub_self] at hq
    have eq : p = q := Option.some.inj hq
    subst eq
    refine ⟨t, ?_, e⟩
    rw [List.getElem?_append_right (by rw [h.1]; exact Nat.le_refl _), h.1, Nat.sub_self]
    rfl
theorem LinksAt.keep {H H' : Hp} {a : Addr} {ls : List (Nat × Nat)} (s : Same H H') (h : LinksAt H a ls) : LinksAt H' a ls := by
  obtain ⟨vs, e, p⟩ := h
  exact ⟨vs, s _ _ e, p.keep (Same.stup s)⟩
theorem TabAt.keep {H H' : Hp} {a : Addr} {tab : List (List (Nat × Nat))} (s : Same H H') (h : TabAt H a tab) : TabAt H' a tab := by
  obtain ⟨qs, e, hl, p⟩ := h
  refine ⟨qs, s _ _ e, hl, fun i r hr => ?_⟩
  obtain ⟨q, vs, e1, e2, e3⟩ := p i r hr
  exact ⟨q, vs, e1, s _ _ e2, e3.keep (Same.stup s)⟩
theorem if_true_of {c : Bool} {A B : Prop} (hc : c = true) (h : A) : if c = true then A else B := by
  rw [if_pos hc]
  exact h
theorem if_false_of {c : Bool} {A B : Prop} (hc : c = false) (h : B) : if c = true then A else B := by
  rw [hc, if_neg Bool.false_ne_true]
  exact h
theorem small_len {n : Nat} (h : n ≤ 1000) : n ≤ sizeLine := Nat.le_of_lt (small1000 h)
/-- a constant of the module -/
theorem pk {X : Cx} {x : Str} {i : Int} {pos : Pos} (hg : Gl X x) (hm : ∃ t, X.mg x = some (.int i t)) (hd : (x == ("__debug__" : Str)) = false := by decide) : PE X (.Name x pos) (tC (.int i)) := by
  obtain ⟨t, e⟩ := hm
  exact pe_glob hg e ⟨t, rfl⟩ hd
/-- an item of the table -/
theorem tab_item {H : Hp} {a : Addr} {tab : List (List (Nat × Nat))} {u : Nat} {r : List (Nat × Nat)} (h : TabAt H a tab) (hr : tab[u]? = some r) :
    ∃ (qs : List Addr) (q : Addr) (vs : List V), H a = some (.lst (qs.map V.ref)) ∧ atI (qs.map V.ref) (u : Int) = some (.ref q) ∧ H q = some (.lst vs) ∧ vs.length = r.length ∧ PairsAt H vs r := by
  obtain ⟨qs, e, hl, p⟩ := h
  obtain ⟨q, vs, e1, e2, e3⟩ := p u r hr
  exact ⟨qs, q, vs, e, atI_nat (by rw [List.getElem?_map, e1]; rfl), e2, e3.1, e3⟩
end Wp
namespace Wp
open PySem PySem.Spec PyProof.Rows L2
/-! ## Lists of made things -/
/-- item by item R holds -/
def AllAt {α : Type} (R : Hp → V → α → Prop) (H : Hp) (vs : List V) (xs : List α) : Prop := vs.length = xs.length ∧ ∀ (i : Nat) (x : α), xs[i]? = some x → ∃ v, vs[i]? = some v ∧ R H v x
theorem AllAt.nil {α : Type} {R : Hp → V → α → Prop} {H : Hp} : AllAt R H [] [] := ⟨rfl, fun i x e => by simp at e⟩
theorem AllAt.keep {α : Type} {R : Hp → V → α → Prop} {H H' : Hp} {vs : List V} {xs : List α} (k : ∀ v x, R H v x → R H' v x) (h : AllAt R H vs xs) : AllAt R H' vs xs :=
  ⟨h.1, fun i x e => by
    obtain ⟨v, e1, e2⟩ := h.2 i x e
    exact ⟨v, e1, k v x e2⟩⟩
theorem AllAt.snoc {α : Type} {R : Hp → V → α → Prop} {H : Hp} {vs : List V} {xs : List α} {v : V} {x : α} (h : AllAt R H vs xs) (r : R H v x) : AllAt R H (vs ++ [v]) (xs ++ [x]) := by
  refine ⟨by rw [List.length_append, List.length_append, h.1]; rfl, fun i y hy => ?_⟩
  by_cases c : i < xs.length
  · rw [List.getElem?_append_left c] at hy
    obtain ⟨u, e1, e2⟩ := h.2 i y hy
    refine ⟨u, ?_, e2⟩
    rw [List.getElem?_append_left (by rw [h.1]; exact c)]
    exact e1
  · have ci : i = xs.length := by
      have := (List.getElem?_eq_some_iff.mp hy).1
      rw [List.length_append, List.length_singleton] at this
      omega
    subst ci
    rw [List.getElem?_append_right (Nat.le_refl _), Nat.sub_self] at hy
    have eq : x = y := Option.some.inj hy
    subst eq
    refine ⟨v, ?_, r⟩
    rw [List.getElem?_append_right (by rw [h.1]; exact Nat.le_refl _), h.1, Nat.sub_self]
    rfl
theorem AllAt.item {α : Type} {R : Hp → V → α → Prop} {H : Hp} {vs : List V} {xs : List α} (h : AllAt R H vs xs) {i : Nat} {v : V} (e : vs[i]? = some v) : ∃ x, xs[i]? = some x ∧ R H v x := by
  have hi : i < xs.length := by
    rw [← h.1]
    exact (List.getElem?_eq_some_iff.mp e).1
  obtain ⟨u, e1, e2⟩ := h.2 i xs[i] (List.getElem?_eq_getElem hi)
  have eu : u = v := Option.some.inj (e1.symm.trans e)
  subst eu
  exact ⟨_, List.getElem?_eq_getElem hi, e2⟩
theorem AllAt.tail {α : Type} {R : Hp → V → α → Prop} {H : Hp} {v : V} {vs : List V} {x : α} {xs : List α} (h : AllAt R H (v :: vs) (x :: xs)) : AllAt R H vs xs :=
  ⟨by have := h.1; simpa using this, fun i y hy => h.2 (i + 1) y hy⟩
/-- the last item -/
theorem atI_end {α : Type} {xs : List α} {v : α} {k : Nat} (hl : xs.length = k + 1) (h : xs[k]? = some v) : atI xs (-1) = some v := by
  have hne : xs ≠ [] := by
    intro e
    rw [e] at hl
    simp at hl
  have e := List.dropLast_concat_getLast hne
  have hg : xs.getLast hne = v := by
    rw [List.getLast_eq_getElem]
    have h2 := (List.getElem?_eq_some_iff.mp h).2
    have h3 : xs.length - 1 = k := by omega
    simp only [h3]
    exact h2
  rw [← e, hg]
  exact atI_last _ _
/-- a list from its second item on -/
theorem cut_tail (v : V) (vs : List V) : cutV (v :: vs) (some 1) none = vs := by
  unfold cutV
  rw [HT.sIx_none, show (some (1 : Int)) = some ((1 : Nat) : Int) from rfl, HT.sIx_nat]
  have e : min 1 (v :: vs).length = 1 := by
    rw [List.length_cons]
    omega
  rw [e]
  show vs.take ((v :: vs).length - 1) = vs
  rw [List.length_cons, Nat.add_sub_cancel, List.take_length]
/-- a tuple of three -/
def TripV (H : Hp) (v : V) (p : Nat × Nat × Nat) : Prop := ∃ t, v = .ref t ∧ H t = some (.tup [nv p.1, nv p.2.1, nv p.2.2])
theorem TripV.keep {H H' : Hp} (s : STup H H') (v : V) (p : Nat × Nat × Nat) (h : TripV H v p) : TripV H' v p := by
  obtain ⟨t, e1, e2⟩ := h
  exact ⟨t, e1, s _ _ e2⟩
theorem tab_at {n : Nat} {ls : List (Nat × Nat)} : ∀ v, v < n → ((List.range n).map (row ls))[v]? = some (row ls v) := fun v hv => by
  rw [List.getElem?_map, List.getElem?_range hv]
  rfl
end Wp
namespace Wp
open PySem PySem.Spec PyProof.Rows L2
theorem scStepBy : FnScope ["exits", "place", "pebble", "letter", "way"] ["exits", "place", "pebble", "letter"] (defScope s_step_by) := ⟨rfl, rfl, rfl, by decide +kernel, rfl, by decide +kernel, by decide +kernel⟩
section
variable {P : Program} {w : World} {K : PySem.W.Frag} {mg : Str → Option Value} {base : Heap}
/-! ### step_by -/
def spStepBy : Sp := fun vs H Q _ => ∃ (a : Addr) (tab : List (List (Nat × Nat))) (n : Nat) (ls : List (Nat × Nat)) (s : Ks539.Stand) (x : Nat), vs = [.ref a, nv s.u, nv (peb s.p), nv x] ∧ TabAt H a tab ∧ tab[s.u]? = some (row ls s.u) ∧
  ∀ q, H q = none → Q (.ref q) (upd H q (.tup [nv (Ks539.step ⟨n, ls⟩ s x).u, nv (peb (Ks539.step ⟨n, ls⟩ s x).p), nv (Ks539.in_ ⟨n, ls⟩ s x)]))
theorem step_put (t : Ks536.Net) (u : Nat) : Ks539.step t ⟨u, none⟩ 1 = ⟨u, some u⟩ := rfl
theorem step_take (t : Ks536.Net) (u : Nat) : Ks539.step t ⟨u, some u⟩ 2 = ⟨u, none⟩ := if_pos rfl
theorem step_go (t : Ks536.Net) (s : Ks539.Stand) {e : Nat} {p : Nat × Nat} (h : (row t.links s.u)[e]? = some p) : Ks539.step t s (e + 3) = ⟨p.1, s.p⟩ ∧ Ks539.in_ t s (e + 3) = p.2 + 1 := by
  refine ⟨?_, ?_⟩
  · show ({ s with u := Ks536.go t s.u (e + 1) } : Ks539.Stand) = _
    rw [go_succ, h]
    rfl
  · show Ks536.came t s.u (e + 1) = _
    rw [came_succ, h]
    rfl
/-- what can't be done is as staying -/
theorem step_stay (t : Ks536.Net) (s : Ks539.Stand) (x : Nat) (h1 : ¬ (x = 1 ∧ s.p = none)) (h2 : ¬ (x = 2 ∧ s.p = some s.u)) (h3 : ¬ (3 ≤ x ∧ x - 3 < (row t.links s.u).length)) : Ks539.step t s x = s ∧ Ks539.in_ t s x = 0 := by
  obtain ⟨u, p⟩ := s
  match x, h1, h2, h3 with
  | 0, _, _, _ => exact ⟨rfl, rfl⟩
  | 1, h1, _, _ =>
    cases p with
    | none => exact absurd ⟨rfl, rfl⟩ h1
    | some v => exact ⟨rfl, rfl⟩
  | 2, _, h2, _ =>
    refine ⟨if_neg (fun z => h2 ⟨rfl, z⟩), rfl⟩
  | e + 3, _, _, h3 =>
    have he : (row t.links u)[e]? = none := List.getElem?_eq_none (by
      have : ¬ (e < (row t.links u).length) := fun z => h3 ⟨by omega, by simpa using z⟩
      omega)
    refine ⟨?_, ?_⟩
    · show ({ u := Ks536.go t u (e + 1), p := p } : Ks539.Stand) = _
      rw [go_succ, he]
      rfl
    · show Ks536.came t u (e + 1) = _
      rw [came_succ, he]
      rfl
/-- the third test and what follows, read -/
def rdThird (K : PySem.W.Frag) : TS := tSeq (tIfS (tAnd (tTest (tOp (rI0 fun i j => .bl (decide (j ≤ i))) (tVar 3) (tC (.int 3)))) (tTest (tOp (rI0 fun i j => .bl (decide (i < j))) (tOp (rI0 fun i j => .int (i - j)) (tVar 3) (tC (.int 3))) (tCB (fun xs H Q => ∃ p ys, xs = [.ref p] ∧ (SqL K H p ys ∨ SqT K H p ys) ∧ Q (.int ys.length) H) (tCons (tOp (rIxL K) (tVar 0) (tVar 1)) tNil)))))
        (tSeq (tAsg (tOp (rIxL K) (tOp (rIxL K) (tVar 0) (tVar 1)) (tOp (rI0 fun i j => .int (i - j)) (tVar 3) (tC (.int 3)))) (gName 4)) (tRet (tTup (tCons (tOp (rIxT K) (tVar 4) (tC (.int 0))) (tCons (tVar 2) (tCons (tOp (rI0 fun i j => .int (i + j)) (tOp (rIxT K) (tVar 4) (tC (.int 1))) (tC (.int 1))) tNil)))))) tNext)
        (tRet (tTup (tCons (tVar 1) (tCons (tVar 2) (tCons (tC (.int 0)) tNil)))))
theorem ok_step_by {f : Addr} {fd : FuncData} {k : Nat} (F : Fun K "step_by" "step_by" s_step_by f fd) (T : Txt mg) : FnOk P w K mg base CX0 (k + 1) f fd ["exits", "place", "pebble", "letter"] spStepBy := by
  refine F.ok scStepBy (fun vs H Q E h => ?_) (fun cdv A outer s H vs Q E hr h => ?_)
  · obtain ⟨a, tab, n, ls, s, x, rfl, _⟩ := h
    rfl
  · obtain ⟨a, tab, n, ls, st, x, rfl, hT, hr2, q⟩ := h
    refine ⟨_, pss_cons (ps_if (PW.pt (pw_and (pt_cmpR op_eq (pv 3) (pk rfl T.c_PUT_DOWN) (nomark _)) (pw_and1 (pt_cmpR op_eq (pv 2) (pk rfl T.c_CARRIED) (nomark _)))))
        (pss_one (ps_ret (pe_tup (pa_cons (pv 1) (pa_cons (pe_op op_add (pv 1) pe_int) (pa_cons (pk rfl T.c_DID_NOT_GO) pa_nil)))))) pss_nil)
      (pss_cons (ps_if (PW.pt (pw_and (pt_cmpR op_eq (pv 3) (pk rfl T.c_TAKE_UP) (nomark _)) (pw_and1 (pt_cmpR op_eq (pv 2) (pe_op op_add (pv 1) pe_int) (nomark _)))))
        (pss_one (ps_ret (pe_tup (pa_cons (pv 1) (pa_cons (pk rfl T.c_CARRIED) (pa_cons (pk rfl T.c_DID_NOT_GO) pa_nil)))))) pss_nil)
      (pss_cons (ps_if (PW.pt (pw_and (pt_cmpR op_ge (pv 3) (pk rfl T.c_FIRST_EXIT) (nomark _)) (pw_and1 (pt_cmpR op_lt (pe_op op_sub (pv 3) (pk rfl T.c_FIRST_EXIT)) (pe_callB call_len_seq (by rfl) T.b_len PySem.boot_len (pa_cons (pe_ix ix_list (pv 0) (pv 1) (fun _ _ => rfl)) pa_nil)) (nomark _)))))
        (pss_cons (ps_set (i := 4) scStepBy.nd rfl (.inl rfl) (pe_ix ix_list (pe_ix ix_list (pv 0) (pv 1) (fun _ _ => rfl)) (pe_op op_sub (pv 3) (pk rfl T.c_FIRST_EXIT)) (fun _ _ => rfl)))
          (pss_one (ps_ret (pe_tup (pa_cons (pe_ix ix_tup (pv 4) pe_int (fun _ _ => rfl)) (pa_cons (pv 2) (pa_cons (pe_op op_add (pe_ix ix_tup (pv 4) pe_int (fun _ _ => rfl)) pe_int) pa_nil))))))) pss_nil)
      (pss_one (ps_ret (pe_tup (pa_cons (pv 1) (pa_cons (pv 2) (pa_cons (pk rfl T.c_DID_NOT_GO) pa_nil)))))))), ?_⟩
    obtain ⟨qs, q0, vs0, hA, hi, hq, hl, hP⟩ := tab_item hT hr2
    have h3 : (3 : Nat) ≤ sizeLine := by decide
    -- the last return
    have last : ¬ (x = 1 ∧ st.p = none) → ¬ (x = 2 ∧ st.p = some st.u) → ¬ (3 ≤ x ∧ x - 3 < (row ls st.u).length) → ∀ z, H z = none → Q (.ref z) (upd H z (.tup [nv st.u, nv (peb st.p), .int 0])) := fun c1 c2 c3 z nz => by
      have e := step_stay ⟨n, ls⟩ st x c1 c2 c3
      have := q z nz
      rw [e.1, e.2] at this
      exact this
    -- the third test and what follows
    have third : ¬ (x = 1 ∧ st.p = none) → ¬ (x = 2 ∧ st.p = some st.u) → rdThird K { nx := fun _ H' => Q .non H', rt := Q } (start ["exits", "place", "pebble", "letter", "way"] [.ref a, nv st.u, nv (peb st.p), nv x]) H := fun c1 c2 => by
      refine ⟨_, rfl, _, _, rfl, rfl, _, rfl, ?_⟩
      by_cases c : 3 ≤ x
      · refine if_true_of (decide_eq_true (by omega)) ?_
        refine ⟨_, rfl, _, _, rfl, rfl, _, rfl, _, rfl, a, _, _, _, rfl, rfl, SqL.of hA, hi, q0, vs0, rfl, .inl (SqL.of hq), _, _, rfl, rfl, _, rfl, ?_⟩
        by_cases d : x - 3 < (row ls st.u).length
        · refine if_true_of (decide_eq_true (by rw [hl]; omega)) ?_
          obtain ⟨e, rfl⟩ : ∃ e, x = e + 3 := ⟨x - 3, by omega⟩
          have hrow : (row ls st.u)[e]? = some (row ls st.u)[e] := List.getElem?_eq_getElem (by simpa using d)
          obtain ⟨t, ht1, ht2⟩ := hP.2 e _ hrow
          have es := step_go ⟨n, ls⟩ st hrow
          refine ⟨_, rfl, _, rfl, a, _, _, _, rfl, rfl, SqL.of hA, hi, _, rfl, _, _, rfl, rfl, q0, vs0, _, .ref t, rfl, rfl, SqL.of hq, at_of (j := e) (by omega) ht1, ?_⟩
          refine ⟨_, rfl, t, _, 0, _, rfl, rfl, SqT.of ht2, atI_nat (j := 0) rfl, _, rfl, _, rfl, t, _, 1, _, rfl, rfl, SqT.of ht2, atI_nat (j := 1) rfl, _, _, rfl, rfl, h3, fun z nz => ?_⟩
          have := q z nz
          rw [es.1, es.2] at this
          exact this
        · refine if_false_of (decide_eq_false (by rw [hl]; omega)) ?_
          exact ⟨_, rfl, _, rfl, h3, last c1 c2 (fun z => d z.2)⟩
      · refine if_false_of (decide_eq_false (by omega)) ?_
        refine if_false_of rfl ?_
        exact ⟨_, rfl, _, rfl, h3, last c1 c2 (fun z => c z.1)⟩
    -- the second test and what follows
    have second : ¬ (x = 1 ∧ st.p = none) → tSeq (tIfS (tAnd (tTest (tOp rEq (tVar 3) (tC (.int 2)))) (tTest (tOp rEq (tVar 2) (tOp (rI0 fun i j => .int (i + j)) (tVar 1) (tC (.int 1))))))
        (tRet (tTup (tCons (tVar 1) (tCons (tC (.int 0)) (tCons (tC (.int 0)) tNil))))) tNext) (rdThird K) { nx := fun _ H' => Q .non H', rt := Q } (start ["exits", "place", "pebble", "letter", "way"] [.ref a, nv st.u, nv (peb st.p), nv x]) H := fun c1 => by
      refine ⟨_, rfl, rfl, _, rfl, ?_⟩
      by_cases c : x = 2
      · subst c
        refine if_true_of (decide_eq_true rfl) ?_
        refine ⟨_, rfl, _, rfl, _, _, rfl, rfl, rfl, _, rfl, ?_⟩
        by_cases d : st.p = some st.u
        · obtain ⟨u, p⟩ := st
          have d' : p = some u := d
          subst d'
          refine if_true_of (decide_eq_true (congrArg V.int ?_)) ?_
          · show ((u + 1 : Nat) : Int) = (u : Int) + 1
            omega
          refine ⟨_, rfl, h3, fun z nz => ?_⟩
          have := q z nz
          rw [step_take] at this
          exact this
        · refine if_false_of (decide_eq_false (fun z => d ?_)) ?_
          · have e : ((peb st.p : Nat) : Int) = (st.u : Int) + 1 := V.int.inj z
            cases hp : st.p with
            | none =>
              rw [hp] at e
              have e' : (0 : Int) = (st.u : Int) + 1 := e
              omega
            | some v =>
              rw [hp] at e
              have e' : ((v + 1 : Nat) : Int) = (st.u : Int) + 1 := e
              rw [show v = st.u by omega]
          exact third c1 (fun z => d z.2)
      · refine if_false_of (decide_eq_false (fun z => c ?_)) ?_
        · have e : (x : Int) = 2 := V.int.inj z
          omega
        refine if_false_of rfl ?_
        exact third c1 (fun z => c z.1)
    refine ⟨_, rfl, rfl, _, rfl, ?_⟩
    by_cases c : x = 1
    · subst c
      refine if_true_of (decide_eq_true rfl) ?_
      refine ⟨_, rfl, rfl, _, rfl, ?_⟩
      cases hp : st.p with
      | none =>
        refine if_true_of (decide_eq_true rfl) ?_
        refine ⟨_, rfl, _, rfl, _, _, rfl, rfl, h3, fun z nz => ?_⟩
        have := q z nz
        obtain ⟨u, p⟩ := st
        have hp' : p = none := hp
        subst hp'
        rw [step_put] at this
        exact this
      | some v =>
        refine if_false_of (decide_eq_false (fun z => ?_)) ?_
        · have e : ((v + 1 : Nat) : Int) = 0 := V.int.inj z
          omega
        have := second (fun z => by rw [hp] at z; exact nomatch z.2)
        rw [hp] at this
        exact this
    · refine if_false_of (decide_eq_false (fun z => c ?_)) ?_
      · have e : (x : Int) = 1 := V.int.inj z
        omega
      refine if_false_of rfl ?_
      exact second (fun z => c z.1)
end
end Wp
namespace Wp
open PySem PySem.Spec PyProof.Rows L2
theorem scLinksOf : FnScope ["net", "k"] ["net"] (defScope s_links_of) := ⟨rfl, rfl, rfl, by decide +kernel, rfl, by decide +kernel, by decide +kernel⟩
theorem scAllowed : FnScope ["n", "links", "met", "one", "other"] ["n", "links"] (defScope s_links_are_allowed) := ⟨rfl, rfl, rfl, by decide +kernel, rfl, by decide +kernel, by decide +kernel⟩
section
variable {P : Program} {w : World} {K : PySem.W.Frag} {mg : Str → Option Value} {base : Heap}
/-! ### links_of -/
theorem rg2 : ∀ m, m < 25 → (Builtin.Range.small 0 ((m : Nat) : Int) 2 = true ∧ Builtin.Range.rangeSize 0 ((m : Nat) : Int) 2 = (((m + 1) / 2 : Nat) : Int)) := by decide +kernel
theorem rgC2 {m : Nat} (h : m < 25) : RgC 0 (m : Int) 2 ((m + 1) / 2) := ⟨by decide, by decide, (rg2 m h).1, (rg2 m h).2⟩
def spLinksOf (K : PySem.W.Frag) : Sp := fun vs H Q _ => ∃ (a : Addr) (l : List Nat), vs = [.ref a] ∧ SqL K H a (l.map nv) ∧ l.length % 2 = 0 ∧ l.length ≤ 24 ∧
  ∀ H' q, Same H H' → LinksAt H' q (prs l) → Q (.ref q) H'
theorem ok_links_of {f : Addr} {fd : FuncData} {k : Nat} (F : Fun K "links_of" "links_of" s_links_of f fd) (T : Txt mg) : FnOk P w K mg base CX0 (k + 1) f fd ["net"] (spLinksOf K) := by
  refine F.ok scLinksOf (fun vs H Q E h => ?_) (fun cdv A outer s H vs Q E hr h => ?_)
  · obtain ⟨a, l, rfl, _⟩ := h
    rfl
  · obtain ⟨a, l, rfl, hS, hev, hlen, q⟩ := h
    refine ⟨_, pss_one (ps_ret (pe_lc (own := [("k", 1)]) (g := gName 1) (tt := tYes) (te := tTup (tCons (tOp (rIxL K) (tVar 0) (tVar 1)) (tCons (tOp (rIxL K) (tVar 0) (tOp (rI0 fun i j => .int (i + j)) (tVar 1) (tC (.int 1)))) tNil))) rfl scLinksOf.nd (pi_range3 rfl T.b_range (pa_cons pe_int (pa_cons (pe_callB call_len_seq (by rfl) T.b_len PySem.boot_len (pa_cons (pv 0) pa_nil)) (pa_cons pe_int pa_nil))))
      (blkOk_by (N := ["net", "k"]) (sc := defScope s_links_of) (by decide +kernel)) (fun _ _ _ _ _ => pg_name (i := 1) scLinksOf.nd rfl (Or.inl rfl)) (fun _ _ _ _ _ => pts_nil)
      (fun _ _ _ _ _ => pe_tup (pa_cons (pe_ix ix_list (pv 0) (pv 1) (fun _ _ => rfl)) (pa_cons (pe_ix ix_list (pv 0) (pe_op op_add (pv 1) pe_int) (fun _ _ => rfl)) pa_nil))))), ?_⟩
    have el : (l.map nv).length = l.length := List.length_map _
    refine ⟨_, rfl, a, _, rfl, .inl hS, 0, _, 2, _, rfl, rgC2 (by rw [el]; omega), fun D nD => ?_⟩
    refine lc_it walk_rangeC (fun i H' => Same H H' ∧ ∃ vs, H' D = some (.lst vs) ∧ PairsAt H' vs ((prs l).take i)) ⟨same_upd nD, [], upd_same, PairsAt.nil⟩ (fun _ _ _ _ => trivial) ?_ ?_
    · rintro i x H0 H1 hi ⟨s1, vs, hD, hP⟩ ⟨rfl, rfl⟩
      rw [el] at hi
      have h1 : 2 * i < l.length := by omega
      have h2 : 2 * i + 1 < l.length := by omega
      have g1 : (l.map nv)[2 * i]? = some (nv l[2 * i]) := by
        rw [List.getElem?_map, List.getElem?_eq_getElem h1]
        rfl
      have g2 : (l.map nv)[2 * i + 1]? = some (nv l[2 * i + 1]) := by
        rw [List.getElem?_map, List.getElem?_eq_getElem h2]
        rfl
      have hS1 : SqL K H1 a (l.map nv) := s1.seq hS
      refine ⟨rfl, ?_⟩
      refine ⟨_, rfl, _, rfl, a, _, _, _, rfl, rfl, hS1, at_of (j := 2 * i) (by omega) g1, _, rfl, _, rfl, _, _, rfl, rfl, a, _, _, _, rfl, rfl, hS1, at_of (j := 2 * i + 1) (by omega) g2, (by show 2 ≤ sizeLine; decide), fun t nt => ?_⟩
      have nDt : D ≠ t := ne_of_none hD nt
      have hD2 : upd H1 t (.tup [nv l[2 * i], nv l[2 * i + 1]]) D = some (.lst vs) := by
        rw [upd_ne nDt]
        exact hD
      have s2 := same_upd (o := .tup [nv l[2 * i], nv l[2 * i + 1]]) nt
      have hlv : vs.length ≤ 1000 := by
        rw [hP.1, List.length_take, prs_length]
        omega
      refine ⟨vs, hD2, small1000 hlv, fun b o e => ?_, _, upd_same, ?_⟩
      · rw [upd_ne (ne_of_none e nD)]
        exact s2 _ _ (s1 _ _ e)
      · rw [take_more (prs_get l i _ _ (List.getElem?_eq_getElem h1) (List.getElem?_eq_getElem h2))]
        refine PairsAt.snoc ((hP.keep (Same.stup s2)).keep (stup_lst hD2)) ?_
        rw [upd_ne nDt.symm]
        exact upd_same
    · rintro H1 ⟨s1, vs, hD, hP⟩
      rw [el, List.take_of_length_le (by rw [prs_length]; omega)] at hP
      exact q H1 D s1 ⟨vs, hD, hP⟩
/-! ### links_are_allowed -/
def prD2 (p : Nat × Nat) : PyData := .tuple [.int p.1, .int p.2]
/-- such pairs, and lists of them, are plain data of small depth -/
theorem pair_flat (z : Nat × Nat) : (prD2 z).canLay0 = true ∧ (prD2 z).depth = 1 := ⟨by simp [prD2, PyData.canLay0, PyData.canLayAll0], by simp [prD2, PyData.depth, PyData.depthAll]⟩
theorem pairs_flat (zs : List (Nat × Nat)) : PyData.canLayAll0 (zs.map prD2) = true ∧ PyData.depthAll (zs.map prD2) ≤ 1 := by
  induction zs with
  | nil => exact ⟨by simp [PyData.canLayAll0], by simp [PyData.depthAll]⟩
  | cons z zs ih =>
    have hz := pair_flat z
    refine ⟨by simp [PyData.canLayAll0, hz.1, ih.1], ?_⟩
    have e : PyData.depthAll ((z :: zs).map prD2) = max (prD2 z).depth (PyData.depthAll (zs.map prD2)) := by simp [PyData.depthAll]
    omega
theorem prD2_shaped (z : Nat × Nat) : SeqAt.shaped (prD2 z) = true :=
  Bool.and_eq_true_iff.mpr ⟨(pair_flat z).1, decide_eq_true (by rw [(pair_flat z).2]; decide)⟩
theorem prD2s_shaped (zs : List (Nat × Nat)) : SeqAt.shaped (.list (zs.map prD2)) = true := by
  refine Bool.and_eq_true_iff.mpr ⟨?_, decide_eq_true ?_⟩
  · have := (pairs_flat zs).1
    simpa [PyData.canLay0] using this
  · have h := (pairs_flat zs).2
    have e : PyData.depth (.list (zs.map prD2)) = PyData.depthAll (zs.map prD2) + 1 := by simp [PyData.depth, Nat.add_comm]
    omega
theorem prD2_eqv (z w : Nat × Nat) : PyData.eqv (prD2 z) (prD2 w) = decide (z = w) := by
  obtain ⟨a, b⟩ := z
  obtain ⟨a', b'⟩ := w
  have e : PyData.eqv (prD2 (a, b)) (prD2 (a', b')) = (((a : Int) == (a' : Int)) && (((b : Int) == (b' : Int)) && true)) := by simp only [prD2, PyData.eqv, PyData.eqvAll]
  rw [e, Bool.and_true, Bool.eq_iff_iff, Bool.and_eq_true, beq_iff_eq, beq_iff_eq, decide_eq_true_iff, Prod.mk.injEq]
  omega
theorem any_eqv (zs : List (Nat × Nat)) (p : Nat × Nat) : ((zs.map prD2).any fun z => PyData.eqv z (prD2 p)) = decide (p ∈ zs) := by
  rw [List.any_map, Bool.eq_iff_iff, List.any_eq_true, decide_eq_true_iff]
  constructor
  · rintro ⟨z, hz, he⟩
    have : decide (z = p) = true := by rw [← prD2_eqv]; exact he
    rw [← of_decide_eq_true this]
    exact hz
  · intro h
    refine ⟨p, h, ?_⟩
    show PyData.eqv (prD2 p) (prD2 p) = true
    rw [prD2_eqv]
    exact decide_eq_true rfl
theorem dp_pair {H : Hp} {t : Addr} {p : Nat × Nat} (h : H t = some (.tup [nv p.1, nv p.2])) : Dp K H (.ref t) (prD2 p) := .tup (SqT.of h) (.cons (.int _) (.cons (.int _) .nil))
theorem dp_pairs : ∀ {H : Hp} {vs : List V} {ps : List (Nat × Nat)}, PairsAt H vs ps → DpAll K H vs (ps.map prD2)
  | _, [], [], _ => .nil
  | _, [], _ :: _, h => by have := h.1; simp at this
  | _, _ :: _, [], h => by have := h.1; simp at this
  | H, v :: vs, p :: ps, h => by
    obtain ⟨t, e1, e2⟩ := h.2 0 p rfl
    have ev : v = .ref t := Option.some.inj e1
    subst ev
    exact .cons (dp_pair e2) (dp_pairs ⟨by have := h.1; simpa using this, fun i q hq => h.2 (i + 1) q hq⟩)
def spAllowed : Sp := fun vs H Q _ => ∃ (a : Addr) (n : Nat) (ls : List (Nat × Nat)), vs = [nv n, .ref a] ∧ LinksAt H a ls ∧ ls.length ≤ 1000 ∧
  ∀ H', Same H H' → Q (.bl (decide (Allowed n ls))) H'
theorem ok_allowed {f : Addr} {fd : FuncData} {k : Nat} (F : Fun K "links_are_allowed" "links_are_allowed" s_links_are_allowed f fd) (T : Txt mg) : FnOk P w K mg base CX0 (k + 1) f fd ["n", "links"] spAllowed := by
  refine F.ok scAllowed (fun vs H Q E h => ?_) (fun cdv A outer s H vs Q E hr h => ?_)
  · obtain ⟨a, n, ls, rfl, _⟩ := h
    rfl
  · obtain ⟨a, n, ls, rfl, ⟨lv, hA, hL⟩, hlen, q⟩ := h
    have hu : (A.deeper (envOfC "links_are_allowed" (defScope s_links_are_allowed) s.heap.objs.size f cdv)).units + 65 < cLine := by
      have := hr.un
      omega
    refine ⟨_, pss_cons (ps_set (i := 2) scAllowed.nd rfl (.inl rfl) (pe_lst pa_nil))
      (pss_cons (ps_for PassesOwn.never rfl (pi_list (pv 1)) (pg_tup rfl (pgs_cons (pg_name (i := 3) scAllowed.nd rfl (.inl rfl)) (pgs_cons (pg_name (i := 4) scAllowed.nd rfl (.inl rfl)) pgs_nil)))
        (pss_cons (ps_if (PW.pt (pw_or (pt_cmpR op_ge (pv 3) (pv 0) (nomark _)) (pw_or (pt_cmpR op_ge (pv 4) (pv 0) (nomark _)) (pw_or1 (pt_cmpR op_eq (pv 3) (pv 4) (nomark _)))))) (pss_one (ps_ret pe_bl)) pss_nil)
        (pss_cons (ps_if (PW.pt (pw_or (pt_cmpR (op_inD hu) (pe_tup (pa_cons (pv 3) (pa_cons (pv 4) pa_nil))) (pv 2) (by rfl)) (pw_or1 (pt_cmpR (op_inD hu) (pe_tup (pa_cons (pv 4) (pa_cons (pv 3) pa_nil))) (pv 2) (by rfl))))) (pss_one (ps_ret pe_bl)) pss_nil)
        (pss_one (ps_expr (pe_bm PySem.F.plainAttrs_list PySem.F.slot_list_append PySem.F.type_list_append mt_append (pv 2) (pa_cons (pe_tup (pa_cons (pv 3) (pa_cons (pv 4) pa_nil))) pa_nil)))))))
      (pss_one (ps_ret pe_bl))), ?_⟩
    refine ⟨Nat.zero_le _, fun m nm => ?_⟩
    have s0 : Same H (upd H m (.lst [])) := same_upd nm
    refine ⟨_, rfl, a, rfl, ⟨_, SqL.of (s0 _ _ hA)⟩, for_list (K := K) (a := a) (xs := lv) (fun i σ H' => ∃ y3 y4 vs, σ = [some (nv n), some (.ref a), some (.ref m), y3, y4] ∧ Same H H' ∧ H' m = some (.lst vs) ∧ PairsAt H' vs (ls.take i) ∧ Allowed n (ls.take i))
      ⟨none, none, [], rfl, s0, upd_same, PairsAt.nil, allowed_nil n⟩ (fun i σ H' _ ⟨_, _, _, _, s1, _⟩ => SqL.of (s1 _ _ hA)) ?_ ?_⟩
    · rintro i x σ H1 hi ⟨y3, y4, vs, rfl, s1, hm, hP, hAl⟩
      have hil : i < ls.length := by
        rw [← hL.1]
        exact (List.getElem?_eq_some_iff.mp hi).1
      have hp : ls[i]? = some ls[i] := List.getElem?_eq_getElem hil
      generalize ls[i] = p at hp
      obtain ⟨t, ht1, ht2⟩ := hL.2 i p hp
      have ex : x = .ref t := Option.some.inj (hi.symm.trans ht1)
      subst ex
      have ht3 : H1 t = some (.tup [nv p.1, nv p.2]) := s1 _ _ ht2
      have hsn : Allowed n (ls.take (i + 1)) ↔ Allowed n (ls.take i) ∧ Ok1 n p ∧ ∀ q ∈ ls.take i, Apt q p := by
        rw [take_more hp]
        exact allowed_snoc
      have no : ∀ H', Same H H' → ¬ (Ok1 n p ∧ ∀ q ∈ ls.take i, Apt q p) → Q (.bl false) H' := fun H' s' c => by
        have := q H' s'
        rw [decide_eq_false (fun z => c (hsn.mp (allowed_take z (i + 1))).2)] at this
        exact this
      refine ⟨t, _, rfl, SqT.of ht3, rfl, _, _, rfl, _, _, rfl, rfl, ?_⟩
      refine ⟨_, rfl, _, rfl, _, _, rfl, rfl, _, rfl, ?_⟩
      by_cases c1 : n ≤ p.1
      · refine if_true_of (decide_eq_true (by omega)) (if_true_of rfl ?_)
        exact no _ s1 (fun z => by have := z.1.1; omega)
      refine if_false_of (decide_eq_false (by omega)) ?_
      refine ⟨_, rfl, _, rfl, _, _, rfl, rfl, _, rfl, ?_⟩
      by_cases c2 : n ≤ p.2
      · refine if_true_of (decide_eq_true (by omega)) (if_true_of rfl ?_)
        exact no _ s1 (fun z => by have := z.1.2.1; omega)
      refine if_false_of (decide_eq_false (by omega)) ?_
      refine ⟨_, rfl, _, rfl, rfl, _, rfl, ?_⟩
      by_cases c3 : p.1 = p.2
      · refine if_true_of (decide_eq_true (by rw [c3])) ?_
        exact no _ s1 (fun z => z.1.2.2 c3)
      refine if_false_of (decide_eq_false (fun z => c3 (by have e : (p.1 : Int) = (p.2 : Int) := V.int.inj z; omega))) ?_
      -- the second test
      refine ⟨_, rfl, _, rfl, (by show 2 ≤ sizeLine; decide), fun t1 nt1 => ?_⟩
      have s2 := s1.trans (same_upd (o := .tup [nv p.1, nv p.2]) nt1)
      have hm2 : upd H1 t1 (.tup [nv p.1, nv p.2]) m = some (.lst vs) := same_upd nt1 _ _ hm
      have hP2 : PairsAt (upd H1 t1 (.tup [nv p.1, nv p.2])) vs (ls.take i) := hP.keep (stup_new nt1)
      refine ⟨_, rfl, prD2 p, _, dp_pair (p := p) upd_same, .lst (SqL.of hm2) (dp_pairs hP2), prD2_shaped _, prD2s_shaped _, _, rfl, ?_⟩
      rw [any_eqv]
      by_cases d1 : p ∈ ls.take i
      · refine if_true_of (decide_eq_true d1) (if_true_of rfl ?_)
        exact no _ s2 (fun z => (z.2 p d1).1 rfl)
      refine if_false_of (decide_eq_false d1) ?_
      refine ⟨_, rfl, _, rfl, (by show 2 ≤ sizeLine; decide), fun t2 nt2 => ?_⟩
      generalize hH2 : upd H1 t1 (.tup [nv p.1, nv p.2]) = H2 at s2 hm2 hP2 nt2
      have s3 := s2.trans (same_upd (o := .tup [nv p.2, nv p.1]) nt2)
      have hm3 : upd H2 t2 (.tup [nv p.2, nv p.1]) m = some (.lst vs) := same_upd nt2 _ _ hm2
      have hP3 : PairsAt (upd H2 t2 (.tup [nv p.2, nv p.1])) vs (ls.take i) := hP2.keep (stup_new nt2)
      refine ⟨_, rfl, prD2 (p.2, p.1), _, dp_pair (p := (p.2, p.1)) upd_same, .lst (SqL.of hm3) (dp_pairs hP3), prD2_shaped _, prD2s_shaped _, _, rfl, ?_⟩
      rw [any_eqv]
      by_cases d2 : (p.2, p.1) ∈ ls.take i
      · refine if_true_of (decide_eq_true d2) ?_
        exact no _ s3 (fun z => (z.2 _ d2).2 rfl)
      refine if_false_of (decide_eq_false d2) ?_
      -- met.append((one, other))
      generalize hH3 : upd H2 t2 (.tup [nv p.2, nv p.1]) = H3 at s3 hm3 hP3
      refine ⟨_, rfl, .inl ⟨rfl, _, SqL.of hm3⟩, _, rfl, _, rfl, (by show 2 ≤ sizeLine; decide), fun t3 nt3 => ?_⟩
      have s4 := same_upd (o := .tup [nv p.1, nv p.2]) nt3
      have hm4 : upd H3 t3 (.tup [nv p.1, nv p.2]) m = some (.lst vs) := s4 _ _ hm3
      have nmt : m ≠ t3 := ne_of_none hm3 nt3
      refine ⟨m, vs, _, rfl, rfl, hm4, small1000 (by rw [hP3.1, List.length_take]; omega), _, _, _, rfl, fun b o e => ?_, upd_same, ?_, ?_⟩
      · rw [upd_ne (ne_of_none e nm)]
        exact s4 _ _ (s3 _ _ e)
      · rw [take_more hp]
        refine PairsAt.snoc ((hP3.keep (Same.stup s4)).keep (stup_lst hm4)) ?_
        rw [upd_ne nmt.symm]
        exact upd_same
      · refine hsn.mpr ⟨hAl, ⟨by omega, by omega, c3⟩, fun z hz => ⟨fun e => d1 (e ▸ hz), fun e => d2 (e ▸ hz)⟩⟩
    · rintro σ H1 ⟨y3, y4, vs, rfl, s1, hm, hP, hAl⟩
      rw [hL.1, List.take_length] at hAl
      have := q H1 s1
      rw [decide_eq_true hAl] at this
      exact this
end
end Wp
namespace Wp
open PySem PySem.Spec PyProof.Rows L2
theorem scHang : FnScope ["n", "links", "reached", "turn", "one", "other", "place"] ["n", "links"] (defScope s_hang_together) := ⟨rfl, rfl, rfl, by decide +kernel, rfl, by decide +kernel, by decide +kernel⟩
section
variable {P : Program} {w : World} {K : PySem.W.Frag} {mg : Str → Option Value} {base : Heap}
theorem ixN_of {n j : Nat} (h : j < n) : ixN n (j : Int) = some j := by
  unfold ixN
  rw [if_pos (by omega), if_pos (by omega)]
  rfl
theorem getD_bl {r : List Bool} {u : Nat} (h : u < r.length) : (r.map V.bl)[u]? = some (.bl (r.getD u false)) := by
  rw [List.getElem?_map, List.getD_eq_getElem?_getD, List.getElem?_eq_getElem h]
  rfl
/-! ### hang_together -/
def spHang : Sp := fun vs H Q _ => ∃ (a : Addr) (n : Nat) (ls : List (Nat × Nat)), vs = [nv n, .ref a] ∧ LinksAt H a ls ∧ n ≤ 7 ∧ (∀ p ∈ ls, Ok1 n p) ∧
  ∀ H', Same H H' → Q (.bl (hangs n ls)) H'
theorem ok_hang {f : Addr} {fd : FuncData} {k : Nat} (F : Fun K "hang_together" "hang_together" s_hang_together f fd) (T : Txt mg) : FnOk P w K mg base CX0 (k + 1) f fd ["n", "links"] spHang := by
  refine F.ok scHang (fun vs H Q E h => ?_) (fun cdv A outer s H vs Q E hr h => ?_)
  · obtain ⟨a, n, ls, rfl, _⟩ := h
    rfl
  · obtain ⟨a, n, ls, rfl, ⟨lv, hA, hL⟩, hn7, hok, q⟩ := h
    refine ⟨_, pss_cons (ps_setLc (i := 2) (own := [("place", 6)]) (g := gName 6) (tt := tYes) (te := tOp rEq (tVar 6) (tC (.int 0))) rfl scHang.nd rfl rfl (sw_true rfl rfl rfl (by decide +kernel)) (pi_range1 rfl T.b_range (pa_cons (pv 0) pa_nil))
        (blkOk_by (N := ["n", "links", "reached", "turn", "one", "other", "place"]) (sc := defScope s_hang_together) (by decide +kernel)) (fun _ _ _ _ _ => pg_name (i := 6) scHang.nd rfl (Or.inl rfl)) (fun _ _ _ _ _ => pts_nil) (fun _ _ _ _ _ => pe_cmpR op_eq (pv 6) pe_int (nomark _)))
      (pss_cons (ps_for PassesOwn.never rfl (pi_range1 rfl T.b_range (pa_cons (pv 0) pa_nil)) (pg_name (i := 3) scHang.nd rfl (.inl rfl))
        (pss_one (ps_for PassesOwn.never rfl (pi_list (pv 1)) (pg_tup rfl (pgs_cons (pg_name (i := 4) scHang.nd rfl (.inl rfl)) (pgs_cons (pg_name (i := 5) scHang.nd rfl (.inl rfl)) pgs_nil)))
          (pss_one (ps_if (PW.pt (pw_or (pt_val (pe_ix ix_list (pv 2) (pv 4) (fun _ _ => rfl))) (pw_or1 (pt_val (pe_ix ix_list (pv 2) (pv 5) (fun _ _ => rfl))))))
            (pss_cons (ps_asg pe_bl (pg_sub (pv 2) (pv 4) set_list)) (pss_one (ps_asg pe_bl (pg_sub (pv 2) (pv 5) set_list)))) pss_nil)))))
      (pss_one (ps_ret (pe_callB (cr_all rfl) (by rfl) T.b_all (by decide +kernel) (pa_cons (pv 2) pa_nil))))), ?_⟩
    have lr0 : (reach0 n).length = n := by
      unfold reach0
      simp
    refine ⟨_, rfl, (n : Int), rfl, by omega, by omega, fun D nD => ?_⟩
    refine lc_range (lo := 0) (n := n) (fun i H' => Same H H' ∧ H' D = some (.lst (((reach0 n).take i).map V.bl))) ⟨same_upd nD, upd_same⟩ ?_ ?_
    · rintro i H1 hi ⟨s1, hD⟩
      refine ⟨rfl, ?_⟩
      refine ⟨_, rfl, rfl, _, hD, small1000 (by rw [List.length_map, List.length_take]; omega), fun b o e => ?_, ?_⟩
      · rw [upd_ne (ne_of_none e nD)]
        exact s1 _ _ e
      · rw [upd_same]
        have hg : (reach0 n)[i]? = some (decide (i = 0)) := by
          unfold reach0
          rw [List.getElem?_map, List.getElem?_range hi]
          rfl
        rw [take_more hg, List.map_append]
        have e : decide (V.int (0 + (i : Int)) = V.int 0) = decide (i = 0) := by
          rw [decide_eq_decide]
          constructor
          · intro z
            have z' := V.int.inj z
            omega
          · intro z
            subst z
            rfl
        show some (HO.lst (((reach0 n).take i).map V.bl ++ [.bl (decide (V.int (0 + (i : Int)) = V.int 0))])) = _
        rw [e]
        rfl
    rintro H1 ⟨s1, hD⟩
    rw [List.take_of_length_le (by rw [lr0]; exact Nat.le_refl n)] at hD
    refine ⟨_, rfl, (n : Int), rfl, by omega, by omega, ?_⟩
    refine for_range (lo := 0) (n := n) (fun j σ H' => ∃ y3 y4 y5, σ = [some (nv n), some (.ref a), some (.ref D), y3, y4, y5, none] ∧ Same H H' ∧ H' D = some (.lst ((rounds ls j (reach0 n)).map V.bl))) ⟨none, none, none, rfl, s1, hD⟩ ?_ ?_
    · rintro j σ H2 hj ⟨y3, y4, y5, rfl, s2, hD2⟩
      refine ⟨_, rfl, a, rfl, ⟨_, SqL.of (s2 _ _ hA)⟩, for_list (K := K) (a := a) (xs := lv) (fun i σ H' => ∃ y3 y4 y5, σ = [some (nv n), some (.ref a), some (.ref D), y3, y4, y5, none] ∧ Same H H' ∧ H' D = some (.lst ((pass (ls.take i) (rounds ls j (reach0 n))).map V.bl)))
        ⟨_, _, _, rfl, s2, hD2⟩ (fun i σ H' _ ⟨_, _, _, _, s3, _⟩ => SqL.of (s3 _ _ hA)) ?_ ?_⟩
      · rintro i x σ H3 hi ⟨z3, z4, z5, rfl, s3, hD3⟩
        have hil : i < ls.length := by
          rw [← hL.1]
          exact (List.getElem?_eq_some_iff.mp hi).1
        have hp : ls[i]? = some ls[i] := List.getElem?_eq_getElem hil
        generalize ls[i] = p at hp
        have hpo := hok p (List.mem_of_getElem? hp)
        obtain ⟨t, ht1, ht2⟩ := hL.2 i p hp
        have ex : x = .ref t := Option.some.inj (hi.symm.trans ht1)
        subst ex
        have epass : pass (ls.take (i + 1)) (rounds ls j (reach0 n)) = pass1 (pass (ls.take i) (rounds ls j (reach0 n))) p := by
          rw [take_more hp]
          unfold pass
          rw [List.foldl_append]
          rfl
        rw [epass]
        have lR : (pass (ls.take i) (rounds ls j (reach0 n))).length = n := by rw [pass_length, rounds_length, lr0]
        generalize pass (ls.take i) (rounds ls j (reach0 n)) = R at hD3 lR
        have g1 := getD_bl (r := R) (u := p.1) (by rw [lR]; exact hpo.1)
        have g2 := getD_bl (r := R) (u := p.2) (by rw [lR]; exact hpo.2.1)
        refine ⟨t, _, rfl, SqT.of (s3 _ _ ht2), rfl, _, _, rfl, _, _, rfl, rfl, ?_⟩
        -- both are set
        have stores : (R.getD p.1 false || R.getD p.2 false) = true → ∀ D' : Ends, D'.nx = (fun σ H' => ∃ y3 y4 y5, σ = [some (nv n), some (.ref a), some (.ref D), y3, y4, y5, none] ∧ Same H H' ∧ H' D = some (.lst ((pass1 R p).map V.bl))) →
            tSeq (tAsg (tC (.bl true)) (gSub (tVar 2) (tVar 4) rSetL)) (tAsg (tC (.bl true)) (gSub (tVar 2) (tVar 5) rSetL)) D' [some (nv n), some (.ref a), some (.ref D), z3, some (nv p.1), some (nv p.2), none] H3 := fun c D' eD => by
          refine ⟨_, rfl, _, rfl, D, _, _, p.1, rfl, rfl, hD3, ixN_of (by rw [List.length_map, lR]; exact hpo.1), ?_⟩
          refine ⟨_, rfl, _, rfl, D, _, _, p.2, rfl, rfl, upd_same, ixN_of (by rw [List.length_set, List.length_map, lR]; exact hpo.2.1), ?_⟩
          rw [eD]
          refine ⟨_, _, _, rfl, fun b o e => ?_, ?_⟩
          · rw [upd_ne (ne_of_none e nD), upd_ne (ne_of_none e nD)]
            exact s3 _ _ e
          · rw [upd_same]
            unfold pass1
            rw [if_pos c, List.map_set, List.map_set]
        refine ⟨_, rfl, _, rfl, D, _, _, _, rfl, rfl, SqL.of hD3, atI_nat g1, _, rfl, ?_⟩
        cases c1 : R.getD p.1 false with
        | true =>
          refine if_true_of rfl (if_true_of rfl ?_)
          exact stores (by rw [c1, Bool.true_or]) _ rfl
        | false =>
          refine if_false_of rfl ?_
          refine ⟨_, rfl, _, rfl, D, _, _, _, rfl, rfl, SqL.of hD3, atI_nat g2, _, rfl, ?_⟩
          cases c2 : R.getD p.2 false with
          | true =>
            refine if_true_of rfl ?_
            exact stores (by rw [c1, c2, Bool.or_true]) _ rfl
          | false =>
            refine if_false_of rfl ?_
            refine ⟨_, _, _, rfl, s3, ?_⟩
            unfold pass1
            rw [c1, c2, Bool.or_false, if_neg Bool.false_ne_true]
            exact hD3
      · rintro σ H3 ⟨z3, z4, z5, rfl, s3, hD3⟩
        rw [hL.1, List.take_length] at hD3
        exact ⟨_, _, _, rfl, s3, hD3⟩
    · rintro σ H2 ⟨y3, y4, y5, rfl, s2, hD2⟩
      exact ⟨_, rfl, D, _, rfl, SqL.of hD2, q H2 s2⟩
end
end Wp
namespace Wp
open PySem PySem.Spec PyProof.Rows L2
theorem scExits : FnScope ["n", "links", "exits", "one", "other", "exit_of_one", "exit_of_other", "place"] ["n", "links"] (defScope s_exits_of_places) := ⟨rfl, rfl, rfl, by decide +kernel, rfl, by decide +kernel, by decide +kernel⟩
section
variable {P : Program} {w : World} {K : PySem.W.Frag} {mg : Str → Option Value} {base : Heap}
/-! ### exits_of_places -/
/-- the table while it is built -/
def Bld (H0 H : Hp) (D : Addr) (tab : List (List (Nat × Nat))) : Prop := ∃ qs : List Addr, H D = some (.lst (qs.map V.ref)) ∧ qs.length = tab.length ∧ qs.Nodup ∧ (∀ q ∈ qs, q ≠ D ∧ H0 q = none) ∧
  ∀ (i : Nat) (r : List (Nat × Nat)), tab[i]? = some r → ∃ q vs, qs[i]? = some q ∧ H q = some (.lst vs) ∧ PairsAt H vs r
theorem Bld.tab {H0 H : Hp} {D : Addr} {tab : List (List (Nat × Nat))} (h : Bld H0 H D tab) : TabAt H D tab := by
  obtain ⟨qs, e, hl, _, _, p⟩ := h
  exact ⟨qs, e, hl, p⟩
theorem Bld.keep {H0 H H' : Hp} {D : Addr} {tab : List (List (Nat × Nat))} (s : Same H H') (h : Bld H0 H D tab) : Bld H0 H' D tab := by
  obtain ⟨qs, e, hl, nd, ne, p⟩ := h
  refine ⟨qs, s _ _ e, hl, nd, ne, fun i r hr => ?_⟩
  obtain ⟨q, vs, e1, e2, e3⟩ := p i r hr
  exact ⟨q, vs, e1, s _ _ e2, e3.keep (Same.stup s)⟩
/-- one more exit of place u -/
theorem Bld.push {H0 H : Hp} {D : Addr} {tab : List (List (Nat × Nat))} {u : Nat} {r : List (Nat × Nat)} {qs : List Addr} {q : Addr} {vs : List V} {t : Addr} {x : Nat × Nat}
    (hD : H D = some (.lst (qs.map V.ref))) (hl : qs.length = tab.length) (nd : qs.Nodup) (ne : ∀ q ∈ qs, q ≠ D ∧ H0 q = none) (p : ∀ (i : Nat) (r : List (Nat × Nat)), tab[i]? = some r → ∃ q vs, qs[i]? = some q ∧ H q = some (.lst vs) ∧ PairsAt H vs r)
    (hr : tab[u]? = some r) (hq : qs[u]? = some q) (hv : H q = some (.lst vs)) (hP : PairsAt H vs r) (ht : H t = some (.tup [nv x.1, nv x.2])) : Bld H0 (upd H q (.lst (vs ++ [.ref t]))) D (tab.set u (r ++ [x])) := by
  have st : STup H (upd H q (.lst (vs ++ [.ref t]))) := stup_lst hv
  have hqm : q ∈ qs := List.mem_of_getElem? hq
  refine ⟨qs, ?_, by rw [hl, List.length_set], nd, ne, fun i r' hr' => ?_⟩
  · rw [upd_ne (ne q hqm).1.symm]
    exact hD
  · by_cases c : u = i
    · subst c
      rw [List.getElem?_set_self (List.getElem?_eq_some_iff.mp hr).1] at hr'
      cases hr'
      exact ⟨q, _, hq, upd_same, (hP.keep st).snoc (st _ _ ht)⟩
    · rw [List.getElem?_set_ne c] at hr'
      obtain ⟨q', vs', e1, e2, e3⟩ := p i r' hr'
      refine ⟨q', vs', e1, ?_, e3.keep st⟩
      have nq : q' ≠ q := fun z => c (by
        subst z
        exact nd_ix nd hq e1)
      rw [upd_ne nq]
      exact e2
theorem tab_snoc {n : Nat} {ls : List (Nat × Nat)} {p : Nat × Nat} (hp : Ok1 n p) :
    (((List.range n).map (row ls)).set p.1 (row ls p.1 ++ [(p.2, (row ls p.2).length)])).set p.2 (row ls p.2 ++ [(p.1, (row ls p.1).length)]) = (List.range n).map (row (ls ++ [p])) := by
  obtain ⟨a, b⟩ := p
  obtain ⟨h1, h2, h3⟩ := hp
  apply List.ext_getElem?
  intro i
  by_cases hi : i < n
  · rw [List.getElem?_map, List.getElem?_range hi]
    show _ = some (row (ls ++ [(a, b)]) i)
    rw [row_snoc]
    by_cases c2 : b = i
    · subst c2
      rw [List.getElem?_set_self (by simpa using hi)]
      have e : touch (a, b) b = true := by
        unfold touch
        simp
      have eo : oth (a, b) b = a := if_neg h3
      rw [e, eo, if_pos rfl]
    · rw [List.getElem?_set_ne c2]
      by_cases c1 : a = i
      · subst c1
        rw [List.getElem?_set_self (by simpa using hi)]
        have e : touch (a, b) a = true := by
          unfold touch
          simp
        have eo : oth (a, b) a = b := if_pos rfl
        rw [e, eo, if_pos rfl]
      · rw [List.getElem?_set_ne c1, List.getElem?_map, List.getElem?_range hi]
        have e : touch (a, b) i = false := by
          unfold touch
          simp [c1, c2]
        rw [e, if_neg Bool.false_ne_true, List.append_nil]
        rfl
  · rw [List.getElem?_eq_none (by simp; omega), List.getElem?_eq_none (by simp; omega)]
def spExits : Sp := fun vs H Q _ => ∃ (a : Addr) (n : Nat) (ls : List (Nat × Nat)), vs = [nv n, .ref a] ∧ LinksAt H a ls ∧ n ≤ 7 ∧ ls.length ≤ 100 ∧ (∀ p ∈ ls, Ok1 n p) ∧
  ∀ H' q, Same H H' → TabAt H' q ((List.range n).map (row ls)) → Q (.ref q) H'
theorem ok_exits {f : Addr} {fd : FuncData} {k : Nat} (F : Fun K "exits_of_places" "exits_of_places" s_exits_of_places f fd) (T : Txt mg) : FnOk P w K mg base CX0 (k + 1) f fd ["n", "links"] spExits := by
  refine F.ok scExits (fun vs H Q E h => ?_) (fun cdv A outer s H vs Q E hr h => ?_)
  · obtain ⟨a, n, ls, rfl, _⟩ := h
    rfl
  · obtain ⟨a, n, ls, rfl, ⟨lv, hA, hL⟩, hn7, hlen, hok, q⟩ := h
    refine ⟨_, pss_cons (ps_setLc (i := 2) (own := [("place", 7)]) (g := gName 7) (tt := tYes) (te := tLst tNil) rfl scExits.nd rfl rfl (sw_true rfl rfl rfl (by decide +kernel)) (pi_range1 rfl T.b_range (pa_cons (pv 0) pa_nil))
        (blkOk_by (N := ["n", "links", "exits", "one", "other", "exit_of_one", "exit_of_other", "place"]) (sc := defScope s_exits_of_places) (by decide +kernel)) (fun _ _ _ _ _ => pg_name (i := 7) scExits.nd rfl (Or.inl rfl)) (fun _ _ _ _ _ => pts_nil) (fun _ _ _ _ _ => pe_lst pa_nil))
      (pss_cons (ps_for PassesOwn.never rfl (pi_list (pv 1)) (pg_tup rfl (pgs_cons (pg_name (i := 3) scExits.nd rfl (.inl rfl)) (pgs_cons (pg_name (i := 4) scExits.nd rfl (.inl rfl)) pgs_nil)))
        (pss_cons (ps_set (i := 5) scExits.nd rfl (.inl rfl) (pe_callB call_len_seq (by rfl) T.b_len PySem.boot_len (pa_cons (pe_ix ix_list (pv 2) (pv 3) (fun _ _ => rfl)) pa_nil)))
        (pss_cons (ps_set (i := 6) scExits.nd rfl (.inl rfl) (pe_callB call_len_seq (by rfl) T.b_len PySem.boot_len (pa_cons (pe_ix ix_list (pv 2) (pv 4) (fun _ _ => rfl)) pa_nil)))
        (pss_cons (ps_expr (pe_bm PySem.F.plainAttrs_list PySem.F.slot_list_append PySem.F.type_list_append mt_append (pe_ix ix_list (pv 2) (pv 3) (fun _ _ => rfl)) (pa_cons (pe_tup (pa_cons (pv 4) (pa_cons (pv 6) pa_nil))) pa_nil)))
        (pss_one (ps_expr (pe_bm PySem.F.plainAttrs_list PySem.F.slot_list_append PySem.F.type_list_append mt_append (pe_ix ix_list (pv 2) (pv 4) (fun _ _ => rfl)) (pa_cons (pe_tup (pa_cons (pv 3) (pa_cons (pv 5) pa_nil))) pa_nil))))))))
      (pss_one (ps_ret (pv 2)))), ?_⟩
    refine ⟨_, rfl, (n : Int), rfl, by omega, by omega, fun D nD => ?_⟩
    refine lc_range (lo := 0) (n := n) (fun i H' => Same H H' ∧ Bld H H' D (List.replicate i [])) ⟨same_upd nD, [], upd_same, rfl, List.nodup_nil, (fun _ h => nomatch h), (fun i r hr => by simp at hr)⟩ ?_ ?_
    · rintro i H1 hi ⟨s1, qs, hD, hl, nd, ne, p⟩
      refine ⟨rfl, ?_⟩
      refine ⟨Nat.zero_le _, fun z nz => ⟨qs.map V.ref, ?_, small1000 ?_, ?_⟩⟩
      · rw [upd_ne (ne_of_none hD nz)]
        exact hD
      · rw [List.length_map, hl, List.length_replicate]
        omega
      have s2 := same_upd (o := .lst []) nz
      have nzD : z ≠ D := (ne_of_none hD nz).symm
      refine ⟨fun b o e => ?_, qs ++ [z], ?_, ?_, ?_, ?_, ?_⟩
      · rw [upd_ne (ne_of_none e nD)]
        exact s2 _ _ (s1 _ _ e)
      · rw [upd_same, List.map_append]
        rfl
      · rw [List.length_append, hl, List.length_replicate, List.length_replicate]
        rfl
      · rw [List.nodup_append]
        refine ⟨nd, by simp, fun b hb c hc => ?_⟩
        rw [List.mem_singleton.mp hc]
        intro e
        subst e
        obtain ⟨j, hj, ej⟩ := List.getElem_of_mem hb
        have hjt : (List.replicate i ([] : List (Nat × Nat)))[j]? = some [] := by
          rw [List.getElem?_replicate, if_pos (by rw [hl, List.length_replicate] at hj; exact hj)]
        obtain ⟨q', vs', e1, e2, _⟩ := p j [] hjt
        rw [List.getElem?_eq_getElem hj, ej] at e1
        cases e1
        rw [nz] at e2
        cases e2
      · intro b hb
        rcases List.mem_append.mp hb with hb | hb
        · exact ne b hb
        · rw [List.mem_singleton.mp hb]
          exact ⟨nzD, s1.free nz⟩
      · intro j r hr
        have hji : j < i + 1 := by
          have := (List.getElem?_eq_some_iff.mp hr).1
          rw [List.length_replicate] at this
          exact this
        rw [List.getElem?_replicate, if_pos hji] at hr
        cases hr
        by_cases c : j < i
        · obtain ⟨q', vs', e1, e2, e3⟩ := p j [] (by rw [List.getElem?_replicate, if_pos c])
          refine ⟨q', vs', ?_, ?_, ?_⟩
          · rw [List.getElem?_append_left (by rw [hl, List.length_replicate]; exact c)]
            exact e1
          · rw [upd_ne (ne q' (List.mem_of_getElem? e1)).1]
            exact s2 _ _ e2
          · have h0 : vs' = [] := List.eq_nil_of_length_eq_zero e3.1
            rw [h0]
            exact PairsAt.nil
        · have cj : j = i := by omega
          subst cj
          refine ⟨z, [], ?_, ?_, PairsAt.nil⟩
          · rw [List.getElem?_append_right (by rw [hl, List.length_replicate]; exact Nat.le_refl _), hl, List.length_replicate, Nat.sub_self]
            rfl
          · rw [upd_ne nzD]
            exact upd_same
    rintro H1 ⟨s1, hB⟩
    have e0 : List.replicate n ([] : List (Nat × Nat)) = (List.range n).map (row (ls.take 0)) := by
      apply List.ext_getElem?
      intro i
      by_cases hi : i < n
      · rw [List.getElem?_replicate, if_pos hi, List.getElem?_map, List.getElem?_range hi]
        rfl
      · rw [List.getElem?_eq_none (by simp; omega), List.getElem?_eq_none (by simp; omega)]
    rw [e0] at hB
    refine ⟨_, rfl, a, rfl, ⟨_, SqL.of (s1 _ _ hA)⟩, for_list (K := K) (a := a) (xs := lv) (fun i σ H' => ∃ y3 y4 y5 y6, σ = [some (nv n), some (.ref a), some (.ref D), y3, y4, y5, y6, none] ∧ Same H H' ∧ Bld H H' D ((List.range n).map (row (ls.take i))))
      ⟨_, _, _, _, rfl, s1, hB⟩ (fun i σ H' _ ⟨_, _, _, _, _, s3, _⟩ => SqL.of (s3 _ _ hA)) ?_ ?_⟩
    · rintro i x σ H2 hi ⟨y3, y4, y5, y6, rfl, s2, qs, hD, hl, nd, ne, pr⟩
      have hil : i < ls.length := by
        rw [← hL.1]
        exact (List.getElem?_eq_some_iff.mp hi).1
      have hp : ls[i]? = some ls[i] := List.getElem?_eq_getElem hil
      generalize ls[i] = p at hp
      have hpo := hok p (List.mem_of_getElem? hp)
      obtain ⟨t, ht1, ht2⟩ := hL.2 i p hp
      have ex : x = .ref t := Option.some.inj (hi.symm.trans ht1)
      subst ex
      have etab : (List.range n).map (row (ls.take (i + 1))) = (((List.range n).map (row (ls.take i))).set p.1 (row (ls.take i) p.1 ++ [(p.2, (row (ls.take i) p.2).length)])).set p.2 (row (ls.take i) p.2 ++ [(p.1, (row (ls.take i) p.1).length)]) := by
        rw [take_more hp, tab_snoc hpo]
      rw [etab]
      have lrow : ∀ u, (row (ls.take i) u).length ≤ 100 := fun u => by
        rw [row_length, exs_def]
        refine Nat.le_trans (List.length_filter_le _ _) ?_
        rw [List.length_range, List.length_take]
        omega
      have ht : ∀ u, u < n → ((List.range n).map (row (ls.take i)))[u]? = some (row (ls.take i) u) := fun u hu => by
        rw [List.getElem?_map, List.getElem?_range hu]
        rfl
      obtain ⟨q1, vs1, a1, b1, c1⟩ := pr p.1 _ (ht p.1 hpo.1)
      obtain ⟨q2, vs2, a2, b2, c2⟩ := pr p.2 _ (ht p.2 hpo.2.1)
      have n12 : q2 ≠ q1 := fun z => hpo.2.2 (by
        subst z
        exact (nd_ix nd a2 a1).symm)
      have i1 : atI (qs.map V.ref) (p.1 : Int) = some (.ref q1) := atI_nat (by rw [List.getElem?_map, a1]; rfl)
      have i2 : atI (qs.map V.ref) (p.2 : Int) = some (.ref q2) := atI_nat (by rw [List.getElem?_map, a2]; rfl)
      refine ⟨t, _, rfl, SqT.of (s2 _ _ ht2), rfl, _, _, rfl, _, _, rfl, rfl, ?_⟩
      -- the two lengths
      refine ⟨_, rfl, _, rfl, D, _, _, _, rfl, rfl, SqL.of hD, i1, q1, vs1, rfl, .inl (SqL.of b1), ?_⟩
      refine ⟨_, rfl, _, rfl, D, _, _, _, rfl, rfl, SqL.of hD, i2, q2, vs2, rfl, .inl (SqL.of b2), ?_⟩
      -- exits[one].append((other, exit_of_other))
      refine ⟨_, rfl, _, rfl, D, _, _, _, rfl, rfl, SqL.of hD, i1, .inl ⟨rfl, _, SqL.of b1⟩, _, rfl, _, rfl, (by show 2 ≤ sizeLine; decide), fun t1 nt1 => ?_⟩
      have st1 := same_upd (o := .tup [nv p.2, .int vs2.length]) nt1
      refine ⟨q1, vs1, _, rfl, rfl, st1 _ _ b1, small1000 (by rw [c1.1]; exact Nat.le_trans (lrow _) (by decide)), ?_⟩
      have B1 : Bld H (upd (upd H2 t1 (.tup [nv p.2, .int vs2.length])) q1 (.lst (vs1 ++ [.ref t1]))) D (((List.range n).map (row (ls.take i))).set p.1 (row (ls.take i) p.1 ++ [(p.2, (row (ls.take i) p.2).length)])) := by
        refine Bld.push (x := (p.2, (row (ls.take i) p.2).length)) (st1 _ _ hD) hl nd ne (fun j r hr => ?_) (ht p.1 hpo.1) a1 (st1 _ _ b1) (c1.keep (Same.stup st1)) ?_
        · obtain ⟨q', vs', e1, e2, e3⟩ := pr j r hr
          exact ⟨q', vs', e1, st1 _ _ e2, e3.keep (Same.stup st1)⟩
        · rw [upd_same, c2.1]
      have hN1 : H q1 = none := (ne q1 (List.mem_of_getElem? a1)).2
      have hN2 : H q2 = none := (ne q2 (List.mem_of_getElem? a2)).2
      have sH1 : Same H (upd (upd H2 t1 (.tup [nv p.2, .int vs2.length])) q1 (.lst (vs1 ++ [.ref t1]))) := fun b o e => by
        rw [upd_ne (ne_of_none e hN1)]
        exact st1 _ _ (s2 _ _ e)
      generalize upd (upd H2 t1 (.tup [nv p.2, .int vs2.length])) q1 (.lst (vs1 ++ [.ref t1])) = H3 at B1 sH1
      obtain ⟨qs', hD', hl', nd', ne', pr'⟩ := B1
      have ht2' : (((List.range n).map (row (ls.take i))).set p.1 (row (ls.take i) p.1 ++ [(p.2, (row (ls.take i) p.2).length)]))[p.2]? = some (row (ls.take i) p.2) := by
        rw [List.getElem?_set_ne hpo.2.2]
        exact ht p.2 hpo.2.1
      obtain ⟨q3, vs3, a3, b3, c3⟩ := pr' p.2 _ ht2'
      have i3 : atI (qs'.map V.ref) (p.2 : Int) = some (.ref q3) := atI_nat (by rw [List.getElem?_map, a3]; rfl)
      have hN3 : H q3 = none := (ne' q3 (List.mem_of_getElem? a3)).2
      -- exits[other].append((one, exit_of_one))
      refine ⟨_, rfl, _, rfl, D, _, _, _, rfl, rfl, SqL.of hD', i3, .inl ⟨rfl, _, SqL.of b3⟩, _, rfl, _, rfl, (by show 2 ≤ sizeLine; decide), fun t2 nt2 => ?_⟩
      have st2 := same_upd (o := .tup [nv p.1, .int vs1.length]) nt2
      refine ⟨q3, vs3, _, rfl, rfl, st2 _ _ b3, small1000 (by rw [c3.1]; exact Nat.le_trans (lrow _) (by decide)), _, _, _, _, rfl, fun b o e => ?_, ?_⟩
      · rw [upd_ne (ne_of_none e hN3)]
        exact st2 _ _ (sH1 _ _ e)
      · refine Bld.push (x := (p.1, (row (ls.take i) p.1).length)) (st2 _ _ hD') hl' nd' ne' (fun j r hr => ?_) ht2' a3 (st2 _ _ b3) (c3.keep (Same.stup st2)) ?_
        · obtain ⟨q', vs', e1, e2, e3⟩ := pr' j r hr
          exact ⟨q', vs', e1, st2 _ _ e2, e3.keep (Same.stup st2)⟩
        · rw [upd_same, c1.1]
    · rintro σ H2 ⟨y3, y4, y5, y6, rfl, s2, hB2⟩
      rw [hL.1, List.take_length] at hB2
      exact ⟨_, rfl, q H2 D s2 hB2.tab⟩
end
end Wp
namespace Wp
open PySem PySem.Spec PyProof.Rows L2
theorem scIsNet : FnScope ["n", "net", "links"] ["n", "net"] (defScope s_is_net) := ⟨rfl, rfl, rfl, by decide +kernel, rfl, by decide +kernel, by decide +kernel⟩
section
variable {P : Program} {w : World} {K : PySem.W.Frag} {mg : Str → Option Value} {base : Heap}
/-! ### is_net -/
def spIsNet (K : PySem.W.Frag) : Sp := fun vs H Q _ => ∃ (a : Addr) (n : Nat) (l : List Nat), vs = [nv n, .ref a] ∧ SqL K H a (l.map nv) ∧ l.length ≤ 24 ∧
  ∀ H', Same H H' → Q (.bl (isNet n l)) H'
theorem ok_is_net {f fL fA fH : Addr} {fd fdL fdA fdH : FuncData} (F : Fun K "is_net" "is_net" s_is_net f fd) (T : Txt mg) (L : Dfn K mg "links_of" s_links_of ["net"] fL fdL) (A' : Dfn K mg "links_are_allowed" s_links_are_allowed ["n", "links"] fA fdA) (H' : Dfn K mg "hang_together" s_hang_together ["n", "links"] fH fdH) :
    FnOk P w K mg base CX0 2 f fd ["n", "net"] (spIsNet K) := by
  have GL : FnOk P w K mg base CX0 1 fL fdL ["net"] (spLinksOf K) := ok_links_of L.F T
  have GA : FnOk P w K mg base CX0 1 fA fdA ["n", "links"] spAllowed := ok_allowed A'.F T
  have GH : FnOk P w K mg base CX0 1 fH fdH ["n", "links"] spHang := ok_hang H'.F T
  refine F.ok scIsNet (fun vs H Q E h => ?_) (fun cdv A outer s H vs Q E hr h => ?_)
  · obtain ⟨a, n, l, rfl, _⟩ := h
    rfl
  · obtain ⟨a, n, l, rfl, hS, hlen, q⟩ := h
    refine ⟨_, pss_cons (ps_if (PW.pt (pw_or (pt_cmpR op_lt (pv 0) pe_int (nomark _)) (pw_or1 (pt_cmpR op_gt (pv 0) (pk rfl T.c_MOST_PLACES) (nomark _))))) (pss_one (ps_ret pe_bl)) pss_nil)
      (pss_cons (ps_if (PW.pt (pw_or (pt_cmpR op_ne (pe_op op_mod (pe_callB call_len_seq (by rfl) T.b_len PySem.boot_len (pa_cons (pv 1) pa_nil)) pe_int) pe_int (nomark _)) (pw_or1 (pt_cmpR op_gt (pe_callB call_len_seq (by rfl) T.b_len PySem.boot_len (pa_cons (pv 1) pa_nil)) (pe_op op_mul pe_int (pk rfl T.c_MOST_LINKS)) (nomark _))))) (pss_one (ps_ret pe_bl)) pss_nil)
      (pss_cons (ps_set (i := 2) scIsNet.nd rfl (.inl rfl) (pe_call GL hr (by rfl) L.g L.F.kp L.b .nil pass0 (pa_cons (pv 1) pa_nil)))
      (pss_one (ps_ret (pe_and (pe_call GA hr (by rfl) A'.g A'.F.kp A'.b .nil pass0 (pa_cons (pv 0) (pa_cons (pv 2) pa_nil))) (pe_one (pe_call GH hr (by rfl) H'.g H'.F.kp H'.b .nil pass0 (pa_cons (pv 0) (pa_cons (pv 2) pa_nil))))))))), ?_⟩
    have el : (l.map nv).length = l.length := List.length_map _
    have no : ∀ H1, Same H H1 → ¬ (isNet n l = true) → Q (.bl false) H1 := fun H1 s1 c => by
      have := q H1 s1
      rw [Bool.eq_false_iff.mpr c] at this
      exact this
    refine ⟨_, rfl, _, _, rfl, rfl, _, rfl, ?_⟩
    by_cases c1 : n < 1
    · refine if_true_of (decide_eq_true (by omega)) (if_true_of rfl ?_)
      exact no _ (Same.refl H) (fun z => by have := (isNet_iff.mp z).1; omega)
    refine if_false_of (decide_eq_false (by omega)) ?_
    refine ⟨_, rfl, _, _, rfl, rfl, _, rfl, ?_⟩
    by_cases c2 : 7 < n
    · refine if_true_of (decide_eq_true (by omega)) ?_
      exact no _ (Same.refl H) (fun z => by have := (isNet_iff.mp z).1; omega)
    refine if_false_of (decide_eq_false (by omega)) ?_
    refine ⟨_, rfl, a, _, rfl, .inl hS, _, _, rfl, rfl, (by show (0 : Int) < 2; decide), rfl, _, rfl, ?_⟩
    rw [el]
    by_cases c3 : l.length % 2 = 0
    · refine if_false_of ?_ ?_
      · rw [decide_eq_true (congrArg V.int (show ((l.length : Nat) : Int) % 2 = 0 by omega))]
        rfl
      refine ⟨_, rfl, a, _, rfl, .inl hS, _, _, rfl, rfl, .inl ⟨by decide, by decide⟩, _, _, rfl, rfl, _, rfl, ?_⟩
      rw [el]
      by_cases c4 : 20 < l.length
      · refine if_true_of (decide_eq_true (by omega)) ?_
        exact no _ (Same.refl H) (fun z => by have := (isNet_iff.mp z).2.1; omega)
      refine if_false_of (decide_eq_false (by omega)) ?_
      -- links = links_of(net)
      refine ⟨_, rfl, a, l, rfl, hS, c3, hlen, fun H1 b s1 hL => ?_⟩
      refine ⟨_, rfl, _, rfl, b, n, prs l, rfl, hL, by rw [prs_length]; omega, fun H2 s2 => ?_⟩
      refine ⟨_, rfl, ?_⟩
      by_cases c5 : Allowed n (prs l)
      · refine if_true_of (decide_eq_true c5) ?_
        refine ⟨_, rfl, _, rfl, b, n, prs l, rfl, hL.keep s2, by omega, c5.1, fun H3 s3 => ?_⟩
        have := q H3 (s1.trans (s2.trans s3))
        unfold isNet at this
        rw [decide_eq_true (show 1 ≤ n ∧ n ≤ 7 by omega), decide_eq_true (show l.length % 2 = 0 ∧ l.length ≤ 20 by omega), decide_eq_true c5, Bool.true_and, Bool.true_and, Bool.true_and] at this
        exact this
      · refine if_false_of (decide_eq_false c5) ?_
        exact no _ (s1.trans s2) (fun z => c5 (isNet_iff.mp z).2.2.1)
    · refine if_true_of ?_ (if_true_of rfl ?_)
      · rw [decide_eq_false (fun z => c3 (by
          have e : ((l.length : Nat) : Int) % 2 = 0 := V.int.inj z
          omega))]
        rfl
      exact no _ (Same.refl H) (fun z => c3 (isNet_iff.mp z).2.1.1)
end
end Wp
namespace Wp
open PySem PySem.Spec PyProof.Rows L2
theorem scRefusal : FnScope ["n", "u", "net", "word"] ["n", "u", "net", "word"] (defScope s_refusal) := ⟨rfl, rfl, rfl, by decide +kernel, rfl, by decide +kernel, by decide +kernel⟩
section
variable {P : Program} {w : World} {K : PySem.W.Frag} {mg : Str → Option Value} {base : Heap}
/-! ### refusal -/
def spRefusal (K : PySem.W.Frag) : Sp := fun vs H Q _ => ∃ (a b : Addr) (n u : Nat) (net word : List Nat), vs = [nv n, nv u, .ref a, .ref b] ∧ SqL K H a (net.map nv) ∧ SqL K H b (word.map nv) ∧ net.length ≤ 24 ∧
  ∀ H', Same H H' → Q (.int (refusal n u net word)) H'
theorem ok_refusal {f fN : Addr} {fd fdN : FuncData} (F : Fun K "refusal" "refusal" s_refusal f fd) (T : Txt mg) (N : Dfn K mg "is_net" s_is_net ["n", "net"] fN fdN) (GN : FnOk P w K mg base CX0 2 fN fdN ["n", "net"] (spIsNet K)) :
    FnOk P w K mg base CX0 3 f fd ["n", "u", "net", "word"] (spRefusal K) := by
  refine F.ok scRefusal (fun vs H Q E h => ?_) (fun cdv A outer s H vs Q E hr h => ?_)
  · obtain ⟨a, b, n, u, net, word, rfl, _⟩ := h
    rfl
  · obtain ⟨a, b, n, u, net, word, rfl, hA, hB, hlen, q⟩ := h
    refine ⟨_, pss_cons (ps_if (pt_not (pt_val (pe_call GN hr (by rfl) N.g N.F.kp N.b .nil pass0 (pa_cons (pv 0) (pa_cons (pv 2) pa_nil))))) (pss_one (ps_ret (pk rfl T.c_NOT_A_NET))) pss_nil)
      (pss_cons (ps_if (pt_cmpR op_ge (pv 1) (pv 0) (nomark _)) (pss_one (ps_ret (pk rfl T.c_NO_PLACE))) pss_nil)
      (pss_cons (ps_if (pt_cmpR op_gt (pe_callB call_len_seq (by rfl) T.b_len PySem.boot_len (pa_cons (pv 3) pa_nil)) (pk rfl T.c_MOST_LETTERS) (nomark _)) (pss_one (ps_ret (pk rfl T.c_WORD_TOO_LONG))) pss_nil)
      (pss_one (ps_ret (pk rfl T.c_NOT_REFUSED))))), ?_⟩
    refine ⟨_, rfl, _, rfl, a, n, net, rfl, hA, hlen, fun H1 s1 => ?_⟩
    refine ⟨_, rfl, ?_⟩
    have ew : (word.map nv).length = word.length := List.length_map _
    have q1 := q H1 s1
    unfold refusal at q1
    by_cases c : isNet n net = true
    · rw [if_pos c] at q1
      refine if_false_of (by rw [c]; rfl) ?_
      refine ⟨_, rfl, _, rfl, _, _, rfl, rfl, _, rfl, ?_⟩
      by_cases c2 : n ≤ u
      · rw [if_pos c2] at q1
        exact if_true_of (decide_eq_true (by omega)) q1
      rw [if_neg c2] at q1
      refine if_false_of (decide_eq_false (by omega)) ?_
      refine ⟨_, rfl, b, _, rfl, .inl (s1.seq hB), _, _, rfl, rfl, _, rfl, ?_⟩
      rw [ew]
      by_cases c3 : 30 < word.length
      · rw [if_pos c3] at q1
        exact if_true_of (decide_eq_true (by omega)) q1
      rw [if_neg c3] at q1
      exact if_false_of (decide_eq_false (by omega)) q1
    · rw [if_neg c] at q1
      exact if_true_of (by rw [Bool.eq_false_iff.mpr c]; rfl) q1
theorem refusal_zero {n u : Nat} {net word : List Nat} (h : refusal n u net word = 0) : isNet n net = true ∧ u < n ∧ word.length ≤ 30 := by
  unfold refusal at h
  split at h
  · rename_i c
    split at h
    · exact absurd h (by decide)
    · split at h
      · exact absurd h (by decide)
      · exact ⟨c, by omega, by omega⟩
  · exact absurd h (by decide)
end
end Wp
namespace Wp
open PySem PySem.Spec PyProof.Rows L2
theorem scStepsBy : FnScope ["exits", "u", "word", "steps", "letter", "last"] ["exits", "u", "word"] (defScope s_steps_by) := ⟨rfl, rfl, rfl, by decide +kernel, rfl, by decide +kernel, by decide +kernel⟩
section
variable {P : Program} {w : World} {K : PySem.W.Frag} {mg : Str → Option Value} {base : Heap}
/-! ### steps_by -/
def spStepsBy (K : PySem.W.Frag) : Sp := fun vs H Q _ => ∃ (a b : Addr) (n u : Nat) (ls : List (Nat × Nat)) (word : List Nat), vs = [.ref a, nv u, .ref b] ∧ TabAt H a ((List.range n).map (row ls)) ∧ SqL K H b (word.map nv) ∧ word.length ≤ 30 ∧ u < n ∧ (∀ p ∈ ls, Ok1 n p) ∧
  ∀ H' q vs, Same H H' → H' q = some (.lst vs) → AllAt TripV H' vs (stepsL 0 ⟨n, ls⟩ (Ks539.start u) word) → Q (.ref q) H'
theorem ok_steps_by {f fB : Addr} {fd fdB : FuncData} (F : Fun K "steps_by" "steps_by" s_steps_by f fd) (T : Txt mg) (B : Dfn K mg "step_by" s_step_by ["exits", "place", "pebble", "letter"] fB fdB) : FnOk P w K mg base CX0 2 f fd ["exits", "u", "word"] (spStepsBy K) := by
  have GB : FnOk P w K mg base CX0 1 fB fdB ["exits", "place", "pebble", "letter"] spStepBy := ok_step_by B.F T
  refine F.ok scStepsBy (fun vs H Q E h => ?_) (fun cdv A outer st H vs Q E hr h => ?_)
  · obtain ⟨a, b, n, u, ls, word, rfl, _⟩ := h
    rfl
  · obtain ⟨a, b, n, u, ls, word, rfl, hT, hB, hw, hu, hok, q⟩ := h
    refine ⟨_, pss_cons (ps_set (i := 3) scStepsBy.nd rfl (.inl rfl) (pe_lst (pa_cons (pe_tup (pa_cons (pv 1) (pa_cons (pk rfl T.c_CARRIED) (pa_cons (pk rfl T.c_DID_NOT_GO) pa_nil)))) pa_nil)))
      (pss_cons (ps_for PassesOwn.never rfl (pi_list (pv 2)) (pg_name (i := 4) scStepsBy.nd rfl (.inl rfl))
        (pss_cons (ps_set (i := 5) scStepsBy.nd rfl (.inl rfl) (pe_ix ix_list (pv 3) (pe_un un_neg pe_int) (fun _ _ => rfl)))
        (pss_one (ps_expr (pe_bm PySem.F.plainAttrs_list PySem.F.slot_list_append PySem.F.type_list_append mt_append (pv 3) (pa_cons (pe_call GB hr (by rfl) B.g B.F.kp B.b .nil pass0 (pa_cons (pv 0) (pa_cons (pe_ix ix_tup (pv 5) pe_int (fun _ _ => rfl)) (pa_cons (pe_ix ix_tup (pv 5) pe_int (fun _ _ => rfl)) (pa_cons (pv 4) pa_nil))))) pa_nil))))))
      (pss_one (ps_ret (pv 3)))), ?_⟩
    refine ⟨_, rfl, (by show 3 ≤ sizeLine; decide), fun t0 nt0 => ⟨(by show 1 ≤ sizeLine; decide), fun D nD => ?_⟩⟩
    have s0 := same_upd (o := .tup [nv u, .int 0, .int 0]) nt0
    have nDH : H D = none := s0.free nD
    have s1 : Same H (upd (upd H t0 (.tup [nv u, .int 0, .int 0])) D (.lst [.ref t0])) := s0.trans (same_upd nD)
    have nt0D : t0 ≠ D := ne_of_none upd_same nD
    refine ⟨_, rfl, b, rfl, ⟨_, s1.seq hB⟩, for_list (K := K) (a := b) (xs := word.map nv) (fun i σ H' => ∃ y4 y5 vs, σ = [some (.ref a), some (nv u), some (.ref b), some (.ref D), y4, y5] ∧ Same H H' ∧ H' D = some (.lst vs) ∧ AllAt TripV H' vs (stepsL 0 ⟨n, ls⟩ (Ks539.start u) (word.take i)))
      ⟨none, none, _, rfl, s1, upd_same, ?_⟩ (fun i σ H' _ ⟨_, _, _, _, s4, _⟩ => s4.seq hB) ?_ ?_⟩
    · refine AllAt.snoc AllAt.nil ⟨t0, rfl, ?_⟩
      rw [upd_ne nt0D]
      exact upd_same
    · rintro i y σ H1 hi ⟨y4, y5, vs, rfl, s2, hD, hA⟩
      have hil : i < word.length := by
        have := (List.getElem?_eq_some_iff.mp hi).1
        rw [List.length_map] at this
        exact this
      have hz : word[i]? = some word[i] := List.getElem?_eq_getElem hil
      generalize word[i] = z at hz
      have ey : y = nv z := by
        rw [List.getElem?_map, hz] at hi
        exact (Option.some.inj hi).symm
      subst ey
      rw [take_more hz, stepsL_snoc]
      have hlt := run_lt (n := n) (ls := ls) hok (word.take i) (Ks539.start u) hu
      have hlen : vs.length = i + 1 := by
        rw [hA.1, stepsL_length, List.length_take]
        omega
      obtain ⟨d, hd⟩ := stepsL_last ⟨n, ls⟩ (word.take i) (Ks539.start u) 0
      rw [List.length_take, Nat.min_eq_left (Nat.le_of_lt hil)] at hd
      obtain ⟨v, hv, t, rfl, ht⟩ := hA.2 i _ hd
      generalize stepsL 0 ⟨n, ls⟩ (Ks539.start u) (word.take i) = told at hA
      generalize Ks539.run ⟨n, ls⟩ (Ks539.start u) (word.take i) = s0 at hlt ht
      -- last = steps[-1]
      refine ⟨_, rfl, _, rfl, D, _, _, _, rfl, rfl, SqL.of hD, atI_end hlen hv, ?_⟩
      -- steps.append(step_by(..))
      refine ⟨_, rfl, .inl ⟨rfl, _, SqL.of hD⟩, _, rfl, _, rfl, t, _, 0, _, rfl, rfl, SqT.of ht, atI_nat (j := 0) rfl, _, rfl, t, _, 1, _, rfl, rfl, SqT.of ht, atI_nat (j := 1) rfl, _, rfl, a, _, n, ls, s0, z, rfl, hT.keep s2, tab_at s0.u hlt, fun p np => ?_⟩
      have s3 := same_upd (o := .tup [nv (Ks539.step ⟨n, ls⟩ s0 z).u, nv (peb (Ks539.step ⟨n, ls⟩ s0 z).p), nv (Ks539.in_ ⟨n, ls⟩ s0 z)]) np
      have hD3 := s3 _ _ hD
      refine ⟨D, _, _, rfl, rfl, hD3, small1000 (by omega), _, _, _, rfl, fun b o e => ?_, upd_same, ?_⟩
      · rw [upd_ne (ne_of_none e nDH)]
        exact s3 _ _ (s2 _ _ e)
      · have st := stup_lst (o := .lst (vs ++ [.ref p])) hD3
        refine AllAt.snoc (hA.keep (fun v x => TripV.keep ((Same.stup s3).trans st) v x)) ⟨p, rfl, ?_⟩
        exact st _ _ upd_same
    · rintro σ H1 ⟨y4, y5, vs, rfl, s2, hD, hA⟩
      rw [List.length_map, List.take_length] at hA
      exact ⟨_, rfl, q H1 D vs s2 hD hA⟩
end
end Wp
namespace Wp
open PySem PySem.Spec PyProof.Rows L2
theorem scRun : FnScope ["n", "u", "net", "word", "refused", "last"] ["n", "u", "net", "word"] (defScope s_run) := ⟨rfl, rfl, rfl, by decide +kernel, rfl, by decide +kernel, by decide +kernel⟩
section
variable {P : Program} {w : World} {K : PySem.W.Frag} {mg : Str → Option Value} {base : Heap}
/-! ### run -/
def spRun (K : PySem.W.Frag) : Sp := fun vs H Q _ => ∃ (a b : Addr) (n u : Nat) (net word : List Nat), vs = [nv n, nv u, .ref a, .ref b] ∧ SqL K H a (net.map nv) ∧ SqL K H b (word.map nv) ∧ net.length ≤ 24 ∧
  ∀ H' p, H' p = some (.lst ((ansRun n u net word).map V.int)) → Q (.ref p) H'
theorem ok_run {f fR fX fL fS : Addr} {fd fdR fdX fdL fdS : FuncData} (F : Fun K "run" "run" s_run f fd) (T : Txt mg) (R : Dfn K mg "refusal" s_refusal ["n", "u", "net", "word"] fR fdR) (GR : FnOk P w K mg base CX0 3 fR fdR ["n", "u", "net", "word"] (spRefusal K))
    (X : Dfn K mg "exits_of_places" s_exits_of_places ["n", "links"] fX fdX) (L : Dfn K mg "links_of" s_links_of ["net"] fL fdL) (S : Dfn K mg "steps_by" s_steps_by ["exits", "u", "word"] fS fdS) (GS : FnOk P w K mg base CX0 2 fS fdS ["exits", "u", "word"] (spStepsBy K)) :
    FnOk P w K mg base CX0 4 f fd ["n", "u", "net", "word"] (spRun K) := by
  have GX : FnOk P w K mg base CX0 1 fX fdX ["n", "links"] spExits := ok_exits X.F T
  have GL : FnOk P w K mg base CX0 1 fL fdL ["net"] (spLinksOf K) := ok_links_of L.F T
  refine F.ok scRun (fun vs H Q E h => ?_) (fun cdv A outer st H vs Q E hr h => ?_)
  · obtain ⟨a, b, n, u, net, word, rfl, _⟩ := h
    rfl
  · obtain ⟨a, b, n, u, net, word, rfl, hA, hB, hlen, q⟩ := h
    have hr1 : Room 1 (A.deeper (envOfC "run" (defScope s_run) st.heap.objs.size f cdv)) := hr.mono (by decide)
    have hr2 : Room 2 (A.deeper (envOfC "run" (defScope s_run) st.heap.objs.size f cdv)) := hr.mono (by decide)
    refine ⟨_, pss_cons (ps_set (i := 4) scRun.nd rfl (.inl rfl) (pe_call GR hr (by rfl) R.g R.F.kp R.b .nil pass0 (pa_cons (pv 0) (pa_cons (pv 1) (pa_cons (pv 2) (pa_cons (pv 3) pa_nil))))))
      (pss_cons (ps_if (pt_cmpR op_ne (pv 4) (pk rfl T.c_NOT_REFUSED) (nomark _)) (pss_one (ps_ret (pe_lst (pa_cons (pv 4) pa_nil)))) pss_nil)
      (pss_cons (ps_set (i := 5) scRun.nd rfl (.inl rfl) (pe_ix ix_list (pe_call GS hr2 (by rfl) S.g S.F.kp S.b .nil pass0 (pa_cons (pe_call GX hr1 (by rfl) X.g X.F.kp X.b .nil pass0 (pa_cons (pv 0) (pa_cons (pe_call GL hr1 (by rfl) L.g L.F.kp L.b .nil pass0 (pa_cons (pv 2) pa_nil)) pa_nil))) (pa_cons (pv 1) (pa_cons (pv 3) pa_nil)))) (pe_un un_neg pe_int) (fun _ _ => rfl)))
      (pss_one (ps_ret (pe_lst (pa_cons (pe_ix ix_tup (pv 5) pe_int (fun _ _ => rfl)) (pa_cons (pe_ix ix_tup (pv 5) pe_int (fun _ _ => rfl)) pa_nil))))))), ?_⟩
    refine ⟨_, rfl, _, rfl, _, rfl, _, rfl, a, b, n, u, net, word, rfl, hA, hB, hlen, fun H1 s1 => ?_⟩
    refine ⟨_, rfl, rfl, _, rfl, ?_⟩
    by_cases c : refusal n u net word = 0
    · refine if_false_of (by rw [c]; rfl) ?_
      obtain ⟨hnet, hu, hw⟩ := refusal_zero c
      obtain ⟨hn, hl2, hal, _⟩ := isNet_iff.mp hnet
      refine ⟨_, rfl, _, rfl, a, net, rfl, s1.seq hA, hl2.1, hlen, fun H2 g s2 hL => ?_⟩
      refine ⟨g, n, prs net, rfl, hL, hn.2, by rw [prs_length]; omega, hal.1, fun H3 x s3 hT => ?_⟩
      have sB : Same H H3 := s1.trans (s2.trans s3)
      refine ⟨_, rfl, _, rfl, x, b, n, u, prs net, word, rfl, hT, sB.seq hB, hw, hu, hal.1, fun H4 z vs s4 hz hA4 => ?_⟩
      obtain ⟨d, hd⟩ := stepsL_last ⟨n, prs net⟩ word (Ks539.start u) 0
      obtain ⟨v, hv, t, rfl, ht⟩ := hA4.2 word.length _ hd
      have hvl : vs.length = word.length + 1 := by rw [hA4.1, stepsL_length]
      refine ⟨_, rfl, z, _, _, _, rfl, rfl, SqL.of hz, atI_end hvl hv, ?_⟩
      refine ⟨_, rfl, t, _, 0, _, rfl, rfl, SqT.of ht, atI_nat (j := 0) rfl, _, rfl, t, _, 1, _, rfl, rfl, SqT.of ht, atI_nat (j := 1) rfl, (by show 2 ≤ sizeLine; decide), fun p np => q _ p ?_⟩
      rw [upd_same]
      unfold ansRun
      rw [if_pos c]
      rfl
    · refine if_true_of ?_ ?_
      · rw [decide_eq_false (fun z => c (V.int.inj z))]
        rfl
      refine ⟨_, rfl, (by show 1 ≤ sizeLine; decide), fun p np => q _ p ?_⟩
      rw [upd_same]
      unfold ansRun
      rw [if_neg c]
      rfl
end
end Wp
namespace Wp
open PySem PySem.Spec PyProof.Rows L2
open PySem.W (Codec)
theorem inInt_nat {lo hi x : Int} (h0 : 0 ≤ lo) (h : Codec.inInt lo hi x = true) : ((x.toNat : Nat) : Int) = x := by
  have := (Codec.inInt_iff.mp h).1
  omega
theorem nats_of {lo hi : Int} (h0 : 0 ≤ lo) : ∀ {l : List Int}, l.all (Codec.inInt lo hi) = true → l.map V.int = (l.map Int.toNat).map nv
  | [], _ => rfl
  | x :: l, h => by
    rw [List.all_cons, Bool.and_eq_true] at h
    have ih := nats_of h0 h.2
    show V.int x :: l.map V.int = V.int ((x.toNat : Nat) : Int) :: (l.map Int.toNat).map nv
    rw [ih, inInt_nat h0 h.1]
end Wp
namespace Wp
open PySem PySem.Spec PyProof.Rows L2
open PySem.W (Codec)
theorem start_run {K : PySem.W.Frag} {H : Hp} {a b : Addr} {n u : Int} {net word : List Int} (q1 : Codec.inInt 0 4294967295 n = true) (q2 : Codec.inInt 0 4294967295 u = true) (q3 : Codec.inLen 0 24 net = true) (q4 : net.all (Codec.inInt 0 4294967295) = true) (q6 : word.all (Codec.inInt 0 4294967295) = true)
    (h3 : SqL K H a (net.map V.int)) (h4 : SqL K H b (word.map V.int)) {E : XK} : spRun K [.int n, .int u, .ref a, .ref b] H (fun v H' => Dw K H' v (.list ((PyKs539.run n u net word).map PySem.W.WData.int))) E := by
  refine ⟨a, b, n.toNat, u.toNat, net.map Int.toNat, word.map Int.toNat, ?_, ?_, ?_, ?_, fun H' p hp => ?_⟩
  · show [V.int n, V.int u, V.ref a, V.ref b] = [V.int ((n.toNat : Nat) : Int), V.int ((u.toNat : Nat) : Int), V.ref a, V.ref b]
    rw [inInt_nat (by decide) q1, inInt_nat (by decide) q2]
  · rw [← nats_of (by decide) q4]
    exact h3
  · rw [← nats_of (by decide) q6]
    exact h4
  · rw [List.length_map]
    exact (Codec.inNat_iff.mp q3).2
  · rw [← run_is] at hp
    exact .lst (SqL.of hp) (dw_ints _)
end Wp
namespace Wp
open PySem PySem.Spec PyProof.Rows L2
theorem all_mk {P : Program} {w : World} {K : PySem.W.Frag} {h : Heap} {mg : Str → Option Value} {fa f1 f2 f3 f4 f5 f6 f7 f8 f9 : Addr} (X : K.In h) (G : h.Ns mainGlobals mg) (hfa : mg "run" = some (.ref fa))
    {od1 an1 od2 an2 od3 an3 od4 an4 od5 an5 od6 an6 od7 an7 od8 an8 od9 an9 : Option Addr} {sl1 sl2 sl3 sl4 sl5 sl6 sl7 sl8 sl9 : Array (Option Value)} {oc1 kV1 dc1 pm1 cd1 ct1 oc2 kV2 dc2 pm2 cd2 ct2 oc3 kV3 dc3 pm3 cd3 ct3 oc4 kV4 dc4 pm4 cd4 ct4 oc5 kV5 dc5 pm5 cd5 ct5 oc6 kV6 dc6 pm6 cd6 ct6 oc7 kV7 dc7 pm7 cd7 ct7 oc8 kV8 dc8 pm8 cd8 ct8 oc9 kV9 dc9 pm9 cd9 ct9 : Value} {t1 t2 t3 t4 t5 t6 t7 t8 t9 t10 t11 t12 : Tok}
    (a1 : PySem.W.nsIn K mainGlobals "run" = some (some (.ref f1))) (l1 : K.lookup f1 = some ⟨oc1, od1, .func (PySem.W.fnOf "run" "run" (defArgs s_run) (defBody s_run) (defScope s_run) .none kV1 dc1 pm1 an1 cd1 ct1), sl1⟩) (c1 : PySem.W.codeIn K cd1 "run" = true) (k1 : PySem.W.keepIn K (.ref f1) = true)
    (a2 : PySem.W.nsIn K mainGlobals "refusal" = some (some (.ref f2))) (l2 : K.lookup f2 = some ⟨oc2, od2, .func (PySem.W.fnOf "refusal" "refusal" (defArgs s_refusal) (defBody s_refusal) (defScope s_refusal) .none kV2 dc2 pm2 an2 cd2 ct2), sl2⟩) (c2 : PySem.W.codeIn K cd2 "refusal" = true) (k2 : PySem.W.keepIn K (.ref f2) = true)
    (a3 : PySem.W.nsIn K mainGlobals "is_net" = some (some (.ref f3))) (l3 : K.lookup f3 = some ⟨oc3, od3, .func (PySem.W.fnOf "is_net" "is_net" (defArgs s_is_net) (defBody s_is_net) (defScope s_is_net) .none kV3 dc3 pm3 an3 cd3 ct3), sl3⟩) (c3 : PySem.W.codeIn K cd3 "is_net" = true) (k3 : PySem.W.keepIn K (.ref f3) = true)
    (a4 : PySem.W.nsIn K mainGlobals "links_of" = some (some (.ref f4))) (l4 : K.lookup f4 = some ⟨oc4, od4, .func (PySem.W.fnOf "links_of" "links_of" (defArgs s_links_of) (defBody s_links_of) (defScope s_links_of) .none kV4 dc4 pm4 an4 cd4 ct4), sl4⟩) (c4 : PySem.W.codeIn K cd4 "links_of" = true) (k4 : PySem.W.keepIn K (.ref f4) = true)
    (a5 : PySem.W.nsIn K mainGlobals "links_are_allowed" = some (some (.ref f5))) (l5 : K.lookup f5 = some ⟨oc5, od5, .func (PySem.W.fnOf "links_are_allowed" "links_are_allowed" (defArgs s_links_are_allowed) (defBody s_links_are_allowed) (defScope s_links_are_allowed) .none kV5 dc5 pm5 an5 cd5 ct5), sl5⟩) (c5 : PySem.W.codeIn K cd5 "links_are_allowed" = true) (k5 : PySem.W.keepIn K (.ref f5) = true)
    (a6 : PySem.W.nsIn K mainGlobals "hang_together" = some (some (.ref f6))) (l6 : K.lookup f6 = some ⟨oc6, od6, .func (PySem.W.fnOf "hang_together" "hang_together" (defArgs s_hang_together) (defBody s_hang_together) (defScope s_hang_together) .none kV6 dc6 pm6 an6 cd6 ct6), sl6⟩) (c6 : PySem.W.codeIn K cd6 "hang_together" = true) (k6 : PySem.W.keepIn K (.ref f6) = true)
    (a7 : PySem.W.nsIn K mainGlobals "exits_of_places" = some (some (.ref f7))) (l7 : K.lookup f7 = some ⟨oc7, od7, .func (PySem.W.fnOf "exits_of_places" "exits_of_places" (defArgs s_exits_of_places) (defBody s_exits_of_places) (defScope s_exits_of_places) .none kV7 dc7 pm7 an7 cd7 ct7), sl7⟩) (c7 : PySem.W.codeIn K cd7 "exits_of_places" = true) (k7 : PySem.W.keepIn K (.ref f7) = true)
    (a8 : PySem.W.nsIn K mainGlobals "steps_by" = some (some (.ref f8))) (l8 : K.lookup f8 = some ⟨oc8, od8, .func (PySem.W.fnOf "steps_by" "steps_by" (defArgs s_steps_by) (defBody s_steps_by) (defScope s_steps_by) .none kV8 dc8 pm8 an8 cd8 ct8), sl8⟩) (c8 : PySem.W.codeIn K cd8 "steps_by" = true) (k8 : PySem.W.keepIn K (.ref f8) = true)
    (a9 : PySem.W.nsIn K mainGlobals "step_by" = some (some (.ref f9))) (l9 : K.lookup f9 = some ⟨oc9, od9, .func (PySem.W.fnOf "step_by" "step_by" (defArgs s_step_by) (defBody s_step_by) (defScope s_step_by) .none kV9 dc9 pm9 an9 cd9 ct9), sl9⟩) (c9 : PySem.W.codeIn K cd9 "step_by" = true) (k9 : PySem.W.keepIn K (.ref f9) = true)
    (g1 : PySem.W.nsIn K mainGlobals "NOT_A_NET" = some (some (.int (-22) t1)))
    (g2 : PySem.W.nsIn K mainGlobals "NO_PLACE" = some (some (.int (-2) t2)))
    (g3 : PySem.W.nsIn K mainGlobals "WORD_TOO_LONG" = some (some (.int (-22) t3)))
    (g4 : PySem.W.nsIn K mainGlobals "NOT_REFUSED" = some (some (.int 0 t4)))
    (g5 : PySem.W.nsIn K mainGlobals "MOST_PLACES" = some (some (.int 7 t5)))
    (g6 : PySem.W.nsIn K mainGlobals "MOST_LINKS" = some (some (.int 10 t6)))
    (g7 : PySem.W.nsIn K mainGlobals "MOST_LETTERS" = some (some (.int 30 t7)))
    (g8 : PySem.W.nsIn K mainGlobals "PUT_DOWN" = some (some (.int 1 t8)))
    (g9 : PySem.W.nsIn K mainGlobals "TAKE_UP" = some (some (.int 2 t9)))
    (g10 : PySem.W.nsIn K mainGlobals "FIRST_EXIT" = some (some (.int 3 t10)))
    (g11 : PySem.W.nsIn K mainGlobals "CARRIED" = some (some (.int 0 t11)))
    (g12 : PySem.W.nsIn K mainGlobals "DID_NOT_GO" = some (some (.int 0 t12)))
    (z1 : PySem.W.nsIn K mainGlobals "len" = some none)
    (z2 : PySem.W.nsIn K mainGlobals "range" = some none)
    (z3 : PySem.W.nsIn K mainGlobals "all" = some none) :
    ∃ fd : FuncData, (∀ (s : Shared) (us : List Value), us.length = (["n", "u", "net", "word"] : List Str).length → BindsTo s fd ⟨us, []⟩ ((["n", "u", "net", "word"] : List Str).zip us)) ∧ ∀ base : Heap, K.In base → base.Ns mainGlobals mg → FnOk P w K mg base CX0 4 fa fd ["n", "u", "net", "word"] (spRun K) := by
  have e := hfa.symm.trans (PySem.W.mg_of X G a1)
  cases e
  have T : Txt mg := ⟨⟨_, PySem.W.mg_of X G g1⟩, ⟨_, PySem.W.mg_of X G g2⟩, ⟨_, PySem.W.mg_of X G g3⟩, ⟨_, PySem.W.mg_of X G g4⟩, ⟨_, PySem.W.mg_of X G g5⟩, ⟨_, PySem.W.mg_of X G g6⟩, ⟨_, PySem.W.mg_of X G g7⟩, ⟨_, PySem.W.mg_of X G g8⟩, ⟨_, PySem.W.mg_of X G g9⟩, ⟨_, PySem.W.mg_of X G g10⟩, ⟨_, PySem.W.mg_of X G g11⟩, ⟨_, PySem.W.mg_of X G g12⟩, PySem.W.mg_none_of X G z1, PySem.W.mg_none_of X G z2, PySem.W.mg_none_of X G z3⟩
  have F_run := fun_mk (st := s_run) l1 c1 k1
  have F_refusal := fun_mk (st := s_refusal) l2 c2 k2
  have D_refusal : Dfn K mg "refusal" s_refusal ["n", "u", "net", "word"] f2 _ := ⟨F_refusal, PySem.W.mg_of X G a2, F_refusal.binds (ps := ["n", "u", "net", "word"]) fun _ _ _ _ _ _ us hl => match us, hl with | [_, _, _, _], _ => rfl⟩
  have F_is_net := fun_mk (st := s_is_net) l3 c3 k3
  have D_is_net : Dfn K mg "is_net" s_is_net ["n", "net"] f3 _ := ⟨F_is_net, PySem.W.mg_of X G a3, F_is_net.binds (ps := ["n", "net"]) fun _ _ _ _ _ _ us hl => match us, hl with | [_, _], _ => rfl⟩
  have F_links_of := fun_mk (st := s_links_of) l4 c4 k4
  have D_links_of : Dfn K mg "links_of" s_links_of ["net"] f4 _ := ⟨F_links_of, PySem.W.mg_of X G a4, F_links_of.binds (ps := ["net"]) fun _ _ _ _ _ _ us hl => match us, hl with | [_], _ => rfl⟩
  have F_links_are_allowed := fun_mk (st := s_links_are_allowed) l5 c5 k5
  have D_links_are_allowed : Dfn K mg "links_are_allowed" s_links_are_allowed ["n", "links"] f5 _ := ⟨F_links_are_allowed, PySem.W.mg_of X G a5, F_links_are_allowed.binds (ps := ["n", "links"]) fun _ _ _ _ _ _ us hl => match us, hl with | [_, _], _ => rfl⟩
  have F_hang_together := fun_mk (st := s_hang_together) l6 c6 k6
  have D_hang_together : Dfn K mg "hang_together" s_hang_together ["n", "links"] f6 _ := ⟨F_hang_together, PySem.W.mg_of X G a6, F_hang_together.binds (ps := ["n", "links"]) fun _ _ _ _ _ _ us hl => match us, hl with | [_, _], _ => rfl⟩
  have F_exits_of_places := fun_mk (st := s_exits_of_places) l7 c7 k7
  have D_exits_of_places : Dfn K mg "exits_of_places" s_exits_of_places ["n", "links"] f7 _ := ⟨F_exits_of_places, PySem.W.mg_of X G a7, F_exits_of_places.binds (ps := ["n", "links"]) fun _ _ _ _ _ _ us hl => match us, hl with | [_, _], _ => rfl⟩
  have F_steps_by := fun_mk (st := s_steps_by) l8 c8 k8
  have D_steps_by : Dfn K mg "steps_by" s_steps_by ["exits", "u", "word"] f8 _ := ⟨F_steps_by, PySem.W.mg_of X G a8, F_steps_by.binds (ps := ["exits", "u", "word"]) fun _ _ _ _ _ _ us hl => match us, hl with | [_, _, _], _ => rfl⟩
  have F_step_by := fun_mk (st := s_step_by) l9 c9 k9
  have D_step_by : Dfn K mg "step_by" s_step_by ["exits", "place", "pebble", "letter"] f9 _ := ⟨F_step_by, PySem.W.mg_of X G a9, F_step_by.binds (ps := ["exits", "place", "pebble", "letter"]) fun _ _ _ _ _ _ us hl => match us, hl with | [_, _, _, _], _ => rfl⟩
  refine ⟨PySem.W.fnOf "run" "run" (defArgs s_run) (defBody s_run) (defScope s_run) .none kV1 dc1 pm1 an1 cd1 ct1, fun s us hu => match us, hu with | [_, _, _, _], _ => .of_eq rfl, fun base _ _ => ?_⟩
  have GN := ok_is_net (P := P) (w := w) (base := base) D_is_net.F T D_links_of D_links_are_allowed D_hang_together
  have GR := ok_refusal (P := P) (w := w) (base := base) D_refusal.F T D_is_net GN
  have GS := ok_steps_by (P := P) (w := w) (base := base) D_steps_by.F T D_step_by
  exact ok_run F_run T D_refusal GR D_exits_of_places D_links_of D_steps_by GS
end Wp
open PySem PySem.W PyProof.Rows
set_option maxRecDepth 100000 in
set_option maxHeartbeats 8000000 in
theorem PySem.Challenge.cw_withpebble_s02_run_holds : PySem.Challenge.rw_withpebble_s02_run.Holds := by
  w_on; k_headS; (case hw => exact ⟨[.int 0, .int 0, .list [], .list []], by decide +kernel, by decide +kernel⟩)
  k_fillS
  refine L2.walk_specK (r := PySem.Challenge.rw_withpebble_s02_run) (k := 4) (CX := L2.CX0) (ps := ["n", "u", "net", "word"]) (sp := Wp.spRun) (by decide +kernel) rfl rfl ⟨rfl, by decide, by decide⟩ (fun w h Y => PySem.W.kIn_of Y) ?F ?S (fun _ _ _ _ z => z)
  case F =>
    intro w mg fa h Y KX G hmg
    refine' Wp.all_mk KX G hmg ?a1 ?l1 ?c1 ?k1 ?a2 ?l2 ?c2 ?k2 ?a3 ?l3 ?c3 ?k3 ?a4 ?l4 ?c4 ?k4 ?a5 ?l5 ?c5 ?k5 ?a6 ?l6 ?c6 ?k6 ?a7 ?l7 ?c7 ?k7 ?a8 ?l8 ?c8 ?k8 ?a9 ?l9 ?c9 ?k9 ?g1 ?g2 ?g3 ?g4 ?g5 ?g6 ?g7 ?g8 ?g9 ?g10 ?g11 ?g12 ?z1 ?z2 ?z3
    (case a1 => k_is)
    (case l1 => k_is)
    (case c1 => k_is)
    (case k1 => k_is)
    (case a2 => k_is)
    (case l2 => k_is)
    (case c2 => k_is)
    (case k2 => k_is)
    (case a3 => k_is)
    (case l3 => k_is)
    (case c3 => k_is)
    (case k3 => k_is)
    (case a4 => k_is)
    (case l4 => k_is)
    (case c4 => k_is)
    (case k4 => k_is)
    (case a5 => k_is)
    (case l5 => k_is)
    (case c5 => k_is)
    (case k5 => k_is)
    (case a6 => k_is)
    (case l6 => k_is)
    (case c6 => k_is)
    (case k6 => k_is)
    (case a7 => k_is)
    (case l7 => k_is)
    (case c7 => k_is)
    (case k7 => k_is)
    (case a8 => k_is)
    (case l8 => k_is)
    (case c8 => k_is)
    (case k8 => k_is)
    (case a9 => k_is)
    (case l9 => k_is)
    (case c9 => k_is)
    (case k9 => k_is)
    (case g1 => k_is)
    (case g2 => k_is)
    (case g3 => k_is)
    (case g4 => k_is)
    (case g5 => k_is)
    (case g6 => k_is)
    (case g7 => k_is)
    (case g8 => k_is)
    (case g9 => k_is)
    (case g10 => k_is)
    (case g11 => k_is)
    (case g12 => k_is)
    (case z1 => k_is)
    (case z2 => k_is)
    (case z3 => k_is)
  case S =>
    intro K H xs a hO hwi hask hx
    obtain ⟨n, u, net, word, ⟨⟩⟩ := a
    cases hx with
    | cons h1 hx =>
      cases hx with
      | cons h2 hx =>
        cases hx with
        | cons h3 hx =>
          cases hx with
          | cons h4 hx =>
            cases hx
            cases h1
            cases h2
            cases h3 with
            | lst hs3 ha3 =>
              cases h4 with
              | lst hs4 ha4 =>
                have e3 := L2.ints_dw net _ ha3
                have e4 := L2.ints_dw word _ ha4
                subst e3 e4
                have q : (Codec.inInt 0 4294967295 n && (Codec.inInt 0 4294967295 u && ((Codec.inLen 0 24 net && net.all (Codec.inInt 0 4294967295)) && ((Codec.inLen 0 32 word && word.all (Codec.inInt 0 4294967295)) && true)))) = true := hwi
                simp only [Bool.and_eq_true] at q
                obtain ⟨q1, q2, ⟨q3, q4⟩, ⟨q5, q6⟩, _⟩ := q
                exact Wp.start_run q1 q2 q3 q4 q6 hs3 hs4
#print axioms PySem.Challenge.cw_withpebble_s02_run_holds
