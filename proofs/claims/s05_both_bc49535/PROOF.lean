import PyProof.Rows.All
import Wide.All
import OpenK.AllK
import Wide.FinOn
import Open.SpecLaws
import KE.OsGo
import HandS.ForMost
import HandS.ForSpec
import HandS.Deep
import HandS.Walk
import KE.KDictKeyed
import KE.KDictDisplayH
import PyProof.Rows.TupDisplay
import KE.KDictSum
import HandS.Conv
import HandS.SortOrd
import HandS.Zip
import PySem.Challenge.RW_withpebble_s05_both
set_option Elab.async false
set_option linter.all false
set_option maxRecDepth 100000
set_option maxHeartbeats 4000000
namespace Wp
open Ks536 (Net)

/-! ## Exits, link by link -/
def touch (p : Nat × Nat) (u : Nat) : Bool := p.1 == u || p.2 == u
def oth (p : Nat × Nat) (u : Nat) : Nat := if p.1 = u then p.2 else p.1
def exs (ls : List (Nat × Nat)) (u : Nat) : List Nat := Ks536.exits ⟨0, ls⟩ u
def touchAt (ls : List (Nat × Nat)) (u i : Nat) : Bool := match ls[i]? with
  | some p => p.1 == u || p.2 == u
  | none => false
theorem exs_def (ls : List (Nat × Nat)) (u : Nat) : exs ls u = (List.range ls.length).filter (touchAt ls u) := rfl
theorem exits_eq (n : Nat) (ls : List (Nat × Nat)) (u : Nat) : Ks536.exits ⟨n, ls⟩ u = exs ls u := rfl
theorem exits_eq' (t : Net) (u : Nat) : Ks536.exits t u = exs t.links u := rfl
def endAt (ls : List (Nat × Nat)) (i u : Nat) : Nat := match ls[i]? with
  | some p => if p.1 = u then p.2 else p.1
  | none => u
theorem end_eq (t : Net) (i u : Nat) : Ks536.end_ t i u = endAt t.links i u := rfl
theorem endAt_some {ls : List (Nat × Nat)} {i u : Nat} {p : Nat × Nat} (h : ls[i]? = some p) : endAt ls i u = oth p u := by
  unfold endAt; rw [h]; rfl
theorem touchAt_some {ls : List (Nat × Nat)} {i u : Nat} {p : Nat × Nat} (h : ls[i]? = some p) : touchAt ls u i = touch p u := by
  unfold touchAt; rw [h]; rfl
theorem touch_oth {p : Nat × Nat} {u : Nat} (h : touch p u = true) : touch p (oth p u) = true := by
  unfold touch oth at *
  simp only [Bool.or_eq_true, beq_iff_eq] at *
  split
  · exact .inr rfl
  · exact .inl rfl
/-- a prefix of the links has the same exits, as far as it goes -/
theorem exs_take {ls : List (Nat × Nat)} {k : Nat} (u : Nat) (h : k ≤ ls.length) : exs (ls.take k) u = (List.range k).filter (touchAt ls u) := by
  rw [exs_def, List.length_take, Nat.min_eq_left h]
  apply List.filter_congr
  intro i hi
  have hi' : i < k := List.mem_range.mp hi
  unfold touchAt
  rw [List.getElem?_take_of_lt hi']
theorem exs_snoc (ls : List (Nat × Nat)) (p : Nat × Nat) (u : Nat) : exs (ls ++ [p]) u = exs ls u ++ if touch p u then [ls.length] else [] := by
  have e : exs ls u = exs ((ls ++ [p]).take ls.length) u := by
    rw [List.take_left' rfl]
  rw [e, exs_take u (by simp), exs_def, List.length_append, List.length_singleton, List.range_succ, List.filter_append]
  congr 1
  have h : (ls ++ [p])[ls.length]? = some p := by simp
  rw [List.filter_cons, touchAt_some h]
  cases touch p u <;> simp
/-- of place u, exit by exit: the place that it leads to, and the exit there -/
def row (ls : List (Nat × Nat)) (u : Nat) : List (Nat × Nat) := (exs ls u).map fun i => (endAt ls i u, (exs (ls.take i) (endAt ls i u)).length)
theorem row_length (ls : List (Nat × Nat)) (u : Nat) : (row ls u).length = (exs ls u).length := by
  unfold row; rw [List.length_map]
theorem degree_eq (t : Net) (u : Nat) : Ks536.degree t u = (row t.links u).length := by
  rw [row_length]; rfl
theorem row_nil (u : Nat) : row [] u = [] := rfl
theorem row_snoc (ls : List (Nat × Nat)) (p : Nat × Nat) (u : Nat) : row (ls ++ [p]) u = row ls u ++ if touch p u then [(oth p u, (row ls (oth p u)).length)] else [] := by
  unfold row
  rw [exs_snoc, List.map_append]
  congr 1
  · apply List.map_congr_left
    intro i hi
    have hi' : i < ls.length := by
      rw [exs_def] at hi
      exact List.mem_range.mp (List.mem_filter.mp hi).1
    have e : endAt (ls ++ [p]) i u = endAt ls i u := by
      unfold endAt; rw [List.getElem?_append_left hi']
    rw [e, List.take_append_of_le_length (Nat.le_of_lt hi')]
  · have h : (ls ++ [p])[ls.length]? = some p := by simp
    cases touch p u
    · rfl
    · simp only [if_true, List.map_cons, List.map_nil]
      rw [endAt_some h, List.take_left' rfl, List.length_map]
theorem takeWhile_ne {c : Nat → Bool} {m i : Nat} (him : i < m) (hc : c i = true) : ((List.range m).filter c).takeWhile (fun j => j != i) = (List.range i).filter c := by
  have e : List.range m = List.range i ++ i :: (List.range (m - i - 1)).map (· + (i + 1)) := by
    have : m = i + (1 + (m - i - 1)) := by omega
    conv => lhs; rw [this, List.range_add, List.range_add]
    simp [List.range_succ]
    intro a _
    omega
  rw [e, List.filter_append, List.filter_cons, if_pos hc]
  rw [List.takeWhile_append_of_pos]
  · rw [List.takeWhile_cons]
    simp
  · intro a ha
    have := List.mem_range.mp (List.mem_filter.mp ha).1
    simp only [bne_iff_ne]
    omega
theorem out_eq (t : Net) (u e : Nat) : Ks536.out t u e = (row t.links u)[e]? := by
  unfold Ks536.out row
  rw [exits_eq', List.getElem?_map]
  cases h : (exs t.links u)[e]? with
  | none => rfl
  | some i =>
    have hi : i ∈ exs t.links u := List.mem_of_getElem? h
    rw [exs_def] at hi
    obtain ⟨h1, h2⟩ := List.mem_filter.mp hi
    have him := List.mem_range.mp h1
    have hp : t.links[i]? = some t.links[i] := List.getElem?_eq_getElem him
    rw [touchAt_some hp] at h2
    have h3 : touchAt t.links (endAt t.links i u) i = true := by
      rw [touchAt_some hp, endAt_some hp]
      exact touch_oth h2
    simp only [Option.map_some, exits_eq', end_eq]
    congr 2
    rw [exs_take _ (Nat.le_of_lt him), ← takeWhile_ne him h3]
    rfl
theorem go_succ (t : Net) (u e : Nat) : Ks536.go t u (e + 1) = (((row t.links u)[e]?).map (·.1)).getD u := by
  unfold Ks536.go
  simp only [out_eq]
  cases (row t.links u)[e]? <;> rfl
theorem came_succ (t : Net) (u e : Nat) : Ks536.came t u (e + 1) = (((row t.links u)[e]?).map (·.2 + 1)).getD 0 := by
  unfold Ks536.came
  simp only [out_eq]
  cases (row t.links u)[e]? <;> rfl

/-! ## What is allowed -/
def Ok1 (n : Nat) (p : Nat × Nat) : Prop := p.1 < n ∧ p.2 < n ∧ p.1 ≠ p.2
def Apt (p q : Nat × Nat) : Prop := p ≠ q ∧ p ≠ (q.2, q.1)
def Allowed (n : Nat) (ls : List (Nat × Nat)) : Prop := (∀ p ∈ ls, Ok1 n p) ∧ ls.Pairwise Apt
instance (n : Nat) (p : Nat × Nat) : Decidable (Ok1 n p) := by unfold Ok1; infer_instance
instance (p q : Nat × Nat) : Decidable (Apt p q) := by unfold Apt; infer_instance
instance (n : Nat) (ls : List (Nat × Nat)) : Decidable (Allowed n ls) := by unfold Allowed; infer_instance
theorem allowed_nil (n : Nat) : Allowed n [] := ⟨fun _ h => (nomatch h), List.Pairwise.nil⟩
theorem allowed_snoc {n : Nat} {ls : List (Nat × Nat)} {p : Nat × Nat} : Allowed n (ls ++ [p]) ↔ Allowed n ls ∧ Ok1 n p ∧ ∀ q ∈ ls, Apt q p := by
  unfold Allowed
  constructor
  · rintro ⟨h1, h2⟩
    rw [List.pairwise_append] at h2
    exact ⟨⟨fun q hq => h1 q (List.mem_append_left _ hq), h2.1⟩, h1 p (by simp), fun q hq => h2.2.2 q hq p (by simp)⟩
  · rintro ⟨⟨h1, h2⟩, h3, h4⟩
    refine ⟨fun q hq => ?_, ?_⟩
    · rcases List.mem_append.mp hq with h | h
      · exact h1 q h
      · rw [List.mem_singleton.mp h]; exact h3
    · rw [List.pairwise_append]
      exact ⟨h2, List.pairwise_singleton _ _, fun a ha b hb => by rw [List.mem_singleton.mp hb]; exact h4 a ha⟩
theorem allowed_take {n : Nat} {ls : List (Nat × Nat)} (h : Allowed n ls) (k : Nat) : Allowed n (ls.take k) :=
  ⟨fun p hp => h.1 p (List.mem_of_mem_take hp), h.2.sublist (List.take_sublist k ls)⟩
/-- the specification's words for it -/
def specOk (n : Nat) (ls : List (Nat × Nat)) : Bool := ls.all (fun p => decide (p.1 < n) && decide (p.2 < n) && p.1 != p.2) && (List.range ls.length).all (fun i => (List.range ls.length).all fun j => i == j || match ls[i]?, ls[j]? with
  | some p, some q => !((p.1 == q.1 && p.2 == q.2) || (p.1 == q.2 && p.2 == q.1))
  | _, _ => true)
theorem apt_iff (p q : Nat × Nat) : (!((p.1 == q.1 && p.2 == q.2) || (p.1 == q.2 && p.2 == q.1))) = true ↔ Apt p q := by
  obtain ⟨a, b⟩ := p
  obtain ⟨c, d⟩ := q
  unfold Apt
  simp only [Bool.not_eq_true', Bool.or_eq_false_iff, ne_eq, Prod.mk.injEq, Bool.and_eq_false_iff, beq_eq_false_iff_ne]
  constructor
  · rintro ⟨h1, h2⟩
    exact ⟨fun z => by rcases h1 with h | h <;> simp_all, fun z => by rcases h2 with h | h <;> simp_all⟩
  · rintro ⟨h1, h2⟩
    constructor
    · by_cases e : a = c
      · exact .inr fun z => h1 ⟨e, z⟩
      · exact .inl e
    · by_cases e : a = d
      · exact .inr fun z => h2 ⟨e, z⟩
      · exact .inl e
theorem apt_symm {p q : Nat × Nat} (h : Apt p q) : Apt q p := by
  obtain ⟨a, b⟩ := p
  obtain ⟨c, d⟩ := q
  unfold Apt at *
  refine ⟨fun e => h.1 e.symm, fun e => h.2 ?_⟩
  simp only [Prod.mk.injEq] at *
  exact ⟨e.2.symm, e.1.symm⟩
theorem specOk_iff (n : Nat) (ls : List (Nat × Nat)) : specOk n ls = true ↔ Allowed n ls := by
  unfold specOk Allowed
  rw [Bool.and_eq_true, List.all_eq_true, List.all_eq_true, List.pairwise_iff_getElem]
  refine and_congr ?_ ?_
  · refine forall_congr' fun p => forall_congr' fun _ => ?_
    unfold Ok1
    simp [and_assoc]
  · constructor
    · intro h i j hi hj hij
      have := List.all_eq_true.mp (h i (List.mem_range.mpr hi)) j (List.mem_range.mpr hj)
      rw [List.getElem?_eq_getElem hi, List.getElem?_eq_getElem hj] at this
      have ne : (i == j) = false := by simp; omega
      rw [ne, Bool.false_or] at this
      exact (apt_iff _ _).mp this
    · intro h i hi
      rw [List.all_eq_true]
      intro j hj
      have hi' := List.mem_range.mp hi
      have hj' := List.mem_range.mp hj
      rw [List.getElem?_eq_getElem hi', List.getElem?_eq_getElem hj']
      rcases Nat.lt_trichotomy i j with c | c | c
      · rw [Bool.or_eq_true]; right
        exact (apt_iff _ _).mpr (h i j hi' hj' c)
      · subst c; simp
      · rw [Bool.or_eq_true]; right
        exact (apt_iff _ _).mpr (apt_symm (h j i hj' hi' c))

/-! ## The links of a list -/
def prs : List Nat → List (Nat × Nat)
  | a :: b :: r => (a, b) :: prs r
  | _ => []
theorem linksOf_eq : ∀ l : List Nat, Ks536.linksOf l = if l.length % 2 = 0 then some (prs l) else none
  | [] => rfl
  | [_] => rfl
  | a :: b :: r => by
    have ih := linksOf_eq r
    have e : (a :: b :: r).length % 2 = r.length % 2 := by
      simp only [List.length_cons]; omega
    rw [e]
    show (Ks536.linksOf r).map (fun z => (a, b) :: z) = _
    rw [ih]
    by_cases c : r.length % 2 = 0
    · rw [if_pos c, if_pos c]; rfl
    · rw [if_neg c, if_neg c]; rfl
theorem prs_length : ∀ l : List Nat, (prs l).length = l.length / 2
  | [] => rfl
  | [_] => by simp [prs]
  | a :: b :: r => by
    have ih := prs_length r
    show (prs r).length + 1 = (r.length + 1 + 1) / 2
    rw [ih]; omega
theorem prs_get : ∀ (l : List Nat) (i : Nat) (a b : Nat), l[2 * i]? = some a → l[2 * i + 1]? = some b → (prs l)[i]? = some (a, b)
  | [], _, _, _, h, _ => by simp at h
  | [_], 0, _, _, _, h => by simp at h
  | [_], i + 1, _, _, h, _ => by
    rw [show 2 * (i + 1) = 2 * i + 1 + 1 by omega] at h
    simp at h
  | x :: y :: r, 0, a, b, h1, h2 => by
    have e1 : x = a := Option.some.inj h1
    have e2 : y = b := Option.some.inj h2
    rw [e1, e2]; rfl
  | x :: y :: r, i + 1, a, b, h1, h2 => prs_get r i a b h1 h2

/-! ## Hanging together -/
def pass1 (r : List Bool) (p : Nat × Nat) : List Bool := if r.getD p.1 false || r.getD p.2 false then (r.set p.1 true).set p.2 true else r
def pass (ls : List (Nat × Nat)) (r : List Bool) : List Bool := ls.foldl pass1 r
def rounds (ls : List (Nat × Nat)) : Nat → List Bool → List Bool
  | 0, r => r
  | k + 1, r => pass ls (rounds ls k r)
def reach0 (n : Nat) : List Bool := (List.range n).map fun i => decide (i = 0)
def hangs (n : Nat) (ls : List (Nat × Nat)) : Bool := (rounds ls n (reach0 n)).all id
theorem pass1_length (r : List Bool) (p : Nat × Nat) : (pass1 r p).length = r.length := by
  unfold pass1
  split <;> simp
theorem pass_length : ∀ (ls : List (Nat × Nat)) (r : List Bool), (pass ls r).length = r.length
  | [], _ => rfl
  | p :: ls, r => by
    show (pass ls (pass1 r p)).length = r.length
    rw [pass_length ls, pass1_length]
theorem rounds_length (ls : List (Nat × Nat)) : ∀ (k : Nat) (r : List Bool), (rounds ls k r).length = r.length
  | 0, _ => rfl
  | k + 1, r => by
    show (pass ls (rounds ls k r)).length = r.length
    rw [pass_length, rounds_length ls k]
theorem getD_set (r : List Bool) (i j : Nat) : (r.set i true).getD j false = if i = j ∧ j < r.length then true else r.getD j false := by
  rw [List.getD_eq_getElem?_getD, List.getD_eq_getElem?_getD, List.getElem?_set]
  by_cases c : i = j
  · subst c
    by_cases d : i < r.length
    · simp [d]
    · simp [d]
  · simp [c]
/-- what is reached stays so -/
theorem pass1_mono (r : List Bool) (p : Nat × Nat) (v : Nat) (h : r.getD v false = true) : (pass1 r p).getD v false = true := by
  unfold pass1
  split
  · rw [getD_set, getD_set]
    split
    · rfl
    · split
      · rfl
      · exact h
  · exact h
theorem pass_mono : ∀ (ls : List (Nat × Nat)) (r : List Bool) (v : Nat), r.getD v false = true → (pass ls r).getD v false = true
  | [], _, _, h => h
  | p :: ls, r, v, h => pass_mono ls _ v (pass1_mono r p v h)
/-- two are neighbours -/
def Nb (ls : List (Nat × Nat)) (u w : Nat) : Prop := ∃ p ∈ ls, (p.1 = u ∧ p.2 = w) ∨ (p.2 = u ∧ p.1 = w)
theorem pass_nb : ∀ (ls : List (Nat × Nat)) (r : List Bool) (u w : Nat), w < r.length → Nb ls u w → r.getD u false = true → (pass ls r).getD w false = true
  | [], _, _, _, _, ⟨_, h, _⟩, _ => nomatch h
  | p :: ls, r, u, w, hw, ⟨q, hq, hn⟩, h => by
    show (pass ls (pass1 r p)).getD w false = true
    rcases List.mem_cons.mp hq with e | e
    · subst e
      apply pass_mono
      unfold pass1
      rcases hn with ⟨e1, e2⟩ | ⟨e1, e2⟩
      · rw [e1, e2, h, Bool.true_or, if_pos rfl, getD_set, if_pos ⟨rfl, by simpa using hw⟩]
      · rw [e1, e2, h, Bool.or_true, if_pos rfl, getD_set]
        split
        · rfl
        · rw [getD_set, if_pos ⟨rfl, hw⟩]
    · exact pass_nb ls _ u w (by rw [pass1_length]; exact hw) ⟨q, e, hn⟩ (pass1_mono r p u h)
/-- a closed set holds all that is reached -/
def Closed (ls : List (Nat × Nat)) (C : Nat → Prop) : Prop := ∀ u w, Nb ls u w → C u → C w
theorem pass1_in {C : Nat → Prop} (r : List Bool) (p : Nat × Nat) (h1 : C p.1 → C p.2) (h2 : C p.2 → C p.1) (h : ∀ v, r.getD v false = true → C v) (v : Nat) (hv : (pass1 r p).getD v false = true) : C v := by
  unfold pass1 at hv
  split at hv
  · rename_i c
    have both : C p.1 ∧ C p.2 := by
      rcases (Bool.or_eq_true _ _).mp c with c | c
      · exact ⟨h _ c, h1 (h _ c)⟩
      · exact ⟨h2 (h _ c), h _ c⟩
    rw [getD_set] at hv
    split at hv
    · rename_i d; rw [← d.1]; exact both.2
    · rw [getD_set] at hv
      split at hv
      · rename_i d; rw [← d.1]; exact both.1
      · exact h v hv
  · exact h v hv
theorem pass_in {C : Nat → Prop} : ∀ (ls : List (Nat × Nat)) (r : List Bool), Closed ls C → (∀ v, r.getD v false = true → C v) → ∀ v, (pass ls r).getD v false = true → C v
  | [], _, _, h, v, hv => h v hv
  | p :: ls, r, hc, h, v, hv => by
    refine pass_in ls (pass1 r p) (fun u w ⟨q, hq, hn⟩ => hc u w ⟨q, List.mem_cons_of_mem _ hq, hn⟩) ?_ v hv
    exact pass1_in r p (hc p.1 p.2 ⟨p, by simp, .inl ⟨rfl, rfl⟩⟩) (hc p.2 p.1 ⟨p, by simp, .inr ⟨rfl, rfl⟩⟩) h
theorem rounds_in {C : Nat → Prop} (ls : List (Nat × Nat)) (hc : Closed ls C) (r : List Bool) (h : ∀ v, r.getD v false = true → C v) : ∀ k v, (rounds ls k r).getD v false = true → C v
  | 0, v, hv => h v hv
  | k + 1, v, hv => pass_in ls _ hc (rounds_in ls hc r h k) v hv
theorem reach0_get (n v : Nat) : (reach0 n).getD v false = true ↔ v = 0 ∧ v < n := by
  unfold reach0
  rw [List.getD_eq_getElem?_getD, List.getElem?_map]
  by_cases c : v < n
  · rw [List.getElem?_range c]
    simp [c]
  · rw [List.getElem?_eq_none (by simp; omega)]
    simp [c]
/-- the specification's rounds -/
def nxt (t : Net) (l : List Nat) : List Nat := (List.range t.n).filter fun w => l.contains w || l.any fun u => (List.range (Ks536.degree t u)).any fun e => Ks536.go t u (e + 1) == w
def balls (t : Net) : Nat → List Nat → List Nat
  | 0, l => l
  | k + 1, l => nxt t (balls t k l)
theorem balls_succ' (t : Net) : ∀ (k : Nat) (l : List Nat), balls t (k + 1) l = balls t k (nxt t l)
  | 0, _ => rfl
  | k + 1, l => by
    show nxt t (balls t (k + 1) l) = nxt t (balls t k (nxt t l))
    rw [balls_succ' t k l]
theorem dist_some (t : Net) : ∀ (f : Nat) (l : List Nat) (v : Nat), (Ks536.dist t f l v).isSome = true ↔ ∃ k, k ≤ f ∧ v ∈ balls t k l
  | 0, l, v => by
    unfold Ks536.dist
    by_cases c : l.contains v = true
    · rw [if_pos c]
      exact ⟨fun _ => ⟨0, Nat.le_refl _, List.contains_iff_mem.mp c⟩, fun _ => rfl⟩
    · rw [if_neg c]
      refine ⟨fun h => (nomatch h), fun ⟨k, hk, hv⟩ => ?_⟩
      have : k = 0 := by omega
      subst this
      exact absurd (List.contains_iff_mem.mpr hv) c
  | f + 1, l, v => by
    unfold Ks536.dist
    by_cases c : l.contains v = true
    · rw [if_pos c]
      exact ⟨fun _ => ⟨0, Nat.zero_le _, List.contains_iff_mem.mp c⟩, fun _ => rfl⟩
    · rw [if_neg c, Option.isSome_map]
      have ih := dist_some t f (nxt t l) v
      refine Iff.trans ih ⟨fun ⟨k, hk, hv⟩ => ⟨k + 1, by omega, by rw [balls_succ']; exact hv⟩, fun ⟨k, hk, hv⟩ => ?_⟩
      cases k with
      | zero => exact absurd (List.contains_iff_mem.mpr hv) c
      | succ k => exact ⟨k, by omega, by rw [← balls_succ']; exact hv⟩
theorem mem_exs {ls : List (Nat × Nat)} {u i : Nat} : i ∈ exs ls u ↔ ∃ p, ls[i]? = some p ∧ touch p u = true := by
  rw [exs_def, List.mem_filter, List.mem_range]
  constructor
  · rintro ⟨h1, h2⟩
    have e : ls[i]? = some ls[i] := List.getElem?_eq_getElem h1
    exact ⟨_, e, by rw [← touchAt_some e]; exact h2⟩
  · rintro ⟨p, h1, h2⟩
    exact ⟨(List.getElem?_eq_some_iff.mp h1).1, by rw [touchAt_some h1]; exact h2⟩
theorem goes_iff {n : Nat} {ls : List (Nat × Nat)} (h : ∀ p ∈ ls, Ok1 n p) (u w : Nat) : ((List.range (Ks536.degree ⟨n, ls⟩ u)).any fun e => Ks536.go ⟨n, ls⟩ u (e + 1) == w) = true ↔ Nb ls u w := by
  rw [List.any_eq_true]
  simp only [List.mem_range, beq_iff_eq, degree_eq, go_succ]
  constructor
  · rintro ⟨e, he, hw⟩
    rw [List.getElem?_eq_getElem he] at hw
    have hm : (row ls u)[e] ∈ row ls u := List.getElem_mem he
    unfold row at hm
    obtain ⟨i, hi, hie⟩ := List.mem_map.mp hm
    obtain ⟨p, hp, ht⟩ := mem_exs.mp hi
    have hw' : (row ls u)[e].1 = w := hw
    have hend : oth p u = w := by
      rw [← endAt_some (u := u) hp, ← hw']
      exact congrArg Prod.fst hie
    refine ⟨p, List.mem_of_getElem? hp, ?_⟩
    unfold touch at ht
    unfold oth at hend
    simp only [Bool.or_eq_true, beq_iff_eq] at ht
    split at hend
    · rename_i c; exact .inl ⟨c, hend⟩
    · rename_i c
      rcases ht with ht | ht
      · exact absurd ht c
      · exact .inr ⟨ht, hend⟩
  · rintro ⟨p, hp, hn⟩
    obtain ⟨i, hi, hpi⟩ := List.getElem_of_mem hp
    have hp' : ls[i]? = some p := by rw [List.getElem?_eq_getElem hi, hpi]
    have ht : touch p u = true := by
      unfold touch
      simp only [Bool.or_eq_true, beq_iff_eq]
      rcases hn with ⟨a, _⟩ | ⟨a, _⟩
      · exact .inl a
      · exact .inr a
    have ho : oth p u = w := by
      unfold oth
      have := (h p hp).2.2
      rcases hn with ⟨a, b⟩ | ⟨a, b⟩
      · rw [if_pos a]; exact b
      · rw [if_neg (by rw [← a]; exact this)]; exact b
    have hm : (endAt ls i u, (exs (ls.take i) (endAt ls i u)).length) ∈ row ls u := List.mem_map.mpr ⟨i, mem_exs.mpr ⟨p, hp', ht⟩, rfl⟩
    obtain ⟨e, he, hee⟩ := List.getElem_of_mem hm
    refine ⟨e, he, ?_⟩
    rw [List.getElem?_eq_getElem he, hee]
    show endAt ls i u = w
    rw [endAt_some hp', ho]
theorem mem_nxt {n : Nat} {ls : List (Nat × Nat)} (h : ∀ p ∈ ls, Ok1 n p) (l : List Nat) (w : Nat) : w ∈ nxt ⟨n, ls⟩ l ↔ w < n ∧ (w ∈ l ∨ ∃ u ∈ l, Nb ls u w) := by
  unfold nxt
  rw [List.mem_filter, List.mem_range, Bool.or_eq_true, List.contains_iff_mem, List.any_eq_true]
  refine and_congr Iff.rfl (or_congr Iff.rfl ?_)
  exact exists_congr fun u => and_congr Iff.rfl (goes_iff h u w)
theorem nb_lt {n : Nat} {ls : List (Nat × Nat)} (h : ∀ p ∈ ls, Ok1 n p) {u w : Nat} (hn : Nb ls u w) : w < n := by
  obtain ⟨p, hp, hn⟩ := hn
  have := h p hp
  rcases hn with ⟨_, b⟩ | ⟨_, b⟩
  · rw [← b]; exact this.2.1
  · rw [← b]; exact this.1
theorem countP_le {p q : Nat → Bool} : ∀ {l : List Nat}, (∀ x ∈ l, p x = true → q x = true) → l.countP p ≤ l.countP q
  | [], _ => Nat.le_refl _
  | a :: l, h => by
    have ih := countP_le (l := l) fun x hx => h x (List.mem_cons_of_mem _ hx)
    have ha := h a (by simp)
    rw [List.countP_cons, List.countP_cons]
    cases hp : p a
    · simp; omega
    · rw [ha hp]; simp; omega
theorem countP_eq {p q : Nat → Bool} : ∀ {l : List Nat}, (∀ x ∈ l, p x = true → q x = true) → l.countP q ≤ l.countP p → ∀ x ∈ l, q x = true → p x = true
  | [], _, _, _, hx, _ => nomatch hx
  | a :: l, h, hc, x, hx, hq => by
    have hm := countP_le (l := l) fun x hx => h x (List.mem_cons_of_mem _ hx)
    have ha := h a (by simp)
    rw [List.countP_cons, List.countP_cons] at hc
    have hl : l.countP q ≤ l.countP p := by
      cases hp : p a
      · cases hq : q a
        · rw [hp, hq] at hc; simpa using hc
        · rw [hp, hq] at hc; simp at hc; omega
      · rw [hp, ha hp] at hc; simp at hc; omega
    rcases List.mem_cons.mp hx with e | e
    · subst e
      cases hp : p x
      · rw [hp, hq] at hc; simp at hc; omega
      · rfl
    · exact countP_eq (l := l) (fun x hx => h x (List.mem_cons_of_mem _ hx)) hl x e hq
theorem balls_lt {n : Nat} {ls : List (Nat × Nat)} (h : ∀ p ∈ ls, Ok1 n p) (hn : 1 ≤ n) : ∀ (k v : Nat), v ∈ balls ⟨n, ls⟩ k [0] → v < n
  | 0, v, hv => by
    have : v = 0 := List.mem_singleton.mp hv
    omega
  | k + 1, v, hv => ((mem_nxt h _ _).mp hv).1
theorem balls_mono {n : Nat} {ls : List (Nat × Nat)} (h : ∀ p ∈ ls, Ok1 n p) (hn : 1 ≤ n) (k v : Nat) (hv : v ∈ balls ⟨n, ls⟩ k [0]) : v ∈ balls ⟨n, ls⟩ (k + 1) [0] :=
  (mem_nxt h _ _).mpr ⟨balls_lt h hn k v hv, .inl hv⟩
theorem balls_le {n : Nat} {ls : List (Nat × Nat)} (h : ∀ p ∈ ls, Ok1 n p) (hn : 1 ≤ n) (v : Nat) {j : Nat} : ∀ {k : Nat}, j ≤ k → v ∈ balls ⟨n, ls⟩ j [0] → v ∈ balls ⟨n, ls⟩ k [0]
  | 0, hk, hv => by
    have : j = 0 := by omega
    subst this; exact hv
  | k + 1, hk, hv => by
    by_cases c : j = k + 1
    · rw [← c]; exact hv
    · exact balls_mono h hn k v (balls_le h hn v (by omega) hv)
/-- within n rounds nothing more is reached -/
theorem grows {n : Nat} {ls : List (Nat × Nat)} (h : ∀ p ∈ ls, Ok1 n p) (hn : 1 ≤ n) : ∀ k : Nat, k + 1 ≤ (List.range n).countP (fun v => (balls ⟨n, ls⟩ k [0]).contains v) ∨ ∃ j, j < k ∧ ∀ v, v ∈ balls ⟨n, ls⟩ (j + 1) [0] → v ∈ balls ⟨n, ls⟩ j [0]
  | 0 => by
    left
    have : 0 < (List.range n).countP (fun v => (balls ⟨n, ls⟩ 0 [0]).contains v) := by
      rw [List.countP_pos_iff]
      exact ⟨0, List.mem_range.mpr hn, rfl⟩
    omega
  | k + 1 => by
    rcases grows h hn k with ih | ⟨j, hj, hs⟩
    · have mono : ∀ x ∈ List.range n, (balls ⟨n, ls⟩ k [0]).contains x = true → (balls ⟨n, ls⟩ (k + 1) [0]).contains x = true := fun x _ hx =>
        List.contains_iff_mem.mpr (balls_mono h hn k x (List.contains_iff_mem.mp hx))
      by_cases c : (List.range n).countP (fun v => (balls ⟨n, ls⟩ (k + 1) [0]).contains v) ≤ (List.range n).countP (fun v => (balls ⟨n, ls⟩ k [0]).contains v)
      · right
        refine ⟨k, by omega, fun v hv => ?_⟩
        exact List.contains_iff_mem.mp (countP_eq mono c v (List.mem_range.mpr (balls_lt h hn _ v hv)) (List.contains_iff_mem.mpr hv))
      · left
        omega
    · exact .inr ⟨j, by omega, hs⟩
theorem stays {n : Nat} {ls : List (Nat × Nat)} (h : ∀ p ∈ ls, Ok1 n p) {j : Nat} (hs : ∀ v, v ∈ balls ⟨n, ls⟩ (j + 1) [0] → v ∈ balls ⟨n, ls⟩ j [0]) : ∀ k v, v ∈ balls ⟨n, ls⟩ (j + k) [0] → v ∈ balls ⟨n, ls⟩ j [0]
  | 0, _, hv => hv
  | k + 1, v, hv => by
    apply hs
    have hv' := (mem_nxt h _ _).mp hv
    refine (mem_nxt h _ _).mpr ⟨hv'.1, ?_⟩
    rcases hv'.2 with a | ⟨u, hu, hb⟩
    · exact .inl (stays h hs k v a)
    · exact .inr ⟨u, stays h hs k u hu, hb⟩
theorem ball_closed {n : Nat} {ls : List (Nat × Nat)} (h : ∀ p ∈ ls, Ok1 n p) (hn : 1 ≤ n) : Closed ls (fun v => v ∈ balls ⟨n, ls⟩ n [0]) := by
  rcases grows h hn n with g | ⟨j, hj, hs⟩
  · have : (List.range n).countP (fun v => (balls ⟨n, ls⟩ n [0]).contains v) ≤ n := by
      refine Nat.le_trans List.countP_le_length ?_
      rw [List.length_range]
      exact Nat.le_refl n
    omega
  · intro u w hb hu
    have hu' : u ∈ balls ⟨n, ls⟩ j [0] := stays h hs (n - j) u (by rw [show j + (n - j) = n by omega]; exact hu)
    have hw : w ∈ balls ⟨n, ls⟩ (j + 1) [0] := (mem_nxt h _ _).mpr ⟨nb_lt h hb, .inr ⟨u, hu', hb⟩⟩
    exact balls_le h hn w (by omega) hw
theorem rounds_ball {n : Nat} {ls : List (Nat × Nat)} (h : ∀ p ∈ ls, Ok1 n p) (hn : 1 ≤ n) : ∀ k v, v ∈ balls ⟨n, ls⟩ k [0] → (rounds ls k (reach0 n)).getD v false = true
  | 0, v, hv => (reach0_get n v).mpr ⟨List.mem_singleton.mp hv, by have := List.mem_singleton.mp hv; omega⟩
  | k + 1, v, hv => by
    have hv' := (mem_nxt h _ _).mp hv
    show (pass ls (rounds ls k (reach0 n))).getD v false = true
    rcases hv'.2 with a | ⟨u, hu, hb⟩
    · exact pass_mono ls _ v (rounds_ball h hn k v a)
    · refine pass_nb ls _ u v ?_ hb (rounds_ball h hn k u hu)
      rw [rounds_length]
      unfold reach0
      simpa using hv'.1
theorem hangs_iff {n : Nat} {ls : List (Nat × Nat)} : hangs n ls = true ↔ ∀ v, v < n → (rounds ls n (reach0 n)).getD v false = true := by
  unfold hangs
  have hl : (rounds ls n (reach0 n)).length = n := by
    rw [rounds_length]; unfold reach0; simp
  rw [List.all_eq_true]
  constructor
  · intro h v hv
    rw [List.getD_eq_getElem?_getD, List.getElem?_eq_getElem (by rw [hl]; exact hv)]
    exact h _ (List.getElem_mem _)
  · intro h x hx
    obtain ⟨v, hv, rfl⟩ := List.getElem_of_mem hx
    have := h v (by rw [hl] at hv; exact hv)
    rw [List.getD_eq_getElem?_getD, List.getElem?_eq_getElem hv] at this
    exact this
theorem joined_eq {n : Nat} {ls : List (Nat × Nat)} (h : ∀ p ∈ ls, Ok1 n p) (hn : 1 ≤ n) : Ks536.joined ⟨n, ls⟩ = hangs n ls := by
  rw [Bool.eq_iff_iff, hangs_iff]
  unfold Ks536.joined Ks536.distance
  rw [List.all_eq_true]
  simp only [List.mem_range, dist_some]
  constructor
  · intro g v hv
    obtain ⟨k, hk, hb⟩ := g v hv
    exact rounds_ball h hn n v (balls_le h hn v hk hb)
  · intro g v hv
    refine ⟨n, Nat.le_refl _, ?_⟩
    refine rounds_in (C := fun v => v ∈ balls ⟨n, ls⟩ n [0]) ls (ball_closed h hn) (reach0 n) (fun v hv => ?_) n v (g v hv)
    have e : v = 0 := ((reach0_get n v).mp hv).1
    subst e
    exact balls_le h hn 0 (Nat.zero_le n) (List.mem_singleton.mpr rfl)

/-! ## What is a net -/
/-- as the program asks it -/
def isNet (n : Nat) (l : List Nat) : Bool := decide (1 ≤ n ∧ n ≤ 7) && (decide (l.length % 2 = 0 ∧ l.length ≤ 20) && (decide (Allowed n (prs l)) && hangs n (prs l)))
theorem okNet_eq (n : Nat) (ls : List (Nat × Nat)) : Ks536.okNet ⟨n, ls⟩ = (decide (1 ≤ n) && decide (n ≤ 7) && decide (ls.length ≤ 10) && (decide (Allowed n ls) && Ks536.joined ⟨n, ls⟩)) := by
  have e : Ks536.okNet ⟨n, ls⟩ = (decide (1 ≤ n) && decide (n ≤ 7) && decide (ls.length ≤ 10) && ls.all (fun p => decide (p.1 < n) && decide (p.2 < n) && p.1 != p.2) && (List.range ls.length).all (fun i => (List.range ls.length).all fun j => i == j || match ls[i]?, ls[j]? with
      | some p, some q => !((p.1 == q.1 && p.2 == q.2) || (p.1 == q.2 && p.2 == q.1))
      | _, _ => true) && Ks536.joined ⟨n, ls⟩) := rfl
  have s : specOk n ls = decide (Allowed n ls) := by
    rw [Bool.eq_iff_iff, specOk_iff, decide_eq_true_iff]
  rw [e, ← s]
  unfold specOk
  simp only [Bool.and_assoc]
theorem netOf_eq (n : Nat) (l : List Nat) : Ks536.netOf n l = if isNet n l = true then some ⟨n, prs l⟩ else none := by
  unfold Ks536.netOf
  by_cases c1 : n < 1 ∨ Ks536.NODES < n
  · rw [if_pos c1, if_neg]
    unfold isNet
    have : ¬ (1 ≤ n ∧ n ≤ 7) := by
      unfold Ks536.NODES at c1; omega
    rw [decide_eq_false this, Bool.false_and]
    exact Bool.false_ne_true
  · rw [if_neg c1, linksOf_eq]
    have c1' : 1 ≤ n ∧ n ≤ 7 := by
      unfold Ks536.NODES at c1; omega
    by_cases c2 : l.length % 2 = 0
    · rw [if_pos c2]
      show (if Ks536.LINKS < (prs l).length then none else if Ks536.okNet ⟨n, prs l⟩ = true then some (⟨n, prs l⟩ : Net) else none) = _
      rw [prs_length]
      by_cases c3 : l.length ≤ 20
      · have c3' : ¬ Ks536.LINKS < l.length / 2 := by
          unfold Ks536.LINKS; omega
        rw [if_neg c3', okNet_eq, prs_length]
        unfold isNet
        rw [decide_eq_true c1', decide_eq_true c1'.1, decide_eq_true c1'.2, decide_eq_true (And.intro c2 c3), decide_eq_true (show l.length / 2 ≤ 10 by omega)]
        simp only [Bool.true_and, Bool.and_true]
        by_cases c4 : Allowed n (prs l)
        · rw [joined_eq c4.1 c1'.1]
        · rw [decide_eq_false c4, Bool.false_and, Bool.false_and]
      · have c3' : Ks536.LINKS < l.length / 2 := by
          unfold Ks536.LINKS; omega
        rw [if_pos c3', if_neg]
        unfold isNet
        rw [decide_eq_false (fun z : l.length % 2 = 0 ∧ l.length ≤ 20 => c3 z.2), Bool.false_and, Bool.and_false]
        exact Bool.false_ne_true
    · rw [if_neg c2, if_neg]
      unfold isNet
      rw [decide_eq_false (fun z : l.length % 2 = 0 ∧ l.length ≤ 20 => c2 z.1), Bool.false_and, Bool.and_false]
      exact Bool.false_ne_true
theorem isNet_iff {n : Nat} {l : List Nat} : isNet n l = true ↔ (1 ≤ n ∧ n ≤ 7) ∧ (l.length % 2 = 0 ∧ l.length ≤ 20) ∧ Allowed n (prs l) ∧ hangs n (prs l) = true := by
  unfold isNet
  simp only [Bool.and_eq_true, decide_eq_true_iff]
end Wp
namespace Wp
open Ks536 (Net)
/-! ## What is seen -/
/-- where the pebble is, as the program tells it -/
def peb : Option Nat → Nat
  | none => 0
  | some v => v + 1
theorem seen_snoc (t : Net) : ∀ (w : List Nat) (s : Ks539.Stand) (x : Nat), Ks539.seen t s (w ++ [x]) = Ks539.seen t s w ++ Ks539.in_ t (Ks539.run t s w) x :: Ks539.look t (Ks539.step t (Ks539.run t s w) x)
  | [], s, x => rfl
  | y :: w, s, x => by
    have ih := seen_snoc t w (Ks539.step t s y) x
    show Ks539.look t s ++ Ks539.in_ t s y :: Ks539.seen t (Ks539.step t s y) (w ++ [x]) = (Ks539.look t s ++ Ks539.in_ t s y :: Ks539.seen t (Ks539.step t s y) w) ++ _
    rw [ih]
    simp only [List.append_assoc, List.cons_append]
    rfl
theorem run_snoc (t : Net) : ∀ (w : List Nat) (s : Ks539.Stand) (x : Nat), Ks539.run t s (w ++ [x]) = Ks539.step t (Ks539.run t s w) x
  | [], _, _ => rfl
  | y :: w, s, x => run_snoc t w (Ks539.step t s y) x
theorem look_length (t : Net) (s : Ks539.Stand) : (Ks539.look t s).length = 2 := rfl
theorem seen_length (t : Net) : ∀ (w : List Nat) (s : Ks539.Stand), (Ks539.seen t s w).length = 2 + 3 * w.length
  | [], _ => rfl
  | y :: w, s => by
    show (Ks539.look t s ++ Ks539.in_ t s y :: Ks539.seen t (Ks539.step t s y) w).length = _
    rw [List.length_append, List.length_cons, seen_length t w, look_length, List.length_cons]
    omega
/-- one step stays in the net -/
theorem row_lt {n : Nat} {ls : List (Nat × Nat)} (h : ∀ p ∈ ls, Ok1 n p) {u e : Nat} {p : Nat × Nat} (hp : (row ls u)[e]? = some p) : p.1 < n := by
  have hm := List.mem_of_getElem? hp
  unfold row at hm
  obtain ⟨i, hi, rfl⟩ := List.mem_map.mp hm
  obtain ⟨q, hq, ht⟩ := mem_exs.mp hi
  show endAt ls i u < n
  rw [endAt_some hq]
  have := h q (List.mem_of_getElem? hq)
  unfold oth
  split
  · exact this.2.1
  · exact this.1
theorem step_lt {n : Nat} {ls : List (Nat × Nat)} (h : ∀ p ∈ ls, Ok1 n p) (s : Ks539.Stand) (hs : s.u < n) (x : Nat) : (Ks539.step ⟨n, ls⟩ s x).u < n := by
  unfold Ks539.step
  split
  · exact hs
  · split <;> exact hs
  · split <;> exact hs
  · rename_i e
    show Ks536.go ⟨n, ls⟩ s.u (e + 1) < n
    rw [go_succ]
    cases hr : (row ls s.u)[e]? with
    | none => exact hs
    | some p => exact row_lt h hr
theorem run_lt {n : Nat} {ls : List (Nat × Nat)} (h : ∀ p ∈ ls, Ok1 n p) : ∀ (w : List Nat) (s : Ks539.Stand), s.u < n → (Ks539.run ⟨n, ls⟩ s w).u < n
  | [], _, hs => hs
  | x :: w, s, hs => run_lt h w _ (step_lt h s hs x)
theorem take_more {α : Type} {l : List α} {i : Nat} {x : α} (h : l[i]? = some x) : l.take (i + 1) = l.take i ++ [x] := by
  rw [List.take_add_one, h]; rfl
/-- the refusal that is due, or 0 -/
def refusal (n u : Nat) (net word : List Nat) : Int := if isNet n net = true then (if n ≤ u then -2 else if 30 < word.length then -22 else 0) else -22
def ansSeen (n u : Nat) (net word : List Nat) : List Int := if refusal n u net word = 0 then ((Ks539.seen ⟨n, prs net⟩ (Ks539.start u) word).length : Int) :: (Ks539.seen ⟨n, prs net⟩ (Ks539.start u) word).map Int.ofNat else [refusal n u net word]
theorem seen_spec (n u : Nat) (net word : List Nat) : Ks539Neutral.out (Ks539.answer (.seen n u net word)) = ansSeen n u net word := by
  unfold ansSeen refusal
  show Ks539Neutral.out (Ks536.net n net fun t => if n ≤ u then Ks539.no (-2) else if Ks536.LONG < word.length then Ks539.no (-22) else Ks536.rows (Ks539.seen t (Ks539.start u) word)) = _
  unfold Ks536.net
  rw [netOf_eq]
  by_cases c : isNet n net = true
  · rw [if_pos c, if_pos c]
    show Ks539Neutral.out (if n ≤ u then Ks539.no (-2) else if Ks536.LONG < word.length then Ks539.no (-22) else Ks536.rows (Ks539.seen ⟨n, prs net⟩ (Ks539.start u) word)) = _
    by_cases c2 : n ≤ u
    · rw [if_pos c2, if_pos c2]; rfl
    · rw [if_neg c2, if_neg c2]
      unfold Ks536.LONG
      by_cases c3 : 30 < word.length
      · rw [if_pos c3, if_pos c3]; rfl
      · rw [if_neg c3, if_neg c3]; rfl
  · rw [if_neg c, if_neg c]; rfl
theorem seen_is (n u : Int) (net word : List Int) : PyKs539.seen n u net word = ansSeen n.toNat u.toNat (net.map Int.toNat) (word.map Int.toNat) := by
  rw [← seen_spec]; rfl
end Wp
namespace Wp
open PySem PySem.Spec PyProof.Rows L2
/-! ## The text, and what its top has written -/
def topS (i : Nat) : Stmt := PySem.Challenge.pw_withpebble_s05_both.main.body.getD i (.Pass ⟨0, 0, 0, 0⟩)
abbrev s_both : Stmt := topS 13
abbrev s_refusal_of_two : Stmt := topS 14
abbrev s_refusal_to_tell_apart : Stmt := topS 15
abbrev s_is_net : Stmt := topS 16
abbrev s_links_of : Stmt := topS 17
abbrev s_links_are_allowed : Stmt := topS 18
abbrev s_hang_together : Stmt := topS 19
abbrev s_exits_of_places : Stmt := topS 20
abbrev s_seen_at : Stmt := topS 21
abbrev s_step_by : Stmt := topS 22
abbrev s_shortest_word_apart : Stmt := topS 23
abbrev s_pair_behind : Stmt := topS 24
abbrev s_three_answers : Stmt := topS 25
abbrev s_naming : Stmt := topS 26
abbrev s_pairs_met : Stmt := topS 27
structure Txt (mg : Str → Option Value) : Prop where
  c_NOT_A_NET : ∃ t, mg "NOT_A_NET" = some (.int (-22) t)
  c_NO_PLACE : ∃ t, mg "NO_PLACE" = some (.int (-2) t)
  c_TOO_MANY_PLACES : ∃ t, mg "TOO_MANY_PLACES" = some (.int (-75) t)
  c_NOT_REFUSED : ∃ t, mg "NOT_REFUSED" = some (.int 0 t)
  c_MOST_PLACES : ∃ t, mg "MOST_PLACES" = some (.int 7 t)
  c_MOST_PLACES_TO_TELL_APART : ∃ t, mg "MOST_PLACES_TO_TELL_APART" = some (.int 5 t)
  c_MOST_LINKS : ∃ t, mg "MOST_LINKS" = some (.int 10 t)
  c_PUT_DOWN : ∃ t, mg "PUT_DOWN" = some (.int 1 t)
  c_TAKE_UP : ∃ t, mg "TAKE_UP" = some (.int 2 t)
  c_FIRST_EXIT : ∃ t, mg "FIRST_EXIT" = some (.int 3 t)
  c_CARRIED : ∃ t, mg "CARRIED" = some (.int 0 t)
  c_DID_NOT_GO : ∃ t, mg "DID_NOT_GO" = some (.int 0 t)
  b_len : mg "len" = none
  b_range : mg "range" = none
  b_all : mg "all" = none
  b_max : mg "max" = none
  b_sorted : mg "sorted" = none
  b_zip : mg "zip" = none
/-- a def of the text, found by its name -/
structure Dfn (K : PySem.W.Frag) (mg : Str → Option Value) (x : Str) (st : Stmt) (ps : List Str) (f : Addr) (fd : FuncData) : Prop where
  F : Fun K x x st f fd
  g : mg x = some (.ref f)
  b : Binds K fd ps []
end Wp
namespace Wp
open Ks536 (Net)
open Ks539 (Stand Two)
/-! ## Steps by a word -/
def trip (t : Net) (s : Stand) (x : Nat) : Nat × Nat × Nat := ((Ks539.step t s x).u, peb (Ks539.step t s x).p, Ks539.in_ t s x)
def behind (t : Net) : Stand → List Nat → List (Nat × Nat × Nat)
  | _, [] => []
  | s, x :: w => trip t s x :: behind t (Ks539.step t s x) w
def stepsL (c : Nat) (t : Net) (s : Stand) (w : List Nat) : List (Nat × Nat × Nat) := (s.u, peb s.p, c) :: behind t s w
theorem behind_snoc (t : Net) : ∀ (w : List Nat) (s : Stand) (x : Nat), behind t s (w ++ [x]) = behind t s w ++ [trip t (Ks539.run t s w) x]
  | [], _, _ => rfl
  | y :: w, s, x => by
    show trip t s y :: behind t (Ks539.step t s y) (w ++ [x]) = _
    rw [behind_snoc t w]
    rfl
theorem behind_length (t : Net) : ∀ (w : List Nat) (s : Stand), (behind t s w).length = w.length
  | [], _ => rfl
  | y :: w, s => by
    show (behind t (Ks539.step t s y) w).length + 1 = w.length + 1
    rw [behind_length t w]
theorem stepsL_length (c : Nat) (t : Net) (s : Stand) (w : List Nat) : (stepsL c t s w).length = w.length + 1 := by
  show (behind t s w).length + 1 = _
  rw [behind_length]
theorem stepsL_snoc (c : Nat) (t : Net) (s : Stand) (w : List Nat) (x : Nat) : stepsL c t s (w ++ [x]) = stepsL c t s w ++ [trip t (Ks539.run t s w) x] := by
  unfold stepsL
  rw [behind_snoc]
  rfl
theorem behind_get (t : Net) : ∀ (w : List Nat) (s : Stand) (i x : Nat), w[i]? = some x → (behind t s w)[i]? = some (trip t (Ks539.run t s (w.take i)) x)
  | [], _, _, _, h => by simp at h
  | y :: w, s, 0, x, h => by
    have e : y = x := Option.some.inj h
    subst e
    rfl
  | y :: w, s, i + 1, x, h => behind_get t w (Ks539.step t s y) i x h
theorem stepsL_last (t : Net) : ∀ (w : List Nat) (s : Stand) (c : Nat), ∃ d, (stepsL c t s w)[w.length]? = some ((Ks539.run t s w).u, peb (Ks539.run t s w).p, d)
  | [], _, c => ⟨c, rfl⟩
  | y :: w, s, c => by
    obtain ⟨d, h⟩ := stepsL_last t w (Ks539.step t s y) (Ks539.in_ t s y)
    exact ⟨d, h⟩
/-! ## run -/
def ansRun (n u : Nat) (net word : List Nat) : List Int := if refusal n u net word = 0 then [((Ks539.run ⟨n, prs net⟩ (Ks539.start u) word).u : Int), (peb (Ks539.run ⟨n, prs net⟩ (Ks539.start u) word).p : Int)] else [refusal n u net word]
theorem run_spec (n u : Nat) (net word : List Nat) : Ks539Neutral.out (Ks539.answer (.run n u net word)) = ansRun n u net word := by
  unfold ansRun refusal
  show Ks539Neutral.out (Ks536.net n net fun t => if n ≤ u then Ks539.no (-2) else if Ks536.LONG < word.length then Ks539.no (-22) else
    { ret := (Ks539.run t (Ks539.start u) word).u, out := [match (Ks539.run t (Ks539.start u) word).p with
        | none => 0
        | some v => v + 1] }) = _
  unfold Ks536.net
  rw [netOf_eq]
  by_cases c : isNet n net = true
  · rw [if_pos c, if_pos c]
    dsimp only
    by_cases c2 : n ≤ u
    · rw [if_pos c2, if_pos c2]; rfl
    · rw [if_neg c2, if_neg c2]
      unfold Ks536.LONG
      by_cases c3 : 30 < word.length
      · rw [if_pos c3, if_pos c3]; rfl
      · rw [if_neg c3, if_neg c3]
        generalize Ks539.run ⟨n, prs net⟩ (Ks539.start u) word = s
        obtain ⟨a, p⟩ := s
        cases p <;> rfl
  · rw [if_neg c, if_neg c]; rfl
theorem run_is (n u : Int) (net word : List Int) : PyKs539.run n u net word = ansRun n.toNat u.toNat (net.map Int.toNat) (word.map Int.toNat) := by
  rw [← run_spec]; rfl
/-! ## apart: what is refused, what is answered -/
def refusal2 (n m u v : Nat) (net second : List Nat) : Int := if isNet n net = true ∧ isNet m second = true then (if n ≤ u ∨ m ≤ v then -2 else if 5 < n ∨ 5 < m then -75 else 0) else -22
def ansApart (n m u v : Nat) (net second : List Nat) : List Int := if refusal2 n m u v net second = 0 then (match Ks539.apart ⟨n, prs net⟩ ⟨m, prs second⟩ u v with
    | none => [-6]
    | some w => (w.length : Int) :: w.map Int.ofNat) else [refusal2 n m u v net second]
theorem apart_spec (n m u v : Nat) (net second : List Nat) : Ks539Neutral.out (Ks539.answer (.apart n m u v net second)) = ansApart n m u v net second := by
  show Ks539Neutral.out (Ks536.net n net fun s => Ks536.net m second fun t => if n ≤ u ∨ m ≤ v then Ks539.no (-2) else if Ks539.FEW < n ∨ Ks539.FEW < m then Ks539.no (-75) else match Ks539.apart s t u v with
    | none => Ks539.no (-6)
    | some w => Ks536.rows w) = _
  unfold Ks536.net
  rw [netOf_eq, netOf_eq]
  unfold ansApart
  by_cases c : isNet n net = true
  · rw [if_pos c]
    dsimp only
    by_cases d : isNet m second = true
    · have r : refusal2 n m u v net second = (if n ≤ u ∨ m ≤ v then -2 else if 5 < n ∨ 5 < m then -75 else 0) := if_pos ⟨c, d⟩
      rw [if_pos d, r]
      dsimp only
      by_cases c2 : n ≤ u ∨ m ≤ v
      · simp only [if_pos c2]; rfl
      · simp only [if_neg c2]
        unfold Ks539.FEW
        by_cases c3 : 5 < n ∨ 5 < m
        · simp only [if_pos c3]; rfl
        · simp only [if_neg c3, if_true]
          cases Ks539.apart ⟨n, prs net⟩ ⟨m, prs second⟩ u v <;> rfl
    · have r : refusal2 n m u v net second = -22 := if_neg (fun z => d z.2)
      rw [if_neg d, r]; rfl
  · have r : refusal2 n m u v net second = -22 := if_neg (fun z => c z.1)
    rw [if_neg c, r]; rfl
theorem apart_is (n m u v : Int) (net second : List Int) : PyKs539.apart n m u v net second = ansApart n.toNat m.toNat u.toNat v.toNat (net.map Int.toNat) (second.map Int.toNat) := by
  rw [← apart_spec]; rfl
/-! ## The letters -/
theorem foldl_max_ge : ∀ (l : List Nat) (a : Nat), a ≤ l.foldl max a ∧ ∀ y ∈ l, y ≤ l.foldl max a
  | [], a => ⟨Nat.le_refl a, fun _ h => (nomatch h)⟩
  | x :: l, a => by
    obtain ⟨h1, h2⟩ := foldl_max_ge l (max a x)
    refine ⟨Nat.le_trans (Nat.le_max_left a x) h1, fun y hy => ?_⟩
    rcases List.mem_cons.mp hy with e | e
    · subst e
      exact Nat.le_trans (Nat.le_max_right a y) h1
    · exact h2 y e
theorem foldl_max_le : ∀ (l : List Nat) (a m : Nat), a ≤ m → (∀ y ∈ l, y ≤ m) → l.foldl max a ≤ m
  | [], _, _, h, _ => h
  | x :: l, a, m, h, h2 => foldl_max_le l (max a x) m (Nat.max_le.mpr ⟨h, h2 x (by simp)⟩) (fun y hy => h2 y (List.mem_cons_of_mem _ hy))
/-- the counts of exits, place by place -/
def lens (n : Nat) (ls : List (Nat × Nat)) : List Nat := (List.range n).map fun u => (row ls u).length
theorem letters_eq (n m : Nat) (ls ks : List (Nat × Nat)) : Ks539.letters ⟨n, ls⟩ ⟨m, ks⟩ = (lens n ls ++ lens m ks).foldl max 0 + 3 := by
  unfold Ks539.letters lens
  have e1 : Ks536.degree ⟨n, ls⟩ = fun u => (row ls u).length := funext fun u => degree_eq ⟨n, ls⟩ u
  have e2 : Ks536.degree ⟨m, ks⟩ = fun u => (row ks u).length := funext fun u => degree_eq ⟨m, ks⟩ u
  rw [e1, e2]
theorem letters_of {n m : Nat} {ls ks : List (Nat × Nat)} {x : Nat} (hx : x ∈ lens n ls ++ lens m ks) (hle : ∀ y ∈ lens n ls ++ lens m ks, y ≤ x) : Ks539.letters ⟨n, ls⟩ ⟨m, ks⟩ = x + 3 := by
  rw [letters_eq]
  have h1 := (foldl_max_ge (lens n ls ++ lens m ks) 0).2 x hx
  have h2 := foldl_max_le (lens n ls ++ lens m ks) 0 x (Nat.zero_le x) hle
  omega
/-! ## The search -/
/-- a stand within n places -/
def StIn (n : Nat) (s : Stand) : Prop := s.u < n ∧ ∀ v, s.p = some v → v < n
theorem stIn_start {n u : Nat} (h : u < n) : StIn n (Ks539.start u) := ⟨h, fun v e => (nomatch e)⟩
theorem stIn_step {n : Nat} {ls : List (Nat × Nat)} (h : ∀ p ∈ ls, Ok1 n p) {s : Stand} (hs : StIn n s) (x : Nat) : StIn n (Ks539.step ⟨n, ls⟩ s x) := by
  refine ⟨step_lt h s hs.1 x, ?_⟩
  obtain ⟨u, p⟩ := s
  obtain ⟨h1, h2⟩ := hs
  match x with
  | 0 => exact h2
  | 1 =>
    cases p with
    | none =>
      intro v e
      have e' : u = v := Option.some.inj e
      rw [← e']
      exact h1
    | some q => exact h2
  | 2 =>
    by_cases c : p = some u
    · subst c
      have e : Ks539.step ⟨n, ls⟩ ⟨u, some u⟩ 2 = ⟨u, none⟩ := if_pos rfl
      rw [e]
      exact fun v z => (nomatch z)
    · have e : Ks539.step ⟨n, ls⟩ ⟨u, p⟩ 2 = ⟨u, p⟩ := if_neg c
      rw [e]
      exact h2
  | e + 3 => exact h2
def TwIn (n m : Nat) (q : Two) : Prop := StIn n q.1 ∧ StIn m q.2
/-- their code -/
def cod (q : Two) : Nat := (q.1.u * 6 + peb q.1.p) * 30 + (q.2.u * 6 + peb q.2.p)
theorem peb_inj {p q : Option Nat} (h : peb p = peb q) : p = q := by
  cases p <;> cases q <;> simp_all [peb]
theorem peb_le {n : Nat} {s : Stand} (h : StIn n s) : peb s.p ≤ n := by
  have := h.2
  cases e : s.p with
  | none => exact Nat.zero_le n
  | some v => exact this v e
theorem stand_eq {s t : Stand} (h1 : s.u = t.u) (h2 : peb s.p = peb t.p) : s = t := by
  obtain ⟨a, p⟩ := s
  obtain ⟨b, q⟩ := t
  have e1 : a = b := h1
  have e2 : p = q := peb_inj h2
  rw [e1, e2]
theorem cod_inj {n m : Nat} (hn : n ≤ 5) (hm : m ≤ 5) {q r : Two} (hq : TwIn n m q) (hr : TwIn n m r) (h : cod q = cod r) : q = r := by
  obtain ⟨a, b⟩ := q
  obtain ⟨c, d⟩ := r
  obtain ⟨h1, h2⟩ := hq
  obtain ⟨h3, h4⟩ := hr
  have g1 := h1.1
  have g2 := h2.1
  have g3 := h3.1
  have g4 := h4.1
  have p1 := peb_le h1
  have p2 := peb_le h2
  have p3 := peb_le h3
  have p4 := peb_le h4
  unfold cod at h
  dsimp only at *
  have e1 : a = c := stand_eq (by omega) (by omega)
  have e2 : b = d := stand_eq (by omega) (by omega)
  rw [e1, e2]
theorem cod_lt {n m : Nat} (hn : n ≤ 5) (hm : m ≤ 5) {q : Two} (hq : TwIn n m q) : cod q < 900 := by
  obtain ⟨h1, h2⟩ := hq
  have g1 := h1.1
  have g2 := h2.1
  have p1 := peb_le h1
  have p2 := peb_le h2
  unfold cod
  omega
theorem nodup_lt : ∀ (n : Nat) (l : List Nat), l.Nodup → (∀ x ∈ l, x < n) → l.length ≤ n
  | 0, [], _, _ => Nat.le_refl 0
  | 0, x :: _, _, h => absurd (h x (by simp)) (Nat.not_lt_zero x)
  | n + 1, l, nd, h => by
    have h1 := nodup_lt n (l.erase n) (nd.erase n) (fun x hx => by
      have hx' := nd.mem_erase_iff.mp hx
      have := h x hx'.2
      have := hx'.1
      omega)
    have h2 : l.length ≤ (l.erase n).length + 1 := by
      rw [List.length_erase]
      split <;> omega
    omega
theorem map_nodup {n m : Nat} (hn : n ≤ 5) (hm : m ≤ 5) : ∀ (l : List Two), l.Nodup → (∀ q ∈ l, TwIn n m q) → (l.map cod).Nodup
  | [], _, _ => List.nodup_nil
  | q :: l, nd, h => by
    rw [List.nodup_cons] at nd
    rw [List.map_cons, List.nodup_cons]
    refine ⟨fun z => ?_, map_nodup hn hm l nd.2 (fun r hr => h r (List.mem_cons_of_mem _ hr))⟩
    obtain ⟨r, hr, e⟩ := List.mem_map.mp z
    have e' := cod_inj hn hm (h r (List.mem_cons_of_mem _ hr)) (h q (by simp)) e
    exact nd.1 (e' ▸ hr)
theorem few {n m : Nat} (hn : n ≤ 5) (hm : m ≤ 5) {l : List Two} (nd : l.Nodup) (h : ∀ q ∈ l, TwIn n m q) : l.length ≤ 900 := by
  have := nodup_lt 900 (l.map cod) (map_nodup hn hm l nd h) (fun x hx => by
    obtain ⟨q, hq, e⟩ := List.mem_map.mp hx
    rw [← e]
    exact cod_lt hn hm (h q hq))
  rw [List.length_map] at this
  exact this
abbrev Lev := List (Two × List Nat)
abbrev Gr := Sum (List Nat) (Lev × List Two)
/-- behind one letter, in both nets -/
def nxt2 (s t : Net) (p : Two) (x : Nat) : Two := (Ks539.step s p.1 x, Ks539.step t p.2 x)
def tells (s t : Net) (p : Two) (x : Nat) : Bool := Ks539.in_ s p.1 x != Ks539.in_ t p.2 x || Ks539.differ s t (nxt2 s t p x)
def inner (s t : Net) (p : Two × List Nat) (r : Gr) (x : Nat) : Gr := match r with
  | .inl w => .inl w
  | .inr z => if tells s t p.1 x = true then .inl (p.2 ++ [x]) else if z.2.contains (nxt2 s t p.1 x) = true then .inr z else .inr (z.1 ++ [(nxt2 s t p.1 x, p.2 ++ [x])], z.2 ++ [nxt2 s t p.1 x])
def outer (s t : Net) (r : Gr) (p : Two × List Nat) : Gr := match r with
  | .inl w => .inl w
  | .inr z => (List.range (Ks539.letters s t)).foldl (inner s t p) (.inr z)
def innN (s t : Net) (p : Two × List Nat) (z : Lev × List Two) (k : Nat) : Gr := (List.range k).foldl (inner s t p) (.inr z)
def outN (s t : Net) (old : Lev) (done : List Two) (i : Nat) : Gr := (old.take i).foldl (outer s t) (.inr ([], done))
theorem grow_eq (s t : Net) (old : Lev) (done : List Two) : Ks539.grow s t old done = outN s t old done old.length := by
  unfold outN
  rw [List.take_length]
  rfl
theorem inner_inl (s t : Net) (p : Two × List Nat) (w : List Nat) : ∀ l : List Nat, l.foldl (inner s t p) (.inl w) = .inl w
  | [] => rfl
  | _ :: l => inner_inl s t p w l
theorem outer_inl (s t : Net) (w : List Nat) : ∀ l : Lev, l.foldl (outer s t) (.inl w) = .inl w
  | [] => rfl
  | _ :: l => outer_inl s t w l
theorem innN_succ (s t : Net) (p : Two × List Nat) (z : Lev × List Two) (k : Nat) : innN s t p z (k + 1) = inner s t p (innN s t p z k) k := by
  unfold innN
  rw [List.range_succ, List.foldl_append]
  rfl
theorem innN_stop {s t : Net} {p : Two × List Nat} {z : Lev × List Two} {w : List Nat} {k : Nat} (h : innN s t p z k = .inl w) : ∀ j, innN s t p z (k + j) = .inl w
  | 0 => h
  | j + 1 => by
    rw [← Nat.add_assoc, innN_succ, innN_stop h j]
    rfl
theorem outN_succ {s t : Net} {old : Lev} {done : List Two} {i : Nat} {p : Two × List Nat} (hp : old[i]? = some p) : outN s t old done (i + 1) = outer s t (outN s t old done i) p := by
  unfold outN
  rw [take_more hp, List.foldl_append]
  rfl
theorem outN_go {s t : Net} {old : Lev} {done : List Two} {i : Nat} {p : Two × List Nat} {z : Lev × List Two} (hp : old[i]? = some p) (h : outN s t old done i = .inr z) : outN s t old done (i + 1) = innN s t p z (Ks539.letters s t) := by
  rw [outN_succ hp, h]
  rfl
theorem outN_stop {s t : Net} {old : Lev} {done : List Two} {i : Nat} {w : List Nat} (h : outN s t old done i = .inl w) : outN s t old done old.length = .inl w := by
  unfold outN at h ⊢
  rw [List.take_length]
  conv => lhs; rw [← List.take_append_drop i old]
  rw [List.foldl_append, h, outer_inl]
/-- the word is found behind k letters of the place i -/
theorem grow_found {s t : Net} {old : Lev} {done : List Two} {i k : Nat} {p : Two × List Nat} {z z' : Lev × List Two} (hp : old[i]? = some p) (h : outN s t old done i = .inr z) (hk : innN s t p z k = .inr z') (hl : k < Ks539.letters s t)
    (ht : tells s t p.1 k = true) : Ks539.grow s t old done = .inl (p.2 ++ [k]) := by
  rw [grow_eq]
  refine outN_stop (i := i + 1) ?_
  rw [outN_go hp h]
  have e : innN s t p z (k + 1) = .inl (p.2 ++ [k]) := by
    rw [innN_succ, hk]
    exact if_pos ht
  have := innN_stop e (Ks539.letters s t - (k + 1))
  rw [show k + 1 + (Ks539.letters s t - (k + 1)) = Ks539.letters s t by omega] at this
  exact this
/-- what holds while a level is gone through -/
structure Gd (n m d0 k : Nat) (z : Lev × List Two) : Prop where
  nd : z.2.Nodup
  tw : ∀ q ∈ z.2, TwIn n m q
  lv : ∀ e ∈ z.1, TwIn n m e.1 ∧ e.2.length = k
  ln : z.1.length + d0 = z.2.length
theorem inner_old {z : Lev × List Two} {s t : Net} {p : Two × List Nat} {x : Nat} (ht : tells s t p.1 x = false) (hc : nxt2 s t p.1 x ∈ z.2) : inner s t p (.inr z) x = .inr z := by
  show (if _ then _ else _) = _
  rw [ht, if_neg Bool.false_ne_true, if_pos (List.contains_iff_mem.mpr hc)]
theorem inner_new {z : Lev × List Two} {s t : Net} {p : Two × List Nat} {x : Nat} (ht : tells s t p.1 x = false) (hc : nxt2 s t p.1 x ∉ z.2) : inner s t p (.inr z) x = .inr (z.1 ++ [(nxt2 s t p.1 x, p.2 ++ [x])], z.2 ++ [nxt2 s t p.1 x]) := by
  show (if _ then _ else _) = _
  rw [ht, if_neg Bool.false_ne_true, if_neg (fun h => hc (List.contains_iff_mem.mp h))]
theorem Gd.new {n m d0 k : Nat} {z : Lev × List Two} {q : Two} {w : List Nat} (g : Gd n m d0 k z) (hq : TwIn n m q) (hw : w.length = k) (hc : q ∉ z.2) : Gd n m d0 k (z.1 ++ [(q, w)], z.2 ++ [q]) := by
  refine ⟨?_, fun r hr => ?_, fun e he => ?_, ?_⟩
  · show (z.2 ++ [q]).Nodup
    rw [List.nodup_append]
    exact ⟨g.nd, by simp, fun a ha b hb => by
      rw [List.mem_singleton.mp hb]
      intro e
      exact hc (e ▸ ha)⟩
  · rcases List.mem_append.mp hr with h | h
    · exact g.tw r h
    · rw [List.mem_singleton.mp h]
      exact hq
  · rcases List.mem_append.mp he with h | h
    · exact g.lv e h
    · rw [List.mem_singleton.mp h]
      exact ⟨hq, hw⟩
  · show (z.1 ++ [(q, w)]).length + d0 = (z.2 ++ [q]).length
    have := g.ln
    rw [List.length_append, List.length_append, List.length_singleton, List.length_singleton]
    omega
theorem nxt2_in {n m : Nat} {ls ks : List (Nat × Nat)} (h : ∀ p ∈ ls, Ok1 n p) (h' : ∀ p ∈ ks, Ok1 m p) {p : Two} (hp : TwIn n m p) (x : Nat) : TwIn n m (nxt2 ⟨n, ls⟩ ⟨m, ks⟩ p x) := ⟨stIn_step h hp.1 x, stIn_step h' hp.2 x⟩
theorem search_nil (s t : Net) (f : Nat) (done : List Two) : Ks539.search s t f [] done = none := by
  cases f <;> rfl
theorem search_inl {s t : Net} {f : Nat} {lev : Lev} {done : List Two} {w : List Nat} (hl : lev ≠ []) (h : Ks539.grow s t lev done = .inl w) : Ks539.search s t (f + 1) lev done = some w := by
  cases lev with
  | nil => exact absurd rfl hl
  | cons a r =>
    show (match Ks539.grow s t (a :: r) done with
      | .inl w => some w
      | .inr z => Ks539.search s t f z.1 z.2) = _
    rw [h]
theorem search_inr {s t : Net} {f : Nat} {lev : Lev} {done : List Two} {z : Lev × List Two} (hl : lev ≠ []) (h : Ks539.grow s t lev done = .inr z) : Ks539.search s t (f + 1) lev done = Ks539.search s t f z.1 z.2 := by
  cases lev with
  | nil => exact absurd rfl hl
  | cons a r =>
    show (match Ks539.grow s t (a :: r) done with
      | .inl w => some w
      | .inr z => Ks539.search s t f z.1 z.2) = _
    rw [h]
end Wp
namespace Wp
open Ks536 (Net)
/-! ## Pairs that are met by like words -/
abbrev Pr := Nat × Nat
/-- two places have as many exits, and each comes in by the same exit -/
def Cmp (ls ks : List Pr) (p : Pr) : Prop := (row ls p.1).map (·.2) = (row ks p.2).map (·.2)
instance (ls ks : List Pr) (p : Pr) : Decidable (Cmp ls ks p) := by unfold Cmp; infer_instance
/-- behind one exit of both -/
def Sc (ls ks : List Pr) (p q : Pr) : Prop := ∃ (e : Nat) (a b : Pr), (row ls p.1)[e]? = some a ∧ (row ks p.2)[e]? = some b ∧ q = (a.1, b.1)
inductive Rch (ls ks : List Pr) (s : Pr) : Pr → Prop
  | refl : Rch ls ks s s
  | step {p q : Pr} : Rch ls ks s p → Sc ls ks p q → Rch ls ks s q
def AllC (ls ks : List Pr) (s : Pr) : Prop := ∀ p, Rch ls ks s p → Cmp ls ks p
theorem cmp_len {ls ks : List Pr} {p : Pr} (h : Cmp ls ks p) : (row ls p.1).length = (row ks p.2).length := by
  have := congrArg List.length h
  rwa [List.length_map, List.length_map] at this
theorem cmp_at {ls ks : List Pr} {p : Pr} (h : Cmp ls ks p) {e : Nat} {a b : Pr} (ha : (row ls p.1)[e]? = some a) (hb : (row ks p.2)[e]? = some b) : a.2 = b.2 := by
  have h1 : ((row ls p.1).map (·.2))[e]? = some a.2 := by rw [List.getElem?_map, ha]; rfl
  have h2 : ((row ks p.2).map (·.2))[e]? = some b.2 := by rw [List.getElem?_map, hb]; rfl
  have h3 : (row ls p.1).map (·.2) = (row ks p.2).map (·.2) := h
  rw [h3, h2] at h1
  exact (Option.some.inj h1).symm
theorem cmp_of {ls ks : List Pr} {p : Pr} (hl : (row ls p.1).length = (row ks p.2).length) (h : ∀ (e : Nat) (a b : Pr), (row ls p.1)[e]? = some a → (row ks p.2)[e]? = some b → a.2 = b.2) : Cmp ls ks p := by
  apply List.ext_getElem?
  intro e
  rw [List.getElem?_map, List.getElem?_map]
  by_cases c : e < (row ls p.1).length
  · have c' : e < (row ks p.2).length := by omega
    have h1 := List.getElem?_eq_getElem c
    have h2 := List.getElem?_eq_getElem c'
    rw [h1, h2]
    exact congrArg some (h e _ _ h1 h2)
  · rw [List.getElem?_eq_none (by omega), List.getElem?_eq_none (by omega)]
theorem rch_lt {n m : Nat} {ls ks : List Pr} (h1 : ∀ p ∈ ls, Ok1 n p) (h2 : ∀ p ∈ ks, Ok1 m p) {s p : Pr} (hs : s.1 < n ∧ s.2 < m) (h : Rch ls ks s p) : p.1 < n ∧ p.2 < m := by
  cases h with
  | refl => exact hs
  | step _ c =>
    obtain ⟨e, a, b, ha, hb, rfl⟩ := c
    exact ⟨row_lt (p := a) h1 ha, row_lt (p := b) h2 hb⟩
theorem rch_in {ls ks : List Pr} {s : Pr} {L : List Pr} (hs : s ∈ L) (hc : ∀ p ∈ L, ∀ q, Sc ls ks p q → q ∈ L) {p : Pr} (h : Rch ls ks s p) : p ∈ L := by
  induction h with
  | refl => exact hs
  | step _ c ih => exact hc _ ih _ c
/-! ## All hang together -/
theorem nb_symm {ls : List Pr} {u w : Nat} (h : Nb ls u w) : Nb ls w u := by
  obtain ⟨p, hp, h⟩ := h
  exact ⟨p, hp, h.elim (fun z => .inr ⟨z.2, z.1⟩) (fun z => .inl ⟨z.2, z.1⟩)⟩
theorem hang_zero {n : Nat} {ls : List Pr} {C : Nat → Prop} (h : hangs n ls = true) (hc : Closed ls C) (h0 : C 0) : ∀ v, v < n → C v := fun v hv =>
  rounds_in ls hc (reach0 n) (fun v hv => by rw [((reach0_get n v).mp hv).1]; exact h0) n v (hangs_iff.mp h v hv)
theorem hang_all {n : Nat} {ls : List Pr} {C : Nat → Prop} (h : hangs n ls = true) (hc : Closed ls C) {u : Nat} (hu : u < n) (h0 : C u) : ∀ v, v < n → C v := by
  refine hang_zero h hc (Classical.byContradiction fun no => ?_)
  exact hang_zero (C := fun v => ¬ C v) h (fun a b hb ha z => ha (hc b a (nb_symm hb) z)) no u hu h0
theorem nb_row {n : Nat} {ls : List Pr} (h : ∀ p ∈ ls, Ok1 n p) {u w : Nat} (hn : Nb ls u w) : ∃ (e : Nat) (a : Pr), (row ls u)[e]? = some a ∧ a.1 = w := by
  have g := (goes_iff h u w).mpr hn
  rw [List.any_eq_true] at g
  obtain ⟨e, he, hg⟩ := g
  have he' := List.mem_range.mp he
  rw [degree_eq] at he'
  have hg' := beq_iff_eq.mp hg
  rw [go_succ] at hg'
  have h1 : (row ls u)[e]? = some (row ls u)[e] := List.getElem?_eq_getElem he'
  refine ⟨e, _, h1, ?_⟩
  dsimp only at hg'
  rw [h1] at hg'
  exact hg'
theorem cover1 {n : Nat} {ls ks : List Pr} (h1 : ∀ p ∈ ls, Ok1 n p) (hh : hangs n ls = true) {s : Pr} (hs : s.1 < n) (ac : AllC ls ks s) : ∀ x, x < n → ∃ y, Rch ls ks s (x, y) := by
  refine hang_all hh (C := fun x => ∃ y, Rch ls ks s (x, y)) ?_ hs ⟨s.2, .refl⟩
  rintro x w hb ⟨y, hy⟩
  obtain ⟨e, a, ha, rfl⟩ := nb_row h1 hb
  have hl := cmp_len (ac _ hy)
  have he := (List.getElem?_eq_some_iff.mp ha).1
  exact ⟨_, .step hy ⟨e, a, _, ha, List.getElem?_eq_getElem (by rw [← hl]; exact he), rfl⟩⟩
theorem cover2 {m : Nat} {ls ks : List Pr} (h2 : ∀ p ∈ ks, Ok1 m p) (hh : hangs m ks = true) {s : Pr} (hs : s.2 < m) (ac : AllC ls ks s) : ∀ y, y < m → ∃ x, Rch ls ks s (x, y) := by
  refine hang_all hh (C := fun y => ∃ x, Rch ls ks s (x, y)) ?_ hs ⟨s.1, .refl⟩
  rintro y w hn ⟨x, hx⟩
  obtain ⟨e, b, hb, rfl⟩ := nb_row h2 hn
  have hl := cmp_len (ac _ hx)
  have he := (List.getElem?_eq_some_iff.mp hb).1
  exact ⟨_, .step hx ⟨e, _, b, List.getElem?_eq_getElem (by rw [hl]; exact he), hb, rfl⟩⟩
/-! ## Alike for so many steps -/
def sim (R : Nat → List Pr) : Nat → Nat → Nat → Prop
  | 0, x, y => (R x).length = (R y).length
  | k + 1, x, y => (R x).length = (R y).length ∧ ∀ (e : Nat) (a b : Pr), (R x)[e]? = some a → (R y)[e]? = some b → a.2 = b.2 ∧ sim R k a.1 b.1
theorem sim_len {R : Nat → List Pr} : ∀ {k x y : Nat}, sim R k x y → (R x).length = (R y).length
  | 0, _, _, h => h
  | _ + 1, _, _, h => h.1
theorem sim_refl (R : Nat → List Pr) : ∀ k x, sim R k x x
  | 0, _ => rfl
  | k + 1, x => ⟨rfl, fun e a b ha hb => by
    rw [ha] at hb
    cases hb
    exact ⟨rfl, sim_refl R k _⟩⟩
theorem sim_symm {R : Nat → List Pr} : ∀ {k x y : Nat}, sim R k x y → sim R k y x
  | 0, _, _, h => Eq.symm h
  | k + 1, _, _, h => ⟨h.1.symm, fun e a b ha hb => ⟨(h.2 e b a hb ha).1.symm, sim_symm (h.2 e b a hb ha).2⟩⟩
theorem sim_trans {R : Nat → List Pr} : ∀ {k x y z : Nat}, sim R k x y → sim R k y z → sim R k x z
  | 0, _, _, _, h, g => Eq.trans h g
  | k + 1, x, y, z, h, g => ⟨h.1.trans g.1, fun e a c ha hc => by
    have he := (List.getElem?_eq_some_iff.mp ha).1
    have hb : (R y)[e]? = some ((R y)[e]'(by rw [← h.1]; exact he)) := List.getElem?_eq_getElem _
    have h1 := h.2 e a _ ha hb
    have h2 := g.2 e _ c hb hc
    exact ⟨h1.1.trans h2.1, sim_trans h1.2 h2.2⟩⟩
theorem sim_less {R : Nat → List Pr} : ∀ {k x y : Nat}, sim R (k + 1) x y → sim R k x y
  | 0, _, _, h => h.1
  | k + 1, _, _, h => ⟨h.1, fun e a b ha hb => ⟨(h.2 e a b ha hb).1, sim_less (h.2 e a b ha hb).2⟩⟩
theorem sim_le {R : Nat → List Pr} {x y j : Nat} : ∀ {k : Nat}, j ≤ k → sim R k x y → sim R j x y
  | 0, hj, h => by
    have : j = 0 := by omega
    subst this; exact h
  | k + 1, hj, h => by
    by_cases c : j = k + 1
    · rw [c]; exact h
    · exact sim_le (by omega) (sim_less h)
/-- the least of its class -/
def rep (R : Nat → List Pr) (k x : Nat) : Prop := ∀ y, y < x → ¬ sim R k y x
theorem rep_more {R : Nat → List Pr} {k x : Nat} (h : rep R k x) : rep R (k + 1) x := fun y hy z => h y hy (sim_less z)
theorem has_rep (R : Nat → List Pr) (k : Nat) : ∀ b x, x ≤ b → ∃ r, r ≤ x ∧ rep R k r ∧ sim R k r x
  | b, x, hx => by
    by_cases c : rep R k x
    · exact ⟨x, Nat.le_refl x, c, sim_refl R k x⟩
    · have : ∃ y, y < x ∧ sim R k y x := Classical.byContradiction fun no => c fun y hy z => no ⟨y, hy, z⟩
      obtain ⟨y, hy, hs⟩ := this
      match b with
      | 0 => omega
      | b + 1 =>
        obtain ⟨r, h1, h2, h3⟩ := has_rep R k b y (by omega)
        exact ⟨r, by omega, h2, sim_trans h3 hs⟩
theorem rep_eq {R : Nat → List Pr} {k r s : Nat} (h1 : rep R k r) (h2 : rep R k s) (h : sim R k r s) : r = s := by
  rcases Nat.lt_trichotomy r s with c | c | c
  · exact absurd h (h2 r c)
  · exact c
  · exact absurd (sim_symm h) (h1 s c)
open Classical in
noncomputable def isRep (R : Nat → List Pr) (k x : Nat) : Bool := decide (rep R k x)
theorem isRep_iff {R : Nat → List Pr} {k x : Nat} : isRep R k x = true ↔ rep R k x := by
  unfold isRep
  exact @decide_eq_true_iff _ (Classical.propDecidable _)
noncomputable def cnt (R : Nat → List Pr) (N k : Nat) : Nat := (List.range N).countP (isRep R k)
def Stable (R : Nat → List Pr) (N k : Nat) : Prop := ∀ x y, x < N → y < N → sim R k x y → sim R (k + 1) x y
theorem stable_of {R : Nat → List Pr} {N k : Nat} (h : cnt R N (k + 1) ≤ cnt R N k) : Stable R N k := by
  have eq : ∀ x, x < N → rep R (k + 1) x → rep R k x := fun x hx hr =>
    isRep_iff.mp (countP_eq (p := isRep R k) (q := isRep R (k + 1)) (fun x _ z => isRep_iff.mpr (rep_more (isRep_iff.mp z))) h x (List.mem_range.mpr hx) (isRep_iff.mpr hr))
  intro x y hx hy hs
  obtain ⟨r, r1, r2, r3⟩ := has_rep R (k + 1) x x (Nat.le_refl x)
  obtain ⟨s, s1, s2, s3⟩ := has_rep R (k + 1) y y (Nat.le_refl y)
  have e : r = s := rep_eq (eq r (by omega) r2) (eq s (by omega) s2) (sim_trans (sim_trans (sim_less r3) hs) (sim_symm (sim_less s3)))
  subst e
  exact sim_trans (sim_symm r3) s3
theorem stable_on {R : Nat → List Pr} {N k : Nat} (hR : ∀ x, x < N → ∀ (e : Nat) (a : Pr), (R x)[e]? = some a → a.1 < N) (h : Stable R N k) : ∀ j, Stable R N (k + j)
  | 0 => h
  | j + 1 => fun x y hx hy hs => ⟨sim_len hs, fun e a b ha hb => by
    have hs' : sim R ((k + j) + 1) x y := hs
    have h1 := hs'.2 e a b ha hb
    exact ⟨h1.1, stable_on hR h j a.1 b.1 (hR x hx e a ha) (hR y hy e b hb) h1.2⟩⟩
theorem stable_all {R : Nat → List Pr} {N k : Nat} (hR : ∀ x, x < N → ∀ (e : Nat) (a : Pr), (R x)[e]? = some a → a.1 < N) (h : Stable R N k) {x y : Nat} (hx : x < N) (hy : y < N) (hs : sim R k x y) : ∀ j, sim R (k + j) x y
  | 0 => hs
  | j + 1 => stable_on hR h j x y hx hy (stable_all hR h hx hy hs j)
theorem cnt_grows {R : Nat → List Pr} {N : Nat} (hN : 0 < N) : ∀ k, k + 1 ≤ cnt R N k ∨ ∃ j, j < k ∧ Stable R N j
  | 0 => by
    left
    have : 0 < (List.range N).countP (isRep R 0) := by
      rw [List.countP_pos_iff]
      exact ⟨0, List.mem_range.mpr hN, isRep_iff.mpr fun y hy => absurd hy (Nat.not_lt_zero y)⟩
    exact this
  | k + 1 => by
    rcases cnt_grows (R := R) hN k with ih | ⟨j, hj, hs⟩
    · by_cases c : cnt R N (k + 1) ≤ cnt R N k
      · exact .inr ⟨k, by omega, stable_of c⟩
      · left; omega
    · exact .inr ⟨j, by omega, hs⟩
/-- so many steps tell all that can be told -/
theorem moore {R : Nat → List Pr} {N : Nat} (hN : 0 < N) (hR : ∀ x, x < N → ∀ (e : Nat) (a : Pr), (R x)[e]? = some a → a.1 < N) {x y : Nat} (hx : x < N) (hy : y < N) (h : sim R (N - 1) x y) : ∀ k, sim R k x y := by
  rcases cnt_grows (R := R) hN N with g | ⟨j, hj, hs⟩
  · have : cnt R N N ≤ N := by
      refine Nat.le_trans List.countP_le_length ?_
      rw [List.length_range]
      exact Nat.le_refl N
    omega
  · intro k
    exact sim_le (by omega : k ≤ j + k) (stable_all hR hs hx hy (sim_le (by omega) h) k)
/-! ## The specification's table -/
/-- both nets side by side: the second's places behind the first's -/
def uni (n : Nat) (ls ks : List Pr) (x : Nat) : List Pr := if x < n then row ls x else (row ks (x - n)).map fun p => (p.1 + n, p.2)
theorem uni_fst {n : Nat} {ls ks : List Pr} {x : Nat} (h : x < n) : uni n ls ks x = row ls x := if_pos h
theorem uni_snd {n : Nat} {ls ks : List Pr} (y : Nat) : uni n ls ks (y + n) = (row ks y).map fun p => (p.1 + n, p.2) := by
  unfold uni
  rw [if_neg (by omega), Nat.add_sub_cancel]
theorem uni_lt {n m : Nat} {ls ks : List Pr} (h1 : ∀ p ∈ ls, Ok1 n p) (h2 : ∀ p ∈ ks, Ok1 m p) (x : Nat) (hx : x < n + m) (e : Nat) (a : Pr) (ha : (uni n ls ks x)[e]? = some a) : a.1 < n + m := by
  by_cases c : x < n
  · rw [uni_fst c] at ha
    have := row_lt h1 ha
    omega
  · obtain ⟨y, rfl⟩ : ∃ y, x = y + n := ⟨x - n, by omega⟩
    rw [uni_snd, List.getElem?_map] at ha
    cases hb : (row ks y)[e]? with
    | none => rw [hb] at ha; cases ha
    | some b =>
      rw [hb] at ha
      cases ha
      have := row_lt h2 hb
      show b.1 + n < n + m
      omega
theorem getD_tab {n m u v : Nat} (f : Nat → Nat → Bool) (hu : u < n) (hv : v < m) : (((List.range n).map fun u => (List.range m).map fun v => f u v).getD u []).getD v false = f u v := by
  rw [List.getD_eq_getElem?_getD, List.getD_eq_getElem?_getD, List.getElem?_map, List.getElem?_range hu]
  show (((List.range m).map fun v => f u v)[v]?).getD false = f u v
  rw [List.getElem?_map, List.getElem?_range hv]
  rfl
theorem like_iff {n m : Nat} {ls ks : List Pr} (h1 : ∀ p ∈ ls, Ok1 n p) (h2 : ∀ p ∈ ks, Ok1 m p) : ∀ (k u v : Nat), u < n → v < m → (Ks536.like ⟨n, ls⟩ ⟨m, ks⟩ k u v = true ↔ sim (uni n ls ks) k u (v + n))
  | 0, u, v, hu, hv => by
    have e : Ks536.like ⟨n, ls⟩ ⟨m, ks⟩ 0 u v = (Ks536.degree ⟨n, ls⟩ u == Ks536.degree ⟨m, ks⟩ v) := getD_tab (fun u v => Ks536.degree ⟨n, ls⟩ u == Ks536.degree ⟨m, ks⟩ v) hu hv
    rw [e, beq_iff_eq, degree_eq, degree_eq]
    show _ ↔ (uni n ls ks u).length = (uni n ls ks (v + n)).length
    rw [uni_fst hu, uni_snd, List.length_map]
  | k + 1, u, v, hu, hv => by
    have e : Ks536.like ⟨n, ls⟩ ⟨m, ks⟩ (k + 1) u v = (Ks536.degree ⟨n, ls⟩ u == Ks536.degree ⟨m, ks⟩ v && (List.range (Ks536.degree ⟨n, ls⟩ u)).all fun e => match Ks536.out ⟨n, ls⟩ u e, Ks536.out ⟨m, ks⟩ v e with
      | some a, some b => a.2 == b.2 && Ks536.like ⟨n, ls⟩ ⟨m, ks⟩ k a.1 b.1
      | _, _ => false) := getD_tab (fun u v => Ks536.degree ⟨n, ls⟩ u == Ks536.degree ⟨m, ks⟩ v && (List.range (Ks536.degree ⟨n, ls⟩ u)).all fun e => match Ks536.out ⟨n, ls⟩ u e, Ks536.out ⟨m, ks⟩ v e with
      | some a, some b => a.2 == b.2 && Ks536.like ⟨n, ls⟩ ⟨m, ks⟩ k a.1 b.1
      | _, _ => false) hu hv
    rw [e, Bool.and_eq_true, beq_iff_eq, List.all_eq_true, degree_eq, degree_eq]
    show _ ↔ (uni n ls ks u).length = (uni n ls ks (v + n)).length ∧ ∀ (e : Nat) (a b : Pr), (uni n ls ks u)[e]? = some a → (uni n ls ks (v + n))[e]? = some b → a.2 = b.2 ∧ sim (uni n ls ks) k a.1 b.1
    rw [uni_fst hu, uni_snd, List.length_map]
    refine and_congr_right fun hl => ?_
    dsimp only at hl
    constructor
    · intro h e a b ha hb
      rw [List.getElem?_map] at hb
      cases hb' : (row ks v)[e]? with
      | none => rw [hb'] at hb; cases hb
      | some b' =>
        rw [hb'] at hb
        cases hb
        have g := h e (List.mem_range.mpr (List.getElem?_eq_some_iff.mp ha).1)
        simp only [out_eq, ha, hb', Bool.and_eq_true, beq_iff_eq] at g
        exact ⟨g.1, (like_iff h1 h2 k a.1 b'.1 (row_lt h1 ha) (row_lt h2 hb')).mp g.2⟩
    · intro h e he
      have he1 := List.mem_range.mp he
      dsimp only at he1
      have ha : (row ls u)[e]? = some (row ls u)[e] := List.getElem?_eq_getElem he1
      have hb : (row ks v)[e]? = some ((row ks v)[e]'(by rw [← hl]; exact he1)) := List.getElem?_eq_getElem _
      have g := h e _ _ ha (by rw [List.getElem?_map, hb]; rfl)
      simp only [out_eq, ha, hb, Bool.and_eq_true, beq_iff_eq]
      exact ⟨g.1, (like_iff h1 h2 k _ _ (row_lt h1 ha) (row_lt h2 hb)).mpr g.2⟩
theorem sim_rch {n m : Nat} {ls ks : List Pr} (h1 : ∀ p ∈ ls, Ok1 n p) (h2 : ∀ p ∈ ks, Ok1 m p) {s p : Pr} (hs : s.1 < n ∧ s.2 < m) (h : ∀ k, sim (uni n ls ks) k s.1 (s.2 + n)) (r : Rch ls ks s p) : ∀ k, sim (uni n ls ks) k p.1 (p.2 + n) := by
  induction r with
  | refl => exact h
  | @step p q hr c ih =>
    obtain ⟨e, a, b, ha, hb, rfl⟩ := c
    have hp := rch_lt h1 h2 hs hr
    intro k
    exact ((ih (k + 1)).2 e a (b.1 + n, b.2) (by rw [uni_fst hp.1]; exact ha) (by rw [uni_snd, List.getElem?_map, hb]; rfl)).2
theorem sim_cmp {n m : Nat} {ls ks : List Pr} {p : Pr} (hp : p.1 < n ∧ p.2 < m) (h : sim (uni n ls ks) 1 p.1 (p.2 + n)) : Cmp ls ks p := by
  have hl := h.1
  rw [uni_fst hp.1, uni_snd, List.length_map] at hl
  refine cmp_of hl fun e a b ha hb => ?_
  exact (h.2 e a (b.1 + n, b.2) (by rw [uni_fst hp.1]; exact ha) (by rw [uni_snd, List.getElem?_map, hb]; rfl)).1
theorem allC_sim {n m : Nat} {ls ks : List Pr} (h1 : ∀ p ∈ ls, Ok1 n p) (h2 : ∀ p ∈ ks, Ok1 m p) {s : Pr} (hs : s.1 < n ∧ s.2 < m) (ac : AllC ls ks s) : ∀ (k : Nat) (p : Pr), Rch ls ks s p → sim (uni n ls ks) k p.1 (p.2 + n)
  | 0, p, hr => by
    have hp := rch_lt h1 h2 hs hr
    show (uni n ls ks p.1).length = (uni n ls ks (p.2 + n)).length
    rw [uni_fst hp.1, uni_snd, List.length_map]
    exact cmp_len (ac p hr)
  | k + 1, p, hr => by
    have hp := rch_lt h1 h2 hs hr
    refine ⟨allC_sim h1 h2 hs ac 0 p hr, fun e a b ha hb => ?_⟩
    rw [uni_fst hp.1] at ha
    rw [uni_snd, List.getElem?_map] at hb
    cases hb' : (row ks p.2)[e]? with
    | none => rw [hb'] at hb; cases hb
    | some b' =>
      rw [hb'] at hb
      cases hb
      exact ⟨cmp_at (b := b') (ac p hr) ha hb', allC_sim h1 h2 hs ac k (a.1, b'.1) (.step hr ⟨e, a, b', ha, hb', rfl⟩)⟩
/-- alike without a pebble: all pairs met have exits alike -/
theorem alike_iff {n m : Nat} {ls ks : List Pr} (h1 : ∀ p ∈ ls, Ok1 n p) (h2 : ∀ p ∈ ks, Ok1 m p) {u v : Nat} (hu : u < n) (hv : v < m) : (Ks536.apart ⟨n, ls⟩ ⟨m, ks⟩ u v).isNone = true ↔ AllC ls ks (u, v) := by
  have e : (Ks536.apart ⟨n, ls⟩ ⟨m, ks⟩ u v).isNone = true ↔ ∀ k, k < n + m → Ks536.like ⟨n, ls⟩ ⟨m, ks⟩ k u v = true := by
    unfold Ks536.apart
    rw [Option.isNone_iff_eq_none, List.find?_eq_none]
    constructor
    · intro h k hk
      have := h k (List.mem_range.mpr hk)
      simpa using this
    · intro h k hk
      have := h k (List.mem_range.mp hk)
      simpa using this
  rw [e]
  have hs : (u, v).1 < n ∧ (u, v).2 < m := ⟨hu, hv⟩
  constructor
  · intro h
    have a := (like_iff h1 h2 (n + m - 1) u v hu hv).mp (h _ (by omega))
    have all := moore (R := uni n ls ks) (N := n + m) (by omega) (uni_lt h1 h2) (by omega) (by omega) a
    exact fun p hr => sim_cmp (rch_lt h1 h2 hs hr) (sim_rch h1 h2 hs all hr 1)
  · intro ac k _
    exact (like_iff h1 h2 k u v hu hv).mpr (allC_sim h1 h2 hs ac k (u, v) .refl)
end Wp
namespace Wp
open Ks536 (Net)
/-! ## The naming -/
def nmIn (s t : Net) (p : Pr) (r : Option (List Pr)) (e : Nat) : Option (List Pr) := match r with
  | none => none
  | some z => match Ks536.out s p.1 e, Ks536.out t p.2 e with
    | some a, some b => if a.2 != b.2 then none else match z.find? fun y => y.1 == a.1 with
      | some y => if y.2 = b.1 then some z else none
      | none => some (z ++ [(a.1, b.1)])
    | _, _ => none
def nmOut (s t : Net) (r : Option (List Pr)) (p : Pr) : Option (List Pr) := match r with
  | none => none
  | some z => (List.range (Ks536.degree s p.1)).foldl (nmIn s t p) (if Ks536.degree s p.1 = Ks536.degree t p.2 then some z else none)
def nmRound (s t : Net) (l : List Pr) : Option (List Pr) := l.foldl (nmOut s t) (some l)
theorem name_succ (s t : Net) (f : Nat) (l : List Pr) : Ks539.name s t (f + 1) l = match nmRound s t l with
    | none => none
    | some z => Ks539.name s t f z := rfl
theorem nmIn_none (s t : Net) (p : Pr) : ∀ l : List Nat, l.foldl (nmIn s t p) none = none
  | [] => rfl
  | _ :: l => nmIn_none s t p l
theorem nmOut_none (s t : Net) : ∀ l : List Pr, l.foldl (nmOut s t) none = none
  | [] => rfl
  | _ :: l => nmOut_none s t l
/-- what a list of named pairs keeps: each place is named once, all are met -/
structure NG (ls ks : List Pr) (s0 : Pr) (z : List Pr) : Prop where
  nd : (z.map (·.1)).Nodup
  rc : ∀ q ∈ z, Rch ls ks s0 q
/-- of this exit the places are named so -/
def At (ls ks : List Pr) (z : List Pr) (p : Pr) (e : Nat) : Prop := ∃ a b : Pr, (row ls p.1)[e]? = some a ∧ (row ks p.2)[e]? = some b ∧ a.2 = b.2 ∧ (a.1, b.1) ∈ z
def Fine (ls ks : List Pr) (z : List Pr) (p : Pr) : Prop := (row ls p.1).length = (row ks p.2).length ∧ ∀ e, e < (row ls p.1).length → At ls ks z p e
theorem At.more {ls ks z w : List Pr} {p : Pr} {e : Nat} (h : At ls ks z p e) : At ls ks (z ++ w) p e := by
  obtain ⟨a, b, h1, h2, h3, h4⟩ := h
  exact ⟨a, b, h1, h2, h3, List.mem_append_left _ h4⟩
theorem Fine.more {ls ks z w : List Pr} {p : Pr} (h : Fine ls ks z p) : Fine ls ks (z ++ w) p := ⟨h.1, fun e he => (h.2 e he).more⟩
theorem Fine.cmp {ls ks z : List Pr} {p : Pr} (h : Fine ls ks z p) : Cmp ls ks p := cmp_of h.1 fun e a b ha hb => by
  obtain ⟨a', b', h1, h2, h3, _⟩ := h.2 e (List.getElem?_eq_some_iff.mp ha).1
  rw [ha] at h1
  rw [hb] at h2
  cases h1
  cases h2
  exact h3
theorem Fine.sc {ls ks z : List Pr} {p q : Pr} (h : Fine ls ks z p) (c : Sc ls ks p q) : q ∈ z := by
  obtain ⟨e, a, b, ha, hb, rfl⟩ := c
  obtain ⟨a', b', h1, h2, h3, h4⟩ := h.2 e (List.getElem?_eq_some_iff.mp ha).1
  rw [ha] at h1
  rw [hb] at h2
  cases h1
  cases h2
  exact h4
section
variable {n m : Nat} {ls ks : List Pr} {s0 : Pr}
theorem nmIn_eq {z : List Pr} {p a b : Pr} {e : Nat} (ha : (row ls p.1)[e]? = some a) (hb : (row ks p.2)[e]? = some b) : nmIn ⟨n, ls⟩ ⟨m, ks⟩ p (some z) e = if a.2 != b.2 then none else match z.find? fun y => y.1 == a.1 with
      | some y => if y.2 = b.1 then some z else none
      | none => some (z ++ [(a.1, b.1)]) := by
  unfold nmIn
  simp only [out_eq, ha, hb]
theorem nmIn_some {z z' : List Pr} {p : Pr} {e : Nat} (h : nmIn ⟨n, ls⟩ ⟨m, ks⟩ p (some z) e = some z') (hp : Rch ls ks s0 p) (g : NG ls ks s0 z) : NG ls ks s0 z' ∧ (∃ w, z' = z ++ w) ∧ At ls ks z' p e := by
  cases ha : (row ls p.1)[e]? with
  | none =>
    unfold nmIn at h
    simp only [out_eq, ha] at h
    cases h
  | some a =>
    cases hb : (row ks p.2)[e]? with
    | none =>
      unfold nmIn at h
      simp only [out_eq, ha, hb] at h
      cases h
    | some b =>
      rw [nmIn_eq ha hb] at h
      by_cases c : a.2 = b.2
      · have cf : (a.2 != b.2) = false := by rw [c]; exact bne_self_eq_false _
        rw [cf, if_neg Bool.false_ne_true] at h
        cases hf : z.find? fun y => y.1 == a.1 with
        | some y =>
          rw [hf] at h
          dsimp only at h
          by_cases d : y.2 = b.1
          · rw [if_pos d] at h
            cases h
            refine ⟨g, ⟨[], by simp⟩, a, b, ha, hb, c, ?_⟩
            have e1 : y.1 = a.1 := by have := List.find?_some hf; simpa using this
            have e2 : y = (a.1, b.1) := Prod.ext e1 d
            rw [← e2]
            exact List.mem_of_find?_eq_some hf
          · rw [if_neg d] at h
            cases h
        | none =>
          rw [hf] at h
          cases h
          refine ⟨⟨?_, fun q hq => ?_⟩, ⟨_, rfl⟩, a, b, ha, hb, c, by simp⟩
          · rw [List.map_append, List.nodup_append]
            refine ⟨g.nd, by simp, fun x hx y hy => ?_⟩
            have ey : y = a.1 := by simpa using hy
            obtain ⟨q, hq, rfl⟩ := List.mem_map.mp hx
            have := List.find?_eq_none.mp hf q hq
            intro z
            exact this (by rw [z, ey]; exact beq_self_eq_true _)
          · rcases List.mem_append.mp hq with z | z
            · exact g.rc q z
            · rw [List.mem_singleton.mp z]
              exact .step hp ⟨e, a, b, ha, hb, rfl⟩
      · rw [bne_iff_ne.mpr c, if_pos rfl] at h
        cases h
theorem inFold_some {p : Pr} (hp : Rch ls ks s0 p) : ∀ (es : List Nat) {z z' : List Pr}, es.foldl (nmIn ⟨n, ls⟩ ⟨m, ks⟩ p) (some z) = some z' → NG ls ks s0 z → NG ls ks s0 z' ∧ (∃ w, z' = z ++ w) ∧ ∀ e ∈ es, At ls ks z' p e
  | [], z, z', h, g => by
    cases h
    exact ⟨g, ⟨[], by simp⟩, fun _ h => (nomatch h)⟩
  | e :: es, z, z', h, g => by
    rw [List.foldl_cons] at h
    cases h1 : nmIn ⟨n, ls⟩ ⟨m, ks⟩ p (some z) e with
    | none =>
      rw [h1, nmIn_none] at h
      cases h
    | some z1 =>
      rw [h1] at h
      obtain ⟨g1, ⟨w1, rfl⟩, a1⟩ := nmIn_some h1 hp g
      obtain ⟨g2, ⟨w2, rfl⟩, a2⟩ := inFold_some hp es h g1
      refine ⟨g2, ⟨w1 ++ w2, by rw [List.append_assoc]⟩, fun x hx => ?_⟩
      rcases List.mem_cons.mp hx with c | c
      · rw [c]; exact a1.more
      · exact a2 x c
theorem nmOut_some {z z' : List Pr} {p : Pr} (h : nmOut ⟨n, ls⟩ ⟨m, ks⟩ (some z) p = some z') (hp : Rch ls ks s0 p) (g : NG ls ks s0 z) : NG ls ks s0 z' ∧ (∃ w, z' = z ++ w) ∧ Fine ls ks z' p := by
  unfold nmOut at h
  simp only [degree_eq] at h
  by_cases c : (row ls p.1).length = (row ks p.2).length
  · rw [if_pos c] at h
    obtain ⟨g1, w1, a1⟩ := inFold_some hp _ h g
    exact ⟨g1, w1, c, fun e he => a1 e (List.mem_range.mpr he)⟩
  · rw [if_neg c, nmIn_none] at h
    cases h
theorem outFold_some : ∀ (l : List Pr) {z z' : List Pr}, (∀ p ∈ l, Rch ls ks s0 p) → l.foldl (nmOut ⟨n, ls⟩ ⟨m, ks⟩) (some z) = some z' → NG ls ks s0 z → NG ls ks s0 z' ∧ (∃ w, z' = z ++ w) ∧ ∀ p ∈ l, Fine ls ks z' p
  | [], z, z', _, h, g => by
    cases h
    exact ⟨g, ⟨[], by simp⟩, fun _ h => (nomatch h)⟩
  | p :: l, z, z', hl, h, g => by
    rw [List.foldl_cons] at h
    cases h1 : nmOut ⟨n, ls⟩ ⟨m, ks⟩ (some z) p with
    | none =>
      rw [h1, nmOut_none] at h
      cases h
    | some z1 =>
      rw [h1] at h
      obtain ⟨g1, ⟨w1, rfl⟩, a1⟩ := nmOut_some h1 (hl p (by simp)) g
      obtain ⟨g2, ⟨w2, rfl⟩, a2⟩ := outFold_some l (fun q hq => hl q (List.mem_cons_of_mem _ hq)) h g1
      refine ⟨g2, ⟨w1 ++ w2, by rw [List.append_assoc]⟩, fun x hx => ?_⟩
      rcases List.mem_cons.mp hx with c | c
      · rw [c]; exact a1.more
      · exact a2 x c
theorem name_fix {l : List Pr} (h : nmRound ⟨n, ls⟩ ⟨m, ks⟩ l = some l) : ∀ f, Ks539.name ⟨n, ls⟩ ⟨m, ks⟩ f l = some l
  | 0 => rfl
  | f + 1 => by
    rw [name_succ, h]
    exact name_fix h f
/-- a naming that was found is closed -/
theorem name_some (hlt : ∀ p, Rch ls ks s0 p → p.1 < n) : ∀ (f : Nat) {l z : List Pr}, Ks539.name ⟨n, ls⟩ ⟨m, ks⟩ f l = some z → NG ls ks s0 l → n + 1 ≤ l.length + f → NG ls ks s0 z ∧ (∃ w, z = l ++ w) ∧ ∀ p ∈ z, Fine ls ks z p
  | 0, l, z, h, g, hf => by
    have := nodup_lt n (l.map (·.1)) g.nd (fun x hx => by
      obtain ⟨q, hq, rfl⟩ := List.mem_map.mp hx
      exact hlt q (g.rc q hq))
    rw [List.length_map] at this
    omega
  | f + 1, l, z, h, g, hf => by
    rw [name_succ] at h
    cases h1 : nmRound ⟨n, ls⟩ ⟨m, ks⟩ l with
    | none =>
      rw [h1] at h
      cases h
    | some z1 =>
      rw [h1] at h
      dsimp only at h
      obtain ⟨g1, ⟨w1, e1⟩, a1⟩ := outFold_some l g.rc h1 g
      by_cases c : w1 = []
      · subst c
        rw [List.append_nil] at e1
        subst e1
        rw [name_fix h1 f] at h
        cases h
        exact ⟨g, ⟨[], by simp⟩, a1⟩
      · have hl : z1.length = l.length + w1.length := by rw [e1, List.length_append]
        have hw := List.length_pos_iff.mpr c
        obtain ⟨g2, ⟨w2, e2⟩, a2⟩ := name_some hlt f h g1 (by omega)
        exact ⟨g2, ⟨w1 ++ w2, by rw [e2, e1, List.append_assoc]⟩, a2⟩
/-- each place is named by one alone -/
def Func (ls ks : List Pr) (s0 : Pr) : Prop := ∀ a b b', Rch ls ks s0 (a, b) → Rch ls ks s0 (a, b') → b = b'
theorem nmIn_goes (ac : AllC ls ks s0) (fn : Func ls ks s0) {z : List Pr} {p : Pr} {e : Nat} (hp : Rch ls ks s0 p) (hz : ∀ q ∈ z, Rch ls ks s0 q) (he : e < (row ls p.1).length) : ∃ z', nmIn ⟨n, ls⟩ ⟨m, ks⟩ p (some z) e = some z' ∧ ∀ q ∈ z', Rch ls ks s0 q := by
  have hc := ac p hp
  have ha : (row ls p.1)[e]? = some (row ls p.1)[e] := List.getElem?_eq_getElem he
  have hb : (row ks p.2)[e]? = some ((row ks p.2)[e]'(by rw [← cmp_len hc]; exact he)) := List.getElem?_eq_getElem _
  generalize (row ls p.1)[e] = a at ha
  generalize (row ks p.2)[e]'(by rw [← cmp_len hc]; exact he) = b at hb
  have hq : Rch ls ks s0 (a.1, b.1) := .step hp ⟨e, a, b, ha, hb, rfl⟩
  have cf : (a.2 != b.2) = false := by rw [cmp_at hc ha hb]; exact bne_self_eq_false _
  rw [nmIn_eq ha hb, cf, if_neg Bool.false_ne_true]
  cases hf : z.find? fun y => y.1 == a.1 with
  | some y =>
    have e1 : y.1 = a.1 := by have := List.find?_some hf; simpa using this
    have hy := hz y (List.mem_of_find?_eq_some hf)
    have d : y.2 = b.1 := fn a.1 _ _ (by rw [← e1]; exact hy) hq
    dsimp only
    rw [if_pos d]
    exact ⟨z, rfl, hz⟩
  | none =>
    refine ⟨_, rfl, fun q hq' => ?_⟩
    rcases List.mem_append.mp hq' with c | c
    · exact hz q c
    · rw [List.mem_singleton.mp c]
      exact hq
theorem inFold_goes (ac : AllC ls ks s0) (fn : Func ls ks s0) {p : Pr} (hp : Rch ls ks s0 p) : ∀ (es : List Nat) {z : List Pr}, (∀ e ∈ es, e < (row ls p.1).length) → (∀ q ∈ z, Rch ls ks s0 q) → ∃ z', es.foldl (nmIn ⟨n, ls⟩ ⟨m, ks⟩ p) (some z) = some z' ∧ ∀ q ∈ z', Rch ls ks s0 q
  | [], z, _, hz => ⟨z, rfl, hz⟩
  | e :: es, z, he, hz => by
    obtain ⟨z1, h1, hz1⟩ := nmIn_goes (n := n) (m := m) ac fn hp hz (he e (by simp))
    rw [List.foldl_cons, h1]
    exact inFold_goes ac fn hp es (fun x hx => he x (List.mem_cons_of_mem _ hx)) hz1
theorem outFold_goes (ac : AllC ls ks s0) (fn : Func ls ks s0) : ∀ (l : List Pr) {z : List Pr}, (∀ q ∈ l, Rch ls ks s0 q) → (∀ q ∈ z, Rch ls ks s0 q) → ∃ z', l.foldl (nmOut ⟨n, ls⟩ ⟨m, ks⟩) (some z) = some z' ∧ ∀ q ∈ z', Rch ls ks s0 q
  | [], z, _, hz => ⟨z, rfl, hz⟩
  | p :: l, z, hl, hz => by
    have hp := hl p (by simp)
    obtain ⟨z1, h1, hz1⟩ := inFold_goes (n := n) (m := m) ac fn hp (List.range (row ls p.1).length) (fun e he => List.mem_range.mp he) hz
    have e : nmOut ⟨n, ls⟩ ⟨m, ks⟩ (some z) p = some z1 := by
      unfold nmOut
      simp only [degree_eq]
      rw [if_pos (cmp_len (ac p hp))]
      exact h1
    rw [List.foldl_cons, e]
    exact outFold_goes ac fn l (fun q hq => hl q (List.mem_cons_of_mem _ hq)) hz1
theorem name_goes (ac : AllC ls ks s0) (fn : Func ls ks s0) : ∀ (f : Nat) {l : List Pr}, (∀ q ∈ l, Rch ls ks s0 q) → ∃ z, Ks539.name ⟨n, ls⟩ ⟨m, ks⟩ f l = some z
  | 0, l, _ => ⟨l, rfl⟩
  | f + 1, l, hl => by
    obtain ⟨z1, h1, hz1⟩ := outFold_goes (n := n) (m := m) ac fn l hl hl
    have h1' : nmRound ⟨n, ls⟩ ⟨m, ks⟩ l = some z1 := h1
    rw [name_succ, h1']
    exact name_goes ac fn f hz1
/-! ## Counting -/
theorem cover_le : ∀ (n : Nat) (l : List Nat), (∀ x, x < n → x ∈ l) → n ≤ l.length
  | 0, _, _ => Nat.zero_le _
  | n + 1, l, h => by
    have hn := h n (by omega)
    have h1 := cover_le n (l.erase n) (fun x hx => (List.mem_erase_of_ne (by omega)).mpr (h x (by omega)))
    have h2 := List.length_erase_of_mem hn
    have h3 := List.length_pos_of_mem hn
    omega
theorem cover_nodup {n : Nat} {l : List Nat} (h : ∀ x, x < n → x ∈ l) (hl : l.length = n) : l.Nodup := by
  rw [List.nodup_iff_count]
  intro a
  refine Classical.byContradiction fun c => ?_
  have hc : 2 ≤ l.count a := by omega
  have ha : a ∈ l := List.count_pos_iff.mp (by omega)
  have ha' : a ∈ l.erase a := by
    refine List.count_pos_iff.mp ?_
    rw [List.count_erase_self]
    omega
  have h1 := cover_le n (l.erase a) (fun x hx => by
    by_cases e : x = a
    · rw [e]; exact ha'
    · exact (List.mem_erase_of_ne e).mpr (h x hx))
  have h2 := List.length_erase_of_mem ha
  have h3 := List.length_pos_of_mem ha
  omega
/-- a strictly rising list that holds just the numbers below n -/
theorem rising : ∀ (l : List Nat) (c n : Nat), l.Pairwise (· < ·) → (∀ x, x ∈ l ↔ c ≤ x ∧ x < n) → l = (List.range (n - c)).map (· + c)
  | [], c, n, _, h => by
    have : n - c = 0 := by
      refine Classical.byContradiction fun z => ?_
      have := (h c).mpr ⟨Nat.le_refl c, by omega⟩
      exact nomatch this
    rw [this]
    rfl
  | a :: l, c, n, hp, h => by
    rw [List.pairwise_cons] at hp
    have ha := (h a).mp (by simp)
    have hac : a = c := by
      refine Classical.byContradiction fun z => ?_
      have hc := (h c).mpr ⟨Nat.le_refl c, by omega⟩
      rcases List.mem_cons.mp hc with e | e
      · exact z e.symm
      · have := hp.1 c e
        omega
    subst hac
    have ih := rising l (a + 1) n hp.2 (fun x => by
      constructor
      · intro hx
        have := hp.1 x hx
        have := (h x).mp (List.mem_cons_of_mem _ hx)
        omega
      · intro hx
        rcases List.mem_cons.mp ((h x).mpr ⟨by omega, hx.2⟩) with e | e
        · omega
        · exact e)
    have e : n - a = n - (a + 1) + 1 := by omega
    rw [e, List.range_succ_eq_map, List.map_cons, List.map_map, ih]
    congr 1
    · omega
    · apply List.map_congr_left
      intro x _
      show x + (a + 1) = Nat.succ x + a
      omega
/-- the pairs met, in order -/
structure Met (ls ks : List Pr) (s0 : Pr) (P : List Pr) : Prop where
  all : AllC ls ks s0
  mem : ∀ p, p ∈ P ↔ Rch ls ks s0 p
  nd : P.Nodup
  srt : P.Pairwise fun p q => p.1 < q.1 ∨ (p.1 = q.1 ∧ p.2 ≤ q.2)
theorem firsts_nodup {P : List Pr} (M : Met ls ks s0 P) (fn : Func ls ks s0) : (P.map (·.1)).Nodup := by
  have h : P.Pairwise fun p q => p.1 ≠ q.1 := by
    refine List.Pairwise.imp_of_mem (R := fun p q => p ≠ q) (fun {p q} hp hq hne e => hne ?_) M.nd
    obtain ⟨a, b⟩ := p
    obtain ⟨c, d⟩ := q
    have e' : a = c := e
    subst e'
    rw [fn a b d ((M.mem _).mp hp) ((M.mem _).mp hq)]
  exact List.pairwise_map.mpr h
theorem met_at {P : List Pr} (M : Met ls ks s0 P) (fn : Func ls ks s0) (hlt : ∀ p, Rch ls ks s0 p → p.1 < n) (hcov : ∀ x, x < n → ∃ y, Rch ls ks s0 (x, y)) : P.map (·.1) = List.range n := by
  have hs : (P.map (·.1)).Pairwise (· < ·) := by
    rw [List.pairwise_map]
    have h1 : P.Pairwise fun p q => p.1 ≠ q.1 := List.pairwise_map.mp (firsts_nodup M fn)
    exact List.Pairwise.imp₂ (fun p q a b => by rcases b with c | c; exact c; exact absurd c.1 a) h1 M.srt
  have := rising (P.map (·.1)) 0 n hs (fun x => by
    constructor
    · intro hx
      obtain ⟨p, hp, rfl⟩ := List.mem_map.mp hx
      exact ⟨Nat.zero_le _, hlt p ((M.mem p).mp hp)⟩
    · intro hx
      obtain ⟨y, hy⟩ := hcov x hx.2
      exact List.mem_map.mpr ⟨(x, y), (M.mem _).mpr hy, rfl⟩)
  rw [this]
  simp
/-- the specification's naming, by the pairs met -/
theorem same_met (h1 : ∀ p ∈ ls, Ok1 n p) (h2 : ∀ p ∈ ks, Ok1 m p) (hh1 : hangs n ls = true) (hh2 : hangs m ks = true) {u v : Nat} (hu : u < n) (hv : v < m) {P : List Pr} (M : Met ls ks (u, v) P) :
    Ks539.same ⟨n, ls⟩ ⟨m, ks⟩ u v = if P.length = n ∧ P.length = m then some (P.map (·.2)) else none := by
  have hlt : ∀ p, Rch ls ks (u, v) p → p.1 < n := fun p hp => (rch_lt h1 h2 (s := (u, v)) ⟨hu, hv⟩ hp).1
  have cov1 := cover1 (ks := ks) h1 hh1 (s := (u, v)) hu M.all
  have cov2 := cover2 (ls := ls) h2 hh2 (s := (u, v)) hv M.all
  have g0 : NG ls ks (u, v) [(u, v)] := ⟨by simp, fun q hq => by rw [List.mem_singleton.mp hq]; exact .refl⟩
  unfold Ks539.same
  cases hn : Ks539.name ⟨n, ls⟩ ⟨m, ks⟩ (n + 1) [(u, v)] with
  | none =>
    dsimp only
    rw [if_neg]
    rintro ⟨e1, _⟩
    have nd := cover_nodup (n := n) (l := P.map (·.1)) (fun x hx => by
      obtain ⟨y, hy⟩ := cov1 x hx
      exact List.mem_map.mpr ⟨(x, y), (M.mem _).mpr hy, rfl⟩) (by rw [List.length_map]; exact e1)
    have fn : Func ls ks (u, v) := fun a b b' hb hb' => by
      have hp : P.Pairwise fun p q => p.1 ≠ q.1 := List.pairwise_map.mp nd
      refine Classical.byContradiction fun ne => ?_
      have i1 := (M.mem _).mpr hb
      have i2 := (M.mem _).mpr hb'
      obtain ⟨i, hi, ei⟩ := List.getElem_of_mem i1
      obtain ⟨j, hj, ej⟩ := List.getElem_of_mem i2
      rw [List.pairwise_iff_getElem] at hp
      rcases Nat.lt_trichotomy i j with c | c | c
      · exact hp i j hi hj c (by rw [ei, ej])
      · subst c
        rw [ei] at ej
        exact ne (congrArg (·.2) ej)
      · exact hp j i hj hi c (by rw [ei, ej])
    obtain ⟨z, hz⟩ := name_goes (n := n) (m := m) M.all fn (n + 1) g0.rc
    rw [hz] at hn
    cases hn
  | some z =>
    dsimp only
    obtain ⟨g, ⟨w, ew⟩, fine⟩ := name_some hlt (n + 1) hn g0 (by simp)
    have hs : (u, v) ∈ z := by rw [ew]; simp
    have zr : ∀ p, p ∈ z ↔ Rch ls ks (u, v) p := fun p => ⟨g.rc p, fun h => rch_in hs (fun p hp q c => (fine p hp).sc c) h⟩
    have zp : z.Pairwise fun p q => p.1 ≠ q.1 := List.pairwise_map.mp g.nd
    have fn : Func ls ks (u, v) := fun a b b' hb hb' => by
      refine Classical.byContradiction fun ne => ?_
      obtain ⟨i, hi, ei⟩ := List.getElem_of_mem ((zr _).mpr hb)
      obtain ⟨j, hj, ej⟩ := List.getElem_of_mem ((zr _).mpr hb')
      have hp := zp
      rw [List.pairwise_iff_getElem] at hp
      rcases Nat.lt_trichotomy i j with c | c | c
      · exact hp i j hi hj c (by rw [ei, ej])
      · subst c
        rw [ei] at ej
        exact ne (congrArg (·.2) ej)
      · exact hp j i hj hi c (by rw [ei, ej])
    have hfst := met_at M fn hlt cov1
    have hlen : P.length = n := by
      have := congrArg List.length hfst
      rwa [List.length_map, List.length_range] at this
    have hm : ((List.range n).map fun x => match z.find? fun y => y.1 == x with
        | some y => y.2
        | none => m) = P.map (·.2) := by
      rw [← hfst, List.map_map]
      apply List.map_congr_left
      intro p hp
      have hr := (M.mem p).mp hp
      show (match z.find? fun y => y.1 == p.1 with
        | some y => y.2
        | none => m) = p.2
      cases hf : z.find? fun y => y.1 == p.1 with
      | none =>
        have := List.find?_eq_none.mp hf p ((zr p).mpr hr)
        exact absurd (beq_self_eq_true p.1) this
      | some y =>
        have e1 : y.1 = p.1 := by have := List.find?_some hf; simpa using this
        have hy := g.rc y (List.mem_of_find?_eq_some hf)
        exact fn p.1 _ _ (by rw [← e1]; exact hy) hr
    refine (show ∀ L : List Nat, L = P.map (·.2) → (if n = m ∧ (List.range m).all (fun y => L.contains y) = true then some L else none) = (if P.length = n ∧ P.length = m then some (P.map (·.2)) else none) from fun L hL => ?_) _ hm
    subst hL
    by_cases c : n = m
    · rw [if_pos, if_pos ⟨hlen, hlen.trans c⟩]
      refine ⟨c, ?_⟩
      rw [List.all_eq_true]
      intro y hy
      rw [List.contains_iff_mem]
      obtain ⟨x, hx⟩ := cov2 y (List.mem_range.mp hy)
      exact List.mem_map.mpr ⟨(x, y), (M.mem _).mpr hx, rfl⟩
    · rw [if_neg (fun z => c z.1), if_neg (fun z => c (z.1.symm.trans z.2))]
theorem same_apart (h1 : ∀ p ∈ ls, Ok1 n p) (h2 : ∀ p ∈ ks, Ok1 m p) {u v : Nat} (hu : u < n) (hv : v < m) (no : ¬ AllC ls ks (u, v)) : Ks539.same ⟨n, ls⟩ ⟨m, ks⟩ u v = none := by
  have hlt : ∀ p, Rch ls ks (u, v) p → p.1 < n := fun p hp => (rch_lt h1 h2 (s := (u, v)) ⟨hu, hv⟩ hp).1
  have g0 : NG ls ks (u, v) [(u, v)] := ⟨by simp, fun q hq => by rw [List.mem_singleton.mp hq]; exact .refl⟩
  unfold Ks539.same
  cases hn : Ks539.name ⟨n, ls⟩ ⟨m, ks⟩ (n + 1) [(u, v)] with
  | none => rfl
  | some z =>
    obtain ⟨g, ⟨w, ew⟩, fine⟩ := name_some hlt (n + 1) hn g0 (by simp)
    have hs : (u, v) ∈ z := by rw [ew]; simp
    exact absurd (fun p hp => (fine p (rch_in hs (fun p hp q c => (fine p hp).sc c) hp)).cmp) no
end
/-! ## same, both: what is refused, what is answered -/
def refusalS (n m u v : Nat) (net second : List Nat) : Int := if isNet n net = true ∧ isNet m second = true then (if n ≤ u ∨ m ≤ v then -2 else 0) else -22
theorem refusal2_by (n m u v : Nat) (net second : List Nat) : refusal2 n m u v net second = if refusalS n m u v net second = 0 then (if 5 < n ∨ 5 < m then -75 else 0) else refusalS n m u v net second := by
  unfold refusal2 refusalS
  by_cases c : isNet n net = true ∧ isNet m second = true
  · rw [if_pos c, if_pos c]
    by_cases d : n ≤ u ∨ m ≤ v
    · rw [if_pos d, if_pos d, if_neg (by decide)]
    · rw [if_neg d, if_neg d, if_pos rfl]
  · rw [if_neg c, if_neg c, if_neg (by decide)]
theorem refusalS_zero {n m u v : Nat} {net second : List Nat} (h : refusalS n m u v net second = 0) : isNet n net = true ∧ isNet m second = true ∧ u < n ∧ v < m := by
  unfold refusalS at h
  split at h
  · rename_i c
    split at h
    · exact absurd h (by decide)
    · exact ⟨c.1, c.2, by omega, by omega⟩
  · exact absurd h (by decide)
def ansSame (n m u v : Nat) (net second : List Nat) : List Int := if refusalS n m u v net second = 0 then (match Ks539.same ⟨n, prs net⟩ ⟨m, prs second⟩ u v with
    | none => [-33]
    | some r => (r.length : Int) :: r.map Int.ofNat) else [refusalS n m u v net second]
theorem same_spec (n m u v : Nat) (net second : List Nat) : Ks539Neutral.out (Ks539.answer (.same n m u v net second)) = ansSame n m u v net second := by
  show Ks539Neutral.out (Ks536.net n net fun s => Ks536.net m second fun t => if n ≤ u ∨ m ≤ v then Ks539.no (-2) else match Ks539.same s t u v with
    | none => Ks539.no (-33)
    | some r => Ks536.rows r) = _
  unfold Ks536.net
  rw [netOf_eq, netOf_eq]
  unfold ansSame
  by_cases c : isNet n net = true
  · rw [if_pos c]
    dsimp only
    by_cases d : isNet m second = true
    · have r : refusalS n m u v net second = (if n ≤ u ∨ m ≤ v then -2 else 0) := if_pos ⟨c, d⟩
      rw [if_pos d, r]
      dsimp only
      by_cases c2 : n ≤ u ∨ m ≤ v
      · simp only [if_pos c2]; rfl
      · simp only [if_neg c2, if_true]
        cases Ks539.same ⟨n, prs net⟩ ⟨m, prs second⟩ u v <;> rfl
    · have r : refusalS n m u v net second = -22 := if_neg (fun z => d z.2)
      rw [if_neg d, r]; rfl
  · have r : refusalS n m u v net second = -22 := if_neg (fun z => c z.1)
    rw [if_neg c, r]; rfl
theorem same_is (n m u v : Int) (net second : List Int) : PyKs539.same n m u v net second = ansSame n.toNat m.toNat u.toNat v.toNat (net.map Int.toNat) (second.map Int.toNat) := by
  rw [← same_spec]; rfl
def bit (b : Bool) : Int := if b = true then 1 else 0
def threeOf (s t : Net) (u v : Nat) : List Int := [bit (Ks536.apart s t u v).isNone, bit (Ks539.apart s t u v).isNone, bit (Ks539.same s t u v).isSome]
def ansBoth (n m u v : Nat) (net second : List Nat) : List Int := if refusal2 n m u v net second = 0 then threeOf ⟨n, prs net⟩ ⟨m, prs second⟩ u v else [refusal2 n m u v net second]
theorem both_spec (n m u v : Nat) (net second : List Nat) : Ks539Neutral.out (Ks539.answer (.both n m u v net second)) = ansBoth n m u v net second := by
  show Ks539Neutral.out (Ks536.net n net fun s => Ks536.net m second fun t => if n ≤ u ∨ m ≤ v then Ks539.no (-2) else if Ks539.FEW < n ∨ Ks539.FEW < m then Ks539.no (-75) else
    { ret := if (Ks536.apart s t u v).isNone then 1 else 0, out := [if (Ks539.apart s t u v).isNone then 1 else 0, if (Ks539.same s t u v).isSome then 1 else 0] }) = _
  unfold Ks536.net
  rw [netOf_eq, netOf_eq]
  unfold ansBoth
  by_cases c : isNet n net = true
  · rw [if_pos c]
    dsimp only
    by_cases d : isNet m second = true
    · have r : refusal2 n m u v net second = (if n ≤ u ∨ m ≤ v then -2 else if 5 < n ∨ 5 < m then -75 else 0) := if_pos ⟨c, d⟩
      rw [if_pos d, r]
      dsimp only
      by_cases c2 : n ≤ u ∨ m ≤ v
      · simp only [if_pos c2]; rfl
      · simp only [if_neg c2]
        unfold Ks539.FEW
        by_cases c3 : 5 < n ∨ 5 < m
        · simp only [if_pos c3]; rfl
        · simp only [if_neg c3, if_true]
          unfold threeOf bit
          cases (Ks536.apart ⟨n, prs net⟩ ⟨m, prs second⟩ u v).isNone <;> cases (Ks539.apart ⟨n, prs net⟩ ⟨m, prs second⟩ u v).isNone <;> cases (Ks539.same ⟨n, prs net⟩ ⟨m, prs second⟩ u v).isSome <;> rfl
    · have r : refusal2 n m u v net second = -22 := if_neg (fun z => d z.2)
      rw [if_neg d, r]; rfl
  · have r : refusal2 n m u v net second = -22 := if_neg (fun z => c z.1)
    rw [if_neg c, r]; rfl
theorem both_is (n m u v : Int) (net second : List Int) : PyKs539.both n m u v net second = ansBoth n.toNat m.toNat u.toNat v.toNat (net.map Int.toNat) (second.map Int.toNat) := by
  rw [← both_spec]; rfl
end Wp
namespace Wp
open PySem PySem.Spec PyProof.Rows L2
/-! ## Heaps -/
abbrev nv (x : Nat) : V := .int (x : Int)
def PairsAt (H : Hp) (vs : List V) (ps : List (Nat × Nat)) : Prop := vs.length = ps.length ∧ ∀ (i : Nat) (p : Nat × Nat), ps[i]? = some p → ∃ t, vs[i]? = some (.ref t) ∧ H t = some (.tup [nv p.1, nv p.2])
def LinksAt (H : Hp) (a : Addr) (ls : List (Nat × Nat)) : Prop := ∃ vs, H a = some (.lst vs) ∧ PairsAt H vs ls
def TabAt (H : Hp) (a : Addr) (tab : List (List (Nat × Nat))) : Prop := ∃ qs : List Addr, H a = some (.lst (qs.map V.ref)) ∧ qs.length = tab.length ∧
  ∀ (i : Nat) (r : List (Nat × Nat)), tab[i]? = some r → ∃ q vs, qs[i]? = some q ∧ H q = some (.lst vs) ∧ PairsAt H vs r
/-- tuples stay -/
def STup (H H' : Hp) : Prop := ∀ b xs, H b = some (.tup xs) → H' b = some (.tup xs)
theorem Same.stup {H H' : Hp} (s : Same H H') : STup H H' := fun b xs e => s b _ e
theorem STup.trans {H H1 H2 : Hp} (a : STup H H1) (b : STup H1 H2) : STup H H2 := fun c xs e => b c xs (a c xs e)
theorem STup.refl (H : Hp) : STup H H := fun _ _ e => e
theorem stup_lst {H : Hp} {l : Addr} {xs : List V} {o : HO} (h : H l = some (.lst xs)) : STup H (upd H l o) := fun b ys e => by
  rw [upd_ne (ne_of e h (fun z => by cases z))]
  exact e
theorem same_upd {H : Hp} {p : Addr} {o : HO} (h : H p = none) : Same H (upd H p o) := fun b x e => by
  rw [upd_ne (ne_of_none e h)]
  exact e
theorem stup_new {H : Hp} {p : Addr} {o : HO} (h : H p = none) : STup H (upd H p o) := Same.stup (same_upd h)
theorem PairsAt.keep {H H' : Hp} {vs : List V} {ps : List (Nat × Nat)} (s : STup H H') (h : PairsAt H vs ps) : PairsAt H' vs ps :=
  ⟨h.1, fun i p e => by
    obtain ⟨t, e1, e2⟩ := h.2 i p e
    exact ⟨t, e1, s t _ e2⟩⟩
theorem PairsAt.nil {H : Hp} : PairsAt H [] [] := ⟨rfl, fun i p e => by simp at e⟩
theorem PairsAt.snoc {H : Hp} {vs : List V} {ps : List (Nat × Nat)} {p : Nat × Nat} {t : Addr} (h : PairsAt H vs ps) (e : H t = some (.tup [nv p.1, nv p.2])) : PairsAt H (vs ++ [.ref t]) (ps ++ [p]) := by
  refine ⟨by rw [List.length_append, List.length_append, h.1]; rfl, fun i q hq => ?_⟩
  by_cases c : i < ps.length
  · rw [List.getElem?_append_left c] at hq
    obtain ⟨t', e1, e2⟩ := h.2 i q hq
    refine ⟨t', ?_, e2⟩
    rw [List.getElem?_append_left (by rw [h.1]; exact c)]
    exact e1
  · have ci : i = ps.length := by
      have := (List.getElem?_eq_some_iff.mp hq).1
      rw [List.length_append, List.length_singleton] at this
      omega
    subst ci
    rw [List.getElem?_append_right (Nat.le_refl _), Nat.sub_self] at hq
    have eq : p = q := Option.some.inj hq
    subst eq
    refine ⟨t, ?_, e⟩
    rw [List.getElem?_append_right (by rw [h.1]; exact Nat.le_refl _), h.1, Nat.sub_self]
    rfl
theorem LinksAt.keep {H H' : Hp} {a : Addr} {ls : List (Nat × Nat)} (s : Same H H') (h : LinksAt H a ls) : LinksAt H' a ls := by
  obtain ⟨vs, e, p⟩ := h
  exact ⟨vs, s _ _ e, p.keep (Same.stup s)⟩
theorem TabAt.keep {H H' : Hp} {a : Addr} {tab : List (List (Nat × Nat))} (s : Same H H') (h : TabAt H a tab) : TabAt H' a tab := by
  obtain ⟨qs, e, hl, p⟩ := h
  refine ⟨qs, s _ _ e, hl, fun i r hr => ?_⟩
  obtain ⟨q, vs, e1, e2, e3⟩ := p i r hr
  exact ⟨q, vs, e1, s _ _ e2, e3.keep (Same.stup s)⟩
theorem if_true_of {c : Bool} {A B : Prop} (hc : c = true) (h : A) : if c = true then A else B := by
  rw [if_pos hc]
  exact h
theorem if_false_of {c : Bool} {A B : Prop} (hc : c = false) (h : B) : if c = true then A else B := by
  rw [hc, if_neg Bool.false_ne_true]
  exact h
theorem small_len {n : Nat} (h : n ≤ 1000) : n ≤ sizeLine := Nat.le_of_lt (small1000 h)
/-- a constant of the module -/
theorem pk {X : Cx} {x : Str} {i : Int} {pos : Pos} (hg : Gl X x) (hm : ∃ t, X.mg x = some (.int i t)) (hd : (x == ("__debug__" : Str)) = false := by decide) : PE X (.Name x pos) (tC (.int i)) := by
  obtain ⟨t, e⟩ := hm
  exact pe_glob hg e ⟨t, rfl⟩ hd
/-- an item of the table -/
theorem tab_item {H : Hp} {a : Addr} {tab : List (List (Nat × Nat))} {u : Nat} {r : List (Nat × Nat)} (h : TabAt H a tab) (hr : tab[u]? = some r) :
    ∃ (qs : List Addr) (q : Addr) (vs : List V), H a = some (.lst (qs.map V.ref)) ∧ atI (qs.map V.ref) (u : Int) = some (.ref q) ∧ H q = some (.lst vs) ∧ vs.length = r.length ∧ PairsAt H vs r := by
  obtain ⟨qs, e, hl, p⟩ := h
  obtain ⟨q, vs, e1, e2, e3⟩ := p u r hr
  exact ⟨qs, q, vs, e, atI_nat (by rw [List.getElem?_map, e1]; rfl), e2, e3.1, e3⟩
end Wp
namespace Wp
open PySem PySem.Spec PyProof.Rows L2
/-! ## Lists of made things -/
/-- item by item R holds -/
def AllAt {α : Type} (R : Hp → V → α → Prop) (H : Hp) (vs : List V) (xs : List α) : Prop := vs.length = xs.length ∧ ∀ (i : Nat) (x : α), xs[i]? = some x → ∃ v, vs[i]? = some v ∧ R H v x
theorem AllAt.nil {α : Type} {R : Hp → V → α → Prop} {H : Hp} : AllAt R H [] [] := ⟨rfl, fun i x e => by simp at e⟩
theorem AllAt.keep {α : Type} {R : Hp → V → α → Prop} {H H' : Hp} {vs : List V} {xs : List α} (k : ∀ v x, R H v x → R H' v x) (h : AllAt R H vs xs) : AllAt R H' vs xs :=
  ⟨h.1, fun i x e => by
    obtain ⟨v, e1, e2⟩ := h.2 i x e
    exact ⟨v, e1, k v x e2⟩⟩
theorem AllAt.snoc {α : Type} {R : Hp → V → α → Prop} {H : Hp} {vs : List V} {xs : List α} {v : V} {x : α} (h : AllAt R H vs xs) (r : R H v x) : AllAt R H (vs ++ [v]) (xs ++ [x]) := by
  refine ⟨by rw [List.length_append, List.length_append, h.1]; rfl, fun i y hy => ?_⟩
  by_cases c : i < xs.length
  · rw [List.getElem?_append_left c] at hy
    obtain ⟨u, e1, e2⟩ := h.2 i y hy
    refine ⟨u, ?_, e2⟩
    rw [List.getElem?_append_left (by rw [h.1]; exact c)]
    exact e1
  · have ci : i = xs.length := by
      have := (List.getElem?_eq_some_iff.mp hy).1
      rw [List.length_append, List.length_singleton] at this
      omega
    subst ci
    rw [List.getElem?_append_right (Nat.le_refl _), Nat.sub_self] at hy
    have eq : x = y := Option.some.inj hy
    subst eq
    refine ⟨v, ?_, r⟩
    rw [List.getElem?_append_right (by rw [h.1]; exact Nat.le_refl _), h.1, Nat.sub_self]
    rfl
theorem AllAt.item {α : Type} {R : Hp → V → α → Prop} {H : Hp} {vs : List V} {xs : List α} (h : AllAt R H vs xs) {i : Nat} {v : V} (e : vs[i]? = some v) : ∃ x, xs[i]? = some x ∧ R H v x := by
  have hi : i < xs.length := by
    rw [← h.1]
    exact (List.getElem?_eq_some_iff.mp e).1
  obtain ⟨u, e1, e2⟩ := h.2 i xs[i] (List.getElem?_eq_getElem hi)
  have eu : u = v := Option.some.inj (e1.symm.trans e)
  subst eu
  exact ⟨_, List.getElem?_eq_getElem hi, e2⟩
theorem AllAt.tail {α : Type} {R : Hp → V → α → Prop} {H : Hp} {v : V} {vs : List V} {x : α} {xs : List α} (h : AllAt R H (v :: vs) (x :: xs)) : AllAt R H vs xs :=
  ⟨by have := h.1; simpa using this, fun i y hy => h.2 (i + 1) y hy⟩
/-- the last item -/
theorem atI_end {α : Type} {xs : List α} {v : α} {k : Nat} (hl : xs.length = k + 1) (h : xs[k]? = some v) : atI xs (-1) = some v := by
  have hne : xs ≠ [] := by
    intro e
    rw [e] at hl
    simp at hl
  have e := List.dropLast_concat_getLast hne
  have hg : xs.getLast hne = v := by
    rw [List.getLast_eq_getElem]
    have h2 := (List.getElem?_eq_some_iff.mp h).2
    have h3 : xs.length - 1 = k := by omega
    simp only [h3]
    exact h2
  rw [← e, hg]
  exact atI_last _ _
/-- a list from its second item on -/
theorem cut_tail (v : V) (vs : List V) : cutV (v :: vs) (some 1) none = vs := by
  unfold cutV
  rw [HT.sIx_none, show (some (1 : Int)) = some ((1 : Nat) : Int) from rfl, HT.sIx_nat]
  have e : min 1 (v :: vs).length = 1 := by
    rw [List.length_cons]
    omega
  rw [e]
  show vs.take ((v :: vs).length - 1) = vs
  rw [List.length_cons, Nat.add_sub_cancel, List.take_length]
/-- a tuple of three -/
def TripV (H : Hp) (v : V) (p : Nat × Nat × Nat) : Prop := ∃ t, v = .ref t ∧ H t = some (.tup [nv p.1, nv p.2.1, nv p.2.2])
theorem TripV.keep {H H' : Hp} (s : STup H H') (v : V) (p : Nat × Nat × Nat) (h : TripV H v p) : TripV H' v p := by
  obtain ⟨t, e1, e2⟩ := h
  exact ⟨t, e1, s _ _ e2⟩
theorem tab_at {n : Nat} {ls : List (Nat × Nat)} : ∀ v, v < n → ((List.range n).map (row ls))[v]? = some (row ls v) := fun v hv => by
  rw [List.getElem?_map, List.getElem?_range hv]
  rfl
theorem same_off {H0 H : Hp} {d : Addr} {o : HO} (s : Same H0 H) (h : H0 d = none) : Same H0 (upd H d o) := fun b x e => by
  rw [upd_ne (ne_of_none e h)]
  exact s _ _ e
end Wp
namespace Wp
open PySem PySem.Spec PyProof.Rows L2
open Ks539 (Two)
/-! ## A dict whose keys are pairs of stands -/
/-- at k stands a pair of stands, each told as a tuple of its place and where the pebble is -/
def TwoAt (H : Hp) (k : Addr) (q : Two) : Prop := ∃ b c, H k = some (.tup [.ref b, .ref c]) ∧ H b = some (.tup [nv q.1.u, nv (peb q.1.p)]) ∧ H c = some (.tup [nv q.2.u, nv (peb q.2.p)])
theorem TwoAt.keep {H H' : Hp} {k : Addr} {q : Two} (s : STup H H') (h : TwoAt H k q) : TwoAt H' k q := by
  obtain ⟨b, c, e1, e2, e3⟩ := h
  exact ⟨b, c, s _ _ e1, s _ _ e2, s _ _ e3⟩
def nkey (q : Two) : NestedKey := .tup [.tup [.num (q.1.u : Int), .num (peb q.1.p : Int)], .tup [.num (q.2.u : Int), .num (peb q.2.p : Int)]]
theorem nkey_inj {q r : Two} (h : nkey q = nkey r) : q = r := by
  obtain ⟨a, b⟩ := q
  obtain ⟨c, d⟩ := r
  unfold nkey at h
  simp only [NestedKey.tup.injEq, List.cons.injEq, NestedKey.num.injEq, and_true] at h
  obtain ⟨⟨h1, h2⟩, h3, h4⟩ := h
  have e1 : a = c := stand_eq (by omega) (by omega)
  have e2 : b = d := stand_eq (by omega) (by omega)
  rw [e1, e2]
theorem pair_is {P : Program} {w : World} {H : Hp} {h : Heap} {b : Addr} {x y : Nat} (ok : HOk P w H h) (e : H b = some (.tup [nv x, nv y])) : NestedIs h (.tup [.num (x : Int), .num (y : Int)]) (.ref b) := by
  obtain ⟨_, its, r, o, h1, h2, n, h3⟩ := (show ObjOk P w H h b (.tup [nv x, nv y]) from ok b _ e)
  refine .tup h1 h2 h3 ?_
  cases r with
  | cons r1 r =>
    cases r with
    | cons r2 r =>
      cases r
      obtain ⟨t1, rfl⟩ := r1
      obtain ⟨t2, rfl⟩ := r2
      exact .cons (.int _ _) (.cons (.int _ _) .nil)
theorem two_key {P : Program} {w : World} {H : Hp} {h : Heap} {k : Addr} {q : Two} (ok : HOk P w H h) (e : TwoAt H k q) : (nestedKind P w).is h (nkey q) k := by
  obtain ⟨b, c, e1, e2, e3⟩ := e
  obtain ⟨_, its, r, o, h1, h2, n, h3⟩ := (show ObjOk P w H h k (.tup [.ref b, .ref c]) from ok k _ e1)
  refine ⟨.tup h1 h2 h3 ?_, by simp [nkey, NestedKey.depth, NestedKey.depthAll]⟩
  cases r with
  | cons r1 r =>
    cases r with
    | cons r2 r =>
      cases r
      cases r1
      cases r2
      exact .cons (pair_is ok e2) (.cons (pair_is ok e3) .nil)
/-- an entry: the key, where its tuple stands, True -/
def entN (x : Two × Addr) : NestedKey × Addr × Value := (nkey x.1, x.2, .bool true)
/-- the dict at d with the keys xs, each with the value True -/
def DictN (P : Program) (w : World) (d : Addr) (xs : List (Two × Addr)) : HO := .ext fun h => ∃ o es ep, h.get? d = some o ∧ o.ExactDict ∧ o.data = .dict es ep ∧ es.toList = (xs.map entN).map (entryOfKey (nestedKind P w)) ∧ (d == sysModules) = false
theorem nkeys_nodup : ∀ {xs : List (Two × Addr)}, (xs.map (·.1)).Nodup → ((xs.map entN).map (·.1)).Nodup
  | [], _ => List.nodup_nil
  | x :: xs, h => by
    rw [List.map_cons, List.nodup_cons] at h
    rw [List.map_cons, List.map_cons, List.nodup_cons]
    refine ⟨fun z => ?_, nkeys_nodup h.2⟩
    obtain ⟨y, hy, e⟩ := List.mem_map.mp z
    obtain ⟨r, hr, rfl⟩ := List.mem_map.mp hy
    have e' : r.1 = x.1 := nkey_inj e
    exact h.1 (List.mem_map.mpr ⟨r, hr, e'⟩)
theorem dictN_of {P : Program} {w : World} {H : Hp} {h : Heap} {d : Addr} {xs : List (Two × Addr)} (ok : HOk P w H h) (e : H d = some (DictN P w d xs)) (ks : ∀ x ∈ xs, TwoAt H x.2 x.1) (nd : (xs.map (·.1)).Nodup) :
    (d == sysModules) = false ∧ h.DictOfH (nestedKind P w) d (xs.map entN) := by
  obtain ⟨⟨o, es, ep, h1, h2, h3, h4, h5⟩, _⟩ := (show ObjOk P w H h d (DictN P w d xs) from ok d _ e)
  refine ⟨h5, o, es, ep, h1, h2, h3, h4, fun y hy => ?_, nkeys_nodup nd⟩
  obtain ⟨x, hx, rfl⟩ := List.mem_map.mp hy
  exact two_key ok (ks x hx)
theorem dictN_new {P : Program} {w : World} {H : Hp} {h : Heap} {d : Addr} {xs : List (Two × Addr)} (hd : (d == sysModules) = false) (R : h.DictOfH (nestedKind P w) d (xs.map entN)) : ObjOk P w H h d (DictN P w d xs) := by
  obtain ⟨o, es, ep, h1, h2, h3, h4, _⟩ := R
  refine ⟨⟨o, es, ep, h1, h2, h3, h4, hd⟩, ⟨o, h1⟩, fun g1 g2 p k => ?_⟩
  obtain ⟨o', es', ep', p1, p2⟩ := p
  exact ⟨o', es', ep', k _ p1, p2⟩
theorem at_isSome (q : Two) : ∀ xs : List (Two × Addr), (atKey (xs.map entN) (nkey q)).isSome = decide (q ∈ xs.map (·.1))
  | [] => rfl
  | x :: xs => by
    have ih := at_isSome q xs
    unfold atKey at ih ⊢
    rw [List.map_cons, List.find?_cons]
    by_cases c : nkey x.1 = nkey q
    · have e : decide ((entN x).1 = nkey q) = true := decide_eq_true c
      rw [e]
      have e2 := nkey_inj c
      have : q ∈ (x :: xs).map (·.1) := by
        rw [List.map_cons, e2]
        exact List.mem_cons_self
      rw [decide_eq_true this]
      rfl
    · have e : decide ((entN x).1 = nkey q) = false := decide_eq_false c
      rw [e]
      show (Option.map _ _).isSome = _
      rw [ih, decide_eq_decide, List.map_cons, List.mem_cons]
      constructor
      · exact .inr
      · rintro (z | z)
        · exact absurd (by rw [z]) c
        · exact z
def rNotInN (P : Program) (w : World) : R2 := fun x y H Q => ∃ (k : Addr) (q : Two) (d : Addr) (xs : List (Two × Addr)), x = .ref k ∧ y = .ref d ∧ TwoAt H k q ∧ H d = some (DictN P w d xs) ∧ (∀ e ∈ xs, TwoAt H e.2 e.1) ∧ (xs.map (·.1)).Nodup ∧
  Q (.bl (!decide (q ∈ xs.map (·.1)))) H
def rSetN (P : Program) (w : World) : TSet := fun o i v H Q => ∃ (d k : Addr) (q : Two) (xs : List (Two × Addr)), o = .ref d ∧ i = .ref k ∧ v = .bl true ∧ TwoAt H k q ∧ H d = some (DictN P w d xs) ∧ (∀ e ∈ xs, TwoAt H e.2 e.1) ∧ (xs.map (·.1)).Nodup ∧ q ∉ xs.map (·.1) ∧ xs.length ≤ 1000 ∧
  Q (upd H d (DictN P w d (xs ++ [(q, k)])))
def tDispN (P : Program) (w : World) (tk tv : TE) : TE := fun σ H Q => ∀ p, H p = none → tk σ (upd H p (DictN P w p [])) fun x H1 => tv σ H1 fun y H2 => H2 p = some (DictN P w p []) ∧ ∃ k q, x = .ref k ∧ y = .bl true ∧ TwoAt H2 k q ∧
  Q (.ref p) (upd H2 p (DictN P w p [(q, k)]))
section
variable {X : Cx}
theorem roomN {A : Around} (hu : A.units + 64 < cLine) : (nestedKind X.prog X.w).room A.in1 := by
  show A.units + 1 + 8 < cLine
  omega
theorem op_notinN (hu : X.A.units + 64 < cLine) : OpR X (compareOp .NotIn) (rNotInN X.prog X.w) := by
  intro pins s σ H x y v u Q I rx ry h
  obtain ⟨k, q, d, xs, rfl, rfl, hk, hd, hks, nd, q2⟩ := h
  cases rx
  cases ry
  obtain ⟨hs, dd⟩ := dictN_of I.hok hd hks nd
  refine wpAny_notIn_heap (roomN hu) (two_key I.hok hk) hs dd ?_
  rw [at_isSome]
  exact ⟨.bl _, H, I.tok _, rfl, q2⟩
theorem dictN_put {pins : List (Addr × Obj)} {σ : L2.St} {H : Hp} {s : Shared} {d k : Addr} {q : Two} {xs : List (Two × Addr)} {h' : Heap} {t' : Nat} (I : Inv X pins σ H s) (hs : (d == sysModules) = false) (hd : H d = some (DictN X.prog X.w d xs)) (hq : q ∉ xs.map (·.1))
    (dd : h'.DictOfH (nestedKind X.prog X.w) d (storedH (xs.map entN) (nkey q) k (.bool true))) (sb : Heap.SameBut d s.heap h') : Inv X pins σ (upd H d (DictN X.prog X.w d (xs ++ [(q, k)]))) { s with heap := h', toks := t' } := by
  have hn : atKey (xs.map entN) (nkey q) = none := by
    have := at_isSome q xs
    rw [decide_eq_false hq] at this
    cases e : atKey (xs.map entN) (nkey q) with
    | none => rfl
    | some y =>
      rw [e] at this
      cases this
  rw [storedH_new hn] at dd
  have e : xs.map entN ++ [(nkey q, k, Value.bool true)] = (xs ++ [(q, k)]).map entN := by
    rw [List.map_append]
    rfl
  rw [e] at dd
  have he : ∃ u, h'.get? d = some u := by
    obtain ⟨o, _, _, ho, _⟩ := dd
    exact ⟨o, ho⟩
  exact d_write I (by rw [hd]; exact True.intro) sb he (dictN_new hs dd)
theorem set_dictN (hu : X.A.units + 64 < cLine) : PSet X (rSetN X.prog X.w) := by
  intro pins s σ H o i v ov iv u Q I ro ri rv h
  obtain ⟨d, k, q, xs, rfl, rfl, rfl, hk, hd, hks, nd, hq, hl, q2⟩ := h
  cases ro
  cases ri
  cases rv
  obtain ⟨hs, dd⟩ := dictN_of I.hok hd hks nd
  refine wpAny_setItem_heap (hsz := by rw [List.length_map]; exact small_len hl) (roomN hu) (two_key I.hok hk) dd fun h' dd' sb => ?_
  exact ⟨_, dictN_put I hs hd hq dd' sb, q2⟩
theorem pe_dispN {k v : Expr} {tk tv : TE} {pos : Pos} (hu : X.A.units + 64 < cLine) (hk : PE X k tk) (hv : PE X v tv) : PE X (.Dict [some k] [v] pos) (tDispN X.prog X.w tk tv) := by
  refine ⟨fun pins s σ H Q I h => ?_⟩
  have hn := I.hok.fresh (Nat.le_refl s.heap.objs.size)
  have hm : (s.heap.objs.size == sysModules) = false := beq_eq_false_iff_ne.mpr (Ne.symm (Nat.ne_of_lt I.big))
  have I1 := I.laid (a := s.heap.objs.size) (o := DictN X.prog X.w s.heap.objs.size []) (h' := s.heap.push { cls := .type "dict", data := .dict #[] }) (t' := s.toks) (fun _ _ z => Heap.get?_push_of_some _ z) (Nat.le_refl _) (dictN_new hm (Heap.DictOfH.new s.heap))
  refine wpAny_Dict_any rfl rfl (fun z => nomatch z) (by show (1 : Nat) ≤ 15; decide) ?_
  refine pairTrees_cons_walk (thn (hk.run pins _ σ _ _ I1 (h _ hn)) fun u s1 ⟨x, H1, I2, rx, q1⟩ => thn (hv.run pins s1 σ H1 _ I2 q1) fun r s2 ⟨y, H2, I3, ry, q2⟩ => pairTrees_nil_walk ?_)
  obtain ⟨hp, a, q, rfl, rfl, ha, q3⟩ := q2
  cases rx
  cases ry
  obtain ⟨hs, dd⟩ := dictN_of I3.hok hp (fun _ z => nomatch z) List.nodup_nil
  refine wpAny_storeAllH (knd := nestedKind X.prog X.w) (by show X.A.units + 8 < cLine; omega) [(.ref a, .bool true)] [(nkey q, a, .bool true)] [] s2 _ ⟨rfl, rfl, two_key I3.hok ha, trivial⟩ dd (by show 1 ≤ sizeLine; decide) fun h' tk dd' sb => ?_
  exact ⟨.ref _, _, dictN_put (xs := []) I3 hs hp (fun z => nomatch z) dd' sb, rfl, q3⟩
/-- the same with the program and the world by their own names -/
theorem op_notinP {P : Program} {w : World} (hP : X.prog = P) (hw : X.w = w) (hu : X.A.units + 64 < cLine) : OpR X (compareOp .NotIn) (rNotInN P w) := by
  subst hP hw
  exact op_notinN hu
theorem set_dictP {P : Program} {w : World} (hP : X.prog = P) (hw : X.w = w) (hu : X.A.units + 64 < cLine) : PSet X (rSetN P w) := by
  subst hP hw
  exact set_dictN hu
theorem pe_dispP {P : Program} {w : World} {k v : Expr} {tk tv : TE} {pos : Pos} (hP : X.prog = P) (hw : X.w = w) (hu : X.A.units + 64 < cLine) (hk : PE X k tk) (hv : PE X v tv) : PE X (.Dict [some k] [v] pos) (tDispN P w tk tv) := by
  subst hP hw
  exact pe_dispN hu hk hv
end
end Wp
namespace Wp
open PySem PySem.Spec PyProof.Rows L2
/-! ## A dict whose keys are pairs of whole numbers -/
def kp2 (p : Nat × Nat) : List L2.Key := [Sum.inl (p.1 : Int), Sum.inl (p.2 : Int)]
def entP (p : Nat × Nat) : List L2.Key × V := (kp2 p, .bl true)
theorem kp2_inj {p q : Nat × Nat} (h : kp2 p = kp2 q) : p = q := by
  obtain ⟨a, b⟩ := p
  obtain ⟨c, d⟩ := q
  unfold kp2 at h
  simp only [List.cons.injEq, Sum.inl.injEq, and_true] at h
  have e1 : a = c := by omega
  have e2 : b = d := by omega
  rw [e1, e2]
theorem val_pairs (p : Nat × Nat) : ∀ ps : List (Nat × Nat), (valV (ps.map entP) (kp2 p)).isSome = decide (p ∈ ps)
  | [] => rfl
  | q :: ps => by
    rw [List.map_cons]
    by_cases e : q = p
    · rw [valV_pos (show (entP q).1 = kp2 p by rw [e]; rfl), decide_eq_true (by rw [e]; exact List.mem_cons_self)]
      rfl
    · rw [valV_neg (show ¬ (entP q).1 = kp2 p from fun z => e (kp2_inj z)), val_pairs p ps, decide_eq_decide, List.mem_cons]
      exact ⟨.inr, fun z => z.elim (fun y => absurd y.symm e) id⟩
theorem put_pairs {p : Nat × Nat} {ps : List (Nat × Nat)} (h : p ∉ ps) : putK (ps.map entP) (kp2 p) (.bl true) = (ps ++ [p]).map entP := by
  unfold putK
  rw [valV_any, val_pairs, decide_eq_false h, if_neg Bool.false_ne_true, List.map_append]
  rfl
def tDispT (tk tv : TE) : TE := fun σ H Q => ∀ p, H p = none → tk σ (upd H p (.dT [])) fun x H1 => tv σ H1 fun y H2 => H2 p = some (.dT []) ∧ ∃ (k : List L2.Key) (b : Addr), x = .ref b ∧ H2 b = some (.tup (k.map kV)) ∧
  Q (.ref p) (upd H2 p (.dT [(k, y)]))
/-- the two numbers of a pair that stands at an address -/
def two (H : Hp) (a : Addr) : Nat × Nat := match H a with
  | some (.tup [.int x, .int y]) => (x.toNat, y.toNat)
  | _ => (0, 0)
theorem two_of {H : Hp} {a : Addr} {p : Nat × Nat} (h : H a = some (.tup [nv p.1, nv p.2])) : two H a = p := by
  unfold two
  rw [h]
  rfl
def keyOf (H : Hp) : Value → Int × Int
  | .ref a => (((two H a).1 : Int), ((two H a).2 : Int))
  | _ => (0, 0)
def rSortedDT : List V → Hp → VK → Prop := fun vs H Q => ∃ (a : Addr) (ps : List (Nat × Nat)), vs = [V.ref a] ∧ H a = some (.dT (ps.map entP)) ∧
  ∀ (xs : List V) (zs : List (Nat × Nat)) (p : Addr), PairsAt H xs zs → zs.Perm ps → zs.Pairwise (fun p q => p.1 < q.1 ∨ (p.1 = q.1 ∧ p.2 ≤ q.2)) → H p = none → Q (.ref p) (upd H p (.lst xs))
theorem pairsAt_refs {H : Hp} : ∀ bs : List Addr, (∀ b ∈ bs, H b = some (.tup [nv (two H b).1, nv (two H b).2])) → PairsAt H (bs.map V.ref) (bs.map (two H))
  | bs, h => ⟨by rw [List.length_map, List.length_map], fun i p hp => by
    rw [List.getElem?_map] at hp
    cases hb : bs[i]? with
    | none =>
      rw [hb] at hp
      cases hp
    | some b =>
      rw [hb] at hp
      have e : two H b = p := Option.some.inj hp
      refine ⟨b, by rw [List.getElem?_map, hb]; rfl, ?_⟩
      rw [← e]
      exact h b (List.mem_of_getElem? hb)⟩
theorem refs_of : ∀ vs : List Value, (∀ v ∈ vs, ∃ a, v = Value.ref a) → ∃ bs : List Addr, vs = bs.map Value.ref
  | [], _ => ⟨[], rfl⟩
  | v :: vs, h => by
    obtain ⟨a, rfl⟩ := h v (by simp)
    obtain ⟨bs, rfl⟩ := refs_of vs fun u hu => h u (List.mem_cons_of_mem _ hu)
    exact ⟨a :: bs, rfl⟩
theorem keys_two {H : Hp} : ∀ {ps : List (Nat × Nat)} {xs : List (List L2.Key × Addr × Value)}, KT H (ps.map entP) xs → (xs.map fun x => two H x.2.1) = ps ∧ ∀ x ∈ xs, H x.2.1 = some (.tup [nv (two H x.2.1).1, nv (two H x.2.1).2])
  | [], _, h => by
    cases h
    exact ⟨rfl, fun _ z => (nomatch z)⟩
  | p :: ps, _, h => by
    cases h with
    | @cons _ q _ qs hq t =>
      obtain ⟨e1, e2⟩ := keys_two t
      have e3 : H q.2.1 = some (.tup [nv p.1, nv p.2]) := hq.2.1
      have e4 := two_of e3
      refine ⟨by rw [List.map_cons, e1, e4], fun x hx => ?_⟩
      rcases List.mem_cons.mp hx with c | c
      · rw [c, e4]
        exact e3
      · exact e2 x c
section
variable {X : Cx}
theorem pe_dispT {k v : Expr} {tk tv : TE} {pos : Pos} (hu : X.A.units + 64 < cLine) (hk : PE X k tk) (hv : PE X v tv) : PE X (.Dict [some k] [v] pos) (tDispT tk tv) := by
  refine ⟨fun pins s σ H Q I h => ?_⟩
  have hn := I.hok.fresh (Nat.le_refl s.heap.objs.size)
  have I1 := I.laid (a := s.heap.objs.size) (o := .dT []) (h' := s.heap.push { cls := .type "dict", data := .dict #[] }) (t' := s.toks) (fun _ _ z => Heap.get?_push_of_some _ z) (Nat.le_refl _) (dt_empty s.heap I.big)
  refine wpAny_Dict_any rfl rfl (fun z => nomatch z) (by show (1 : Nat) ≤ 15; decide) ?_
  refine pairTrees_cons_walk (thn (hk.run pins _ σ _ _ I1 (h _ hn)) fun u s1 ⟨x, H1, I2, rx, q1⟩ => thn (hv.run pins s1 σ H1 _ I2 q1) fun r s2 ⟨y, H2, I3, ry, q2⟩ => pairTrees_nil_walk ?_)
  obtain ⟨hp, k, b, rfl, hb, q3⟩ := q2
  cases rx
  obtain ⟨z, hd, xs, rel, dd⟩ := dt_of I3.hok hp
  cases rel
  refine wpAny_storeAllH (knd := tupleKind (mixKind X.prog X.w)) (by show X.A.units < cLine; omega) [(.ref b, r)] [(k, b, r)] [] s2 _ ⟨rfl, rfl, key_of I3.hok hb, trivial⟩ dd (by show 1 ≤ sizeLine; decide) fun h' tk dd' sb => ?_
  obtain ⟨q, es, ep, hq, h2, h3, h4, _, h5⟩ := dd'
  refine ⟨.ref _, _, d_write (ob := .dT [(k, y)]) I3 (by rw [hp]; exact True.intro) sb ⟨q, hq⟩ ⟨by show 1 ≤ sizeLine; decide, hd, [(k, b, r)], .cons ⟨rfl, ?_, ry⟩ .nil, q, es, ep, hq, h2, h3, h4, h5⟩, rfl, q3⟩
  rw [upd_ne (ne_of hb hp (fun z => nomatch z))]
  exact hb
theorem cr_sortedDT (hc : X.calm = true) : CallR X (.builtin "sorted") rSortedDT := by
  intro pins s σ H vs us Q I r h
  obtain ⟨a, ps, rfl, ha, q⟩ := h
  obtain ⟨u, rfl, ru⟩ := vals1 r
  obtain rfl : u = Value.ref a := ru
  obtain ⟨z, hs, ks, pr, o, es, ep, ho, hx, hdt, he, hn⟩ := (show ObjOk X.prog X.w H s.heap a (.dT (ps.map entP)) from I.hok a _ ha)
  have l1 : es.size = ks.length := size_of_entries he
  have l2 : (ps.map entP).length = ks.length := Paired.length pr
  obtain ⟨e1, e2⟩ := keys_two pr
  refine Calls.call_function_entry PyProof.Rows.kind_sorted PyProof.Rows.plain_sorted PyProof.Rows.entry_sorted (PyProof.Rows.args_sorted1 _) ?_
  unfold Builtin.«sorted»
  refine wpAny_bind (m := checkCount "sorted" 1 1 _) (wpAny_pure ?_)
  refine wpAny_bind (PySem.W.kdu_collect (A := X.A.in1) (kdl_raw hs hx hdt) (I.ok.hd hc) ho (by omega) fun h' tk acc hk it => ?_)
  have ea : acc.toList = (ks.map fun x => x.2.1).map Value.ref := by
    have hl : acc.toList.length = ks.length := by rw [Array.length_toList, it.1]; exact l1
    rw [List.map_map]
    apply List.ext_getElem?
    intro j
    rw [List.getElem?_map]
    cases hj : acc.toList[j]? with
    | none =>
      have h1 := List.getElem?_eq_none_iff.mp hj
      rw [List.getElem?_eq_none (by omega)]
      all_goals rfl
    | some v =>
      obtain ⟨en, hen, hv⟩ := it.2 j v (by rw [← Array.getElem?_toList]; exact hj)
      have qe := entry_at he j
      rw [hen] at qe
      cases hb : ks[j]? with
      | none =>
        rw [hb] at qe
        exact nomatch (show some en = none from qe)
      | some b =>
        rw [hb] at qe
        have e2 : en = entryOfKey (tupleKind (mixKind X.prog X.w)) b := Option.some.inj qe
        rw [hv, e2]
        all_goals rfl
  have I1 : Inv X pins σ H { s with heap := h', toks := tk } := I.kept hk
  have hz : acc.toList.length ≤ sizeLine := by rw [ea, List.length_map, List.length_map]; omega
  refine wpAny_bind (wpAny_newList ?_ hz)
  have hoL : (h'.push (seqObj "list" acc.toList.toArray 0)).get? h'.objs.size = some (seqObj "list" acc.toList.toArray 0) := Heap.get?_push_size _ rfl
  show wpAny _ _ _ _ _ { s with heap := h'.push (seqObj "list" acc.toList.toArray 0), toks := tk }
  have hp : ∀ v ∈ acc.toList, Srt.IsPair h' v (keyOf H v).1 (keyOf H v).2 := fun v hv => by
    rw [ea] at hv
    obtain ⟨b, hb, rfl⟩ := List.mem_map.mp hv
    obtain ⟨x, hx, rfl⟩ := List.mem_map.mp hb
    obtain ⟨_, its2, r2, o, ho, hc, n, hd⟩ := (show ObjOk X.prog X.w H h' x.2.1 (.tup [nv (two H x.2.1).1, nv (two H x.2.1).2]) from I1.hok _ _ (e2 x hx))
    obtain ⟨u1, u2, rfl, ri, rj⟩ := vals2 r2
    obtain ⟨t1, rfl⟩ := ri
    obtain ⟨t2, rfl⟩ := rj
    exact ⟨x.2.1, o, t1, t2, n, rfl, ho, hc, hd⟩
  refine wpAny_bind (wpAny_holding (wpAny_call_entry PyProof.Rows.slot_list_sort ⟨_, hoL, rfl⟩ PyProof.Rows.entry_list_sort
    (SrtO.list_sort_ord (s := { s with heap := h'.push (seqObj "list" acc.toList.toArray 0), toks := tk }) (SrtO.swo_lex (keyOf H)) hoL hz (fun h2 => ?_) fun out hs hb => ⟨_, rfl, ?_⟩) (PyProof.Rows.args_list_sort _)))
  · refine SrtO.pairs_sortableO (s := { s with heap := h'.push (seqObj "list" acc.toList.toArray 0), toks := tk }) (by omega) (fun v hm => (hp v hm).keeps fun b o e _ => Heap.get?_push_of_some _ e) fun o e => ?_
    have e' : some o = some (seqObj "list" acc.toList.toArray 0) := e.symm.trans hoL
    cases e'
    intro c
    exact absurd (Value.type.inj c) (by decide)
  · obtain ⟨e', he'⟩ := PyProof.Rows.sortedHeap_at (vs := acc.toList) (out := out.toArray) hoL
    have hperm := hb.perm
    obtain ⟨bs, rfl⟩ := refs_of out fun v hv => by
      have := hperm.mem_iff.mp hv
      rw [ea] at this
      obtain ⟨b, _, rfl⟩ := List.mem_map.mp this
      exact ⟨b, rfl⟩
    have hbk : ∀ b ∈ bs, ∃ x ∈ ks, b = x.2.1 := fun b hb => by
      have := hperm.mem_iff.mp (List.mem_map.mpr ⟨b, hb, rfl⟩)
      rw [ea] at this
      obtain ⟨c, hc, ec⟩ := List.mem_map.mp this
      cases ec
      obtain ⟨x, hx, rfl⟩ := List.mem_map.mp hc
      exact ⟨x, hx, rfl⟩
    have hbt : ∀ b ∈ bs, H b = some (.tup [nv (two H b).1, nv (two H b).2]) := fun b hb => by
      obtain ⟨x, hx, rfl⟩ := hbk b hb
      exact e2 x hx
    have hlb : bs.length = ks.length := by
      have := hperm.length_eq
      rw [ea, List.length_map, List.length_map, List.length_map] at this
      exact this
    have hpm : (bs.map (two H)).Perm ps := by
      have h1 := hperm.map (fun v => match v with | Value.ref a => two H a | _ => (0, 0))
      rw [ea, List.map_map, List.map_map, List.map_map] at h1
      rw [← e1]
      exact h1
    have hsr : (bs.map (two H)).Pairwise (fun p q => p.1 < q.1 ∨ (p.1 = q.1 ∧ p.2 ≤ q.2)) := by
      have h1 : (bs.map Value.ref).Pairwise _ := hs
      rw [List.pairwise_map] at h1 ⊢
      refine h1.imp fun {x y} hxy => ?_
      have h2 := SrtO.lexB_no.mp hxy
      have h3 : ¬ (((two H y).1 : Int) < ((two H x).1 : Int) ∨ (((two H y).1 : Int) = ((two H x).1 : Int) ∧ ((two H y).2 : Int) < ((two H x).2 : Int))) := h2
      omega
    have hlen : (bs.map V.ref).length ≤ sizeLine := by
      rw [List.length_map]
      omega
    refine wpAny_pure ⟨_, rfl, .ref h'.objs.size, upd H h'.objs.size (.lst (bs.map V.ref)), I1.laid (t' := tk) (fun b u e => ?_) (Nat.le_refl _)
      (show ObjOk X.prog X.w _ _ _ (.lst (bs.map V.ref)) from ⟨hlen, bs.map Value.ref, e', vals_refs bs, he'⟩), rfl, q _ _ _ (pairsAt_refs bs hbt) hpm hsr (I1.hok.fresh (Nat.le_refl _))⟩
    have hb : b < h'.objs.size := Heap.lt_size e
    rw [PyProof.Rows.sortedHeap_old (Nat.ne_of_lt hb) (by rw [size_push']; exact Nat.lt_succ_of_lt hb)]
    exact Heap.get?_push_of_some _ e
end
end Wp
namespace Wp
open PySem PySem.Spec PyProof.Rows L2
theorem scSeenAt : FnScope ["exits", "place", "pebble"] ["exits", "place", "pebble"] (defScope s_seen_at) := ⟨rfl, rfl, rfl, by decide +kernel, rfl, by decide +kernel, by decide +kernel⟩
section
variable {P : Program} {w : World} {K : PySem.W.Frag} {mg : Str → Option Value} {base : Heap}
/-! ### seen_at -/
def lookP (u : Nat) : Option Nat → Nat
  | none => 2
  | some v => if v = u then 1 else 0
theorem look_eq (t : Ks536.Net) (s : Ks539.Stand) : Ks539.look t s = [(row t.links s.u).length, lookP s.u s.p] := by
  unfold Ks539.look
  rw [degree_eq]
  rfl
def spSeenAt : Sp := fun vs H Q _ => ∃ (a : Addr) (tab : List (List (Nat × Nat))) (u : Nat) (p : Option Nat) (r : List (Nat × Nat)), vs = [.ref a, nv u, nv (peb p)] ∧ TabAt H a tab ∧ tab[u]? = some r ∧
  ∀ q, H q = none → Q (.ref q) (upd H q (.lst [nv r.length, nv (lookP u p)]))
theorem ok_seen_at {f : Addr} {fd : FuncData} {k : Nat} (F : Fun K "seen_at" "seen_at" s_seen_at f fd) (T : Txt mg) : FnOk P w K mg base CX0 (k + 1) f fd ["exits", "place", "pebble"] spSeenAt := by
  refine F.ok scSeenAt (fun vs H Q E h => ?_) (fun cdv A outer s H vs Q E hr h => ?_)
  · obtain ⟨a, tab, u, p, r, rfl, _⟩ := h
    rfl
  · obtain ⟨a, tab, u, p, r, rfl, hT, hr2, q⟩ := h
    refine ⟨_, pss_cons (ps_if (pt_cmpR op_eq (pv 2) (pk rfl T.c_CARRIED) (nomark _))
        (pss_one (ps_ret (pe_lst (pa_cons (pe_callB call_len_seq (by rfl) T.b_len PySem.boot_len (pa_cons (pe_ix ix_list (pv 0) (pv 1) (fun _ _ => rfl)) pa_nil)) (pa_cons pe_int pa_nil))))) pss_nil)
      (pss_cons (ps_if (pt_cmpR op_eq (pv 2) (pe_op op_add (pv 1) pe_int) (nomark _))
        (pss_one (ps_ret (pe_lst (pa_cons (pe_callB call_len_seq (by rfl) T.b_len PySem.boot_len (pa_cons (pe_ix ix_list (pv 0) (pv 1) (fun _ _ => rfl)) pa_nil)) (pa_cons pe_int pa_nil))))) pss_nil)
      (pss_one (ps_ret (pe_lst (pa_cons (pe_callB call_len_seq (by rfl) T.b_len PySem.boot_len (pa_cons (pe_ix ix_list (pv 0) (pv 1) (fun _ _ => rfl)) pa_nil)) (pa_cons pe_int pa_nil)))))), ?_⟩
    obtain ⟨qs, q0, vs0, hA, hi, hq, hl, _⟩ := tab_item hT hr2
    refine ⟨_, rfl, rfl, _, rfl, ?_⟩
    cases p with
    | none =>
      refine if_true_of (decide_eq_true rfl) ?_
      refine ⟨_, rfl, _, rfl, a, _, _, _, rfl, rfl, SqL.of hA, hi, q0, vs0, rfl, .inl (SqL.of hq), (by show 2 ≤ sizeLine; decide), fun z nz => ?_⟩
      have := q z nz
      rw [← hl] at this
      exact this
    | some v =>
      refine if_false_of (decide_eq_false (fun z => ?_)) ?_
      · have e : ((v + 1 : Nat) : Int) = 0 := V.int.inj z
        omega
      refine ⟨_, rfl, _, rfl, _, _, rfl, rfl, rfl, _, rfl, ?_⟩
      by_cases c : v = u
      · subst c
        refine if_true_of (decide_eq_true (congrArg V.int ?_)) ?_
        · show ((v + 1 : Nat) : Int) = (v : Int) + 1
          omega
        refine ⟨_, rfl, _, rfl, a, _, _, _, rfl, rfl, SqL.of hA, hi, q0, vs0, rfl, .inl (SqL.of hq), (by show 2 ≤ sizeLine; decide), fun z nz => ?_⟩
        have := q z nz
        rw [← hl, show lookP v (some v) = 1 from if_pos rfl] at this
        exact this
      · refine if_false_of (decide_eq_false (fun z => c ?_)) ?_
        · have e : ((v + 1 : Nat) : Int) = (u : Int) + 1 := V.int.inj z
          omega
        refine ⟨_, rfl, _, rfl, a, _, _, _, rfl, rfl, SqL.of hA, hi, q0, vs0, rfl, .inl (SqL.of hq), (by show 2 ≤ sizeLine; decide), fun z nz => ?_⟩
        have := q z nz
        rw [← hl, show lookP u (some v) = 0 from if_neg c] at this
        exact this
end
end Wp
namespace Wp
open PySem PySem.Spec PyProof.Rows L2
theorem scStepBy : FnScope ["exits", "place", "pebble", "letter", "way"] ["exits", "place", "pebble", "letter"] (defScope s_step_by) := ⟨rfl, rfl, rfl, by decide +kernel, rfl, by decide +kernel, by decide +kernel⟩
section
variable {P : Program} {w : World} {K : PySem.W.Frag} {mg : Str → Option Value} {base : Heap}
/-! ### step_by -/
def spStepBy : Sp := fun vs H Q _ => ∃ (a : Addr) (tab : List (List (Nat × Nat))) (n : Nat) (ls : List (Nat × Nat)) (s : Ks539.Stand) (x : Nat), vs = [.ref a, nv s.u, nv (peb s.p), nv x] ∧ TabAt H a tab ∧ tab[s.u]? = some (row ls s.u) ∧
  ∀ q, H q = none → Q (.ref q) (upd H q (.tup [nv (Ks539.step ⟨n, ls⟩ s x).u, nv (peb (Ks539.step ⟨n, ls⟩ s x).p), nv (Ks539.in_ ⟨n, ls⟩ s x)]))
theorem step_put (t : Ks536.Net) (u : Nat) : Ks539.step t ⟨u, none⟩ 1 = ⟨u, some u⟩ := rfl
theorem step_take (t : Ks536.Net) (u : Nat) : Ks539.step t ⟨u, some u⟩ 2 = ⟨u, none⟩ := if_pos rfl
theorem step_go (t : Ks536.Net) (s : Ks539.Stand) {e : Nat} {p : Nat × Nat} (h : (row t.links s.u)[e]? = some p) : Ks539.step t s (e + 3) = ⟨p.1, s.p⟩ ∧ Ks539.in_ t s (e + 3) = p.2 + 1 := by
  refine ⟨?_, ?_⟩
  · show ({ s with u := Ks536.go t s.u (e + 1) } : Ks539.Stand) = _
    rw [go_succ, h]
    rfl
  · show Ks536.came t s.u (e + 1) = _
    rw [came_succ, h]
    rfl
/-- what can't be done is as staying -/
theorem step_stay (t : Ks536.Net) (s : Ks539.Stand) (x : Nat) (h1 : ¬ (x = 1 ∧ s.p = none)) (h2 : ¬ (x = 2 ∧ s.p = some s.u)) (h3 : ¬ (3 ≤ x ∧ x - 3 < (row t.links s.u).length)) : Ks539.step t s x = s ∧ Ks539.in_ t s x = 0 := by
  obtain ⟨u, p⟩ := s
  match x, h1, h2, h3 with
  | 0, _, _, _ => exact ⟨rfl, rfl⟩
  | 1, h1, _, _ =>
    cases p with
    | none => exact absurd ⟨rfl, rfl⟩ h1
    | some v => exact ⟨rfl, rfl⟩
  | 2, _, h2, _ =>
    refine ⟨if_neg (fun z => h2 ⟨rfl, z⟩), rfl⟩
  | e + 3, _, _, h3 =>
    have he : (row t.links u)[e]? = none := List.getElem?_eq_none (by
      have : ¬ (e < (row t.links u).length) := fun z => h3 ⟨by omega, by simpa using z⟩
      omega)
    refine ⟨?_, ?_⟩
    · show ({ u := Ks536.go t u (e + 1), p := p } : Ks539.Stand) = _
      rw [go_succ, he]
      rfl
    · show Ks536.came t u (e + 1) = _
      rw [came_succ, he]
      rfl
/-- the third test and what follows, read -/
def rdThird (K : PySem.W.Frag) : TS := tSeq (tIfS (tAnd (tTest (tOp (rI0 fun i j => .bl (decide (j ≤ i))) (tVar 3) (tC (.int 3)))) (tTest (tOp (rI0 fun i j => .bl (decide (i < j))) (tOp (rI0 fun i j => .int (i - j)) (tVar 3) (tC (.int 3))) (tCB (fun xs H Q => ∃ p ys, xs = [.ref p] ∧ (SqL K H p ys ∨ SqT K H p ys) ∧ Q (.int ys.length) H) (tCons (tOp (rIxL K) (tVar 0) (tVar 1)) tNil)))))
        (tSeq (tAsg (tOp (rIxL K) (tOp (rIxL K) (tVar 0) (tVar 1)) (tOp (rI0 fun i j => .int (i - j)) (tVar 3) (tC (.int 3)))) (gName 4)) (tRet (tTup (tCons (tOp (rIxT K) (tVar 4) (tC (.int 0))) (tCons (tVar 2) (tCons (tOp (rI0 fun i j => .int (i + j)) (tOp (rIxT K) (tVar 4) (tC (.int 1))) (tC (.int 1))) tNil)))))) tNext)
        (tRet (tTup (tCons (tVar 1) (tCons (tVar 2) (tCons (tC (.int 0)) tNil)))))
theorem ok_step_by {f : Addr} {fd : FuncData} {k : Nat} (F : Fun K "step_by" "step_by" s_step_by f fd) (T : Txt mg) : FnOk P w K mg base CX0 (k + 1) f fd ["exits", "place", "pebble", "letter"] spStepBy := by
  refine F.ok scStepBy (fun vs H Q E h => ?_) (fun cdv A outer s H vs Q E hr h => ?_)
  · obtain ⟨a, tab, n, ls, s, x, rfl, _⟩ := h
    rfl
  · obtain ⟨a, tab, n, ls, st, x, rfl, hT, hr2, q⟩ := h
    refine ⟨_, pss_cons (ps_if (PW.pt (pw_and (pt_cmpR op_eq (pv 3) (pk rfl T.c_PUT_DOWN) (nomark _)) (pw_and1 (pt_cmpR op_eq (pv 2) (pk rfl T.c_CARRIED) (nomark _)))))
        (pss_one (ps_ret (pe_tup (pa_cons (pv 1) (pa_cons (pe_op op_add (pv 1) pe_int) (pa_cons (pk rfl T.c_DID_NOT_GO) pa_nil)))))) pss_nil)
      (pss_cons (ps_if (PW.pt (pw_and (pt_cmpR op_eq (pv 3) (pk rfl T.c_TAKE_UP) (nomark _)) (pw_and1 (pt_cmpR op_eq (pv 2) (pe_op op_add (pv 1) pe_int) (nomark _)))))
        (pss_one (ps_ret (pe_tup (pa_cons (pv 1) (pa_cons (pk rfl T.c_CARRIED) (pa_cons (pk rfl T.c_DID_NOT_GO) pa_nil)))))) pss_nil)
      (pss_cons (ps_if (PW.pt (pw_and (pt_cmpR op_ge (pv 3) (pk rfl T.c_FIRST_EXIT) (nomark _)) (pw_and1 (pt_cmpR op_lt (pe_op op_sub (pv 3) (pk rfl T.c_FIRST_EXIT)) (pe_callB call_len_seq (by rfl) T.b_len PySem.boot_len (pa_cons (pe_ix ix_list (pv 0) (pv 1) (fun _ _ => rfl)) pa_nil)) (nomark _)))))
        (pss_cons (ps_set (i := 4) scStepBy.nd rfl (.inl rfl) (pe_ix ix_list (pe_ix ix_list (pv 0) (pv 1) (fun _ _ => rfl)) (pe_op op_sub (pv 3) (pk rfl T.c_FIRST_EXIT)) (fun _ _ => rfl)))
          (pss_one (ps_ret (pe_tup (pa_cons (pe_ix ix_tup (pv 4) pe_int (fun _ _ => rfl)) (pa_cons (pv 2) (pa_cons (pe_op op_add (pe_ix ix_tup (pv 4) pe_int (fun _ _ => rfl)) pe_int) pa_nil))))))) pss_nil)
      (pss_one (ps_ret (pe_tup (pa_cons (pv 1) (pa_cons (pv 2) (pa_cons (pk rfl T.c_DID_NOT_GO) pa_nil)))))))), ?_⟩
    obtain ⟨qs, q0, vs0, hA, hi, hq, hl, hP⟩ := tab_item hT hr2
    have h3 : (3 : Nat) ≤ sizeLine := by decide
    -- the last return
    have last : ¬ (x = 1 ∧ st.p = none) → ¬ (x = 2 ∧ st.p = some st.u) → ¬ (3 ≤ x ∧ x - 3 < (row ls st.u).length) → ∀ z, H z = none → Q (.ref z) (upd H z (.tup [nv st.u, nv (peb st.p), .int 0])) := fun c1 c2 c3 z nz => by
      have e := step_stay ⟨n, ls⟩ st x c1 c2 c3
      have := q z nz
      rw [e.1, e.2] at this
      exact this
    -- the third test and what follows
    have third : ¬ (x = 1 ∧ st.p = none) → ¬ (x = 2 ∧ st.p = some st.u) → rdThird K { nx := fun _ H' => Q .non H', rt := Q } (start ["exits", "place", "pebble", "letter", "way"] [.ref a, nv st.u, nv (peb st.p), nv x]) H := fun c1 c2 => by
      refine ⟨_, rfl, _, _, rfl, rfl, _, rfl, ?_⟩
      by_cases c : 3 ≤ x
      · refine if_true_of (decide_eq_true (by omega)) ?_
        refine ⟨_, rfl, _, _, rfl, rfl, _, rfl, _, rfl, a, _, _, _, rfl, rfl, SqL.of hA, hi, q0, vs0, rfl, .inl (SqL.of hq), _, _, rfl, rfl, _, rfl, ?_⟩
        by_cases d : x - 3 < (row ls st.u).length
        · refine if_true_of (decide_eq_true (by rw [hl]; omega)) ?_
          obtain ⟨e, rfl⟩ : ∃ e, x = e + 3 := ⟨x - 3, by omega⟩
          have hrow : (row ls st.u)[e]? = some (row ls st.u)[e] := List.getElem?_eq_getElem (by simpa using d)
          obtain ⟨t, ht1, ht2⟩ := hP.2 e _ hrow
          have es := step_go ⟨n, ls⟩ st hrow
          refine ⟨_, rfl, _, rfl, a, _, _, _, rfl, rfl, SqL.of hA, hi, _, rfl, _, _, rfl, rfl, q0, vs0, _, .ref t, rfl, rfl, SqL.of hq, at_of (j := e) (by omega) ht1, ?_⟩
          refine ⟨_, rfl, t, _, 0, _, rfl, rfl, SqT.of ht2, atI_nat (j := 0) rfl, _, rfl, _, rfl, t, _, 1, _, rfl, rfl, SqT.of ht2, atI_nat (j := 1) rfl, _, _, rfl, rfl, h3, fun z nz => ?_⟩
          have := q z nz
          rw [es.1, es.2] at this
          exact this
        · refine if_false_of (decide_eq_false (by rw [hl]; omega)) ?_
          exact ⟨_, rfl, _, rfl, h3, last c1 c2 (fun z => d z.2)⟩
      · refine if_false_of (decide_eq_false (by omega)) ?_
        refine if_false_of rfl ?_
        exact ⟨_, rfl, _, rfl, h3, last c1 c2 (fun z => c z.1)⟩
    -- the second test and what follows
    have second : ¬ (x = 1 ∧ st.p = none) → tSeq (tIfS (tAnd (tTest (tOp rEq (tVar 3) (tC (.int 2)))) (tTest (tOp rEq (tVar 2) (tOp (rI0 fun i j => .int (i + j)) (tVar 1) (tC (.int 1))))))
        (tRet (tTup (tCons (tVar 1) (tCons (tC (.int 0)) (tCons (tC (.int 0)) tNil))))) tNext) (rdThird K) { nx := fun _ H' => Q .non H', rt := Q } (start ["exits", "place", "pebble", "letter", "way"] [.ref a, nv st.u, nv (peb st.p), nv x]) H := fun c1 => by
      refine ⟨_, rfl, rfl, _, rfl, ?_⟩
      by_cases c : x = 2
      · subst c
        refine if_true_of (decide_eq_true rfl) ?_
        refine ⟨_, rfl, _, rfl, _, _, rfl, rfl, rfl, _, rfl, ?_⟩
        by_cases d : st.p = some st.u
        · obtain ⟨u, p⟩ := st
          have d' : p = some u := d
          subst d'
          refine if_true_of (decide_eq_true (congrArg V.int ?_)) ?_
          · show ((u + 1 : Nat) : Int) = (u : Int) + 1
            omega
          refine ⟨_, rfl, h3, fun z nz => ?_⟩
          have := q z nz
          rw [step_take] at this
          exact this
        · refine if_false_of (decide_eq_false (fun z => d ?_)) ?_
          · have e : ((peb st.p : Nat) : Int) = (st.u : Int) + 1 := V.int.inj z
            cases hp : st.p with
            | none =>
              rw [hp] at e
              have e' : (0 : Int) = (st.u : Int) + 1 := e
              omega
            | some v =>
              rw [hp] at e
              have e' : ((v + 1 : Nat) : Int) = (st.u : Int) + 1 := e
              rw [show v = st.u by omega]
          exact third c1 (fun z => d z.2)
      · refine if_false_of (decide_eq_false (fun z => c ?_)) ?_
        · have e : (x : Int) = 2 := V.int.inj z
          omega
        refine if_false_of rfl ?_
        exact third c1 (fun z => c z.1)
    refine ⟨_, rfl, rfl, _, rfl, ?_⟩
    by_cases c : x = 1
    · subst c
      refine if_true_of (decide_eq_true rfl) ?_
      refine ⟨_, rfl, rfl, _, rfl, ?_⟩
      cases hp : st.p with
      | none =>
        refine if_true_of (decide_eq_true rfl) ?_
        refine ⟨_, rfl, _, rfl, _, _, rfl, rfl, h3, fun z nz => ?_⟩
        have := q z nz
        obtain ⟨u, p⟩ := st
        have hp' : p = none := hp
        subst hp'
        rw [step_put] at this
        exact this
      | some v =>
        refine if_false_of (decide_eq_false (fun z => ?_)) ?_
        · have e : ((v + 1 : Nat) : Int) = 0 := V.int.inj z
          omega
        have := second (fun z => by rw [hp] at z; exact nomatch z.2)
        rw [hp] at this
        exact this
    · refine if_false_of (decide_eq_false (fun z => c ?_)) ?_
      · have e : (x : Int) = 1 := V.int.inj z
        omega
      refine if_false_of rfl ?_
      exact second (fun z => c z.1)
end
end Wp
namespace Wp
open PySem PySem.Spec PyProof.Rows L2
theorem scLinksOf : FnScope ["net", "k"] ["net"] (defScope s_links_of) := ⟨rfl, rfl, rfl, by decide +kernel, rfl, by decide +kernel, by decide +kernel⟩
theorem scAllowed : FnScope ["n", "links", "met", "one", "other"] ["n", "links"] (defScope s_links_are_allowed) := ⟨rfl, rfl, rfl, by decide +kernel, rfl, by decide +kernel, by decide +kernel⟩
section
variable {P : Program} {w : World} {K : PySem.W.Frag} {mg : Str → Option Value} {base : Heap}
/-! ### links_of -/
theorem rg2 : ∀ m, m < 25 → (Builtin.Range.small 0 ((m : Nat) : Int) 2 = true ∧ Builtin.Range.rangeSize 0 ((m : Nat) : Int) 2 = (((m + 1) / 2 : Nat) : Int)) := by decide +kernel
theorem rgC2 {m : Nat} (h : m < 25) : RgC 0 (m : Int) 2 ((m + 1) / 2) := ⟨by decide, by decide, (rg2 m h).1, (rg2 m h).2⟩
def spLinksOf (K : PySem.W.Frag) : Sp := fun vs H Q _ => ∃ (a : Addr) (l : List Nat), vs = [.ref a] ∧ SqL K H a (l.map nv) ∧ l.length % 2 = 0 ∧ l.length ≤ 24 ∧
  ∀ H' q, Same H H' → LinksAt H' q (prs l) → Q (.ref q) H'
theorem ok_links_of {f : Addr} {fd : FuncData} {k : Nat} (F : Fun K "links_of" "links_of" s_links_of f fd) (T : Txt mg) : FnOk P w K mg base CX0 (k + 1) f fd ["net"] (spLinksOf K) := by
  refine F.ok scLinksOf (fun vs H Q E h => ?_) (fun cdv A outer s H vs Q E hr h => ?_)
  · obtain ⟨a, l, rfl, _⟩ := h
    rfl
  · obtain ⟨a, l, rfl, hS, hev, hlen, q⟩ := h
    refine ⟨_, pss_one (ps_ret (pe_lc (own := [("k", 1)]) (g := gName 1) (tt := tYes) (te := tTup (tCons (tOp (rIxL K) (tVar 0) (tVar 1)) (tCons (tOp (rIxL K) (tVar 0) (tOp (rI0 fun i j => .int (i + j)) (tVar 1) (tC (.int 1)))) tNil))) rfl scLinksOf.nd (pi_range3 rfl T.b_range (pa_cons pe_int (pa_cons (pe_callB call_len_seq (by rfl) T.b_len PySem.boot_len (pa_cons (pv 0) pa_nil)) (pa_cons pe_int pa_nil))))
      (blkOk_by (N := ["net", "k"]) (sc := defScope s_links_of) (by decide +kernel)) (fun _ _ _ _ _ => pg_name (i := 1) scLinksOf.nd rfl (Or.inl rfl)) (fun _ _ _ _ _ => pts_nil)
      (fun _ _ _ _ _ => pe_tup (pa_cons (pe_ix ix_list (pv 0) (pv 1) (fun _ _ => rfl)) (pa_cons (pe_ix ix_list (pv 0) (pe_op op_add (pv 1) pe_int) (fun _ _ => rfl)) pa_nil))))), ?_⟩
    have el : (l.map nv).length = l.length := List.length_map _
    refine ⟨_, rfl, a, _, rfl, .inl hS, 0, _, 2, _, rfl, rgC2 (by rw [el]; omega), fun D nD => ?_⟩
    refine lc_it walk_rangeC (fun i H' => Same H H' ∧ ∃ vs, H' D = some (.lst vs) ∧ PairsAt H' vs ((prs l).take i)) ⟨same_upd nD, [], upd_same, PairsAt.nil⟩ (fun _ _ _ _ => trivial) ?_ ?_
    · rintro i x H0 H1 hi ⟨s1, vs, hD, hP⟩ ⟨rfl, rfl⟩
      rw [el] at hi
      have h1 : 2 * i < l.length := by omega
      have h2 : 2 * i + 1 < l.length := by omega
      have g1 : (l.map nv)[2 * i]? = some (nv l[2 * i]) := by
        rw [List.getElem?_map, List.getElem?_eq_getElem h1]
        rfl
      have g2 : (l.map nv)[2 * i + 1]? = some (nv l[2 * i + 1]) := by
        rw [List.getElem?_map, List.getElem?_eq_getElem h2]
        rfl
      have hS1 : SqL K H1 a (l.map nv) := s1.seq hS
      refine ⟨rfl, ?_⟩
      refine ⟨_, rfl, _, rfl, a, _, _, _, rfl, rfl, hS1, at_of (j := 2 * i) (by omega) g1, _, rfl, _, rfl, _, _, rfl, rfl, a, _, _, _, rfl, rfl, hS1, at_of (j := 2 * i + 1) (by omega) g2, (by show 2 ≤ sizeLine; decide), fun t nt => ?_⟩
      have nDt : D ≠ t := ne_of_none hD nt
      have hD2 : upd H1 t (.tup [nv l[2 * i], nv l[2 * i + 1]]) D = some (.lst vs) := by
        rw [upd_ne nDt]
        exact hD
      have s2 := same_upd (o := .tup [nv l[2 * i], nv l[2 * i + 1]]) nt
      have hlv : vs.length ≤ 1000 := by
        rw [hP.1, List.length_take, prs_length]
        omega
      refine ⟨vs, hD2, small1000 hlv, fun b o e => ?_, _, upd_same, ?_⟩
      · rw [upd_ne (ne_of_none e nD)]
        exact s2 _ _ (s1 _ _ e)
      · rw [take_more (prs_get l i _ _ (List.getElem?_eq_getElem h1) (List.getElem?_eq_getElem h2))]
        refine PairsAt.snoc ((hP.keep (Same.stup s2)).keep (stup_lst hD2)) ?_
        rw [upd_ne nDt.symm]
        exact upd_same
    · rintro H1 ⟨s1, vs, hD, hP⟩
      rw [el, List.take_of_length_le (by rw [prs_length]; omega)] at hP
      exact q H1 D s1 ⟨vs, hD, hP⟩
/-! ### links_are_allowed -/
def prD2 (p : Nat × Nat) : PyData := .tuple [.int p.1, .int p.2]
/-- such pairs, and lists of them, are plain data of small depth -/
theorem pair_flat (z : Nat × Nat) : (prD2 z).canLay0 = true ∧ (prD2 z).depth = 1 := ⟨by simp [prD2, PyData.canLay0, PyData.canLayAll0], by simp [prD2, PyData.depth, PyData.depthAll]⟩
theorem pairs_flat (zs : List (Nat × Nat)) : PyData.canLayAll0 (zs.map prD2) = true ∧ PyData.depthAll (zs.map prD2) ≤ 1 := by
  induction zs with
  | nil => exact ⟨by simp [PyData.canLayAll0], by simp [PyData.depthAll]⟩
  | cons z zs ih =>
    have hz := pair_flat z
    refine ⟨by simp [PyData.canLayAll0, hz.1, ih.1], ?_⟩
    have e : PyData.depthAll ((z :: zs).map prD2) = max (prD2 z).depth (PyData.depthAll (zs.map prD2)) := by simp [PyData.depthAll]
    omega
theorem prD2_shaped (z : Nat × Nat) : SeqAt.shaped (prD2 z) = true :=
  Bool.and_eq_true_iff.mpr ⟨(pair_flat z).1, decide_eq_true (by rw [(pair_flat z).2]; decide)⟩
theorem prD2s_shaped (zs : List (Nat × Nat)) : SeqAt.shaped (.list (zs.map prD2)) = true := by
  refine Bool.and_eq_true_iff.mpr ⟨?_, decide_eq_true ?_⟩
  · have := (pairs_flat zs).1
    simpa [PyData.canLay0] using this
  · have h := (pairs_flat zs).2
    have e : PyData.depth (.list (zs.map prD2)) = PyData.depthAll (zs.map prD2) + 1 := by simp [PyData.depth, Nat.add_comm]
    omega
theorem prD2_eqv (z w : Nat × Nat) : PyData.eqv (prD2 z) (prD2 w) = decide (z = w) := by
  obtain ⟨a, b⟩ := z
  obtain ⟨a', b'⟩ := w
  have e : PyData.eqv (prD2 (a, b)) (prD2 (a', b')) = (((a : Int) == (a' : Int)) && (((b : Int) == (b' : Int)) && true)) := by simp only [prD2, PyData.eqv, PyData.eqvAll]
  rw [e, Bool.and_true, Bool.eq_iff_iff, Bool.and_eq_true, beq_iff_eq, beq_iff_eq, decide_eq_true_iff, Prod.mk.injEq]
  omega
theorem any_eqv (zs : List (Nat × Nat)) (p : Nat × Nat) : ((zs.map prD2).any fun z => PyData.eqv z (prD2 p)) = decide (p ∈ zs) := by
  rw [List.any_map, Bool.eq_iff_iff, List.any_eq_true, decide_eq_true_iff]
  constructor
  · rintro ⟨z, hz, he⟩
    have : decide (z = p) = true := by rw [← prD2_eqv]; exact he
    rw [← of_decide_eq_true this]
    exact hz
  · intro h
    refine ⟨p, h, ?_⟩
    show PyData.eqv (prD2 p) (prD2 p) = true
    rw [prD2_eqv]
    exact decide_eq_true rfl
theorem dp_pair {H : Hp} {t : Addr} {p : Nat × Nat} (h : H t = some (.tup [nv p.1, nv p.2])) : Dp K H (.ref t) (prD2 p) := .tup (SqT.of h) (.cons (.int _) (.cons (.int _) .nil))
theorem dp_pairs : ∀ {H : Hp} {vs : List V} {ps : List (Nat × Nat)}, PairsAt H vs ps → DpAll K H vs (ps.map prD2)
  | _, [], [], _ => .nil
  | _, [], _ :: _, h => by have := h.1; simp at this
  | _, _ :: _, [], h => by have := h.1; simp at this
  | H, v :: vs, p :: ps, h => by
    obtain ⟨t, e1, e2⟩ := h.2 0 p rfl
    have ev : v = .ref t := Option.some.inj e1
    subst ev
    exact .cons (dp_pair e2) (dp_pairs ⟨by have := h.1; simpa using this, fun i q hq => h.2 (i + 1) q hq⟩)
def spAllowed : Sp := fun vs H Q _ => ∃ (a : Addr) (n : Nat) (ls : List (Nat × Nat)), vs = [nv n, .ref a] ∧ LinksAt H a ls ∧ ls.length ≤ 1000 ∧
  ∀ H', Same H H' → Q (.bl (decide (Allowed n ls))) H'
theorem ok_allowed {f : Addr} {fd : FuncData} {k : Nat} (F : Fun K "links_are_allowed" "links_are_allowed" s_links_are_allowed f fd) (T : Txt mg) : FnOk P w K mg base CX0 (k + 1) f fd ["n", "links"] spAllowed := by
  refine F.ok scAllowed (fun vs H Q E h => ?_) (fun cdv A outer s H vs Q E hr h => ?_)
  · obtain ⟨a, n, ls, rfl, _⟩ := h
    rfl
  · obtain ⟨a, n, ls, rfl, ⟨lv, hA, hL⟩, hlen, q⟩ := h
    have hu : (A.deeper (envOfC "links_are_allowed" (defScope s_links_are_allowed) s.heap.objs.size f cdv)).units + 65 < cLine := by
      have := hr.un
      omega
    refine ⟨_, pss_cons (ps_set (i := 2) scAllowed.nd rfl (.inl rfl) (pe_lst pa_nil))
      (pss_cons (ps_for PassesOwn.never rfl (pi_list (pv 1)) (pg_tup rfl (pgs_cons (pg_name (i := 3) scAllowed.nd rfl (.inl rfl)) (pgs_cons (pg_name (i := 4) scAllowed.nd rfl (.inl rfl)) pgs_nil)))
        (pss_cons (ps_if (PW.pt (pw_or (pt_cmpR op_ge (pv 3) (pv 0) (nomark _)) (pw_or (pt_cmpR op_ge (pv 4) (pv 0) (nomark _)) (pw_or1 (pt_cmpR op_eq (pv 3) (pv 4) (nomark _)))))) (pss_one (ps_ret pe_bl)) pss_nil)
        (pss_cons (ps_if (PW.pt (pw_or (pt_cmpR (op_inD hu) (pe_tup (pa_cons (pv 3) (pa_cons (pv 4) pa_nil))) (pv 2) (by rfl)) (pw_or1 (pt_cmpR (op_inD hu) (pe_tup (pa_cons (pv 4) (pa_cons (pv 3) pa_nil))) (pv 2) (by rfl))))) (pss_one (ps_ret pe_bl)) pss_nil)
        (pss_one (ps_expr (pe_bm PySem.F.plainAttrs_list PySem.F.slot_list_append PySem.F.type_list_append mt_append (pv 2) (pa_cons (pe_tup (pa_cons (pv 3) (pa_cons (pv 4) pa_nil))) pa_nil)))))))
      (pss_one (ps_ret pe_bl))), ?_⟩
    refine ⟨Nat.zero_le _, fun m nm => ?_⟩
    have s0 : Same H (upd H m (.lst [])) := same_upd nm
    refine ⟨_, rfl, a, rfl, ⟨_, SqL.of (s0 _ _ hA)⟩, for_list (K := K) (a := a) (xs := lv) (fun i σ H' => ∃ y3 y4 vs, σ = [some (nv n), some (.ref a), some (.ref m), y3, y4] ∧ Same H H' ∧ H' m = some (.lst vs) ∧ PairsAt H' vs (ls.take i) ∧ Allowed n (ls.take i))
      ⟨none, none, [], rfl, s0, upd_same, PairsAt.nil, allowed_nil n⟩ (fun i σ H' _ ⟨_, _, _, _, s1, _⟩ => SqL.of (s1 _ _ hA)) ?_ ?_⟩
    · rintro i x σ H1 hi ⟨y3, y4, vs, rfl, s1, hm, hP, hAl⟩
      have hil : i < ls.length := by
        rw [← hL.1]
        exact (List.getElem?_eq_some_iff.mp hi).1
      have hp : ls[i]? = some ls[i] := List.getElem?_eq_getElem hil
      generalize ls[i] = p at hp
      obtain ⟨t, ht1, ht2⟩ := hL.2 i p hp
      have ex : x = .ref t := Option.some.inj (hi.symm.trans ht1)
      subst ex
      have ht3 : H1 t = some (.tup [nv p.1, nv p.2]) := s1 _ _ ht2
      have hsn : Allowed n (ls.take (i + 1)) ↔ Allowed n (ls.take i) ∧ Ok1 n p ∧ ∀ q ∈ ls.take i, Apt q p := by
        rw [take_more hp]
        exact allowed_snoc
      have no : ∀ H', Same H H' → ¬ (Ok1 n p ∧ ∀ q ∈ ls.take i, Apt q p) → Q (.bl false) H' := fun H' s' c => by
        have := q H' s'
        rw [decide_eq_false (fun z => c (hsn.mp (allowed_take z (i + 1))).2)] at this
        exact this
      refine ⟨t, _, rfl, SqT.of ht3, rfl, _, _, rfl, _, _, rfl, rfl, ?_⟩
      refine ⟨_, rfl, _, rfl, _, _, rfl, rfl, _, rfl, ?_⟩
      by_cases c1 : n ≤ p.1
      · refine if_true_of (decide_eq_true (by omega)) (if_true_of rfl ?_)
        exact no _ s1 (fun z => by have := z.1.1; omega)
      refine if_false_of (decide_eq_false (by omega)) ?_
      refine ⟨_, rfl, _, rfl, _, _, rfl, rfl, _, rfl, ?_⟩
      by_cases c2 : n ≤ p.2
      · refine if_true_of (decide_eq_true (by omega)) (if_true_of rfl ?_)
        exact no _ s1 (fun z => by have := z.1.2.1; omega)
      refine if_false_of (decide_eq_false (by omega)) ?_
      refine ⟨_, rfl, _, rfl, rfl, _, rfl, ?_⟩
      by_cases c3 : p.1 = p.2
      · refine if_true_of (decide_eq_true (by rw [c3])) ?_
        exact no _ s1 (fun z => z.1.2.2 c3)
      refine if_false_of (decide_eq_false (fun z => c3 (by have e : (p.1 : Int) = (p.2 : Int) := V.int.inj z; omega))) ?_
      -- the second test
      refine ⟨_, rfl, _, rfl, (by show 2 ≤ sizeLine; decide), fun t1 nt1 => ?_⟩
      have s2 := s1.trans (same_upd (o := .tup [nv p.1, nv p.2]) nt1)
      have hm2 : upd H1 t1 (.tup [nv p.1, nv p.2]) m = some (.lst vs) := same_upd nt1 _ _ hm
      have hP2 : PairsAt (upd H1 t1 (.tup [nv p.1, nv p.2])) vs (ls.take i) := hP.keep (stup_new nt1)
      refine ⟨_, rfl, prD2 p, _, dp_pair (p := p) upd_same, .lst (SqL.of hm2) (dp_pairs hP2), prD2_shaped _, prD2s_shaped _, _, rfl, ?_⟩
      rw [any_eqv]
      by_cases d1 : p ∈ ls.take i
      · refine if_true_of (decide_eq_true d1) (if_true_of rfl ?_)
        exact no _ s2 (fun z => (z.2 p d1).1 rfl)
      refine if_false_of (decide_eq_false d1) ?_
      refine ⟨_, rfl, _, rfl, (by show 2 ≤ sizeLine; decide), fun t2 nt2 => ?_⟩
      generalize hH2 : upd H1 t1 (.tup [nv p.1, nv p.2]) = H2 at s2 hm2 hP2 nt2
      have s3 := s2.trans (same_upd (o := .tup [nv p.2, nv p.1]) nt2)
      have hm3 : upd H2 t2 (.tup [nv p.2, nv p.1]) m = some (.lst vs) := same_upd nt2 _ _ hm2
      have hP3 : PairsAt (upd H2 t2 (.tup [nv p.2, nv p.1])) vs (ls.take i) := hP2.keep (stup_new nt2)
      refine ⟨_, rfl, prD2 (p.2, p.1), _, dp_pair (p := (p.2, p.1)) upd_same, .lst (SqL.of hm3) (dp_pairs hP3), prD2_shaped _, prD2s_shaped _, _, rfl, ?_⟩
      rw [any_eqv]
      by_cases d2 : (p.2, p.1) ∈ ls.take i
      · refine if_true_of (decide_eq_true d2) ?_
        exact no _ s3 (fun z => (z.2 _ d2).2 rfl)
      refine if_false_of (decide_eq_false d2) ?_
      -- met.append((one, other))
      generalize hH3 : upd H2 t2 (.tup [nv p.2, nv p.1]) = H3 at s3 hm3 hP3
      refine ⟨_, rfl, .inl ⟨rfl, _, SqL.of hm3⟩, _, rfl, _, rfl, (by show 2 ≤ sizeLine; decide), fun t3 nt3 => ?_⟩
      have s4 := same_upd (o := .tup [nv p.1, nv p.2]) nt3
      have hm4 : upd H3 t3 (.tup [nv p.1, nv p.2]) m = some (.lst vs) := s4 _ _ hm3
      have nmt : m ≠ t3 := ne_of_none hm3 nt3
      refine ⟨m, vs, _, rfl, rfl, hm4, small1000 (by rw [hP3.1, List.length_take]; omega), _, _, _, rfl, fun b o e => ?_, upd_same, ?_, ?_⟩
      · rw [upd_ne (ne_of_none e nm)]
        exact s4 _ _ (s3 _ _ e)
      · rw [take_more hp]
        refine PairsAt.snoc ((hP3.keep (Same.stup s4)).keep (stup_lst hm4)) ?_
        rw [upd_ne nmt.symm]
        exact upd_same
      · refine hsn.mpr ⟨hAl, ⟨by omega, by omega, c3⟩, fun z hz => ⟨fun e => d1 (e ▸ hz), fun e => d2 (e ▸ hz)⟩⟩
    · rintro σ H1 ⟨y3, y4, vs, rfl, s1, hm, hP, hAl⟩
      rw [hL.1, List.take_length] at hAl
      have := q H1 s1
      rw [decide_eq_true hAl] at this
      exact this
end
end Wp
namespace Wp
open PySem PySem.Spec PyProof.Rows L2
theorem scHang : FnScope ["n", "links", "reached", "turn", "one", "other", "place"] ["n", "links"] (defScope s_hang_together) := ⟨rfl, rfl, rfl, by decide +kernel, rfl, by decide +kernel, by decide +kernel⟩
section
variable {P : Program} {w : World} {K : PySem.W.Frag} {mg : Str → Option Value} {base : Heap}
theorem ixN_of {n j : Nat} (h : j < n) : ixN n (j : Int) = some j := by
  unfold ixN
  rw [if_pos (by omega), if_pos (by omega)]
  rfl
theorem getD_bl {r : List Bool} {u : Nat} (h : u < r.length) : (r.map V.bl)[u]? = some (.bl (r.getD u false)) := by
  rw [List.getElem?_map, List.getD_eq_getElem?_getD, List.getElem?_eq_getElem h]
  rfl
/-! ### hang_together -/
def spHang : Sp := fun vs H Q _ => ∃ (a : Addr) (n : Nat) (ls : List (Nat × Nat)), vs = [nv n, .ref a] ∧ LinksAt H a ls ∧ n ≤ 7 ∧ (∀ p ∈ ls, Ok1 n p) ∧
  ∀ H', Same H H' → Q (.bl (hangs n ls)) H'
theorem ok_hang {f : Addr} {fd : FuncData} {k : Nat} (F : Fun K "hang_together" "hang_together" s_hang_together f fd) (T : Txt mg) : FnOk P w K mg base CX0 (k + 1) f fd ["n", "links"] spHang := by
  refine F.ok scHang (fun vs H Q E h => ?_) (fun cdv A outer s H vs Q E hr h => ?_)
  · obtain ⟨a, n, ls, rfl, _⟩ := h
    rfl
  · obtain ⟨a, n, ls, rfl, ⟨lv, hA, hL⟩, hn7, hok, q⟩ := h
    refine ⟨_, pss_cons (ps_setLc (i := 2) (own := [("place", 6)]) (g := gName 6) (tt := tYes) (te := tOp rEq (tVar 6) (tC (.int 0))) rfl scHang.nd rfl rfl (sw_true rfl rfl rfl (by decide +kernel)) (pi_range1 rfl T.b_range (pa_cons (pv 0) pa_nil))
        (blkOk_by (N := ["n", "links", "reached", "turn", "one", "other", "place"]) (sc := defScope s_hang_together) (by decide +kernel)) (fun _ _ _ _ _ => pg_name (i := 6) scHang.nd rfl (Or.inl rfl)) (fun _ _ _ _ _ => pts_nil) (fun _ _ _ _ _ => pe_cmpR op_eq (pv 6) pe_int (nomark _)))
      (pss_cons (ps_for PassesOwn.never rfl (pi_range1 rfl T.b_range (pa_cons (pv 0) pa_nil)) (pg_name (i := 3) scHang.nd rfl (.inl rfl))
        (pss_one (ps_for PassesOwn.never rfl (pi_list (pv 1)) (pg_tup rfl (pgs_cons (pg_name (i := 4) scHang.nd rfl (.inl rfl)) (pgs_cons (pg_name (i := 5) scHang.nd rfl (.inl rfl)) pgs_nil)))
          (pss_one (ps_if (PW.pt (pw_or (pt_val (pe_ix ix_list (pv 2) (pv 4) (fun _ _ => rfl))) (pw_or1 (pt_val (pe_ix ix_list (pv 2) (pv 5) (fun _ _ => rfl))))))
            (pss_cons (ps_asg pe_bl (pg_sub (pv 2) (pv 4) set_list)) (pss_one (ps_asg pe_bl (pg_sub (pv 2) (pv 5) set_list)))) pss_nil)))))
      (pss_one (ps_ret (pe_callB (cr_all rfl) (by rfl) T.b_all (by decide +kernel) (pa_cons (pv 2) pa_nil))))), ?_⟩
    have lr0 : (reach0 n).length = n := by
      unfold reach0
      simp
    refine ⟨_, rfl, (n : Int), rfl, by omega, by omega, fun D nD => ?_⟩
    refine lc_range (lo := 0) (n := n) (fun i H' => Same H H' ∧ H' D = some (.lst (((reach0 n).take i).map V.bl))) ⟨same_upd nD, upd_same⟩ ?_ ?_
    · rintro i H1 hi ⟨s1, hD⟩
      refine ⟨rfl, ?_⟩
      refine ⟨_, rfl, rfl, _, hD, small1000 (by rw [List.length_map, List.length_take]; omega), fun b o e => ?_, ?_⟩
      · rw [upd_ne (ne_of_none e nD)]
        exact s1 _ _ e
      · rw [upd_same]
        have hg : (reach0 n)[i]? = some (decide (i = 0)) := by
          unfold reach0
          rw [List.getElem?_map, List.getElem?_range hi]
          rfl
        rw [take_more hg, List.map_append]
        have e : decide (V.int (0 + (i : Int)) = V.int 0) = decide (i = 0) := by
          rw [decide_eq_decide]
          constructor
          · intro z
            have z' := V.int.inj z
            omega
          · intro z
            subst z
            rfl
        show some (HO.lst (((reach0 n).take i).map V.bl ++ [.bl (decide (V.int (0 + (i : Int)) = V.int 0))])) = _
        rw [e]
        rfl
    rintro H1 ⟨s1, hD⟩
    rw [List.take_of_length_le (by rw [lr0]; exact Nat.le_refl n)] at hD
    refine ⟨_, rfl, (n : Int), rfl, by omega, by omega, ?_⟩
    refine for_range (lo := 0) (n := n) (fun j σ H' => ∃ y3 y4 y5, σ = [some (nv n), some (.ref a), some (.ref D), y3, y4, y5, none] ∧ Same H H' ∧ H' D = some (.lst ((rounds ls j (reach0 n)).map V.bl))) ⟨none, none, none, rfl, s1, hD⟩ ?_ ?_
    · rintro j σ H2 hj ⟨y3, y4, y5, rfl, s2, hD2⟩
      refine ⟨_, rfl, a, rfl, ⟨_, SqL.of (s2 _ _ hA)⟩, for_list (K := K) (a := a) (xs := lv) (fun i σ H' => ∃ y3 y4 y5, σ = [some (nv n), some (.ref a), some (.ref D), y3, y4, y5, none] ∧ Same H H' ∧ H' D = some (.lst ((pass (ls.take i) (rounds ls j (reach0 n))).map V.bl)))
        ⟨_, _, _, rfl, s2, hD2⟩ (fun i σ H' _ ⟨_, _, _, _, s3, _⟩ => SqL.of (s3 _ _ hA)) ?_ ?_⟩
      · rintro i x σ H3 hi ⟨z3, z4, z5, rfl, s3, hD3⟩
        have hil : i < ls.length := by
          rw [← hL.1]
          exact (List.getElem?_eq_some_iff.mp hi).1
        have hp : ls[i]? = some ls[i] := List.getElem?_eq_getElem hil
        generalize ls[i] = p at hp
        have hpo := hok p (List.mem_of_getElem? hp)
        obtain ⟨t, ht1, ht2⟩ := hL.2 i p hp
        have ex : x = .ref t := Option.some.inj (hi.symm.trans ht1)
        subst ex
        have epass : pass (ls.take (i + 1)) (rounds ls j (reach0 n)) = pass1 (pass (ls.take i) (rounds ls j (reach0 n))) p := by
          rw [take_more hp]
          unfold pass
          rw [List.foldl_append]
          rfl
        rw [epass]
        have lR : (pass (ls.take i) (rounds ls j (reach0 n))).length = n := by rw [pass_length, rounds_length, lr0]
        generalize pass (ls.take i) (rounds ls j (reach0 n)) = R at hD3 lR
        have g1 := getD_bl (r := R) (u := p.1) (by rw [lR]; exact hpo.1)
        have g2 := getD_bl (r := R) (u := p.2) (by rw [lR]; exact hpo.2.1)
        refine ⟨t, _, rfl, SqT.of (s3 _ _ ht2), rfl, _, _, rfl, _, _, rfl, rfl, ?_⟩
        -- both are set
        have stores : (R.getD p.1 false || R.getD p.2 false) = true → ∀ D' : Ends, D'.nx = (fun σ H' => ∃ y3 y4 y5, σ = [some (nv n), some (.ref a), some (.ref D), y3, y4, y5, none] ∧ Same H H' ∧ H' D = some (.lst ((pass1 R p).map V.bl))) →
            tSeq (tAsg (tC (.bl true)) (gSub (tVar 2) (tVar 4) rSetL)) (tAsg (tC (.bl true)) (gSub (tVar 2) (tVar 5) rSetL)) D' [some (nv n), some (.ref a), some (.ref D), z3, some (nv p.1), some (nv p.2), none] H3 := fun c D' eD => by
          refine ⟨_, rfl, _, rfl, D, _, _, p.1, rfl, rfl, hD3, ixN_of (by rw [List.length_map, lR]; exact hpo.1), ?_⟩
          refine ⟨_, rfl, _, rfl, D, _, _, p.2, rfl, rfl, upd_same, ixN_of (by rw [List.length_set, List.length_map, lR]; exact hpo.2.1), ?_⟩
          rw [eD]
          refine ⟨_, _, _, rfl, fun b o e => ?_, ?_⟩
          · rw [upd_ne (ne_of_none e nD), upd_ne (ne_of_none e nD)]
            exact s3 _ _ e
          · rw [upd_same]
            unfold pass1
            rw [if_pos c, List.map_set, List.map_set]
        refine ⟨_, rfl, _, rfl, D, _, _, _, rfl, rfl, SqL.of hD3, atI_nat g1, _, rfl, ?_⟩
        cases c1 : R.getD p.1 false with
        | true =>
          refine if_true_of rfl (if_true_of rfl ?_)
          exact stores (by rw [c1, Bool.true_or]) _ rfl
        | false =>
          refine if_false_of rfl ?_
          refine ⟨_, rfl, _, rfl, D, _, _, _, rfl, rfl, SqL.of hD3, atI_nat g2, _, rfl, ?_⟩
          cases c2 : R.getD p.2 false with
          | true =>
            refine if_true_of rfl ?_
            exact stores (by rw [c1, c2, Bool.or_true]) _ rfl
          | false =>
            refine if_false_of rfl ?_
            refine ⟨_, _, _, rfl, s3, ?_⟩
            unfold pass1
            rw [c1, c2, Bool.or_false, if_neg Bool.false_ne_true]
            exact hD3
      · rintro σ H3 ⟨z3, z4, z5, rfl, s3, hD3⟩
        rw [hL.1, List.take_length] at hD3
        exact ⟨_, _, _, rfl, s3, hD3⟩
    · rintro σ H2 ⟨y3, y4, y5, rfl, s2, hD2⟩
      exact ⟨_, rfl, D, _, rfl, SqL.of hD2, q H2 s2⟩
end
end Wp
namespace Wp
open PySem PySem.Spec PyProof.Rows L2
theorem scExits : FnScope ["n", "links", "exits", "one", "other", "exit_of_one", "exit_of_other", "place"] ["n", "links"] (defScope s_exits_of_places) := ⟨rfl, rfl, rfl, by decide +kernel, rfl, by decide +kernel, by decide +kernel⟩
section
variable {P : Program} {w : World} {K : PySem.W.Frag} {mg : Str → Option Value} {base : Heap}
/-! ### exits_of_places -/
/-- the table while it is built -/
def Bld (H0 H : Hp) (D : Addr) (tab : List (List (Nat × Nat))) : Prop := ∃ qs : List Addr, H D = some (.lst (qs.map V.ref)) ∧ qs.length = tab.length ∧ qs.Nodup ∧ (∀ q ∈ qs, q ≠ D ∧ H0 q = none) ∧
  ∀ (i : Nat) (r : List (Nat × Nat)), tab[i]? = some r → ∃ q vs, qs[i]? = some q ∧ H q = some (.lst vs) ∧ PairsAt H vs r
theorem Bld.tab {H0 H : Hp} {D : Addr} {tab : List (List (Nat × Nat))} (h : Bld H0 H D tab) : TabAt H D tab := by
  obtain ⟨qs, e, hl, _, _, p⟩ := h
  exact ⟨qs, e, hl, p⟩
theorem Bld.keep {H0 H H' : Hp} {D : Addr} {tab : List (List (Nat × Nat))} (s : Same H H') (h : Bld H0 H D tab) : Bld H0 H' D tab := by
  obtain ⟨qs, e, hl, nd, ne, p⟩ := h
  refine ⟨qs, s _ _ e, hl, nd, ne, fun i r hr => ?_⟩
  obtain ⟨q, vs, e1, e2, e3⟩ := p i r hr
  exact ⟨q, vs, e1, s _ _ e2, e3.keep (Same.stup s)⟩
/-- one more exit of place u -/
theorem Bld.push {H0 H : Hp} {D : Addr} {tab : List (List (Nat × Nat))} {u : Nat} {r : List (Nat × Nat)} {qs : List Addr} {q : Addr} {vs : List V} {t : Addr} {x : Nat × Nat}
    (hD : H D = some (.lst (qs.map V.ref))) (hl : qs.length = tab.length) (nd : qs.Nodup) (ne : ∀ q ∈ qs, q ≠ D ∧ H0 q = none) (p : ∀ (i : Nat) (r : List (Nat × Nat)), tab[i]? = some r → ∃ q vs, qs[i]? = some q ∧ H q = some (.lst vs) ∧ PairsAt H vs r)
    (hr : tab[u]? = some r) (hq : qs[u]? = some q) (hv : H q = some (.lst vs)) (hP : PairsAt H vs r) (ht : H t = some (.tup [nv x.1, nv x.2])) : Bld H0 (upd H q (.lst (vs ++ [.ref t]))) D (tab.set u (r ++ [x])) := by
  have st : STup H (upd H q (.lst (vs ++ [.ref t]))) := stup_lst hv
  have hqm : q ∈ qs := List.mem_of_getElem? hq
  refine ⟨qs, ?_, by rw [hl, List.length_set], nd, ne, fun i r' hr' => ?_⟩
  · rw [upd_ne (ne q hqm).1.symm]
    exact hD
  · by_cases c : u = i
    · subst c
      rw [List.getElem?_set_self (List.getElem?_eq_some_iff.mp hr).1] at hr'
      cases hr'
      exact ⟨q, _, hq, upd_same, (hP.keep st).snoc (st _ _ ht)⟩
    · rw [List.getElem?_set_ne c] at hr'
      obtain ⟨q', vs', e1, e2, e3⟩ := p i r' hr'
      refine ⟨q', vs', e1, ?_, e3.keep st⟩
      have nq : q' ≠ q := fun z => c (by
        subst z
        exact nd_ix nd hq e1)
      rw [upd_ne nq]
      exact e2
theorem tab_snoc {n : Nat} {ls : List (Nat × Nat)} {p : Nat × Nat} (hp : Ok1 n p) :
    (((List.range n).map (row ls)).set p.1 (row ls p.1 ++ [(p.2, (row ls p.2).length)])).set p.2 (row ls p.2 ++ [(p.1, (row ls p.1).length)]) = (List.range n).map (row (ls ++ [p])) := by
  obtain ⟨a, b⟩ := p
  obtain ⟨h1, h2, h3⟩ := hp
  apply List.ext_getElem?
  intro i
  by_cases hi : i < n
  · rw [List.getElem?_map, List.getElem?_range hi]
    show _ = some (row (ls ++ [(a, b)]) i)
    rw [row_snoc]
    by_cases c2 : b = i
    · subst c2
      rw [List.getElem?_set_self (by simpa using hi)]
      have e : touch (a, b) b = true := by
        unfold touch
        simp
      have eo : oth (a, b) b = a := if_neg h3
      rw [e, eo, if_pos rfl]
    · rw [List.getElem?_set_ne c2]
      by_cases c1 : a = i
      · subst c1
        rw [List.getElem?_set_self (by simpa using hi)]
        have e : touch (a, b) a = true := by
          unfold touch
          simp
        have eo : oth (a, b) a = b := if_pos rfl
        rw [e, eo, if_pos rfl]
      · rw [List.getElem?_set_ne c1, List.getElem?_map, List.getElem?_range hi]
        have e : touch (a, b) i = false := by
          unfold touch
          simp [c1, c2]
        rw [e, if_neg Bool.false_ne_true, List.append_nil]
        rfl
  · rw [List.getElem?_eq_none (by simp; omega), List.getElem?_eq_none (by simp; omega)]
def spExits : Sp := fun vs H Q _ => ∃ (a : Addr) (n : Nat) (ls : List (Nat × Nat)), vs = [nv n, .ref a] ∧ LinksAt H a ls ∧ n ≤ 7 ∧ ls.length ≤ 100 ∧ (∀ p ∈ ls, Ok1 n p) ∧
  ∀ H' q, Same H H' → TabAt H' q ((List.range n).map (row ls)) → Q (.ref q) H'
theorem ok_exits {f : Addr} {fd : FuncData} {k : Nat} (F : Fun K "exits_of_places" "exits_of_places" s_exits_of_places f fd) (T : Txt mg) : FnOk P w K mg base CX0 (k + 1) f fd ["n", "links"] spExits := by
  refine F.ok scExits (fun vs H Q E h => ?_) (fun cdv A outer s H vs Q E hr h => ?_)
  · obtain ⟨a, n, ls, rfl, _⟩ := h
    rfl
  · obtain ⟨a, n, ls, rfl, ⟨lv, hA, hL⟩, hn7, hlen, hok, q⟩ := h
    refine ⟨_, pss_cons (ps_setLc (i := 2) (own := [("place", 7)]) (g := gName 7) (tt := tYes) (te := tLst tNil) rfl scExits.nd rfl rfl (sw_true rfl rfl rfl (by decide +kernel)) (pi_range1 rfl T.b_range (pa_cons (pv 0) pa_nil))
        (blkOk_by (N := ["n", "links", "exits", "one", "other", "exit_of_one", "exit_of_other", "place"]) (sc := defScope s_exits_of_places) (by decide +kernel)) (fun _ _ _ _ _ => pg_name (i := 7) scExits.nd rfl (Or.inl rfl)) (fun _ _ _ _ _ => pts_nil) (fun _ _ _ _ _ => pe_lst pa_nil))
      (pss_cons (ps_for PassesOwn.never rfl (pi_list (pv 1)) (pg_tup rfl (pgs_cons (pg_name (i := 3) scExits.nd rfl (.inl rfl)) (pgs_cons (pg_name (i := 4) scExits.nd rfl (.inl rfl)) pgs_nil)))
        (pss_cons (ps_set (i := 5) scExits.nd rfl (.inl rfl) (pe_callB call_len_seq (by rfl) T.b_len PySem.boot_len (pa_cons (pe_ix ix_list (pv 2) (pv 3) (fun _ _ => rfl)) pa_nil)))
        (pss_cons (ps_set (i := 6) scExits.nd rfl (.inl rfl) (pe_callB call_len_seq (by rfl) T.b_len PySem.boot_len (pa_cons (pe_ix ix_list (pv 2) (pv 4) (fun _ _ => rfl)) pa_nil)))
        (pss_cons (ps_expr (pe_bm PySem.F.plainAttrs_list PySem.F.slot_list_append PySem.F.type_list_append mt_append (pe_ix ix_list (pv 2) (pv 3) (fun _ _ => rfl)) (pa_cons (pe_tup (pa_cons (pv 4) (pa_cons (pv 6) pa_nil))) pa_nil)))
        (pss_one (ps_expr (pe_bm PySem.F.plainAttrs_list PySem.F.slot_list_append PySem.F.type_list_append mt_append (pe_ix ix_list (pv 2) (pv 4) (fun _ _ => rfl)) (pa_cons (pe_tup (pa_cons (pv 3) (pa_cons (pv 5) pa_nil))) pa_nil))))))))
      (pss_one (ps_ret (pv 2)))), ?_⟩
    refine ⟨_, rfl, (n : Int), rfl, by omega, by omega, fun D nD => ?_⟩
    refine lc_range (lo := 0) (n := n) (fun i H' => Same H H' ∧ Bld H H' D (List.replicate i [])) ⟨same_upd nD, [], upd_same, rfl, List.nodup_nil, (fun _ h => nomatch h), (fun i r hr => by simp at hr)⟩ ?_ ?_
    · rintro i H1 hi ⟨s1, qs, hD, hl, nd, ne, p⟩
      refine ⟨rfl, ?_⟩
      refine ⟨Nat.zero_le _, fun z nz => ⟨qs.map V.ref, ?_, small1000 ?_, ?_⟩⟩
      · rw [upd_ne (ne_of_none hD nz)]
        exact hD
      · rw [List.length_map, hl, List.length_replicate]
        omega
      have s2 := same_upd (o := .lst []) nz
      have nzD : z ≠ D := (ne_of_none hD nz).symm
      refine ⟨fun b o e => ?_, qs ++ [z], ?_, ?_, ?_, ?_, ?_⟩
      · rw [upd_ne (ne_of_none e nD)]
        exact s2 _ _ (s1 _ _ e)
      · rw [upd_same, List.map_append]
        rfl
      · rw [List.length_append, hl, List.length_replicate, List.length_replicate]
        rfl
      · rw [List.nodup_append]
        refine ⟨nd, by simp, fun b hb c hc => ?_⟩
        rw [List.mem_singleton.mp hc]
        intro e
        subst e
        obtain ⟨j, hj, ej⟩ := List.getElem_of_mem hb
        have hjt : (List.replicate i ([] : List (Nat × Nat)))[j]? = some [] := by
          rw [List.getElem?_replicate, if_pos (by rw [hl, List.length_replicate] at hj; exact hj)]
        obtain ⟨q', vs', e1, e2, _⟩ := p j [] hjt
        rw [List.getElem?_eq_getElem hj, ej] at e1
        cases e1
        rw [nz] at e2
        cases e2
      · intro b hb
        rcases List.mem_append.mp hb with hb | hb
        · exact ne b hb
        · rw [List.mem_singleton.mp hb]
          exact ⟨nzD, s1.free nz⟩
      · intro j r hr
        have hji : j < i + 1 := by
          have := (List.getElem?_eq_some_iff.mp hr).1
          rw [List.length_replicate] at this
          exact this
        rw [List.getElem?_replicate, if_pos hji] at hr
        cases hr
        by_cases c : j < i
        · obtain ⟨q', vs', e1, e2, e3⟩ := p j [] (by rw [List.getElem?_replicate, if_pos c])
          refine ⟨q', vs', ?_, ?_, ?_⟩
          · rw [List.getElem?_append_left (by rw [hl, List.length_replicate]; exact c)]
            exact e1
          · rw [upd_ne (ne q' (List.mem_of_getElem? e1)).1]
            exact s2 _ _ e2
          · have h0 : vs' = [] := List.eq_nil_of_length_eq_zero e3.1
            rw [h0]
            exact PairsAt.nil
        · have cj : j = i := by omega
          subst cj
          refine ⟨z, [], ?_, ?_, PairsAt.nil⟩
          · rw [List.getElem?_append_right (by rw [hl, List.length_replicate]; exact Nat.le_refl _), hl, List.length_replicate, Nat.sub_self]
            rfl
          · rw [upd_ne nzD]
            exact upd_same
    rintro H1 ⟨s1, hB⟩
    have e0 : List.replicate n ([] : List (Nat × Nat)) = (List.range n).map (row (ls.take 0)) := by
      apply List.ext_getElem?
      intro i
      by_cases hi : i < n
      · rw [List.getElem?_replicate, if_pos hi, List.getElem?_map, List.getElem?_range hi]
        rfl
      · rw [List.getElem?_eq_none (by simp; omega), List.getElem?_eq_none (by simp; omega)]
    rw [e0] at hB
    refine ⟨_, rfl, a, rfl, ⟨_, SqL.of (s1 _ _ hA)⟩, for_list (K := K) (a := a) (xs := lv) (fun i σ H' => ∃ y3 y4 y5 y6, σ = [some (nv n), some (.ref a), some (.ref D), y3, y4, y5, y6, none] ∧ Same H H' ∧ Bld H H' D ((List.range n).map (row (ls.take i))))
      ⟨_, _, _, _, rfl, s1, hB⟩ (fun i σ H' _ ⟨_, _, _, _, _, s3, _⟩ => SqL.of (s3 _ _ hA)) ?_ ?_⟩
    · rintro i x σ H2 hi ⟨y3, y4, y5, y6, rfl, s2, qs, hD, hl, nd, ne, pr⟩
      have hil : i < ls.length := by
        rw [← hL.1]
        exact (List.getElem?_eq_some_iff.mp hi).1
      have hp : ls[i]? = some ls[i] := List.getElem?_eq_getElem hil
      generalize ls[i] = p at hp
      have hpo := hok p (List.mem_of_getElem? hp)
      obtain ⟨t, ht1, ht2⟩ := hL.2 i p hp
      have ex : x = .ref t := Option.some.inj (hi.symm.trans ht1)
      subst ex
      have etab : (List.range n).map (row (ls.take (i + 1))) = (((List.range n).map (row (ls.take i))).set p.1 (row (ls.take i) p.1 ++ [(p.2, (row (ls.take i) p.2).length)])).set p.2 (row (ls.take i) p.2 ++ [(p.1, (row (ls.take i) p.1).length)]) := by
        rw [take_more hp, tab_snoc hpo]
      rw [etab]
      have lrow : ∀ u, (row (ls.take i) u).length ≤ 100 := fun u => by
        rw [row_length, exs_def]
        refine Nat.le_trans (List.length_filter_le _ _) ?_
        rw [List.length_range, List.length_take]
        omega
      have ht : ∀ u, u < n → ((List.range n).map (row (ls.take i)))[u]? = some (row (ls.take i) u) := fun u hu => by
        rw [List.getElem?_map, List.getElem?_range hu]
        rfl
      obtain ⟨q1, vs1, a1, b1, c1⟩ := pr p.1 _ (ht p.1 hpo.1)
      obtain ⟨q2, vs2, a2, b2, c2⟩ := pr p.2 _ (ht p.2 hpo.2.1)
      have n12 : q2 ≠ q1 := fun z => hpo.2.2 (by
        subst z
        exact (nd_ix nd a2 a1).symm)
      have i1 : atI (qs.map V.ref) (p.1 : Int) = some (.ref q1) := atI_nat (by rw [List.getElem?_map, a1]; rfl)
      have i2 : atI (qs.map V.ref) (p.2 : Int) = some (.ref q2) := atI_nat (by rw [List.getElem?_map, a2]; rfl)
      refine ⟨t, _, rfl, SqT.of (s2 _ _ ht2), rfl, _, _, rfl, _, _, rfl, rfl, ?_⟩
      -- the two lengths
      refine ⟨_, rfl, _, rfl, D, _, _, _, rfl, rfl, SqL.of hD, i1, q1, vs1, rfl, .inl (SqL.of b1), ?_⟩
      refine ⟨_, rfl, _, rfl, D, _, _, _, rfl, rfl, SqL.of hD, i2, q2, vs2, rfl, .inl (SqL.of b2), ?_⟩
      -- exits[one].append((other, exit_of_other))
      refine ⟨_, rfl, _, rfl, D, _, _, _, rfl, rfl, SqL.of hD, i1, .inl ⟨rfl, _, SqL.of b1⟩, _, rfl, _, rfl, (by show 2 ≤ sizeLine; decide), fun t1 nt1 => ?_⟩
      have st1 := same_upd (o := .tup [nv p.2, .int vs2.length]) nt1
      refine ⟨q1, vs1, _, rfl, rfl, st1 _ _ b1, small1000 (by rw [c1.1]; exact Nat.le_trans (lrow _) (by decide)), ?_⟩
      have B1 : Bld H (upd (upd H2 t1 (.tup [nv p.2, .int vs2.length])) q1 (.lst (vs1 ++ [.ref t1]))) D (((List.range n).map (row (ls.take i))).set p.1 (row (ls.take i) p.1 ++ [(p.2, (row (ls.take i) p.2).length)])) := by
        refine Bld.push (x := (p.2, (row (ls.take i) p.2).length)) (st1 _ _ hD) hl nd ne (fun j r hr => ?_) (ht p.1 hpo.1) a1 (st1 _ _ b1) (c1.keep (Same.stup st1)) ?_
        · obtain ⟨q', vs', e1, e2, e3⟩ := pr j r hr
          exact ⟨q', vs', e1, st1 _ _ e2, e3.keep (Same.stup st1)⟩
        · rw [upd_same, c2.1]
      have hN1 : H q1 = none := (ne q1 (List.mem_of_getElem? a1)).2
      have hN2 : H q2 = none := (ne q2 (List.mem_of_getElem? a2)).2
      have sH1 : Same H (upd (upd H2 t1 (.tup [nv p.2, .int vs2.length])) q1 (.lst (vs1 ++ [.ref t1]))) := fun b o e => by
        rw [upd_ne (ne_of_none e hN1)]
        exact st1 _ _ (s2 _ _ e)
      generalize upd (upd H2 t1 (.tup [nv p.2, .int vs2.length])) q1 (.lst (vs1 ++ [.ref t1])) = H3 at B1 sH1
      obtain ⟨qs', hD', hl', nd', ne', pr'⟩ := B1
      have ht2' : (((List.range n).map (row (ls.take i))).set p.1 (row (ls.take i) p.1 ++ [(p.2, (row (ls.take i) p.2).length)]))[p.2]? = some (row (ls.take i) p.2) := by
        rw [List.getElem?_set_ne hpo.2.2]
        exact ht p.2 hpo.2.1
      obtain ⟨q3, vs3, a3, b3, c3⟩ := pr' p.2 _ ht2'
      have i3 : atI (qs'.map V.ref) (p.2 : Int) = some (.ref q3) := atI_nat (by rw [List.getElem?_map, a3]; rfl)
      have hN3 : H q3 = none := (ne' q3 (List.mem_of_getElem? a3)).2
      -- exits[other].append((one, exit_of_one))
      refine ⟨_, rfl, _, rfl, D, _, _, _, rfl, rfl, SqL.of hD', i3, .inl ⟨rfl, _, SqL.of b3⟩, _, rfl, _, rfl, (by show 2 ≤ sizeLine; decide), fun t2 nt2 => ?_⟩
      have st2 := same_upd (o := .tup [nv p.1, .int vs1.length]) nt2
      refine ⟨q3, vs3, _, rfl, rfl, st2 _ _ b3, small1000 (by rw [c3.1]; exact Nat.le_trans (lrow _) (by decide)), _, _, _, _, rfl, fun b o e => ?_, ?_⟩
      · rw [upd_ne (ne_of_none e hN3)]
        exact st2 _ _ (sH1 _ _ e)
      · refine Bld.push (x := (p.1, (row (ls.take i) p.1).length)) (st2 _ _ hD') hl' nd' ne' (fun j r hr => ?_) ht2' a3 (st2 _ _ b3) (c3.keep (Same.stup st2)) ?_
        · obtain ⟨q', vs', e1, e2, e3⟩ := pr' j r hr
          exact ⟨q', vs', e1, st2 _ _ e2, e3.keep (Same.stup st2)⟩
        · rw [upd_same, c1.1]
    · rintro σ H2 ⟨y3, y4, y5, y6, rfl, s2, hB2⟩
      rw [hL.1, List.take_length] at hB2
      exact ⟨_, rfl, q H2 D s2 hB2.tab⟩
end
end Wp
namespace Wp
open PySem PySem.Spec PyProof.Rows L2
theorem scIsNet : FnScope ["n", "net", "links"] ["n", "net"] (defScope s_is_net) := ⟨rfl, rfl, rfl, by decide +kernel, rfl, by decide +kernel, by decide +kernel⟩
section
variable {P : Program} {w : World} {K : PySem.W.Frag} {mg : Str → Option Value} {base : Heap}
/-! ### is_net -/
def spIsNet (K : PySem.W.Frag) : Sp := fun vs H Q _ => ∃ (a : Addr) (n : Nat) (l : List Nat), vs = [nv n, .ref a] ∧ SqL K H a (l.map nv) ∧ l.length ≤ 24 ∧
  ∀ H', Same H H' → Q (.bl (isNet n l)) H'
theorem ok_is_net {f fL fA fH : Addr} {fd fdL fdA fdH : FuncData} (F : Fun K "is_net" "is_net" s_is_net f fd) (T : Txt mg) (L : Dfn K mg "links_of" s_links_of ["net"] fL fdL) (A' : Dfn K mg "links_are_allowed" s_links_are_allowed ["n", "links"] fA fdA) (H' : Dfn K mg "hang_together" s_hang_together ["n", "links"] fH fdH) :
    FnOk P w K mg base CX0 2 f fd ["n", "net"] (spIsNet K) := by
  have GL : FnOk P w K mg base CX0 1 fL fdL ["net"] (spLinksOf K) := ok_links_of L.F T
  have GA : FnOk P w K mg base CX0 1 fA fdA ["n", "links"] spAllowed := ok_allowed A'.F T
  have GH : FnOk P w K mg base CX0 1 fH fdH ["n", "links"] spHang := ok_hang H'.F T
  refine F.ok scIsNet (fun vs H Q E h => ?_) (fun cdv A outer s H vs Q E hr h => ?_)
  · obtain ⟨a, n, l, rfl, _⟩ := h
    rfl
  · obtain ⟨a, n, l, rfl, hS, hlen, q⟩ := h
    refine ⟨_, pss_cons (ps_if (PW.pt (pw_or (pt_cmpR op_lt (pv 0) pe_int (nomark _)) (pw_or1 (pt_cmpR op_gt (pv 0) (pk rfl T.c_MOST_PLACES) (nomark _))))) (pss_one (ps_ret pe_bl)) pss_nil)
      (pss_cons (ps_if (PW.pt (pw_or (pt_cmpR op_ne (pe_op op_mod (pe_callB call_len_seq (by rfl) T.b_len PySem.boot_len (pa_cons (pv 1) pa_nil)) pe_int) pe_int (nomark _)) (pw_or1 (pt_cmpR op_gt (pe_callB call_len_seq (by rfl) T.b_len PySem.boot_len (pa_cons (pv 1) pa_nil)) (pe_op op_mul pe_int (pk rfl T.c_MOST_LINKS)) (nomark _))))) (pss_one (ps_ret pe_bl)) pss_nil)
      (pss_cons (ps_set (i := 2) scIsNet.nd rfl (.inl rfl) (pe_call GL hr (by rfl) L.g L.F.kp L.b .nil pass0 (pa_cons (pv 1) pa_nil)))
      (pss_one (ps_ret (pe_and (pe_call GA hr (by rfl) A'.g A'.F.kp A'.b .nil pass0 (pa_cons (pv 0) (pa_cons (pv 2) pa_nil))) (pe_one (pe_call GH hr (by rfl) H'.g H'.F.kp H'.b .nil pass0 (pa_cons (pv 0) (pa_cons (pv 2) pa_nil))))))))), ?_⟩
    have el : (l.map nv).length = l.length := List.length_map _
    have no : ∀ H1, Same H H1 → ¬ (isNet n l = true) → Q (.bl false) H1 := fun H1 s1 c => by
      have := q H1 s1
      rw [Bool.eq_false_iff.mpr c] at this
      exact this
    refine ⟨_, rfl, _, _, rfl, rfl, _, rfl, ?_⟩
    by_cases c1 : n < 1
    · refine if_true_of (decide_eq_true (by omega)) (if_true_of rfl ?_)
      exact no _ (Same.refl H) (fun z => by have := (isNet_iff.mp z).1; omega)
    refine if_false_of (decide_eq_false (by omega)) ?_
    refine ⟨_, rfl, _, _, rfl, rfl, _, rfl, ?_⟩
    by_cases c2 : 7 < n
    · refine if_true_of (decide_eq_true (by omega)) ?_
      exact no _ (Same.refl H) (fun z => by have := (isNet_iff.mp z).1; omega)
    refine if_false_of (decide_eq_false (by omega)) ?_
    refine ⟨_, rfl, a, _, rfl, .inl hS, _, _, rfl, rfl, (by show (0 : Int) < 2; decide), rfl, _, rfl, ?_⟩
    rw [el]
    by_cases c3 : l.length % 2 = 0
    · refine if_false_of ?_ ?_
      · rw [decide_eq_true (congrArg V.int (show ((l.length : Nat) : Int) % 2 = 0 by omega))]
        rfl
      refine ⟨_, rfl, a, _, rfl, .inl hS, _, _, rfl, rfl, .inl ⟨by decide, by decide⟩, _, _, rfl, rfl, _, rfl, ?_⟩
      rw [el]
      by_cases c4 : 20 < l.length
      · refine if_true_of (decide_eq_true (by omega)) ?_
        exact no _ (Same.refl H) (fun z => by have := (isNet_iff.mp z).2.1; omega)
      refine if_false_of (decide_eq_false (by omega)) ?_
      -- links = links_of(net)
      refine ⟨_, rfl, a, l, rfl, hS, c3, hlen, fun H1 b s1 hL => ?_⟩
      refine ⟨_, rfl, _, rfl, b, n, prs l, rfl, hL, by rw [prs_length]; omega, fun H2 s2 => ?_⟩
      refine ⟨_, rfl, ?_⟩
      by_cases c5 : Allowed n (prs l)
      · refine if_true_of (decide_eq_true c5) ?_
        refine ⟨_, rfl, _, rfl, b, n, prs l, rfl, hL.keep s2, by omega, c5.1, fun H3 s3 => ?_⟩
        have := q H3 (s1.trans (s2.trans s3))
        unfold isNet at this
        rw [decide_eq_true (show 1 ≤ n ∧ n ≤ 7 by omega), decide_eq_true (show l.length % 2 = 0 ∧ l.length ≤ 20 by omega), decide_eq_true c5, Bool.true_and, Bool.true_and, Bool.true_and] at this
        exact this
      · refine if_false_of (decide_eq_false c5) ?_
        exact no _ (s1.trans s2) (fun z => c5 (isNet_iff.mp z).2.2.1)
    · refine if_true_of ?_ (if_true_of rfl ?_)
      · rw [decide_eq_false (fun z => c3 (by
          have e : ((l.length : Nat) : Int) % 2 = 0 := V.int.inj z
          omega))]
        rfl
      exact no _ (Same.refl H) (fun z => c3 (isNet_iff.mp z).2.1.1)
end
end Wp
namespace Wp
open PySem PySem.Spec PyProof.Rows L2
theorem scRefusalS : FnScope ["n", "m", "u", "v", "net", "second"] ["n", "m", "u", "v", "net", "second"] (defScope s_refusal_of_two) := ⟨rfl, rfl, rfl, by decide +kernel, rfl, by decide +kernel, by decide +kernel⟩
section
variable {P : Program} {w : World} {K : PySem.W.Frag} {mg : Str → Option Value} {base : Heap}
/-! ### refusal_of_two -/
def spRefusalS (K : PySem.W.Frag) : Sp := fun vs H Q _ => ∃ (a b : Addr) (n m u v : Nat) (net second : List Nat), vs = [nv n, nv m, nv u, nv v, .ref a, .ref b] ∧ SqL K H a (net.map nv) ∧ SqL K H b (second.map nv) ∧ net.length ≤ 24 ∧ second.length ≤ 24 ∧
  ∀ H', Same H H' → Q (.int (refusalS n m u v net second)) H'
theorem ok_refusalS {f fN : Addr} {fd fdN : FuncData} (F : Fun K "refusal_of_two" "refusal_of_two" s_refusal_of_two f fd) (T : Txt mg) (N : Dfn K mg "is_net" s_is_net ["n", "net"] fN fdN) (GN : FnOk P w K mg base CX0 2 fN fdN ["n", "net"] (spIsNet K)) :
    FnOk P w K mg base CX0 3 f fd ["n", "m", "u", "v", "net", "second"] (spRefusalS K) := by
  refine F.ok scRefusalS (fun vs H Q E h => ?_) (fun cdv A outer s H vs Q E hr h => ?_)
  · obtain ⟨a, b, n, m, u, v, net, second, rfl, _⟩ := h
    rfl
  · obtain ⟨a, b, n, m, u, v, net, second, rfl, hA, hB, hl1, hl2, q⟩ := h
    refine ⟨_, pss_cons (ps_if (PW.pt (pw_or (pt_not (pt_val (pe_call GN hr (by rfl) N.g N.F.kp N.b .nil pass0 (pa_cons (pv 0) (pa_cons (pv 4) pa_nil))))) (pw_or1 (pt_not (pt_val (pe_call GN hr (by rfl) N.g N.F.kp N.b .nil pass0 (pa_cons (pv 1) (pa_cons (pv 5) pa_nil)))))))) (pss_one (ps_ret (pk rfl T.c_NOT_A_NET))) pss_nil)
      (pss_cons (ps_if (PW.pt (pw_or (pt_cmpR op_ge (pv 2) (pv 0) (nomark _)) (pw_or1 (pt_cmpR op_ge (pv 3) (pv 1) (nomark _))))) (pss_one (ps_ret (pk rfl T.c_NO_PLACE))) pss_nil)
      (pss_one (ps_ret (pk rfl T.c_NOT_REFUSED)))), ?_⟩
    refine ⟨_, rfl, _, rfl, a, n, net, rfl, hA, hl1, fun H1 s1 => ?_⟩
    refine ⟨_, rfl, ?_⟩
    by_cases c : isNet n net = true
    · refine if_false_of (by rw [c]; rfl) ?_
      refine ⟨_, rfl, _, rfl, b, m, second, rfl, s1.seq hB, hl2, fun H2 s2 => ?_⟩
      refine ⟨_, rfl, ?_⟩
      have q1 := q H2 (s1.trans s2)
      by_cases d : isNet m second = true
      · unfold refusalS at q1
        rw [if_pos ⟨c, d⟩] at q1
        refine if_false_of (by rw [d]; rfl) ?_
        refine ⟨_, rfl, _, rfl, _, _, rfl, rfl, _, rfl, ?_⟩
        by_cases c1 : n ≤ u
        · rw [if_pos (.inl c1)] at q1
          exact if_true_of (decide_eq_true (by omega)) (if_true_of rfl q1)
        refine if_false_of (decide_eq_false (by omega)) ?_
        refine ⟨_, rfl, _, rfl, _, _, rfl, rfl, _, rfl, ?_⟩
        by_cases c2 : m ≤ v
        · rw [if_pos (.inr c2)] at q1
          exact if_true_of (decide_eq_true (by omega)) q1
        rw [if_neg (by omega)] at q1
        exact if_false_of (decide_eq_false (by omega)) q1
      · unfold refusalS at q1
        rw [if_neg (fun z => d z.2)] at q1
        exact if_true_of (by rw [Bool.eq_false_iff.mpr d]; rfl) q1
    · have q1 := q H1 s1
      unfold refusalS at q1
      rw [if_neg (fun z => c z.1)] at q1
      exact if_true_of (by rw [Bool.eq_false_iff.mpr c]; rfl) (if_true_of rfl q1)
end
end Wp
namespace Wp
open PySem PySem.Spec PyProof.Rows L2
theorem scRefusal2 : FnScope ["n", "m", "u", "v", "net", "second", "refused"] ["n", "m", "u", "v", "net", "second"] (defScope s_refusal_to_tell_apart) := ⟨rfl, rfl, rfl, by decide +kernel, rfl, by decide +kernel, by decide +kernel⟩
section
variable {P : Program} {w : World} {K : PySem.W.Frag} {mg : Str → Option Value} {base : Heap}
/-! ### refusal_to_tell_apart -/
def spRefusal2 (K : PySem.W.Frag) : Sp := fun vs H Q _ => ∃ (a b : Addr) (n m u v : Nat) (net second : List Nat), vs = [nv n, nv m, nv u, nv v, .ref a, .ref b] ∧ SqL K H a (net.map nv) ∧ SqL K H b (second.map nv) ∧ net.length ≤ 24 ∧ second.length ≤ 24 ∧
  ∀ H', Same H H' → Q (.int (refusal2 n m u v net second)) H'
theorem ok_refusal2 {f fN : Addr} {fd fdN : FuncData} (F : Fun K "refusal_to_tell_apart" "refusal_to_tell_apart" s_refusal_to_tell_apart f fd) (T : Txt mg) (N : Dfn K mg "refusal_of_two" s_refusal_of_two ["n", "m", "u", "v", "net", "second"] fN fdN) (GN : FnOk P w K mg base CX0 3 fN fdN ["n", "m", "u", "v", "net", "second"] (spRefusalS K)) :
    FnOk P w K mg base CX0 4 f fd ["n", "m", "u", "v", "net", "second"] (spRefusal2 K) := by
  refine F.ok scRefusal2 (fun vs H Q E h => ?_) (fun cdv A outer s H vs Q E hr h => ?_)
  · obtain ⟨a, b, n, m, u, v, net, second, rfl, _⟩ := h
    rfl
  · obtain ⟨a, b, n, m, u, v, net, second, rfl, hA, hB, hl1, hl2, q⟩ := h
    refine ⟨_, pss_cons (ps_set (i := 6) scRefusal2.nd rfl (.inl rfl) (pe_call GN hr (by rfl) N.g N.F.kp N.b .nil pass0 (pa_cons (pv 0) (pa_cons (pv 1) (pa_cons (pv 2) (pa_cons (pv 3) (pa_cons (pv 4) (pa_cons (pv 5) pa_nil))))))))
      (pss_cons (ps_if (pt_cmpR op_ne (pv 6) (pk rfl T.c_NOT_REFUSED) (nomark _)) (pss_one (ps_ret (pv 6))) pss_nil)
      (pss_cons (ps_if (PW.pt (pw_or (pt_cmpR op_gt (pv 0) (pk rfl T.c_MOST_PLACES_TO_TELL_APART) (nomark _)) (pw_or1 (pt_cmpR op_gt (pv 1) (pk rfl T.c_MOST_PLACES_TO_TELL_APART) (nomark _))))) (pss_one (ps_ret (pk rfl T.c_TOO_MANY_PLACES))) pss_nil)
      (pss_one (ps_ret (pk rfl T.c_NOT_REFUSED))))), ?_⟩
    refine ⟨_, rfl, _, rfl, _, rfl, _, rfl, _, rfl, _, rfl, a, b, n, m, u, v, net, second, rfl, hA, hB, hl1, hl2, fun H1 s1 => ?_⟩
    refine ⟨_, rfl, rfl, _, rfl, ?_⟩
    have q1 := q H1 s1
    rw [refusal2_by] at q1
    by_cases c : refusalS n m u v net second = 0
    · rw [if_pos c] at q1
      refine if_false_of (by rw [c]; rfl) ?_
      refine ⟨_, rfl, _, _, rfl, rfl, _, rfl, ?_⟩
      by_cases c3 : 5 < n
      · rw [if_pos (.inl c3)] at q1
        exact if_true_of (decide_eq_true (by omega)) (if_true_of rfl q1)
      refine if_false_of (decide_eq_false (by omega)) ?_
      refine ⟨_, rfl, _, _, rfl, rfl, _, rfl, ?_⟩
      by_cases c4 : 5 < m
      · rw [if_pos (.inr c4)] at q1
        exact if_true_of (decide_eq_true (by omega)) q1
      rw [if_neg (by omega)] at q1
      exact if_false_of (decide_eq_false (by omega)) q1
    · rw [if_neg c] at q1
      refine if_true_of ?_ ⟨_, rfl, q1⟩
      rw [decide_eq_false (fun z => c (V.int.inj z))]
      rfl
theorem refusal2_zero {n m u v : Nat} {net second : List Nat} (h : refusal2 n m u v net second = 0) : isNet n net = true ∧ isNet m second = true ∧ u < n ∧ v < m ∧ n ≤ 5 ∧ m ≤ 5 := by
  unfold refusal2 at h
  split at h
  · rename_i c
    split at h
    · exact absurd h (by decide)
    · split at h
      · exact absurd h (by decide)
      · exact ⟨c.1, c.2, by omega, by omega, by omega, by omega⟩
  · exact absurd h (by decide)
end
end Wp
namespace Wp
open PySem PySem.Spec PyProof.Rows L2
open Ks539 (Two)
theorem scPair : FnScope ["exits", "exits_of_second", "pair", "letter", "one", "other"] ["exits", "exits_of_second", "pair", "letter"] (defScope s_pair_behind) := ⟨rfl, rfl, rfl, by decide +kernel, rfl, by decide +kernel, by decide +kernel⟩
section
variable {P : Program} {w : World} {K : PySem.W.Frag} {mg : Str → Option Value} {base : Heap}
/-! ### pair_behind -/
/-- what is seen at a place, as data -/
def lkD (a b : Nat) : PyData := .list [.int (a : Int), .int (b : Int)]
theorem lkD_shaped (a b : Nat) : SeqAt.shaped (lkD a b) = true :=
  Bool.and_eq_true_iff.mpr ⟨by simp [lkD, PyData.canLay0, PyData.canLayAll0], decide_eq_true (by simp [lkD, PyData.depth, PyData.depthAll])⟩
theorem lkD_eqv (a b c d : Nat) : PyData.eqv (lkD a b) (lkD c d) = decide (a = c ∧ b = d) := by
  have e : PyData.eqv (lkD a b) (lkD c d) = (((a : Int) == (c : Int)) && (((b : Int) == (d : Int)) && true)) := by simp only [lkD, PyData.eqv, PyData.eqvAll]
  rw [e, Bool.and_true, Bool.eq_iff_iff, Bool.and_eq_true, beq_iff_eq, beq_iff_eq, decide_eq_true_iff]
  omega
theorem dp_lk {H : Hp} {p : Addr} {a b : Nat} (h : H p = some (.lst [nv a, nv b])) : Dp K H (.ref p) (lkD a b) := .lst (SqL.of h) (.cons (.int _) (.cons (.int _) .nil))
theorem differ_eq {n m : Nat} {ls ks : List (Nat × Nat)} (q : Two) : Ks539.differ ⟨n, ls⟩ ⟨m, ks⟩ q = !PyData.eqv (lkD (row ls q.1.u).length (lookP q.1.u q.1.p)) (lkD (row ks q.2.u).length (lookP q.2.u q.2.p)) := by
  unfold Ks539.differ
  rw [look_eq, look_eq, lkD_eqv]
  show (!([(row ls q.1.u).length, lookP q.1.u q.1.p] == [(row ks q.2.u).length, lookP q.2.u q.2.p])) = _
  congr 1
  rw [Bool.eq_iff_iff, beq_iff_eq, decide_eq_true_iff]
  simp only [List.cons.injEq, and_true]
def spPair : Sp := fun vs H Q _ => ∃ (a b k : Addr) (n m : Nat) (ls ks : List (Nat × Nat)) (q : Two) (x : Nat), vs = [.ref a, .ref b, .ref k, nv x] ∧ TabAt H a ((List.range n).map (row ls)) ∧ TabAt H b ((List.range m).map (row ks)) ∧ TwoAt H k q ∧ TwIn n m q ∧
  (∀ p ∈ ls, Ok1 n p) ∧ (∀ p ∈ ks, Ok1 m p) ∧ (tells ⟨n, ls⟩ ⟨m, ks⟩ q x = true → ∀ H', Same H H' → Q .non H') ∧
  (tells ⟨n, ls⟩ ⟨m, ks⟩ q x = false → ∀ H' k', Same H H' → TwoAt H' k' (nxt2 ⟨n, ls⟩ ⟨m, ks⟩ q x) → Q (.ref k') H')
theorem ok_pair {f fB fS : Addr} {fd fdB fdS : FuncData} (F : Fun K "pair_behind" "pair_behind" s_pair_behind f fd) (T : Txt mg) (B : Dfn K mg "step_by" s_step_by ["exits", "place", "pebble", "letter"] fB fdB) (S : Dfn K mg "seen_at" s_seen_at ["exits", "place", "pebble"] fS fdS) :
    FnOk P w K mg base CX0 2 f fd ["exits", "exits_of_second", "pair", "letter"] spPair := by
  have GB : FnOk P w K mg base CX0 1 fB fdB ["exits", "place", "pebble", "letter"] spStepBy := ok_step_by B.F T
  have GS : FnOk P w K mg base CX0 1 fS fdS ["exits", "place", "pebble"] spSeenAt := ok_seen_at S.F T
  refine F.ok scPair (fun vs H Q E h => ?_) (fun cdv A outer s H vs Q E hr h => ?_)
  · obtain ⟨a, b, k, n, m, ls, ks, q, x, rfl, _⟩ := h
    rfl
  · obtain ⟨a, b, k, n, m, ls, ks, q, x, rfl, hA, hB, hk, hq, ok1, ok2, yes, no⟩ := h
    refine ⟨_, pss_cons (ps_set (i := 4) scPair.nd rfl (.inl rfl) (pe_call GB hr (by rfl) B.g B.F.kp B.b .nil pass0 (pa_cons (pv 0) (pa_cons (pe_ix ix_tup (pe_ix ix_tup (pv 2) pe_int (fun _ _ => rfl)) pe_int (fun _ _ => rfl)) (pa_cons (pe_ix ix_tup (pe_ix ix_tup (pv 2) pe_int (fun _ _ => rfl)) pe_int (fun _ _ => rfl)) (pa_cons (pv 3) pa_nil))))))
      (pss_cons (ps_set (i := 5) scPair.nd rfl (.inl rfl) (pe_call GB hr (by rfl) B.g B.F.kp B.b .nil pass0 (pa_cons (pv 1) (pa_cons (pe_ix ix_tup (pe_ix ix_tup (pv 2) pe_int (fun _ _ => rfl)) pe_int (fun _ _ => rfl)) (pa_cons (pe_ix ix_tup (pe_ix ix_tup (pv 2) pe_int (fun _ _ => rfl)) pe_int (fun _ _ => rfl)) (pa_cons (pv 3) pa_nil))))))
      (pss_cons (ps_if (pt_cmpR op_ne (pe_ix ix_tup (pv 4) pe_int (fun _ _ => rfl)) (pe_ix ix_tup (pv 5) pe_int (fun _ _ => rfl)) (nomark _)) (pss_one (ps_ret pe_non)) pss_nil)
      (pss_cons (ps_if (pt_cmpR (op_neD hr.units) (pe_call GS hr (by rfl) S.g S.F.kp S.b .nil pass0 (pa_cons (pv 0) (pa_cons (pe_ix ix_tup (pv 4) pe_int (fun _ _ => rfl)) (pa_cons (pe_ix ix_tup (pv 4) pe_int (fun _ _ => rfl)) pa_nil))))
          (pe_call GS hr (by rfl) S.g S.F.kp S.b .nil pass0 (pa_cons (pv 1) (pa_cons (pe_ix ix_tup (pv 5) pe_int (fun _ _ => rfl)) (pa_cons (pe_ix ix_tup (pv 5) pe_int (fun _ _ => rfl)) pa_nil)))) (nomark _)) (pss_one (ps_ret pe_non)) pss_nil)
      (pss_one (ps_ret (pe_tup (pa_cons (pe_tup (pa_cons (pe_ix ix_tup (pv 4) pe_int (fun _ _ => rfl)) (pa_cons (pe_ix ix_tup (pv 4) pe_int (fun _ _ => rfl)) pa_nil))) (pa_cons (pe_tup (pa_cons (pe_ix ix_tup (pv 5) pe_int (fun _ _ => rfl)) (pa_cons (pe_ix ix_tup (pv 5) pe_int (fun _ _ => rfl)) pa_nil))) pa_nil)))))))), ?_⟩
    obtain ⟨b1, c1, e1, e2, e3⟩ := hk
    obtain ⟨q1, q2⟩ := q
    -- one = step_by(exits, pair[0][0], pair[0][1], letter)
    refine ⟨_, rfl, _, rfl, k, _, 0, _, rfl, rfl, SqT.of e1, atI_nat (j := 0) rfl, b1, _, 0, _, rfl, rfl, SqT.of e2, atI_nat (j := 0) rfl, _, rfl, k, _, 0, _, rfl, rfl, SqT.of e1, atI_nat (j := 0) rfl, b1, _, 1, _, rfl, rfl, SqT.of e2, atI_nat (j := 1) rfl, _, rfl,
      a, _, n, ls, q1, x, rfl, hA, tab_at q1.u hq.1.1, fun t1 n1 => ?_⟩
    have s1 := same_upd (o := .tup [nv (Ks539.step ⟨n, ls⟩ q1 x).u, nv (peb (Ks539.step ⟨n, ls⟩ q1 x).p), nv (Ks539.in_ ⟨n, ls⟩ q1 x)]) n1
    have ht1 : upd H t1 (.tup [nv (Ks539.step ⟨n, ls⟩ q1 x).u, nv (peb (Ks539.step ⟨n, ls⟩ q1 x).p), nv (Ks539.in_ ⟨n, ls⟩ q1 x)]) t1 = _ := upd_same
    generalize upd H t1 (.tup [nv (Ks539.step ⟨n, ls⟩ q1 x).u, nv (peb (Ks539.step ⟨n, ls⟩ q1 x).p), nv (Ks539.in_ ⟨n, ls⟩ q1 x)]) = H1 at s1 ht1
    -- other = step_by(exits_of_second, pair[1][0], pair[1][1], letter)
    refine ⟨_, rfl, _, rfl, k, _, 1, _, rfl, rfl, SqT.of (s1 _ _ e1), atI_nat (j := 1) rfl, c1, _, 0, _, rfl, rfl, SqT.of (s1 _ _ e3), atI_nat (j := 0) rfl, _, rfl, k, _, 1, _, rfl, rfl, SqT.of (s1 _ _ e1), atI_nat (j := 1) rfl, c1, _, 1, _, rfl, rfl, SqT.of (s1 _ _ e3), atI_nat (j := 1) rfl, _, rfl,
      b, _, m, ks, q2, x, rfl, hB.keep s1, tab_at q2.u hq.2.1, fun t2 n2 => ?_⟩
    have s2 := same_upd (o := .tup [nv (Ks539.step ⟨m, ks⟩ q2 x).u, nv (peb (Ks539.step ⟨m, ks⟩ q2 x).p), nv (Ks539.in_ ⟨m, ks⟩ q2 x)]) n2
    have ht2 : upd H1 t2 (.tup [nv (Ks539.step ⟨m, ks⟩ q2 x).u, nv (peb (Ks539.step ⟨m, ks⟩ q2 x).p), nv (Ks539.in_ ⟨m, ks⟩ q2 x)]) t2 = _ := upd_same
    have ht1' := s2 _ _ ht1
    generalize upd H1 t2 (.tup [nv (Ks539.step ⟨m, ks⟩ q2 x).u, nv (peb (Ks539.step ⟨m, ks⟩ q2 x).p), nv (Ks539.in_ ⟨m, ks⟩ q2 x)]) = H2 at s2 ht2 ht1'
    have s12 := s1.trans s2
    have hin := nxt2_in ok1 ok2 hq x
    have et : tells ⟨n, ls⟩ ⟨m, ks⟩ (q1, q2) x = (Ks539.in_ ⟨n, ls⟩ q1 x != Ks539.in_ ⟨m, ks⟩ q2 x || Ks539.differ ⟨n, ls⟩ ⟨m, ks⟩ (nxt2 ⟨n, ls⟩ ⟨m, ks⟩ (q1, q2) x)) := rfl
    have en1 : Ks539.step ⟨n, ls⟩ q1 x = (nxt2 ⟨n, ls⟩ ⟨m, ks⟩ (q1, q2) x).1 := rfl
    have en2 : Ks539.step ⟨m, ks⟩ q2 x = (nxt2 ⟨n, ls⟩ ⟨m, ks⟩ (q1, q2) x).2 := rfl
    rw [en1] at ht1'
    rw [en2] at ht2
    generalize nxt2 ⟨n, ls⟩ ⟨m, ks⟩ (q1, q2) x = r at hin et ht1' ht2 no
    rw [et] at yes no
    -- if one[2] != other[2]
    refine ⟨_, rfl, t1, _, 2, _, rfl, rfl, SqT.of ht1', atI_nat (j := 2) rfl, _, rfl, t2, _, 2, _, rfl, rfl, SqT.of ht2, atI_nat (j := 2) rfl, rfl, _, rfl, ?_⟩
    by_cases ci : Ks539.in_ ⟨n, ls⟩ q1 x = Ks539.in_ ⟨m, ks⟩ q2 x
    · refine if_false_of (by rw [ci]; exact congrArg (! ·) (decide_eq_true rfl)) ?_
      have ef : (Ks539.in_ ⟨n, ls⟩ q1 x != Ks539.in_ ⟨m, ks⟩ q2 x) = false := by
        rw [ci]
        exact bne_self_eq_false _
      rw [ef, Bool.false_or] at yes no
      -- seen_at(..) != seen_at(..)
      refine ⟨_, rfl, _, rfl, t1, _, 0, _, rfl, rfl, SqT.of ht1', atI_nat (j := 0) rfl, _, rfl, t1, _, 1, _, rfl, rfl, SqT.of ht1', atI_nat (j := 1) rfl, a, _, r.1.u, r.1.p, _, rfl, hA.keep s12, tab_at _ hin.1.1, fun l1 m1 => ?_⟩
      have s3 := same_upd (o := .lst [nv (row ls r.1.u).length, nv (lookP r.1.u r.1.p)]) m1
      have hl1 : upd H2 l1 (.lst [nv (row ls r.1.u).length, nv (lookP r.1.u r.1.p)]) l1 = _ := upd_same
      generalize upd H2 l1 (.lst [nv (row ls r.1.u).length, nv (lookP r.1.u r.1.p)]) = H3 at s3 hl1
      refine ⟨_, rfl, _, rfl, t2, _, 0, _, rfl, rfl, SqT.of (s3 _ _ ht2), atI_nat (j := 0) rfl, _, rfl, t2, _, 1, _, rfl, rfl, SqT.of (s3 _ _ ht2), atI_nat (j := 1) rfl, b, _, r.2.u, r.2.p, _, rfl, hB.keep (s12.trans s3), tab_at _ hin.2.1, fun l2 m2 => ?_⟩
      have s4 := same_upd (o := .lst [nv (row ks r.2.u).length, nv (lookP r.2.u r.2.p)]) m2
      have hl2 : upd H3 l2 (.lst [nv (row ks r.2.u).length, nv (lookP r.2.u r.2.p)]) l2 = _ := upd_same
      generalize upd H3 l2 (.lst [nv (row ks r.2.u).length, nv (lookP r.2.u r.2.p)]) = H4 at s4 hl2
      have s04 := s12.trans (s3.trans s4)
      refine ⟨_, _, dp_lk (s4 _ _ hl1), dp_lk hl2, lkD_shaped _ _, lkD_shaped _ _, _, rfl, ?_⟩
      rw [← differ_eq (n := n) (m := m) r]
      by_cases cd : Ks539.differ ⟨n, ls⟩ ⟨m, ks⟩ r = true
      · exact if_true_of cd (yes cd H4 s04)
      · have cd' := Bool.eq_false_iff.mpr cd
        refine if_false_of cd' ?_
        have g1 := s4 _ _ (s3 _ _ ht1')
        have g2 := s4 _ _ (s3 _ _ ht2)
        refine ⟨_, rfl, t1, _, 0, _, rfl, rfl, SqT.of g1, atI_nat (j := 0) rfl, _, rfl, t1, _, 1, _, rfl, rfl, SqT.of g1, atI_nat (j := 1) rfl, (by show 2 ≤ sizeLine; decide), fun p1 np1 => ?_⟩
        have s5 := same_upd (o := .tup [nv r.1.u, nv (peb r.1.p)]) np1
        refine ⟨_, rfl, t2, _, 0, _, rfl, rfl, SqT.of (s5 _ _ g2), atI_nat (j := 0) rfl, _, rfl, t2, _, 1, _, rfl, rfl, SqT.of (s5 _ _ g2), atI_nat (j := 1) rfl, (by show 2 ≤ sizeLine; decide), fun p2 np2 => ?_⟩
        have s6 := same_upd (o := .tup [nv r.2.u, nv (peb r.2.p)]) np2
        refine ⟨(by show 2 ≤ sizeLine; decide), fun p3 np3 => ?_⟩
        have s7 := same_upd (o := .tup [.ref p1, .ref p2]) np3
        refine no cd' _ p3 (s04.trans (s5.trans (s6.trans s7))) ⟨p1, p2, upd_same, s7 _ _ (s6 _ _ upd_same), s7 _ _ upd_same⟩
    · refine if_true_of ?_ (yes ?_ H2 s12)
      · rw [decide_eq_false (fun z => ci (by
          have e : (Ks539.in_ ⟨n, ls⟩ q1 x : Int) = (Ks539.in_ ⟨m, ks⟩ q2 x : Int) := V.int.inj z
          omega))]
        rfl
      · rw [bne_iff_ne.mpr ci, Bool.true_or]
end
end Wp
namespace Wp
open PySem PySem.Spec PyProof.Rows L2
open Ks539 (Two)
theorem scShort : FnScope ["exits", "exits_of_second", "u", "v", "letters", "start", "met", "reached", "further", "pair", "word", "letter", "after", "ways"] ["exits", "exits_of_second", "u", "v"] (defScope s_shortest_word_apart) := ⟨rfl, rfl, rfl, by decide +kernel, rfl, by decide +kernel, by decide +kernel⟩
theorem small5000 {n : Nat} (h : n ≤ 5000) : n < sizeLine := Nat.lt_of_le_of_lt h (by decide)
/-! ### the heap while it is searched -/
theorem AllAt.append {α : Type} {R : Hp → V → α → Prop} {H : Hp} {vs vs' : List V} {xs xs' : List α} (h : AllAt R H vs xs) (h' : AllAt R H vs' xs') : AllAt R H (vs ++ vs') (xs ++ xs') := by
  refine ⟨by rw [List.length_append, List.length_append, h.1, h'.1], fun i y hy => ?_⟩
  by_cases c : i < xs.length
  · rw [List.getElem?_append_left c] at hy
    obtain ⟨u, e1, e2⟩ := h.2 i y hy
    exact ⟨u, by rw [List.getElem?_append_left (by rw [h.1]; exact c)]; exact e1, e2⟩
  · rw [List.getElem?_append_right (by omega)] at hy
    obtain ⟨u, e1, e2⟩ := h'.2 _ y hy
    exact ⟨u, by rw [List.getElem?_append_right (by rw [h.1]; omega), h.1]; exact e1, e2⟩
/-- a list of so many items -/
def LenV (H : Hp) (v : V) (x : Nat) : Prop := ∃ q vs, v = .ref q ∧ H q = some (.lst vs) ∧ vs.length = x
theorem tab_lens {H : Hp} {a : Addr} {n : Nat} {ls : List (Nat × Nat)} (h : TabAt H a ((List.range n).map (row ls))) : ∃ qs : List Addr, H a = some (.lst (qs.map V.ref)) ∧ AllAt LenV H (qs.map V.ref) (lens n ls) := by
  obtain ⟨qs, e, hl, p⟩ := h
  rw [List.length_map, List.length_range] at hl
  refine ⟨qs, e, by unfold lens; rw [List.length_map, List.length_map, List.length_range, hl], fun i x hx => ?_⟩
  unfold lens at hx
  rw [List.getElem?_map] at hx
  have hi : i < n := by
    cases c : (List.range n)[i]? with
    | none =>
      rw [c] at hx
      cases hx
    | some j =>
      have := (List.getElem?_eq_some_iff.mp c).1
      rwa [List.length_range] at this
  rw [List.getElem?_range hi] at hx
  have ex : (row ls i).length = x := Option.some.inj hx
  obtain ⟨q, vs, e1, e2, e3⟩ := p i _ (tab_at i hi)
  exact ⟨.ref q, by rw [List.getElem?_map, e1]; rfl, q, vs, rfl, e2, by rw [e3.1, ex]⟩
/-- tuples stay, and lists but the one at D -/
def Fr (D : Addr) (H H' : Hp) : Prop := STup H H' ∧ ∀ b xs, b ≠ D → H b = some (.lst xs) → H' b = some (.lst xs)
/-- tuples and lists stay -/
def Kp (H H' : Hp) : Prop := STup H H' ∧ ∀ b xs, H b = some (.lst xs) → H' b = some (.lst xs)
theorem Same.kp {H H' : Hp} (s : Same H H') : Kp H H' := ⟨Same.stup s, fun b xs e => s b _ e⟩
theorem Same.fr {H H' : Hp} {D : Addr} (s : Same H H') : Fr D H H' := ⟨Same.stup s, fun b xs _ e => s b _ e⟩
theorem Kp.trans {H H1 H2 : Hp} (a : Kp H H1) (b : Kp H1 H2) : Kp H H2 := ⟨a.1.trans b.1, fun c xs e => b.2 c xs (a.2 c xs e)⟩
/-- a word found so far: where one stands, and the letters -/
def EntV (D : Addr) (H : Hp) (v : V) (e : Two × List Nat) : Prop := ∃ t k l, v = .ref t ∧ H t = some (.tup [.ref k, .ref l]) ∧ TwoAt H k e.1 ∧ H l = some (.lst (e.2.map nv)) ∧ l ≠ D
theorem EntV.keep {D : Addr} {H H' : Hp} (s : Fr D H H') (v : V) (e : Two × List Nat) (h : EntV D H v e) : EntV D H' v e := by
  obtain ⟨t, k, l, e1, e2, e3, e4, e5⟩ := h
  exact ⟨t, k, l, e1, s.1 _ _ e2, e3.keep s.1, s.2 _ _ e5 e4, e5⟩
def MetAt (P : Program) (w : World) (H : Hp) (d : Addr) (done : List Two) : Prop := ∃ xs, H d = some (DictN P w d xs) ∧ xs.map (·.1) = done ∧ ∀ e ∈ xs, TwoAt H e.2 e.1
/-- while a level is gone through; H0: ahead of all, Hs: ahead of this level -/
structure Mid (P : Program) (w : World) (H0 Hs H : Hp) (dm df : Addr) (z : Lev × List Two) : Prop where
  s0 : Same H0 H
  kp : Kp Hs H
  met : MetAt P w H dm z.2
  fur : ∃ fs, H df = some (.lst fs) ∧ AllAt (EntV df) H fs z.1
theorem MetAt.same {P : Program} {w : World} {H H' : Hp} {d : Addr} {done : List Two} (s : Same H H') (h : MetAt P w H d done) : MetAt P w H' d done := by
  obtain ⟨xs, e1, e2, e3⟩ := h
  exact ⟨xs, s _ _ e1, e2, fun e he => (e3 e he).keep (Same.stup s)⟩
theorem Mid.same {P : Program} {w : World} {H0 Hs H H' : Hp} {dm df : Addr} {z : Lev × List Two} (M : Mid P w H0 Hs H dm df z) (s : Same H H') : Mid P w H0 Hs H' dm df z := by
  obtain ⟨fs, f1, f2⟩ := M.fur
  exact ⟨M.s0.trans s, M.kp.trans (Same.kp s), M.met.same s, fs, s _ _ f1, f2.keep (EntV.keep (Same.fr s))⟩
theorem fr_ext {H : Hp} {d D : Addr} {φ : Heap → Prop} {o : HO} (h : H d = some (.ext φ)) : Fr D H (upd H d o) := by
  refine ⟨fun b xs e => ?_, fun b xs _ e => ?_⟩
  · rw [upd_ne (ne_of e h (fun z => nomatch z))]
    exact e
  · rw [upd_ne (ne_of e h (fun z => nomatch z))]
    exact e
theorem kp_ext {H : Hp} {d : Addr} {φ : Heap → Prop} {o : HO} (h : H d = some (.ext φ)) : Kp H (upd H d o) := by
  refine ⟨fun b xs e => ?_, fun b xs e => ?_⟩
  · rw [upd_ne (ne_of e h (fun z => nomatch z))]
    exact e
  · rw [upd_ne (ne_of e h (fun z => nomatch z))]
    exact e
theorem kp_off {H0 H : Hp} {d : Addr} {o : HO} (s : Kp H0 H) (h : H0 d = none) : Kp H0 (upd H d o) := by
  refine ⟨fun b xs e => ?_, fun b xs e => ?_⟩
  · rw [upd_ne (ne_of_none e h)]
    exact s.1 _ _ e
  · rw [upd_ne (ne_of_none e h)]
    exact s.2 _ _ e
/-- met[after] = True -/
theorem Mid.put {P : Program} {w : World} {H0 Hs H : Hp} {dm df : Addr} {z : Lev × List Two} (M : Mid P w H0 Hs H dm df z) (hn : H0 dm = none) {xs : List (Two × Addr)} (h1 : H dm = some (DictN P w dm xs)) (h2 : xs.map (·.1) = z.2) (h3 : ∀ e ∈ xs, TwoAt H e.2 e.1) {q : Two} {k : Addr} (hk : TwoAt H k q) :
    Mid P w H0 Hs (upd H dm (DictN P w dm (xs ++ [(q, k)]))) dm df (z.1, z.2 ++ [q]) := by
  obtain ⟨fs, f1, f2⟩ := M.fur
  have f := fr_ext (D := df) (o := DictN P w dm (xs ++ [(q, k)])) h1
  have g := kp_ext (o := DictN P w dm (xs ++ [(q, k)])) h1
  refine ⟨same_off M.s0 hn, M.kp.trans g, ⟨_, upd_same, by rw [List.map_append, h2]; rfl, fun e he => ?_⟩, fs, g.2 _ _ f1, f2.keep (EntV.keep f)⟩
  rcases List.mem_append.mp he with c | c
  · exact (h3 e c).keep f.1
  · rw [List.mem_singleton.mp c]
    exact hk.keep f.1
/-- further.append((after, word + [letter])) -/
theorem Mid.push {P : Program} {w : World} {H0 Hs H : Hp} {dm df : Addr} {z : Lev × List Two} (M : Mid P w H0 Hs H dm df z) (hn : H0 df = none) (hs : Hs df = none) {fs : List V} (h1 : H df = some (.lst fs)) (h2 : AllAt (EntV df) H fs z.1) {t : Addr} {e : Two × List Nat} (he : EntV df H (.ref t) e) :
    Mid P w H0 Hs (upd H df (.lst (fs ++ [.ref t]))) dm df (z.1 ++ [e], z.2) := by
  have f : Fr df H (upd H df (.lst (fs ++ [.ref t]))) := ⟨stup_lst h1, fun b xs nb eb => by
    rw [upd_ne nb]
    exact eb⟩
  obtain ⟨xs, m1, m2, m3⟩ := M.met
  refine ⟨same_off M.s0 hn, kp_off M.kp hs, ⟨xs, ?_, m2, fun y hy => (m3 y hy).keep f.1⟩, _, upd_same, AllAt.snoc (h2.keep (EntV.keep f)) (he.keep f)⟩
  rw [upd_ne (ne_of m1 h1 (fun z => nomatch z))]
  exact m1
/-- between two levels; f: what is left of the specification's fuel -/
structure Wst (P : Program) (w : World) (n m : Nat) (ls ks : List (Nat × Nat)) (ans : Option (List Nat)) (H0 H : Hp) (dm dr : Addr) (f : Nat) (lev : Lev) (done : List Two) : Prop where
  s0 : Same H0 H
  met : MetAt P w H dm done
  lst : ∃ D vs, H dr = some (.lst vs) ∧ AllAt (EntV D) H vs lev
  nd : done.Nodup
  tw : ∀ q ∈ done, TwIn n m q
  lv : ∀ e ∈ lev, TwIn n m e.1 ∧ e.2.length + f = 4000
  fu : lev = [] ∨ 901 ≤ done.length + f
  an : Ks539.search ⟨n, ls⟩ ⟨m, ks⟩ f lev done = ans
section
variable {P : Program} {w : World} {K : PySem.W.Frag} {mg : Str → Option Value} {base : Heap}
/-! ### shortest_word_apart -/
def spShort : Sp := fun vs H Q _ => ∃ (a b : Addr) (n m u v : Nat) (ls ks : List (Nat × Nat)), vs = [.ref a, .ref b, nv u, nv v] ∧ TabAt H a ((List.range n).map (row ls)) ∧ TabAt H b ((List.range m).map (row ks)) ∧ n ≤ 5 ∧ m ≤ 5 ∧ u < n ∧ v < m ∧ ls.length ≤ 10 ∧ ks.length ≤ 10 ∧
  (∀ p ∈ ls, Ok1 n p) ∧ (∀ p ∈ ks, Ok1 m p) ∧
  (∀ wd, Ks539.apart ⟨n, ls⟩ ⟨m, ks⟩ u v = some wd → wd.length ≤ 4000 → ∀ H' p, Same H H' → H' p = some (.lst (wd.map nv)) → Q (.ref p) H') ∧
  (Ks539.apart ⟨n, ls⟩ ⟨m, ks⟩ u v = none → ∀ H', Same H H' → Q .non H')
theorem exs_le (ls : List (Nat × Nat)) (u : Nat) : (row ls u).length ≤ ls.length := by
  rw [row_length, exs_def]
  exact Nat.le_trans (List.length_filter_le _ _) (by rw [List.length_range]; exact Nat.le_refl _)
theorem lens_le {n : Nat} {ls : List (Nat × Nat)} (h : ls.length ≤ 10) : ∀ x ∈ lens n ls, x ≤ 10 := fun x hx => by
  obtain ⟨u, _, rfl⟩ := List.mem_map.mp hx
  exact Nat.le_trans (exs_le ls u) h
theorem ok_short {f fS fP : Addr} {fd fdS fdP : FuncData} (F : Fun K "shortest_word_apart" "shortest_word_apart" s_shortest_word_apart f fd) (T : Txt mg) (S : Dfn K mg "seen_at" s_seen_at ["exits", "place", "pebble"] fS fdS)
    (B : Dfn K mg "pair_behind" s_pair_behind ["exits", "exits_of_second", "pair", "letter"] fP fdP) (GB : FnOk P w K mg base CX0 2 fP fdP ["exits", "exits_of_second", "pair", "letter"] spPair) :
    FnOk P w K mg base CX0 3 f fd ["exits", "exits_of_second", "u", "v"] spShort := by
  have GS : FnOk P w K mg base CX0 1 fS fdS ["exits", "place", "pebble"] spSeenAt := ok_seen_at S.F T
  refine F.ok scShort (fun vs H Q E h => ?_) (fun cdv A outer st H vs Q E hr h => ?_)
  · obtain ⟨a, b, n, m, u, v, ls, ks, rfl, _⟩ := h
    rfl
  · obtain ⟨a, b, n, m, u, v, ls, ks, rfl, hA, hB, hn, hm, hu, hv, hls, hks, ok1, ok2, yes, no⟩ := h
    have hr1 : Room 1 (A.deeper (envOfC "shortest_word_apart" (defScope s_shortest_word_apart) st.heap.objs.size f cdv)) := hr.mono (by decide)
    refine ⟨_, pss_cons (ps_if (pt_cmpR (op_neD hr.units) (pe_call GS hr1 (by rfl) S.g S.F.kp S.b .nil pass0 (pa_cons (pv 0) (pa_cons (pv 2) (pa_cons (pk rfl T.c_CARRIED) pa_nil)))) (pe_call GS hr1 (by rfl) S.g S.F.kp S.b .nil pass0 (pa_cons (pv 1) (pa_cons (pv 3) (pa_cons (pk rfl T.c_CARRIED) pa_nil)))) (nomark _)) (pss_one (ps_ret (pe_lst pa_nil))) pss_nil)
      (pss_cons (ps_set (i := 4) scShort.nd rfl (.inl rfl) (pe_op op_add (pk rfl T.c_FIRST_EXIT) (pe_callB (cr_max rfl) (by rfl) T.b_max (by decide +kernel) (pa_cons
          (pe_lc (own := [("ways", 13)]) (g := gName 13) (tt := tYes) (te := tCB (fun xs H Q => ∃ p ys, xs = [.ref p] ∧ (SqL K H p ys ∨ SqT K H p ys) ∧ Q (.int ys.length) H) (tCons (tVar 13) tNil)) rfl scShort.nd (pi_list (pe_op op_cat (pv 0) (pv 1)))
            (blkOk_by (N := ["exits", "exits_of_second", "u", "v", "letters", "start", "met", "reached", "further", "pair", "word", "letter", "after", "ways"]) (sc := defScope s_shortest_word_apart) (by decide +kernel)) (fun _ _ _ _ _ => pg_name (i := 13) scShort.nd rfl (Or.inl rfl)) (fun _ _ _ _ _ => pts_nil)
            (fun _ _ _ _ _ => pe_callB call_len_seq (by rfl) T.b_len PySem.boot_len (pa_cons (pv 13) pa_nil))) pa_nil))))
      (pss_cons (ps_set (i := 5) scShort.nd rfl (.inl rfl) (pe_tup (pa_cons (pe_tup (pa_cons (pv 2) (pa_cons (pk rfl T.c_CARRIED) pa_nil))) (pa_cons (pe_tup (pa_cons (pv 3) (pa_cons (pk rfl T.c_CARRIED) pa_nil))) pa_nil))))
      (pss_cons (ps_set (i := 6) scShort.nd rfl (.inl rfl) (pe_dispP (P := P) (w := w) rfl rfl hr.units (pv 5) pe_bl))
      (pss_cons (ps_set (i := 7) scShort.nd rfl (.inl rfl) (pe_lst (pa_cons (pe_tup (pa_cons (pv 5) (pa_cons (pe_lst pa_nil) pa_nil))) pa_nil)))
      (pss_cons (ps_while PassesOwn.never (pt_truth (pv 7) (by intro _; rfl))
        (pss_cons (ps_set (i := 8) scShort.nd rfl (.inl rfl) (pe_lst pa_nil))
        (pss_cons (ps_for PassesOwn.never rfl (pi_list (pv 7)) (pg_tup rfl (pgs_cons (pg_name (i := 9) scShort.nd rfl (.inl rfl)) (pgs_cons (pg_name (i := 10) scShort.nd rfl (.inl rfl)) pgs_nil)))
          (pss_one (ps_for PassesOwn.never rfl (pi_range1 rfl T.b_range (pa_cons (pv 4) pa_nil)) (pg_name (i := 11) scShort.nd rfl (.inl rfl))
            (pss_cons (ps_set (i := 12) scShort.nd rfl (.inl rfl) (pe_call GB hr (by rfl) B.g B.F.kp B.b .nil pass0 (pa_cons (pv 0) (pa_cons (pv 1) (pa_cons (pv 9) (pa_cons (pv 11) pa_nil))))))
            (pss_cons (ps_if (pt_cmpR op_isN (pv 12) pe_non (nomark _)) (pss_one (ps_ret (pe_op op_cat (pv 10) (pe_lst (pa_cons (pv 11) pa_nil))))) pss_nil)
            (pss_one (ps_if (pt_cmpR (op_notinP (P := P) (w := w) rfl rfl hr.units) (pv 12) (pv 6) (by rfl))
              (pss_cons (ps_asg pe_bl (pg_sub (pv 6) (pv 12) (set_dictP (P := P) (w := w) rfl rfl hr.units)))
              (pss_one (ps_expr (pe_bm PySem.F.plainAttrs_list PySem.F.slot_list_append PySem.F.type_list_append mt_append (pv 8) (pa_cons (pe_tup (pa_cons (pv 12) (pa_cons (pe_op op_cat (pv 10) (pe_lst (pa_cons (pv 11) pa_nil))) pa_nil))) pa_nil))))) pss_nil)))))))
        (pss_one (ps_set (i := 7) scShort.nd rfl (.inl rfl) (pv 8))))))
      (pss_one (ps_ret pe_non))))))), ?_⟩
    -- if seen_at(exits, u, CARRIED) != seen_at(exits_of_second, v, CARRIED)
    refine ⟨_, rfl, _, rfl, a, _, u, none, _, rfl, hA, tab_at u hu, fun l1 m1 => ?_⟩
    have s1 := same_upd (o := .lst [nv (row ls u).length, nv (lookP u none)]) m1
    have hl1 : upd H l1 (.lst [nv (row ls u).length, nv (lookP u none)]) l1 = _ := upd_same
    generalize upd H l1 (.lst [nv (row ls u).length, nv (lookP u none)]) = H1 at s1 hl1
    refine ⟨_, rfl, _, rfl, b, _, v, none, _, rfl, hB.keep s1, tab_at v hv, fun l2 m2 => ?_⟩
    have s2 := same_upd (o := .lst [nv (row ks v).length, nv (lookP v none)]) m2
    have hl2 : upd H1 l2 (.lst [nv (row ks v).length, nv (lookP v none)]) l2 = _ := upd_same
    generalize upd H1 l2 (.lst [nv (row ks v).length, nv (lookP v none)]) = H2 at s2 hl2
    have s02 := s1.trans s2
    refine ⟨_, _, dp_lk (s2 _ _ hl1), dp_lk hl2, lkD_shaped _ _, lkD_shaped _ _, _, rfl, ?_⟩
    have ed := differ_eq (n := n) (m := m) (ls := ls) (ks := ks) (Ks539.start u, Ks539.start v)
    by_cases cd : Ks539.differ ⟨n, ls⟩ ⟨m, ks⟩ (Ks539.start u, Ks539.start v) = true
    · rw [cd] at ed
      refine if_true_of ed.symm ⟨Nat.zero_le _, fun p np => ?_⟩
      have ea : Ks539.apart ⟨n, ls⟩ ⟨m, ks⟩ u v = some [] := if_pos cd
      exact yes [] ea (Nat.zero_le _) _ p (s02.trans (same_upd np)) upd_same
    have ea : Ks539.apart ⟨n, ls⟩ ⟨m, ks⟩ u v = Ks539.search ⟨n, ls⟩ ⟨m, ks⟩ 4000 [((Ks539.start u, Ks539.start v), [])] [(Ks539.start u, Ks539.start v)] := if_neg cd
    rw [Bool.eq_false_iff.mpr cd] at ed
    refine if_false_of ed.symm ?_
    -- letters = FIRST_EXIT + max([len(ways) for ways in exits + exits_of_second])
    obtain ⟨qs, q1, q2⟩ := tab_lens (hA.keep s02)
    obtain ⟨rs, r1, r2⟩ := tab_lens (hB.keep s02)
    have hLL := AllAt.append q2 r2
    have hql : (qs.map V.ref).length + (rs.map V.ref).length ≤ 10 := by
      rw [q2.1, r2.1]
      unfold lens
      rw [List.length_map, List.length_map, List.length_range, List.length_range]
      omega
    have hLLl : (lens n ls ++ lens m ks).length ≤ 10 := by
      rw [List.length_append, ← q2.1, ← r2.1]
      exact hql
    refine ⟨_, rfl, _, rfl, a, b, _, _, rfl, rfl, q1, r1, small_len (by omega), fun c nc => ?_⟩
    have s3 := same_upd (o := .lst (qs.map V.ref ++ rs.map V.ref)) nc
    have hc : upd H2 c (.lst (qs.map V.ref ++ rs.map V.ref)) c = _ := upd_same
    generalize upd H2 c (.lst (qs.map V.ref ++ rs.map V.ref)) = H3 at s3 hc
    have s03 := s02.trans s3
    refine ⟨c, rfl, ⟨_, SqL.of hc⟩, fun D nD => ?_⟩
    refine lc_list (K := K) (a := c) (xs := qs.map V.ref ++ rs.map V.ref) (fun i H' => Same H3 H' ∧ H' D = some (.lst (((lens n ls ++ lens m ks).take i).map nv))) ⟨same_upd nD, upd_same⟩ (fun i H' _ ⟨s4, _⟩ => SqL.of (s4 _ _ hc)) ?_ ?_
    · rintro i x H4 hi ⟨s4, hD⟩
      obtain ⟨y, hy, q, ys, rfl, hq, hyl⟩ := hLL.item hi
      refine ⟨rfl, ?_⟩
      refine ⟨_, rfl, q, ys, rfl, .inl (SqL.of (s4 _ _ (s3 _ _ hq))), _, hD, small1000 (by rw [List.length_map, List.length_take]; omega), same_off s4 nD, ?_⟩
      rw [upd_same, take_more hy, List.map_append, hyl]
      rfl
    rintro H4 ⟨s4, hD⟩
    rw [List.take_of_length_le (by rw [← hLL.1]; exact Nat.le_refl _)] at hD
    have s04 := s03.trans s4
    have hpos : 0 < (lens n ls ++ lens m ks).length := by
      rw [List.length_append]
      unfold lens
      rw [List.length_map, List.length_range]
      omega
    have eI : (lens n ls ++ lens m ks).map nv = ((lens n ls ++ lens m ks).map Int.ofNat).map V.int := by
      rw [List.map_map]
      rfl
    rw [eI] at hD
    refine ⟨D, _, rfl, SqL.of hD, by rw [List.length_map]; exact hpos, fun mx hmx hle => ?_⟩
    obtain ⟨mn, hmn, rfl⟩ := List.mem_map.mp hmx
    have hL : Ks539.letters ⟨n, ls⟩ ⟨m, ks⟩ = mn + 3 := letters_of hmn (fun y hy => by
      have := hle (Int.ofNat y) (List.mem_map.mpr ⟨y, hy, rfl⟩)
      have e1 : (Int.ofNat y) = (y : Int) := rfl
      have e2 : (Int.ofNat mn) = (mn : Int) := rfl
      omega)
    have hmn10 : mn ≤ 10 := by
      rcases List.mem_append.mp hmn with z | z
      · exact lens_le hls _ z
      · exact lens_le hks _ z
    refine ⟨_, _, rfl, rfl, ?_⟩
    have eL : (3 : Int) + Int.ofNat mn = ((Ks539.letters ⟨n, ls⟩ ⟨m, ks⟩ : Nat) : Int) := by
      rw [hL]
      show (3 : Int) + (mn : Int) = ((mn + 3 : Nat) : Int)
      omega
    dsimp only
    rw [eL]
    have hLb : Ks539.letters ⟨n, ls⟩ ⟨m, ks⟩ ≤ 13 := by omega
    -- start = ((u, CARRIED), (v, CARRIED))
    refine ⟨_, rfl, (by show 2 ≤ sizeLine; decide), fun t1 n1 => ?_⟩
    have s5 := same_upd (o := .tup [nv u, .int 0]) n1
    refine ⟨_, rfl, (by show 2 ≤ sizeLine; decide), fun t2 n2 => ?_⟩
    have s6 := same_upd (o := .tup [nv v, .int 0]) n2
    refine ⟨(by show 2 ≤ sizeLine; decide), fun k0 n3 => ?_⟩
    have s7 := same_upd (o := .tup [.ref t1, .ref t2]) n3
    have hk0 : TwoAt (upd (upd (upd H4 t1 (.tup [nv u, .int 0])) t2 (.tup [nv v, .int 0])) k0 (.tup [.ref t1, .ref t2])) k0 (Ks539.start u, Ks539.start v) := ⟨t1, t2, upd_same, s7 _ _ (s6 _ _ upd_same), s7 _ _ upd_same⟩
    have s07 := s04.trans (s5.trans (s6.trans s7))
    generalize upd (upd (upd H4 t1 (.tup [nv u, .int 0])) t2 (.tup [nv v, .int 0])) k0 (.tup [.ref t1, .ref t2]) = H5 at hk0 s07
    -- met = {start: True}
    refine fun dm ndm => ?_
    have ndH : H dm = none := s07.free ndm
    have s8 := same_upd (o := DictN P w dm []) ndm
    refine ⟨_, rfl, upd_same, k0, _, rfl, rfl, hk0.keep (Same.stup s8), ?_⟩
    have s08 : Same H (upd (upd H5 dm (DictN P w dm [])) dm (DictN P w dm [((Ks539.start u, Ks539.start v), k0)])) := same_off (same_off s07 ndH) ndH
    have hk1 : TwoAt (upd (upd H5 dm (DictN P w dm [])) dm (DictN P w dm [((Ks539.start u, Ks539.start v), k0)])) k0 (Ks539.start u, Ks539.start v) := (hk0.keep (Same.stup s8)).keep (fr_ext (D := dm) upd_same).1
    have hdm : (upd (upd H5 dm (DictN P w dm [])) dm (DictN P w dm [((Ks539.start u, Ks539.start v), k0)])) dm = _ := upd_same
    generalize upd (upd H5 dm (DictN P w dm [])) dm (DictN P w dm [((Ks539.start u, Ks539.start v), k0)]) = H6 at s08 hk1 hdm
    -- reached = [(start, [])]
    refine ⟨_, rfl, Nat.zero_le _, fun l0 nl0 => ⟨(by show 2 ≤ sizeLine; decide), fun t0 nt0 => ⟨(by show 1 ≤ sizeLine; decide), fun d0 nd0 => ?_⟩⟩⟩
    have s9 := same_upd (o := .lst []) nl0
    have s10 := same_upd (o := .tup [.ref k0, .ref l0]) nt0
    have s11 := same_upd (o := .lst [.ref t0]) nd0
    have s611 := s9.trans (s10.trans s11)
    have nl0m : l0 ≠ dm := (ne_of_none hdm nl0).symm
    -- while reached
    refine ⟨fun f σ H' => ∃ dr y8 y9 y10 y11 y12 lev done, σ = [some (.ref a), some (.ref b), some (nv u), some (nv v), some (nv (Ks539.letters ⟨n, ls⟩ ⟨m, ks⟩)), some (.ref k0), some (.ref dm), some (.ref dr), y8, y9, y10, y11, y12, none] ∧ Wst P w n m ls ks (Ks539.apart ⟨n, ls⟩ ⟨m, ks⟩ u v) H H' dm dr f lev done,
      ⟨4000, d0, none, none, none, none, none, [((Ks539.start u, Ks539.start v), [])], [(Ks539.start u, Ks539.start v)], rfl, ?_⟩, ?_⟩
    · have tw0 : TwIn n m (Ks539.start u, Ks539.start v) := ⟨stIn_start hu, stIn_start hv⟩
      refine ⟨s08.trans s611, ⟨_, s611 _ _ hdm, rfl, fun e he => ?_⟩, ⟨dm, _, upd_same, AllAt.snoc AllAt.nil ⟨t0, k0, l0, rfl, s11 _ _ upd_same, hk1.keep (Same.stup s611), s11 _ _ (s10 _ _ upd_same), nl0m⟩⟩, by simp, fun q hq => ?_, fun e he => ?_, .inr (by show 901 ≤ 1 + 4000; decide), ea.symm⟩
      · rw [List.mem_singleton.mp he]
        exact hk1.keep (Same.stup s611)
      · rw [List.mem_singleton.mp hq]
        exact tw0
      · rw [List.mem_singleton.mp he]
        exact ⟨tw0, rfl⟩
    rintro g σ Hs ⟨dr, y8, y9, y10, y11, y12, lev, done, rfl, W⟩
    obtain ⟨D0, vs, hdr, hlev⟩ := W.lst
    refine ⟨_, rfl, !vs.isEmpty, .inl ⟨vs, SqL.of hdr, rfl⟩, ?_⟩
    by_cases cl : lev = []
    · have ev : vs = [] := List.eq_nil_of_length_eq_zero (by rw [hlev.1, cl]; rfl)
      refine if_false_of (by rw [ev]; rfl) ?_
      refine no ?_ Hs W.s0
      rw [← W.an, cl, search_nil]
    have ev : vs ≠ [] := fun z => cl (List.eq_nil_of_length_eq_zero (by rw [← hlev.1, z]; rfl))
    have hfew := few hn hm W.nd W.tw
    obtain ⟨g', rfl⟩ : ∃ g', g = g' + 1 := ⟨g - 1, by
      rcases W.fu with z | z
      · exact absurd z cl
      · omega⟩
    have hg3 : g' ≤ 3999 := by
      cases lev with
      | nil => exact absurd rfl cl
      | cons e r =>
        have := (W.lv e (by simp)).2
        omega
    have hfu : 901 ≤ done.length + (g' + 1) := by
      rcases W.fu with z | z
      · exact absurd z cl
      · exact z
    refine if_true_of (by cases vs with | nil => exact absurd rfl ev | cons _ _ => rfl) ?_
    refine ⟨_, fun σ' H' z => ⟨g', Nat.lt_succ_self _, z⟩, ?_⟩
    -- further = []
    refine ⟨Nat.zero_le _, fun df ndf => ?_⟩
    have nfH : H df = none := W.s0.free ndf
    have sf := same_upd (o := .lst []) ndf
    have M0 : Mid P w H Hs (upd Hs df (.lst [])) dm df ([], done) := ⟨W.s0.trans sf, Same.kp sf, W.met.same sf, [], upd_same, AllAt.nil⟩
    have G0 : Gd n m done.length (4000 - g') ([], done) := ⟨W.nd, W.tw, (fun _ z => nomatch z), Nat.zero_add _⟩
    refine ⟨_, rfl, dr, rfl, ⟨_, SqL.of (sf _ _ hdr)⟩, for_list (K := K) (a := dr) (xs := vs) (fun i σ H' => ∃ y9 y10 y11 y12 z, σ = [some (.ref a), some (.ref b), some (nv u), some (nv v), some (nv (Ks539.letters ⟨n, ls⟩ ⟨m, ks⟩)), some (.ref k0), some (.ref dm), some (.ref dr), some (.ref df), y9, y10, y11, y12, none] ∧ Mid P w H Hs H' dm df z ∧ Gd n m done.length (4000 - g') z ∧ outN ⟨n, ls⟩ ⟨m, ks⟩ lev done i = .inr z)
      ⟨_, _, _, _, _, rfl, M0, G0, rfl⟩ (fun i σ H' _ ⟨_, _, _, _, _, _, M, _⟩ => SqL.of (M.kp.2 _ _ hdr)) ?_ ?_⟩
    · rintro i x σ H7 hi ⟨z9, z10, z11, z12, z, rfl, M, G, ho⟩
      obtain ⟨e, he, t, k, l, rfl, et, ek, el, _⟩ := hlev.item hi
      have hte := W.lv e (List.mem_of_getElem? he)
      have hel : e.2.length = 3999 - g' := by
        have := hte.2
        omega
      refine ⟨t, _, rfl, SqT.of (M.kp.1 _ _ et), rfl, _, _, rfl, _, _, rfl, rfl, ?_⟩
      -- for letter in range(letters)
      refine ⟨_, rfl, _, rfl, by omega, by omega, for_range (lo := 0) (n := Ks539.letters ⟨n, ls⟩ ⟨m, ks⟩) (fun j σ H' => ∃ y11 y12 z', σ = [some (.ref a), some (.ref b), some (nv u), some (nv v), some (nv (Ks539.letters ⟨n, ls⟩ ⟨m, ks⟩)), some (.ref k0), some (.ref dm), some (.ref dr), some (.ref df), some (.ref k), some (.ref l), y11, y12, none] ∧ Mid P w H Hs H' dm df z' ∧ Gd n m done.length (4000 - g') z' ∧ innN ⟨n, ls⟩ ⟨m, ks⟩ e z j = .inr z')
        ⟨_, _, z, rfl, M, G, rfl⟩ ?_ ?_⟩
      · rintro j σ H8 hj ⟨w11, w12, z', rfl, M', G', hin⟩
        rw [Int.zero_add]
        have hk8 : TwoAt H8 k e.1 := ek.keep M'.kp.1
        have hl8 : H8 l = some (.lst (e.2.map nv)) := M'.kp.2 _ _ el
        -- after = pair_behind(exits, exits_of_second, pair, letter)
        refine ⟨_, rfl, _, rfl, _, rfl, _, rfl, a, b, k, n, m, ls, ks, e.1, j, rfl, hA.keep M'.s0, hB.keep M'.s0, hk8, hte.1, ok1, ok2, fun ht H9 s9 => ?_, fun ht H9 k' s9 hk' => ?_⟩
        · -- after is None: return word + [letter]
          refine ⟨_, rfl, rfl, _, rfl, if_true_of (decide_eq_true rfl) ?_⟩
          refine ⟨_, rfl, _, rfl, (by show 1 ≤ sizeLine; decide), fun p1 np1 => ?_⟩
          have s10 := same_upd (o := .lst [nv j]) np1
          refine ⟨l, p1, _, _, rfl, rfl, s10 _ _ (s9 _ _ hl8), upd_same, Nat.le_of_lt (small5000 ?_), fun p2 np2 => ?_⟩
          · rw [List.length_map]
            show e.2.length + 1 ≤ 5000
            omega
          have hgr := grow_found he ho hin hj ht
          refine yes (e.2 ++ [j]) ?_ ?_ _ p2 (M'.s0.trans (s9.trans (s10.trans (same_upd np2)))) ?_
          · rw [← W.an]
            exact search_inl cl hgr
          · rw [List.length_append, List.length_singleton]
            omega
          · rw [upd_same, List.map_append]
            rfl
        · refine ⟨_, rfl, rfl, _, rfl, if_false_of (decide_eq_false (fun z => nomatch z)) ?_⟩
          have M9 := M'.same s9
          obtain ⟨xs, x1, x2, x3⟩ := M9.met
          have hz900 := few hn hm G'.nd G'.tw
          have hxl : xs.length ≤ 900 := by
            rw [← List.length_map (f := (·.1)), x2]
            exact hz900
          have hnd : (xs.map (·.1)).Nodup := by
            rw [x2]
            exact G'.nd
          -- if after not in met
          refine ⟨_, rfl, _, rfl, k', _, dm, xs, rfl, rfl, hk', x1, x3, hnd, _, rfl, ?_⟩
          by_cases cm : nxt2 ⟨n, ls⟩ ⟨m, ks⟩ e.1 j ∈ z'.2
          · refine if_false_of ?_ ⟨_, _, z', rfl, M9, G', ?_⟩
            · rw [x2, decide_eq_true cm]
              rfl
            · rw [innN_succ, hin, inner_old ht cm]
          · refine if_true_of ?_ ?_
            · rw [x2, decide_eq_false cm]
              rfl
            -- met[after] = True
            refine ⟨_, rfl, _, rfl, dm, k', _, xs, rfl, rfl, rfl, hk', x1, x3, hnd, by rw [x2]; exact cm, by omega, ?_⟩
            have MA := M9.put ndH x1 x2 x3 hk'
            have hkA := hk'.keep (fr_ext (D := dm) (o := DictN P w dm (xs ++ [(nxt2 ⟨n, ls⟩ ⟨m, ks⟩ e.1 j, k')])) x1).1
            have hlA := (kp_ext (o := DictN P w dm (xs ++ [(nxt2 ⟨n, ls⟩ ⟨m, ks⟩ e.1 j, k')])) x1).2 _ _ (s9 _ _ hl8)
            generalize upd H9 dm (DictN P w dm (xs ++ [(nxt2 ⟨n, ls⟩ ⟨m, ks⟩ e.1 j, k')])) = HA at MA hkA hlA
            -- further.append((after, word + [letter]))
            obtain ⟨fs, f1, f2⟩ := MA.fur
            have hfl : fs.length ≤ 900 := by
              have e1 := f2.1
              have e2 := G'.ln
              have e3 : ((z'.1, z'.2 ++ [nxt2 ⟨n, ls⟩ ⟨m, ks⟩ e.1 j]) : Lev × List Two).1 = z'.1 := rfl
              rw [e3] at e1
              omega
            refine ⟨_, rfl, .inl ⟨rfl, _, SqL.of f1⟩, _, rfl, _, rfl, _, rfl, (by show 1 ≤ sizeLine; decide), fun p1 np1 => ?_⟩
            have sA := same_upd (o := .lst [nv j]) np1
            refine ⟨l, p1, _, _, rfl, rfl, sA _ _ hlA, upd_same, Nat.le_of_lt (small5000 ?_), fun p2 np2 => ?_⟩
            · rw [List.length_map]
              show e.2.length + 1 ≤ 5000
              omega
            have sB := same_upd (o := .lst (e.2.map nv ++ [nv j])) np2
            refine ⟨(by show 2 ≤ sizeLine; decide), fun p3 np3 => ?_⟩
            have sC := same_upd (o := .tup [.ref k', .ref p2]) np3
            have sABC := sA.trans (sB.trans sC)
            have MC := MA.same sABC
            have f1C := sABC _ _ f1
            have f2C := f2.keep (EntV.keep (Same.fr sABC))
            have np2f : p2 ≠ df := (ne_of_none (sA _ _ f1) np2).symm
            refine ⟨df, fs, _, rfl, rfl, f1C, small1000 (by omega), _, _, (z'.1 ++ [(nxt2 ⟨n, ls⟩ ⟨m, ks⟩ e.1 j, e.2 ++ [j])], z'.2 ++ [nxt2 ⟨n, ls⟩ ⟨m, ks⟩ e.1 j]), rfl, ?_, ?_, ?_⟩
            · refine MC.push nfH ndf f1C f2C (e := (nxt2 ⟨n, ls⟩ ⟨m, ks⟩ e.1 j, e.2 ++ [j])) ⟨p3, k', p2, rfl, upd_same, hkA.keep (Same.stup sABC), ?_, np2f⟩
              show _ = some (HO.lst ((e.2 ++ [j]).map nv))
              rw [List.map_append]
              exact sC _ _ upd_same
            · exact G'.new (nxt2_in ok1 ok2 hte.1 j) (by rw [List.length_append, List.length_singleton]; omega) cm
            · rw [innN_succ, hin, inner_new ht cm]
      · rintro σ H8 ⟨w11, w12, z', rfl, M', G', hin⟩
        exact ⟨_, _, _, _, z', rfl, M', G', by rw [outN_go he ho]; exact hin⟩
    · rintro σ H7 ⟨z9, z10, z11, z12, z, rfl, M, G, ho⟩
      rw [hlev.1, ← grow_eq] at ho
      obtain ⟨fs, f1, f2⟩ := M.fur
      -- reached = further
      refine ⟨_, rfl, df, _, _, _, _, _, z.1, z.2, rfl, M.s0, M.met, ⟨df, fs, f1, f2⟩, G.nd, G.tw, fun e he => ?_, ?_, ?_⟩
      · have := G.lv e he
        exact ⟨this.1, by have := this.2; omega⟩
      · by_cases c : z.1 = []
        · exact .inl c
        · right
          have := G.ln
          have h1 : 0 < z.1.length := List.length_pos_iff.mpr c
          omega
      · rw [← W.an]
        exact (search_inr cl ho).symm
end
end Wp
namespace Wp
open PySem PySem.Spec PyProof.Rows L2
abbrev nmPM : List Str := ["exits", "exits_of_second", "u", "v", "start", "met", "waiting", "pair", "ways", "ways_of_second", "way", "way_of_second", "after"]
theorem scPM : FnScope ["exits", "exits_of_second", "u", "v", "start", "met", "waiting", "pair", "ways", "ways_of_second", "way", "way_of_second", "after"] ["exits", "exits_of_second", "u", "v"] (defScope s_pairs_met) := ⟨rfl, rfl, rfl, by decide +kernel, rfl, by decide +kernel, by decide +kernel⟩
/-! ### lists of whole numbers as data -/
abbrev dI (x : Nat) : PyData := .int (x : Int)
def ilD (xs : List Nat) : PyData := .list (xs.map dI)
theorem il_flat : ∀ xs : List Nat, PyData.canLayAll0 (xs.map dI) = true ∧ PyData.depthAll (xs.map dI) = 0
  | [] => ⟨by simp [PyData.canLayAll0], by simp [PyData.depthAll]⟩
  | x :: xs => by
    have ih := il_flat xs
    refine ⟨by simp [PyData.canLayAll0, PyData.canLay0, ih.1], ?_⟩
    have e : PyData.depthAll ((x :: xs).map dI) = max (PyData.depth (.int (x : Int))) (PyData.depthAll (xs.map dI)) := by simp [PyData.depthAll]
    rw [e, ih.2]
    simp [PyData.depth]
theorem ilD_shaped (xs : List Nat) : SeqAt.shaped (ilD xs) = true := by
  refine Bool.and_eq_true_iff.mpr ⟨?_, decide_eq_true ?_⟩
  · have := (il_flat xs).1
    unfold ilD
    simpa [PyData.canLay0] using this
  · have h := (il_flat xs).2
    have e : PyData.depth (ilD xs) = PyData.depthAll (xs.map dI) + 1 := by simp [ilD, PyData.depth, Nat.add_comm]
    omega
theorem il_eqvAll : ∀ xs ys : List Nat, PyData.eqvAll (xs.map dI) (ys.map dI) = decide (xs = ys)
  | [], [] => by simp [PyData.eqvAll]
  | [], _ :: _ => by simp [PyData.eqvAll]
  | _ :: _, [] => by simp [PyData.eqvAll]
  | x :: xs, y :: ys => by
    have e : PyData.eqvAll ((x :: xs).map dI) ((y :: ys).map dI) = (((x : Int) == (y : Int)) && PyData.eqvAll (xs.map dI) (ys.map dI)) := by simp only [List.map_cons, PyData.eqvAll, PyData.eqv]
    rw [e, il_eqvAll xs ys, Bool.eq_iff_iff, Bool.and_eq_true, beq_iff_eq, decide_eq_true_iff, decide_eq_true_iff, List.cons.injEq]
    exact and_congr (by omega) Iff.rfl
theorem ilD_eqv (xs ys : List Nat) : PyData.eqv (ilD xs) (ilD ys) = decide (xs = ys) := by
  rw [← il_eqvAll]
  unfold ilD
  simp only [PyData.eqv]
theorem dp_ils {K : PySem.W.Frag} {H : Hp} : ∀ xs : List Nat, DpAll K H (xs.map nv) (xs.map dI)
  | [] => .nil
  | x :: xs => .cons (.int _) (dp_ils xs)
theorem dp_il {K : PySem.W.Frag} {H : Hp} {p : Addr} {xs : List Nat} (h : H p = some (.lst (xs.map nv))) : Dp K H (.ref p) (ilD xs) := .lst (SqL.of h) (dp_ils xs)
/-! ### at most 49 pairs -/
theorem few2 {n m : Nat} (hn : n ≤ 7) (hm : m ≤ 7) {l : List Pr} (nd : l.Nodup) (h : ∀ p ∈ l, p.1 < n ∧ p.2 < m) : l.length ≤ 49 := by
  have hm' : (l.map fun p => p.1 * 7 + p.2).Nodup := by
    refine List.pairwise_map.mpr (List.Pairwise.imp_of_mem (R := fun p q => p ≠ q) (fun {p q} hp hq hne e => hne ?_) nd)
    have h1 := h p hp
    have h2 := h q hq
    obtain ⟨a, b⟩ := p
    obtain ⟨c, d⟩ := q
    dsimp only at *
    have e1 : a = c := by omega
    have e2 : b = d := by omega
    rw [e1, e2]
  have := nodup_lt 49 _ hm' (fun x hx => by
    obtain ⟨p, hp, rfl⟩ := List.mem_map.mp hx
    have := h p hp
    omega)
  rwa [List.length_map] at this
theorem row_le (ls : List Pr) (u : Nat) : (row ls u).length ≤ ls.length := by
  rw [row_length, exs_def]
  exact Nat.le_trans (List.length_filter_le _ _) (by rw [List.length_range]; exact Nat.le_refl _)
/-! ### the heap while pairs are met -/
theorem stup_dT {H : Hp} {l : Addr} {kvs : List (List L2.Key × V)} {o : HO} (h : H l = some (.dT kvs)) : STup H (upd H l o) := fun b ys e => by
  rw [upd_ne (ne_of e h (fun z => by cases z))]
  exact e
/-- what holds between two turns; x: a pair that is being gone on from, its first i exits are done -/
structure Pst (n m : Nat) (ls ks : List Pr) (z0 : Pr) (H0 H : Hp) (dm dw : Addr) (x : Option (Pr × Nat)) (ps ws : List Pr) : Prop where
  s0 : Same H0 H
  met : H dm = some (.dT (ps.map entP))
  lst : ∃ vs, H dw = some (.lst vs) ∧ PairsAt H vs ws
  nd : ps.Nodup
  rc : ∀ p ∈ ps, Rch ls ks z0 p
  st : z0 ∈ ps
  sub : ∀ p ∈ ws, p ∈ ps
  cl : ∀ p ∈ ps, p ∉ ws → (∀ y, x = some y → y.1 ≠ p) → Cmp ls ks p ∧ ∀ q, Sc ls ks p q → q ∈ ps
  cx : ∀ y, x = some y → Rch ls ks z0 y.1 ∧ Cmp ls ks y.1 ∧ ∀ (e : Nat) (a b : Pr), e < y.2 → (row ls y.1.1)[e]? = some a → (row ks y.1.2)[e]? = some b → (a.1, b.1) ∈ ps
theorem Pst.same {n m : Nat} {ls ks : List Pr} {s0 : Pr} {H0 H H' : Hp} {dm dw : Addr} {x : Option (Pr × Nat)} {ps ws : List Pr} (M : Pst n m ls ks s0 H0 H dm dw x ps ws) (s : Same H H') : Pst n m ls ks s0 H0 H' dm dw x ps ws := by
  obtain ⟨vs, h1, h2⟩ := M.lst
  exact ⟨M.s0.trans s, s _ _ M.met, ⟨vs, s _ _ h1, h2.keep (Same.stup s)⟩, M.nd, M.rc, M.st, M.sub, M.cl, M.cx⟩
/-- the next exit leads to a pair that was met -/
theorem Pst.old {n m : Nat} {ls ks : List Pr} {s0 : Pr} {H0 H : Hp} {dm dw : Addr} {p : Pr} {i : Nat} {ps ws : List Pr} (M : Pst n m ls ks s0 H0 H dm dw (some (p, i)) ps ws) {a b : Pr} (ha : (row ls p.1)[i]? = some a) (hb : (row ks p.2)[i]? = some b) (hm : (a.1, b.1) ∈ ps) :
    Pst n m ls ks s0 H0 H dm dw (some (p, i + 1)) ps ws := by
  obtain ⟨c1, c2, c3⟩ := M.cx _ rfl
  refine ⟨M.s0, M.met, M.lst, M.nd, M.rc, M.st, M.sub, fun q hq hw hy => M.cl q hq hw (fun y ey => ?_), fun y ey => ?_⟩
  · cases ey
    exact hy (p, i + 1) rfl
  · cases ey
    refine ⟨c1, c2, fun e a' b' he ha' hb' => ?_⟩
    by_cases c : e = i
    · subst c
      dsimp only at ha' hb'
      rw [ha] at ha'
      rw [hb] at hb'
      cases ha'
      cases hb'
      exact hm
    · exact c3 e a' b' (by dsimp only at he ⊢; omega) ha' hb'
/-- it leads to a new one, which is met now and waits -/
theorem Pst.new {n m : Nat} {ls ks : List Pr} {s0 : Pr} {H0 H H' : Hp} {dm dw : Addr} {p : Pr} {i : Nat} {ps ws : List Pr} (M : Pst n m ls ks s0 H0 H dm dw (some (p, i)) ps ws) {a b : Pr} (ha : (row ls p.1)[i]? = some a) (hb : (row ks p.2)[i]? = some b) (hm : (a.1, b.1) ∉ ps)
    (s : Same H0 H') (met : H' dm = some (.dT ((ps ++ [(a.1, b.1)]).map entP))) (lst : ∃ vs, H' dw = some (.lst vs) ∧ PairsAt H' vs (ws ++ [(a.1, b.1)])) : Pst n m ls ks s0 H0 H' dm dw (some (p, i + 1)) (ps ++ [(a.1, b.1)]) (ws ++ [(a.1, b.1)]) := by
  obtain ⟨c1, c2, c3⟩ := M.cx _ rfl
  refine ⟨s, met, lst, ?_, fun q hq => ?_, List.mem_append_left _ M.st, fun q hq => ?_, fun q hq hw hy => ?_, fun y ey => ?_⟩
  · rw [List.nodup_append]
    exact ⟨M.nd, by simp, fun x hx y hy => by
      rw [List.mem_singleton.mp hy]
      intro e
      exact hm (e ▸ hx)⟩
  · rcases List.mem_append.mp hq with c | c
    · exact M.rc q c
    · rw [List.mem_singleton.mp c]
      exact .step c1 ⟨i, a, b, ha, hb, rfl⟩
  · rcases List.mem_append.mp hq with c | c
    · exact List.mem_append_left _ (M.sub q c)
    · exact List.mem_append_right _ c
  · rcases List.mem_append.mp hq with c | c
    · obtain ⟨k1, k2⟩ := M.cl q c (fun z => hw (List.mem_append_left _ z)) (fun y ey => by
        cases ey
        exact hy (p, i + 1) rfl)
      exact ⟨k1, fun r hr => List.mem_append_left _ (k2 r hr)⟩
    · exact absurd (List.mem_append_right _ c) hw
  · cases ey
    refine ⟨c1, c2, fun e a' b' he ha' hb' => ?_⟩
    by_cases c : e = i
    · subst c
      dsimp only at ha' hb'
      rw [ha] at ha'
      rw [hb] at hb'
      cases ha'
      cases hb'
      exact List.mem_append_right _ (by simp)
    · exact List.mem_append_left _ (c3 e a' b' (by dsimp only at he ⊢; omega) ha' hb')
/-- a pair is taken off the waiting ones -/
theorem Pst.pop {n m : Nat} {ls ks : List Pr} {s0 : Pr} {H0 H H' : Hp} {dm dw : Addr} {p : Pr} {ps ws : List Pr} (M : Pst n m ls ks s0 H0 H dm dw none ps (ws ++ [p])) (hc : Cmp ls ks p) (s : Same H0 H') (met : H' dm = some (.dT (ps.map entP))) (lst : ∃ vs, H' dw = some (.lst vs) ∧ PairsAt H' vs ws) :
    Pst n m ls ks s0 H0 H' dm dw (some (p, 0)) ps ws := by
  refine ⟨s, met, lst, M.nd, M.rc, M.st, fun q hq => M.sub q (List.mem_append_left _ hq), fun q hq hw hy => ?_, fun y ey => ?_⟩
  · refine M.cl q hq (fun z => ?_) (fun _ z => nomatch z)
    rcases List.mem_append.mp z with c | c
    · exact hw c
    · exact hy (p, 0) rfl (List.mem_singleton.mp c).symm
  · cases ey
    exact ⟨M.rc p (M.sub p (by simp)), hc, fun e a b he => absurd he (Nat.not_lt_zero e)⟩
/-- all its exits are done -/
theorem Pst.done {n m : Nat} {ls ks : List Pr} {s0 : Pr} {H0 H : Hp} {dm dw : Addr} {p : Pr} {i : Nat} {ps ws : List Pr} (M : Pst n m ls ks s0 H0 H dm dw (some (p, i)) ps ws) (hi : (row ls p.1).length ≤ i) : Pst n m ls ks s0 H0 H dm dw none ps ws := by
  obtain ⟨c1, c2, c3⟩ := M.cx _ rfl
  refine ⟨M.s0, M.met, M.lst, M.nd, M.rc, M.st, M.sub, fun q hq hw _ => ?_, fun y ey => nomatch ey⟩
  by_cases c : p = q
  · subst c
    refine ⟨c2, fun r hr => ?_⟩
    obtain ⟨e, a, b, ha, hb, rfl⟩ := hr
    exact c3 e a b (by
      have := (List.getElem?_eq_some_iff.mp ha).1
      dsimp only
      omega) ha hb
  · exact M.cl q hq hw (fun y ey => by
      cases ey
      exact c)
/-- none waits any more -/
theorem Pst.fin {n m : Nat} {ls ks : List Pr} {s0 : Pr} {H0 H : Hp} {dm dw : Addr} {ps zs : List Pr} (M : Pst n m ls ks s0 H0 H dm dw none ps []) (pm : zs.Perm ps) (srt : zs.Pairwise fun p q => p.1 < q.1 ∨ (p.1 = q.1 ∧ p.2 ≤ q.2)) : Met ls ks s0 zs := by
  have cl := fun p hp => M.cl p hp (fun z => nomatch z) (fun _ z => nomatch z)
  have rin : ∀ p, Rch ls ks s0 p → p ∈ ps := fun p hp => rch_in M.st (fun p hp q c => (cl p hp).2 q c) hp
  exact ⟨fun p hp => (cl p (rin p hp)).1, fun p => ⟨fun h => M.rc p (pm.mem_iff.mp h), fun h => pm.mem_iff.mpr (rin p h)⟩, pm.nodup_iff.mpr M.nd, srt⟩
theorem pairs_snoc {H : Hp} {vs : List V} {ps : List Pr} (h : PairsAt H vs ps) (hne : vs ≠ []) : ∃ (us : List V) (qs : List Pr) (t : Addr) (p : Pr), vs = us ++ [.ref t] ∧ ps = qs ++ [p] ∧ H t = some (.tup [nv p.1, nv p.2]) ∧ PairsAt H us qs := by
  have hpe : ps ≠ [] := fun z => hne (List.eq_nil_of_length_eq_zero (by rw [h.1, z]; rfl))
  have e1 := List.dropLast_concat_getLast hne
  have e2 := List.dropLast_concat_getLast hpe
  generalize vs.dropLast = us at e1
  generalize vs.getLast hne = v at e1
  generalize ps.dropLast = qs at e2
  generalize ps.getLast hpe = p at e2
  subst e1 e2
  have hl : us.length = qs.length := by
    have := h.1
    rw [List.length_append, List.length_append, List.length_singleton, List.length_singleton] at this
    omega
  obtain ⟨t, h1, h2⟩ := h.2 qs.length p (by rw [List.getElem?_append_right (Nat.le_refl _), Nat.sub_self]; rfl)
  rw [List.getElem?_append_right (by omega), ← hl, Nat.sub_self] at h1
  have ev : v = .ref t := Option.some.inj h1
  subst ev
  refine ⟨us, qs, t, p, rfl, rfl, h2, hl, fun i q hq => ?_⟩
  have hi := (List.getElem?_eq_some_iff.mp hq).1
  obtain ⟨t', g1, g2⟩ := h.2 i q (by rw [List.getElem?_append_left hi]; exact hq)
  exact ⟨t', by rw [List.getElem?_append_left (by omega)] at g1; exact g1, g2⟩
section
variable {P : Program} {w : World} {K : PySem.W.Frag} {mg : Str → Option Value} {base : Heap}
/-! ### pairs_met -/
def spMet : Sp := fun vs H Q _ => ∃ (a b : Addr) (n m u v : Nat) (ls ks : List Pr), vs = [.ref a, .ref b, nv u, nv v] ∧ TabAt H a ((List.range n).map (row ls)) ∧ TabAt H b ((List.range m).map (row ks)) ∧ n ≤ 7 ∧ m ≤ 7 ∧ u < n ∧ v < m ∧ ls.length ≤ 10 ∧ ks.length ≤ 10 ∧
  (∀ p ∈ ls, Ok1 n p) ∧ (∀ p ∈ ks, Ok1 m p) ∧
  (∀ zs, Met ls ks (u, v) zs → zs.length ≤ 49 → ∀ H' p, Same H H' → LinksAt H' p zs → Q (.ref p) H') ∧
  (¬ AllC ls ks (u, v) → ∀ H', Same H H' → Q .non H')
theorem ok_met {f : Addr} {fd : FuncData} {k : Nat} (F : Fun K "pairs_met" "pairs_met" s_pairs_met f fd) (T : Txt mg) : FnOk P w K mg base CX0 (k + 1) f fd ["exits", "exits_of_second", "u", "v"] spMet := by
  refine F.ok scPM (fun vs H Q E h => ?_) (fun cdv A outer st H vs Q E hr h => ?_)
  · obtain ⟨a, b, n, m, u, v, ls, ks, rfl, _⟩ := h
    rfl
  · obtain ⟨a, b, n, m, u, v, ls, ks, rfl, hA, hB, hn, hm, hu, hv, hls, hks, ok1, ok2, yes, no⟩ := h
    have hu64 := hr.units
    have hu1 : (A.deeper (envOfC "pairs_met" (defScope s_pairs_met) st.heap.objs.size f cdv)).units + 1 < cLine := by omega
    refine ⟨_, pss_cons (ps_set (i := 4) scPM.nd rfl (.inl rfl) (pe_tup (pa_cons (pv 2) (pa_cons (pv 3) pa_nil))))
      (pss_cons (ps_set (i := 5) scPM.nd rfl (.inl rfl) (pe_dispT hu64 (pv 4) pe_bl))
      (pss_cons (ps_set (i := 6) scPM.nd rfl (.inl rfl) (pe_lst (pa_cons (pv 4) pa_nil)))
      (pss_cons (ps_while PassesOwn.never (pt_truth (pv 6) (by intro _; rfl))
        (pss_cons (ps_set (i := 7) scPM.nd rfl (.inl rfl) (pe_bm0 PySem.F.plainAttrs_list PySem.F.slot_list_pop PySem.F.type_list_pop mt_pop (pv 6)))
        (pss_cons (ps_set (i := 8) scPM.nd rfl (.inl rfl) (pe_ix ix_list (pv 0) (pe_ix ix_tup (pv 7) pe_int (fun _ _ => rfl)) (fun _ _ => rfl)))
        (pss_cons (ps_set (i := 9) scPM.nd rfl (.inl rfl) (pe_ix ix_list (pv 1) (pe_ix ix_tup (pv 7) pe_int (fun _ _ => rfl)) (fun _ _ => rfl)))
        (pss_cons (ps_if (pt_cmpR (op_neD hu64)
            (pe_lc (own := [("way", 10)]) (g := gName 10) (tt := tYes) (te := tOp (rIxT K) (tVar 10) (tC (.int 1))) rfl scPM.nd (pi_list (pv 8)) (blkOk_by (N := nmPM) (sc := defScope s_pairs_met) (by decide +kernel)) (fun _ _ _ _ _ => pg_name (i := 10) scPM.nd rfl (Or.inl rfl)) (fun _ _ _ _ _ => pts_nil) (fun _ _ _ _ _ => pe_ix ix_tup (pv 10) pe_int (fun _ _ => rfl)))
            (pe_lc (own := [("way", 10)]) (g := gName 10) (tt := tYes) (te := tOp (rIxT K) (tVar 10) (tC (.int 1))) rfl scPM.nd (pi_list (pv 9)) (blkOk_by (N := nmPM) (sc := defScope s_pairs_met) (by decide +kernel)) (fun _ _ _ _ _ => pg_name (i := 10) scPM.nd rfl (Or.inl rfl)) (fun _ _ _ _ _ => pts_nil) (fun _ _ _ _ _ => pe_ix ix_tup (pv 10) pe_int (fun _ _ => rfl))) (nomark _)) (pss_one (ps_ret pe_non)) pss_nil)
        (pss_one (ps_for PassesOwn.never rfl (pi_zip (by rfl) T.b_zip (pa_cons (pv 8) (pa_cons (pv 9) pa_nil))) (pg_tup rfl (pgs_cons (pg_name (i := 10) scPM.nd rfl (.inl rfl)) (pgs_cons (pg_name (i := 11) scPM.nd rfl (.inl rfl)) pgs_nil)))
          (pss_cons (ps_set (i := 12) scPM.nd rfl (.inl rfl) (pe_tup (pa_cons (pe_ix ix_tup (pv 10) pe_int (fun _ _ => rfl)) (pa_cons (pe_ix ix_tup (pv 11) pe_int (fun _ _ => rfl)) pa_nil))))
          (pss_one (ps_if (pt_cmp (pc_dnotin hu1 (pv 12) (pv 5)))
            (pss_cons (ps_dput hu1 (pv 5) (pv 12) pe_bl rfl)
            (pss_one (ps_expr (pe_bm PySem.F.plainAttrs_list PySem.F.slot_list_append PySem.F.type_list_append mt_append (pv 6) (pa_cons (pv 12) pa_nil))))) pss_nil))))))))))
      (pss_one (ps_ret (pe_callB (cr_sortedDT rfl) (by rfl) T.b_sorted (by decide +kernel) (pa_cons (pv 5) pa_nil))))))), ?_⟩
    -- start = (u, v)
    refine ⟨_, rfl, _, rfl, (by show 2 ≤ sizeLine; decide), fun t0 n0 => ?_⟩
    have s1 := same_upd (o := .tup [nv u, nv v]) n0
    have ht0 : upd H t0 (.tup [nv u, nv v]) t0 = _ := upd_same
    generalize upd H t0 (.tup [nv u, nv v]) = H1 at s1 ht0
    -- met = {start: True}
    refine fun dm ndm => ?_
    have ndH : H dm = none := s1.free ndm
    have s2 := same_upd (o := .dT []) ndm
    refine ⟨_, rfl, upd_same, kp2 (u, v), t0, rfl, s2 _ _ ht0, ?_⟩
    have s3 : Same H (upd (upd H1 dm (.dT [])) dm (.dT [(kp2 (u, v), .bl true)])) := same_off (same_off s1 ndH) ndH
    have ht1 : (upd (upd H1 dm (.dT [])) dm (.dT [(kp2 (u, v), .bl true)])) t0 = some (.tup [nv u, nv v]) := stup_dT upd_same _ _ (s2 _ _ ht0)
    have hdm : (upd (upd H1 dm (.dT [])) dm (.dT [(kp2 (u, v), .bl true)])) dm = some (.dT ([(u, v)].map entP)) := upd_same
    generalize upd (upd H1 dm (.dT [])) dm (.dT [(kp2 (u, v), .bl true)]) = H2 at s3 ht1 hdm
    -- waiting = [start]
    refine ⟨_, rfl, (by show 1 ≤ sizeLine; decide), fun dw ndw => ?_⟩
    have nwH : H dw = none := s3.free ndw
    have s4 := same_upd (o := .lst [.ref t0]) ndw
    have s5 : Same H (upd H2 dw (.lst [.ref t0])) := s3.trans s4
    -- while waiting
    refine ⟨fun g σ H' => ∃ y7 y8 y9 y10 y11 y12 ps ws, σ = [some (.ref a), some (.ref b), some (nv u), some (nv v), some (.ref t0), some (.ref dm), some (.ref dw), y7, y8, y9, y10, y11, y12] ∧ Pst n m ls ks (u, v) H H' dm dw none ps ws ∧ ws.length + 98 ≤ g + 2 * ps.length ∧ g ≤ 97,
      ⟨97, none, none, none, none, none, none, [(u, v)], [(u, v)], rfl, ?_, by simp, Nat.le_refl _⟩, ?_⟩
    · refine ⟨s5, s4 _ _ hdm, ⟨_, upd_same, PairsAt.snoc (p := (u, v)) PairsAt.nil (s4 _ _ ht1)⟩, by simp, fun p hp => ?_, by simp, fun p hp => hp, fun p hp hw => absurd hp hw, fun y ey => nomatch ey⟩
      rw [List.mem_singleton.mp hp]
      exact .refl
    rintro g σ Hs ⟨y7, y8, y9, y10, y11, y12, ps, ws, rfl, W, hg, hg97⟩
    obtain ⟨vs, hdw, hvs⟩ := W.lst
    have hps : ps.length ≤ 49 := few2 hn hm W.nd (fun p hp => rch_lt ok1 ok2 (s := (u, v)) ⟨hu, hv⟩ (W.rc p hp))
    refine ⟨_, rfl, !vs.isEmpty, .inl ⟨vs, SqL.of hdw, rfl⟩, ?_⟩
    by_cases ev : vs = []
    · -- return sorted(met)
      refine if_false_of (by rw [ev]; rfl) ?_
      have ew : ws = [] := List.eq_nil_of_length_eq_zero (by rw [← hvs.1, ev]; rfl)
      subst ew
      refine ⟨_, rfl, dm, ps, rfl, W.met, fun xs zs p hz pm srt np => ?_⟩
      have s6 := same_upd (o := .lst xs) np
      exact yes zs (W.fin pm srt) (by rw [pm.length_eq]; exact hps) _ p (W.s0.trans s6) ⟨xs, upd_same, hz.keep (Same.stup s6)⟩
    refine if_true_of (by cases vs with | nil => exact absurd rfl ev | cons _ _ => rfl) ?_
    obtain ⟨us, qs, t, p, rfl, rfl, ht, hus⟩ := pairs_snoc hvs ev
    rw [List.length_append, List.length_singleton] at hg
    obtain ⟨g', rfl⟩ : ∃ g', g = g' + 1 := ⟨g - 1, by omega⟩
    refine ⟨_, fun σ' H' z => ⟨g', Nat.lt_succ_self _, z⟩, ?_⟩
    have hrp := W.rc p (W.sub p (by simp))
    have hpl := rch_lt ok1 ok2 (s := (u, v)) ⟨hu, hv⟩ hrp
    -- pair = waiting.pop()
    refine ⟨_, rfl, .inl ⟨rfl, _, SqL.of hdw⟩, dw, _, _, rfl, rfl, hdw, by rw [List.length_append, List.length_singleton, Nat.add_sub_cancel, List.getElem?_append_right (Nat.le_refl _), Nat.sub_self]; rfl, ?_⟩
    rw [List.dropLast_concat]
    have s6 : Same H (upd Hs dw (.lst us)) := same_off W.s0 nwH
    have st6 : STup Hs (upd Hs dw (.lst us)) := stup_lst hdw
    have hdm6 : upd Hs dw (.lst us) dm = some (.dT (ps.map entP)) := by
      rw [upd_ne (ne_of W.met hdw (fun z => nomatch z))]
      exact W.met
    have hdw6 : upd Hs dw (.lst us) dw = some (.lst us) := upd_same
    have ht6 := st6 _ _ ht
    have hus6 := hus.keep st6
    generalize upd Hs dw (.lst us) = H6 at s6 hdm6 hdw6 ht6 hus6
    -- ways = exits[pair[0]]
    obtain ⟨ea, qa, va, ha1, ha2, ha3, ha4, ha5⟩ := tab_item hA (tab_at p.1 hpl.1)
    obtain ⟨eb, qb, vb, hb1, hb2, hb3, hb4, hb5⟩ := tab_item hB (tab_at p.2 hpl.2)
    refine ⟨_, rfl, _, rfl, t, _, 0, _, rfl, rfl, SqT.of ht6, atI_nat (j := 0) rfl, a, _, _, _, rfl, rfl, SqL.of (s6 _ _ ha1), ha2, ?_⟩
    refine ⟨_, rfl, _, rfl, t, _, 1, _, rfl, rfl, SqT.of ht6, atI_nat (j := 1) rfl, b, _, _, _, rfl, rfl, SqL.of (s6 _ _ hb1), hb2, ?_⟩
    have hra : (row ls p.1).length ≤ 10 := Nat.le_trans (row_le ls p.1) hls
    have hrb : (row ks p.2).length ≤ 10 := Nat.le_trans (row_le ks p.2) hks
    -- [way[1] for way in ways]
    refine ⟨_, rfl, qa, rfl, ⟨_, SqL.of (s6 _ _ ha3)⟩, fun D1 nD1 => ?_⟩
    refine lc_list (K := K) (a := qa) (xs := va) (fun i H' => Same H6 H' ∧ H' D1 = some (.lst ((((row ls p.1).map (·.2)).take i).map nv))) ⟨same_upd nD1, upd_same⟩ (fun i H' _ ⟨s7, _⟩ => SqL.of (s7 _ _ (s6 _ _ ha3))) ?_ ?_
    · rintro i x H7 hi ⟨s7, hD⟩
      have hil : i < (row ls p.1).length := by
        rw [← ha5.1]
        exact (List.getElem?_eq_some_iff.mp hi).1
      have hp := List.getElem?_eq_getElem hil
      generalize (row ls p.1)[i] = r at hp
      obtain ⟨tt, e1, e2⟩ := ha5.2 i r hp
      have ex : x = .ref tt := Option.some.inj (hi.symm.trans e1)
      subst ex
      refine ⟨rfl, ?_⟩
      refine ⟨_, rfl, tt, _, 1, _, rfl, rfl, SqT.of (s7 _ _ (s6 _ _ e2)), atI_nat (j := 1) rfl, _, hD, small1000 (by rw [List.length_map, List.length_take, List.length_map]; omega), same_off s7 nD1, ?_⟩
      rw [upd_same, take_more (show ((row ls p.1).map (·.2))[i]? = some r.2 by rw [List.getElem?_map, hp]; rfl), List.map_append]
      rfl
    rintro H7 ⟨s7, hD1⟩
    rw [List.take_of_length_le (by rw [ha5.1, List.length_map]; exact Nat.le_refl _)] at hD1
    -- [way[1] for way in ways_of_second]
    refine ⟨_, rfl, qb, rfl, ⟨_, SqL.of (s7 _ _ (s6 _ _ hb3))⟩, fun D2 nD2 => ?_⟩
    refine lc_list (K := K) (a := qb) (xs := vb) (fun i H' => Same H7 H' ∧ H' D2 = some (.lst ((((row ks p.2).map (·.2)).take i).map nv))) ⟨same_upd nD2, upd_same⟩ (fun i H' _ ⟨s8, _⟩ => SqL.of (s8 _ _ (s7 _ _ (s6 _ _ hb3)))) ?_ ?_
    · rintro i x H8 hi ⟨s8, hD⟩
      have hil : i < (row ks p.2).length := by
        rw [← hb5.1]
        exact (List.getElem?_eq_some_iff.mp hi).1
      have hp := List.getElem?_eq_getElem hil
      generalize (row ks p.2)[i] = r at hp
      obtain ⟨tt, e1, e2⟩ := hb5.2 i r hp
      have ex : x = .ref tt := Option.some.inj (hi.symm.trans e1)
      subst ex
      refine ⟨rfl, ?_⟩
      refine ⟨_, rfl, tt, _, 1, _, rfl, rfl, SqT.of (s8 _ _ (s7 _ _ (s6 _ _ e2))), atI_nat (j := 1) rfl, _, hD, small1000 (by rw [List.length_map, List.length_take, List.length_map]; omega), same_off s8 nD2, ?_⟩
      rw [upd_same, take_more (show ((row ks p.2).map (·.2))[i]? = some r.2 by rw [List.getElem?_map, hp]; rfl), List.map_append]
      rfl
    rintro H8 ⟨s8, hD2⟩
    rw [List.take_of_length_le (by rw [hb5.1, List.length_map]; exact Nat.le_refl _)] at hD2
    have s68 := s7.trans s8
    have s08 := s6.trans s68
    refine ⟨_, _, dp_il (s8 _ _ hD1), dp_il hD2, ilD_shaped _, ilD_shaped _, _, rfl, ?_⟩
    rw [ilD_eqv]
    by_cases cc : Cmp ls ks p
    · refine if_false_of (by rw [decide_eq_true (show (row ls p.1).map (·.2) = (row ks p.2).map (·.2) from cc)]; rfl) ?_
      have hl := cmp_len cc
      have M0 : Pst n m ls ks (u, v) H H8 dm dw (some (p, 0)) ps qs := W.pop cc s08 (s68 _ _ hdm6) ⟨us, s68 _ _ hdw6, hus6.keep (Same.stup s68)⟩
      -- for way, way_of_second in zip(ways, ways_of_second)
      refine ⟨_, rfl, _, rfl, qa, qb, va, vb, rfl, SqL.of (s08 _ _ ha3), SqL.of (s08 _ _ hb3), RZ.for_zipL (K := K) (by rw [ha5.1, hb5.1, hl]) (fun i σ H' => ∃ y10 y11 y12 ps' ws', σ = [some (.ref a), some (.ref b), some (nv u), some (nv v), some (.ref t0), some (.ref dm), some (.ref dw), some (.ref t), some (.ref qa), some (.ref qb), y10, y11, y12] ∧ Pst n m ls ks (u, v) H H' dm dw (some (p, i)) ps' ws' ∧ ws'.length + 98 ≤ g' + 2 * ps'.length)
        ⟨_, _, _, ps, qs, rfl, M0, by omega⟩ (fun i σ H' ⟨_, _, _, _, _, _, M, _⟩ => ⟨SqL.of (M.s0 _ _ ha3), SqL.of (M.s0 _ _ hb3)⟩) ?_ ?_⟩
      · rintro i x y Tz σ H9 hx hy ⟨z10, z11, z12, ps', ws', rfl, M, hg'⟩ nT
        have hil : i < (row ls p.1).length := by
          rw [← ha5.1]
          exact (List.getElem?_eq_some_iff.mp hx).1
        have hra' := List.getElem?_eq_getElem hil
        have hrb' := List.getElem?_eq_getElem (l := row ks p.2) (i := i) (by rw [← hl]; exact hil)
        generalize (row ls p.1)[i] = ra at hra'
        generalize (row ks p.2)[i]'(by rw [← hl]; exact hil) = rb at hrb'
        obtain ⟨tx, x1, x2⟩ := ha5.2 i ra hra'
        obtain ⟨ty, yy1, yy2⟩ := hb5.2 i rb hrb'
        have ex : x = .ref tx := Option.some.inj (hx.symm.trans x1)
        have ey : y = .ref ty := Option.some.inj (hy.symm.trans yy1)
        subst ex ey
        have s9 := same_upd (o := .tup [.ref tx, .ref ty]) nT
        have MT := M.same s9
        have hT : upd H9 Tz (.tup [.ref tx, .ref ty]) Tz = _ := upd_same
        generalize upd H9 Tz (.tup [.ref tx, .ref ty]) = H10 at MT hT
        refine ⟨Tz, _, rfl, SqT.of hT, rfl, _, _, rfl, _, _, rfl, rfl, ?_⟩
        -- after = (way[0], way_of_second[0])
        refine ⟨_, rfl, tx, _, 0, _, rfl, rfl, SqT.of (MT.s0 _ _ x2), atI_nat (j := 0) rfl, _, rfl, ty, _, 0, _, rfl, rfl, SqT.of (MT.s0 _ _ yy2), atI_nat (j := 0) rfl, (by show 2 ≤ sizeLine; decide), fun tn ntn => ?_⟩
        have s10 := same_upd (o := .tup [nv ra.1, nv rb.1]) ntn
        have MN := MT.same s10
        have htn : upd H10 tn (.tup [nv ra.1, nv rb.1]) tn = some (.tup ((kp2 (ra.1, rb.1)).map kV)) := upd_same
        generalize upd H10 tn (.tup [nv ra.1, nv rb.1]) = H11 at MN htn
        have hps' : ps'.length ≤ 49 := few2 hn hm MN.nd (fun p hp => rch_lt ok1 ok2 (s := (u, v)) ⟨hu, hv⟩ (MN.rc p hp))
        -- if after not in met
        refine ⟨_, rfl, _, rfl, dm, _, rfl, DGet.t MN.met htn, _, rfl, ?_⟩
        rw [val_pairs]
        by_cases cm : (ra.1, rb.1) ∈ ps'
        · exact if_false_of (by rw [decide_eq_true cm]; rfl) ⟨_, _, _, ps', ws', rfl, MN.old hra' hrb' cm, hg'⟩
        refine if_true_of (by rw [decide_eq_false cm]; rfl) ?_
        -- met[after] = True
        refine ⟨_, rfl, _, rfl, dm, _, rfl, DPut.t MN.met htn (Nat.lt_of_le_of_lt (by rw [List.length_map]; exact hps') (small1000 (by decide : 49 ≤ 1000))), ?_⟩
        rw [put_pairs cm]
        obtain ⟨vw, w1, w2⟩ := MN.lst
        have st11 : STup H11 (upd H11 dm (.dT ((ps' ++ [(ra.1, rb.1)]).map entP))) := stup_dT MN.met
        have hdm12 : upd H11 dm (.dT ((ps' ++ [(ra.1, rb.1)]).map entP)) dm = _ := upd_same
        have s12 : Same H (upd H11 dm (.dT ((ps' ++ [(ra.1, rb.1)]).map entP))) := same_off MN.s0 ndH
        have w1' : upd H11 dm (.dT ((ps' ++ [(ra.1, rb.1)]).map entP)) dw = some (.lst vw) := by
          rw [upd_ne (ne_of w1 MN.met (fun z => nomatch z))]
          exact w1
        have w2' := w2.keep st11
        have htn' := st11 _ _ htn
        generalize upd H11 dm (.dT ((ps' ++ [(ra.1, rb.1)]).map entP)) = H12 at hdm12 s12 w1' w2' htn'
        -- waiting.append(after)
        have hwl : ws'.length ≤ 1000 := by omega
        refine ⟨_, rfl, .inl ⟨rfl, _, SqL.of w1'⟩, _, rfl, dw, vw, _, rfl, rfl, w1', small1000 (by rw [w2'.1]; exact hwl), ?_⟩
        have st12 : STup H12 (upd H12 dw (.lst (vw ++ [.ref tn]))) := stup_lst w1'
        refine ⟨_, _, _, ps' ++ [(ra.1, rb.1)], ws' ++ [(ra.1, rb.1)], rfl, MN.new hra' hrb' cm (same_off s12 nwH) ?_ ⟨_, upd_same, PairsAt.snoc (p := (ra.1, rb.1)) (w2'.keep st12) (st12 _ _ htn')⟩, ?_⟩
        · rw [upd_ne (ne_of hdm12 w1' (fun z => nomatch z))]
          exact hdm12
        · rw [List.length_append, List.length_append, List.length_singleton]
          omega
      · rintro σ H9 ⟨z10, z11, z12, ps', ws', rfl, M, hg'⟩
        exact ⟨_, _, _, _, _, _, ps', ws', rfl, M.done (by rw [ha5.1]; exact Nat.le_refl _), hg', by omega⟩
    · refine if_true_of (by rw [decide_eq_false (show ¬ (row ls p.1).map (·.2) = (row ks p.2).map (·.2) from cc)]; rfl) ?_
      exact no (fun ac => cc (ac p hrp)) H8 s08
end
end Wp
namespace Wp
open PySem PySem.Spec PyProof.Rows L2
theorem scNam : FnScope ["exits", "exits_of_second", "u", "v", "pairs", "pair"] ["exits", "exits_of_second", "u", "v"] (defScope s_naming) := ⟨rfl, rfl, rfl, by decide +kernel, rfl, by decide +kernel, by decide +kernel⟩
theorem tab_len {H : Hp} {a : Addr} {n : Nat} {ls : List Pr} (h : TabAt H a ((List.range n).map (row ls))) : ∃ vs : List V, H a = some (.lst vs) ∧ vs.length = n := by
  obtain ⟨qs, e, hl, _⟩ := h
  rw [List.length_map, List.length_range] at hl
  exact ⟨_, e, by rw [List.length_map]; exact hl⟩
section
variable {P : Program} {w : World} {K : PySem.W.Frag} {mg : Str → Option Value} {base : Heap}
/-! ### naming -/
def spNaming : Sp := fun vs H Q _ => ∃ (a b : Addr) (n m u v : Nat) (ls ks : List Pr), vs = [.ref a, .ref b, nv u, nv v] ∧ TabAt H a ((List.range n).map (row ls)) ∧ TabAt H b ((List.range m).map (row ks)) ∧ n ≤ 7 ∧ m ≤ 7 ∧ u < n ∧ v < m ∧ ls.length ≤ 10 ∧ ks.length ≤ 10 ∧
  (∀ p ∈ ls, Ok1 n p) ∧ (∀ p ∈ ks, Ok1 m p) ∧ hangs n ls = true ∧ hangs m ks = true ∧
  (∀ r, Ks539.same ⟨n, ls⟩ ⟨m, ks⟩ u v = some r → r.length = n → ∀ H' p, Same H H' → H' p = some (.lst (r.map nv)) → Q (.ref p) H') ∧
  (Ks539.same ⟨n, ls⟩ ⟨m, ks⟩ u v = none → ∀ H', Same H H' → Q .non H')
theorem ok_naming {f fM : Addr} {fd fdM : FuncData} (F : Fun K "naming" "naming" s_naming f fd) (T : Txt mg) (M : Dfn K mg "pairs_met" s_pairs_met ["exits", "exits_of_second", "u", "v"] fM fdM) : FnOk P w K mg base CX0 2 f fd ["exits", "exits_of_second", "u", "v"] spNaming := by
  have GM : FnOk P w K mg base CX0 1 fM fdM ["exits", "exits_of_second", "u", "v"] spMet := ok_met M.F T
  refine F.ok scNam (fun vs H Q E h => ?_) (fun cdv A outer st H vs Q E hr h => ?_)
  · obtain ⟨a, b, n, m, u, v, ls, ks, rfl, _⟩ := h
    rfl
  · obtain ⟨a, b, n, m, u, v, ls, ks, rfl, hA, hB, hn, hm, hu, hv, hls, hks, ok1, ok2, hh1, hh2, yes, no⟩ := h
    refine ⟨_, pss_cons (ps_set (i := 4) scNam.nd rfl (.inl rfl) (pe_call GM hr (by rfl) M.g M.F.kp M.b .nil pass0 (pa_cons (pv 0) (pa_cons (pv 1) (pa_cons (pv 2) (pa_cons (pv 3) pa_nil))))))
      (pss_cons (ps_if (pt_cmpR op_isN (pv 4) pe_non (nomark _)) (pss_one (ps_ret pe_non)) pss_nil)
      (pss_cons (ps_if (PW.pt (pw_or (pt_cmpR op_ne (pe_callB call_len_seq (by rfl) T.b_len PySem.boot_len (pa_cons (pv 4) pa_nil)) (pe_callB call_len_seq (by rfl) T.b_len PySem.boot_len (pa_cons (pv 0) pa_nil)) (nomark _)) (pw_or1 (pt_cmpR op_ne (pe_callB call_len_seq (by rfl) T.b_len PySem.boot_len (pa_cons (pv 4) pa_nil)) (pe_callB call_len_seq (by rfl) T.b_len PySem.boot_len (pa_cons (pv 1) pa_nil)) (nomark _))))) (pss_one (ps_ret pe_non)) pss_nil)
      (pss_one (ps_ret (pe_lc (own := [("pair", 5)]) (g := gName 5) (tt := tYes) (te := tOp (rIxT K) (tVar 5) (tC (.int 1))) rfl scNam.nd (pi_list (pv 4)) (blkOk_by (N := ["exits", "exits_of_second", "u", "v", "pairs", "pair"]) (sc := defScope s_naming) (by decide +kernel)) (fun _ _ _ _ _ => pg_name (i := 5) scNam.nd rfl (Or.inl rfl)) (fun _ _ _ _ _ => pts_nil) (fun _ _ _ _ _ => pe_ix ix_tup (pv 5) pe_int (fun _ _ => rfl))))))), ?_⟩
    refine ⟨_, rfl, _, rfl, _, rfl, _, rfl, a, b, n, m, u, v, ls, ks, rfl, hA, hB, hn, hm, hu, hv, hls, hks, ok1, ok2, fun zs MZ hz H1 p s1 hp => ?_, fun ac H1 s1 => ?_⟩
    · have es := same_met ok1 ok2 hh1 hh2 hu hv MZ
      obtain ⟨xs, hp1, hp2⟩ := hp
      obtain ⟨va, ha1, ha2⟩ := tab_len hA
      obtain ⟨vb, hb1, hb2⟩ := tab_len hB
      refine ⟨_, rfl, rfl, _, rfl, if_false_of (decide_eq_false (fun z => nomatch z)) ?_⟩
      refine ⟨_, rfl, p, _, rfl, .inl (SqL.of hp1), _, rfl, a, _, rfl, .inl (SqL.of (s1 _ _ ha1)), rfl, _, rfl, ?_⟩
      rw [hp2.1, ha2]
      by_cases c1 : zs.length = n
      · refine if_false_of (by rw [c1]; exact congrArg (! ·) (decide_eq_true rfl)) ?_
        refine ⟨_, rfl, p, _, rfl, .inl (SqL.of hp1), _, rfl, b, _, rfl, .inl (SqL.of (s1 _ _ hb1)), rfl, _, rfl, ?_⟩
        rw [hp2.1, hb2]
        by_cases c2 : zs.length = m
        · refine if_false_of (by rw [c2]; exact congrArg (! ·) (decide_eq_true rfl)) ?_
          rw [if_pos ⟨c1, c2⟩] at es
          -- [pair[1] for pair in pairs]
          refine ⟨_, rfl, p, rfl, ⟨_, SqL.of hp1⟩, fun D nD => ?_⟩
          refine lc_list (K := K) (a := p) (xs := xs) (fun i H' => Same H1 H' ∧ H' D = some (.lst (((zs.map (·.2)).take i).map nv))) ⟨same_upd nD, upd_same⟩ (fun i H' _ ⟨s7, _⟩ => SqL.of (s7 _ _ hp1)) ?_ ?_
          · rintro i x H7 hi ⟨s7, hD⟩
            have hil : i < zs.length := by
              rw [← hp2.1]
              exact (List.getElem?_eq_some_iff.mp hi).1
            have hq := List.getElem?_eq_getElem hil
            generalize zs[i] = r at hq
            obtain ⟨tt, e1, e2⟩ := hp2.2 i r hq
            have ex : x = .ref tt := Option.some.inj (hi.symm.trans e1)
            subst ex
            refine ⟨rfl, ?_⟩
            refine ⟨_, rfl, tt, _, 1, _, rfl, rfl, SqT.of (s7 _ _ e2), atI_nat (j := 1) rfl, _, hD, small1000 (by rw [List.length_map, List.length_take, List.length_map]; omega), same_off s7 nD, ?_⟩
            rw [upd_same, take_more (show (zs.map (·.2))[i]? = some r.2 by rw [List.getElem?_map, hq]; rfl), List.map_append]
            rfl
          · rintro H7 ⟨s7, hD⟩
            rw [List.take_of_length_le (by rw [hp2.1, List.length_map]; exact Nat.le_refl _)] at hD
            exact yes _ es (by rw [List.length_map]; exact c1) H7 D (s1.trans s7) hD
        · refine if_true_of ?_ (no (by rw [es, if_neg (fun z => c2 z.2)]) H1 s1)
          rw [decide_eq_false (fun z => c2 (by have e : ((zs.length : Nat) : Int) = ((m : Nat) : Int) := V.int.inj z; omega))]
          rfl
      · refine if_true_of ?_ (if_true_of rfl (no (by rw [es, if_neg (fun z => c1 z.1)]) H1 s1))
        rw [decide_eq_false (fun z => c1 (by have e : ((zs.length : Nat) : Int) = ((n : Nat) : Int) := V.int.inj z; omega))]
        rfl
    · refine ⟨_, rfl, rfl, _, rfl, if_true_of (decide_eq_true rfl) ?_⟩
      exact no (same_apart ok1 ok2 hu hv ac) H1 s1
end
end Wp
namespace Wp
open PySem PySem.Spec PyProof.Rows L2
theorem scThree : FnScope ["exits", "exits_of_second", "u", "v", "alike", "never_apart", "the_same", "holds"] ["exits", "exits_of_second", "u", "v"] (defScope s_three_answers) := ⟨rfl, rfl, rfl, by decide +kernel, rfl, by decide +kernel, by decide +kernel⟩
section
variable {P : Program} {w : World} {K : PySem.W.Frag} {mg : Str → Option Value} {base : Heap}
/-! ### three_answers -/
def bits (x y z : Bool) : List Int := [bit x, bit y, bit z]
def spThree : Sp := fun vs H Q _ => ∃ (a b : Addr) (n m u v : Nat) (ls ks : List Pr), vs = [.ref a, .ref b, nv u, nv v] ∧ TabAt H a ((List.range n).map (row ls)) ∧ TabAt H b ((List.range m).map (row ks)) ∧ n ≤ 5 ∧ m ≤ 5 ∧ u < n ∧ v < m ∧ ls.length ≤ 10 ∧ ks.length ≤ 10 ∧
  (∀ p ∈ ls, Ok1 n p) ∧ (∀ p ∈ ks, Ok1 m p) ∧ hangs n ls = true ∧ hangs m ks = true ∧
  ∀ H' p, Same H H' → H' p = some (.lst ((threeOf ⟨n, ls⟩ ⟨m, ks⟩ u v).map V.int)) → Q (.ref p) H'
theorem ok_three {f fM fS fN : Addr} {fd fdM fdS fdN : FuncData} (F : Fun K "three_answers" "three_answers" s_three_answers f fd) (T : Txt mg) (M : Dfn K mg "pairs_met" s_pairs_met ["exits", "exits_of_second", "u", "v"] fM fdM)
    (S : Dfn K mg "shortest_word_apart" s_shortest_word_apart ["exits", "exits_of_second", "u", "v"] fS fdS) (GS : FnOk P w K mg base CX0 3 fS fdS ["exits", "exits_of_second", "u", "v"] spShort)
    (N : Dfn K mg "naming" s_naming ["exits", "exits_of_second", "u", "v"] fN fdN) (GN : FnOk P w K mg base CX0 2 fN fdN ["exits", "exits_of_second", "u", "v"] spNaming) :
    FnOk P w K mg base CX0 4 f fd ["exits", "exits_of_second", "u", "v"] spThree := by
  have GM : FnOk P w K mg base CX0 1 fM fdM ["exits", "exits_of_second", "u", "v"] spMet := ok_met M.F T
  refine F.ok scThree (fun vs H Q E h => ?_) (fun cdv A outer st H vs Q E hr h => ?_)
  · obtain ⟨a, b, n, m, u, v, ls, ks, rfl, _⟩ := h
    rfl
  · obtain ⟨a, b, n, m, u, v, ls, ks, rfl, hA, hB, hn, hm, hu, hv, hls, hks, ok1, ok2, hh1, hh2, q⟩ := h
    have hr1 : Room 1 (A.deeper (envOfC "three_answers" (defScope s_three_answers) st.heap.objs.size f cdv)) := hr.mono (by decide)
    have hr2 : Room 2 (A.deeper (envOfC "three_answers" (defScope s_three_answers) st.heap.objs.size f cdv)) := hr.mono (by decide)
    refine ⟨_, pss_cons (ps_set (i := 4) scThree.nd rfl (.inl rfl) (pe_cmp (pc_notN (pe_call GM hr1 (by rfl) M.g M.F.kp M.b .nil pass0 (pa_cons (pv 0) (pa_cons (pv 1) (pa_cons (pv 2) (pa_cons (pv 3) pa_nil))))))))
      (pss_cons (ps_set (i := 5) scThree.nd rfl (.inl rfl) (pe_cmp (pc_isN (pe_call GS hr (by rfl) S.g S.F.kp S.b .nil pass0 (pa_cons (pv 0) (pa_cons (pv 1) (pa_cons (pv 2) (pa_cons (pv 3) pa_nil))))))))
      (pss_cons (ps_set (i := 6) scThree.nd rfl (.inl rfl) (pe_cmp (pc_notN (pe_call GN hr2 (by rfl) N.g N.F.kp N.b .nil pass0 (pa_cons (pv 0) (pa_cons (pv 1) (pa_cons (pv 2) (pa_cons (pv 3) pa_nil))))))))
      (pss_one (ps_ret (pe_lc (own := [("holds", 7)]) (g := gName 7) (tt := tYes) (te := tIf (tB (tVar 7)) (tC (.int 1)) (tC (.int 0))) rfl scThree.nd (pi_tup (pe_tup (pa_cons (pv 4) (pa_cons (pv 5) (pa_cons (pv 6) pa_nil))))) (blkOk_by (N := ["exits", "exits_of_second", "u", "v", "alike", "never_apart", "the_same", "holds"]) (sc := defScope s_three_answers) (by decide +kernel)) (fun _ _ _ _ _ => pg_name (i := 7) scThree.nd rfl (Or.inl rfl)) (fun _ _ _ _ _ => pts_nil) (fun _ _ _ _ _ => pe_ifExp (pt_val (pv 7)) pe_int pe_int)))))), ?_⟩
    -- what is behind the three
    have rest : ∀ (H' : Hp) (x y z : Bool), Same H H' → x = (Ks536.apart ⟨n, ls⟩ ⟨m, ks⟩ u v).isNone → y = (Ks539.apart ⟨n, ls⟩ ⟨m, ks⟩ u v).isNone → z = (Ks539.same ⟨n, ls⟩ ⟨m, ks⟩ u v).isSome →
        tLc (iTup K (tTup (tCons (tVar 4) (tCons (tVar 5) (tCons (tVar 6) tNil))))) (gName 7) tYes (tIf (tB (tVar 7)) (tC (.int 1)) (tC (.int 0))) [7] [some (.ref a), some (.ref b), some (nv u), some (nv v), some (.bl x), some (.bl y), some (.bl z), none] H' Q := by
      intro H' x y z s ex ey ez
      refine ⟨_, rfl, _, rfl, _, rfl, (by show 3 ≤ sizeLine; decide), fun t nt => ?_⟩
      have s1 := same_upd (o := .tup [.bl x, .bl y, .bl z]) nt
      have ht : upd H' t (.tup [.bl x, .bl y, .bl z]) t = _ := upd_same
      generalize upd H' t (.tup [.bl x, .bl y, .bl z]) = H1 at s1 ht
      refine ⟨t, rfl, ⟨_, SqT.of ht⟩, fun D nD => ?_⟩
      have hb : ∀ c : Bool, (if c = true then (1 : Int) else 0) = bit c := fun c => rfl
      refine lc_tup (K := K) (a := t) (xs := [.bl x, .bl y, .bl z]) (fun i H' => Same H1 H' ∧ H' D = some (.lst (((bits x y z).take i).map V.int))) ⟨same_upd nD, upd_same⟩ (fun i H' _ ⟨s7, _⟩ => SqT.of (s7 _ _ ht)) ?_ ?_
      · rintro i d H7 hi ⟨s7, hD⟩
        have hc : ∃ c : Bool, d = .bl c ∧ (bits x y z)[i]? = some (bit c) := by
          match i, hi with
          | 0, hi => exact ⟨x, (Option.some.inj hi).symm, rfl⟩
          | 1, hi => exact ⟨y, (Option.some.inj hi).symm, rfl⟩
          | 2, hi => exact ⟨z, (Option.some.inj hi).symm, rfl⟩
        obtain ⟨c, rfl, hc⟩ := hc
        have hlen : ((bits x y z).take i).length ≤ 1000 := by
          rw [List.length_take]
          show min i 3 ≤ 1000
          omega
        have fin : ∀ j : Int, j = bit c → ∃ acc, H7 D = some (.lst acc) ∧ acc.length < sizeLine ∧ Same H1 (upd H7 D (.lst (acc ++ [.int j]))) ∧ upd H7 D (.lst (acc ++ [.int j])) D = some (.lst (((bits x y z).take (i + 1)).map V.int)) := fun j ej => by
          refine ⟨_, hD, small1000 (by rw [List.length_map]; exact hlen), same_off s7 nD, ?_⟩
          rw [upd_same, take_more hc, List.map_append, ej]
          rfl
        refine ⟨rfl, ?_⟩
        refine ⟨_, rfl, c, rfl, ?_⟩
        cases c with
        | true => exact if_true_of rfl (fin 1 rfl)
        | false => exact if_false_of rfl (fin 0 rfl)
      · rintro H7 ⟨s7, hD⟩
        refine q H7 D (s.trans (s1.trans s7)) ?_
        have e : threeOf ⟨n, ls⟩ ⟨m, ks⟩ u v = bits x y z := by
          rw [ex, ey, ez]
          rfl
        rw [e]
        exact hD
    have third : ∀ (H' : Hp) (x y : Bool) (E' : XK), Same H H' → x = (Ks536.apart ⟨n, ls⟩ ⟨m, ks⟩ u v).isNone → y = (Ks539.apart ⟨n, ls⟩ ⟨m, ks⟩ u v).isNone →
        spNaming [.ref a, .ref b, nv u, nv v] H' (fun z H1 => tLc (iTup K (tTup (tCons (tVar 4) (tCons (tVar 5) (tCons (tVar 6) tNil))))) (gName 7) tYes (tIf (tB (tVar 7)) (tC (.int 1)) (tC (.int 0))) [7] [some (.ref a), some (.ref b), some (nv u), some (nv v), some (.bl x), some (.bl y), some (.bl (!decide (z = .non))), none] H1 Q) E' := by
      intro H' x y E' s ex ey
      refine ⟨a, b, n, m, u, v, ls, ks, rfl, hA.keep s, hB.keep s, by omega, by omega, hu, hv, hls, hks, ok1, ok2, hh1, hh2, fun r er _ H1 p s1 _ => ?_, fun er H1 s1 => ?_⟩
      · refine rest H1 x y _ (s.trans s1) ex ey ?_
        rw [er, decide_eq_false (fun z => nomatch z)]
        rfl
      · refine rest H1 x y _ (s.trans s1) ex ey ?_
        rw [er, decide_eq_true rfl]
        rfl
    have ai := alike_iff ok1 ok2 hu hv
    refine ⟨_, rfl, _, rfl, _, rfl, _, rfl, a, b, n, m, u, v, ls, ks, rfl, hA, hB, by omega, by omega, hu, hv, hls, hks, ok1, ok2, fun zs MZ _ H1 p s1 _ => ?_, fun ac H1 s1 => ?_⟩
    · have ex : (!decide (V.ref p = .non)) = (Ks536.apart ⟨n, ls⟩ ⟨m, ks⟩ u v).isNone := by
        rw [ai.mpr MZ.all, decide_eq_false (fun z => nomatch z)]
        rfl
      refine ⟨_, rfl, _, rfl, _, rfl, _, rfl, a, b, n, m, u, v, ls, ks, rfl, hA.keep s1, hB.keep s1, hn, hm, hu, hv, hls, hks, ok1, ok2, fun wd ew _ H2 p' s2 _ => ?_, fun ew H2 s2 => ?_⟩
      · refine ⟨_, rfl, _, rfl, _, rfl, _, rfl, ?_⟩
        exact third H2 _ (decide (V.ref p' = .non)) E (s1.trans s2) ex (by rw [ew]; exact decide_eq_false (fun z => nomatch z))
      · refine ⟨_, rfl, _, rfl, _, rfl, _, rfl, ?_⟩
        exact third H2 _ (decide (V.non = .non)) E (s1.trans s2) ex (by rw [ew]; exact decide_eq_true rfl)
    · have ex : (!decide (V.non = .non)) = (Ks536.apart ⟨n, ls⟩ ⟨m, ks⟩ u v).isNone := by
        rw [decide_eq_true rfl]
        cases h : (Ks536.apart ⟨n, ls⟩ ⟨m, ks⟩ u v).isNone with
        | true => exact absurd (ai.mp h) ac
        | false => rfl
      refine ⟨_, rfl, _, rfl, _, rfl, _, rfl, a, b, n, m, u, v, ls, ks, rfl, hA.keep s1, hB.keep s1, hn, hm, hu, hv, hls, hks, ok1, ok2, fun wd ew _ H2 p' s2 _ => ?_, fun ew H2 s2 => ?_⟩
      · refine ⟨_, rfl, _, rfl, _, rfl, _, rfl, ?_⟩
        exact third H2 _ (decide (V.ref p' = .non)) E (s1.trans s2) ex (by rw [ew]; exact decide_eq_false (fun z => nomatch z))
      · refine ⟨_, rfl, _, rfl, _, rfl, _, rfl, ?_⟩
        exact third H2 _ (decide (V.non = .non)) E (s1.trans s2) ex (by rw [ew]; exact decide_eq_true rfl)
end
end Wp
namespace Wp
open PySem PySem.Spec PyProof.Rows L2
theorem scBoth : FnScope ["n", "m", "u", "v", "net", "second", "refused"] ["n", "m", "u", "v", "net", "second"] (defScope s_both) := ⟨rfl, rfl, rfl, by decide +kernel, rfl, by decide +kernel, by decide +kernel⟩
section
variable {P : Program} {w : World} {K : PySem.W.Frag} {mg : Str → Option Value} {base : Heap}
/-! ### both -/
def spBoth (K : PySem.W.Frag) : Sp := fun vs H Q _ => ∃ (a b : Addr) (n m u v : Nat) (net second : List Nat), vs = [nv n, nv m, nv u, nv v, .ref a, .ref b] ∧ SqL K H a (net.map nv) ∧ SqL K H b (second.map nv) ∧ net.length ≤ 24 ∧ second.length ≤ 24 ∧
  ∀ H' p, H' p = some (.lst ((ansBoth n m u v net second).map V.int)) → Q (.ref p) H'
theorem ok_both {f fR fX fL fS : Addr} {fd fdR fdX fdL fdS : FuncData} (F : Fun K "both" "both" s_both f fd) (T : Txt mg) (R : Dfn K mg "refusal_to_tell_apart" s_refusal_to_tell_apart ["n", "m", "u", "v", "net", "second"] fR fdR) (GR : FnOk P w K mg base CX0 4 fR fdR ["n", "m", "u", "v", "net", "second"] (spRefusal2 K))
    (X : Dfn K mg "exits_of_places" s_exits_of_places ["n", "links"] fX fdX) (L : Dfn K mg "links_of" s_links_of ["net"] fL fdL) (S : Dfn K mg "three_answers" s_three_answers ["exits", "exits_of_second", "u", "v"] fS fdS) (GS : FnOk P w K mg base CX0 4 fS fdS ["exits", "exits_of_second", "u", "v"] spThree) :
    FnOk P w K mg base CX0 5 f fd ["n", "m", "u", "v", "net", "second"] (spBoth K) := by
  have GX : FnOk P w K mg base CX0 1 fX fdX ["n", "links"] spExits := ok_exits X.F T
  have GL : FnOk P w K mg base CX0 1 fL fdL ["net"] (spLinksOf K) := ok_links_of L.F T
  refine F.ok scBoth (fun vs H Q E h => ?_) (fun cdv A outer st H vs Q E hr h => ?_)
  · obtain ⟨a, b, n, m, u, v, net, second, rfl, _⟩ := h
    rfl
  · obtain ⟨a, b, n, m, u, v, net, second, rfl, hA, hB, hl1, hl2, q⟩ := h
    have hr1 : Room 1 (A.deeper (envOfC "both" (defScope s_both) st.heap.objs.size f cdv)) := hr.mono (by decide)
    refine ⟨_, pss_cons (ps_set (i := 6) scBoth.nd rfl (.inl rfl) (pe_call GR hr (by rfl) R.g R.F.kp R.b .nil pass0 (pa_cons (pv 0) (pa_cons (pv 1) (pa_cons (pv 2) (pa_cons (pv 3) (pa_cons (pv 4) (pa_cons (pv 5) pa_nil))))))))
      (pss_cons (ps_if (pt_cmpR op_ne (pv 6) (pk rfl T.c_NOT_REFUSED) (nomark _)) (pss_one (ps_ret (pe_lst (pa_cons (pv 6) pa_nil)))) pss_nil)
      (pss_one (ps_ret (pe_call GS hr (by rfl) S.g S.F.kp S.b .nil pass0 (pa_cons (pe_call GX hr1 (by rfl) X.g X.F.kp X.b .nil pass0 (pa_cons (pv 0) (pa_cons (pe_call GL hr1 (by rfl) L.g L.F.kp L.b .nil pass0 (pa_cons (pv 4) pa_nil)) pa_nil))) (pa_cons (pe_call GX hr1 (by rfl) X.g X.F.kp X.b .nil pass0 (pa_cons (pv 1) (pa_cons (pe_call GL hr1 (by rfl) L.g L.F.kp L.b .nil pass0 (pa_cons (pv 5) pa_nil)) pa_nil))) (pa_cons (pv 2) (pa_cons (pv 3) pa_nil)))))))), ?_⟩
    -- refused = refusal_to_tell_apart(n, m, u, v, net, second)
    refine ⟨_, rfl, _, rfl, _, rfl, _, rfl, _, rfl, _, rfl, a, b, n, m, u, v, net, second, rfl, hA, hB, hl1, hl2, fun H1 s1 => ?_⟩
    refine ⟨_, rfl, rfl, _, rfl, ?_⟩
    by_cases c : refusal2 n m u v net second = 0
    · refine if_false_of (by rw [c]; rfl) ?_
      obtain ⟨hN, hM, hu, hv, hn5, hm5⟩ := refusal2_zero c
      obtain ⟨hn, hn2, hna, hnh⟩ := isNet_iff.mp hN
      obtain ⟨hm, hm2, hma, hmh⟩ := isNet_iff.mp hM
      have hpl : (prs net).length ≤ 10 := by rw [prs_length]; omega
      have hpk : (prs second).length ≤ 10 := by rw [prs_length]; omega
      -- exits_of_places(n, links_of(net))
      refine ⟨_, rfl, _, rfl, a, net, rfl, s1.seq hA, hn2.1, hl1, fun H2 g s2 hL => ?_⟩
      refine ⟨g, n, prs net, rfl, hL, hn.2, by omega, hna.1, fun H3 x s3 hT => ?_⟩
      have s03 := s1.trans (s2.trans s3)
      -- exits_of_places(m, links_of(second))
      refine ⟨_, rfl, _, rfl, b, second, rfl, s03.seq hB, hm2.1, hl2, fun H4 g' s4 hL' => ?_⟩
      refine ⟨g', m, prs second, rfl, hL', hm.2, by omega, hma.1, fun H5 y s5 hT' => ?_⟩
      have s35 := s4.trans s5
      refine ⟨_, rfl, _, rfl, x, y, n, m, u, v, prs net, prs second, rfl, hT.keep s35, hT', hn5, hm5, hu, hv, hpl, hpk, hna.1, hma.1, hnh, hmh, fun H6 p s6 hp => q H6 p ?_⟩
      rw [hp]
      unfold ansBoth
      rw [if_pos c]
    · refine if_true_of ?_ ?_
      · rw [decide_eq_false (fun z => c (V.int.inj z))]
        rfl
      refine ⟨_, rfl, (by show 1 ≤ sizeLine; decide), fun p np => q _ p ?_⟩
      rw [upd_same]
      unfold ansBoth
      rw [if_neg c]
      rfl
end
end Wp
namespace Wp
open PySem PySem.Spec PyProof.Rows L2
open PySem.W (Codec)
theorem inInt_nat {lo hi x : Int} (h0 : 0 ≤ lo) (h : Codec.inInt lo hi x = true) : ((x.toNat : Nat) : Int) = x := by
  have := (Codec.inInt_iff.mp h).1
  omega
theorem nats_of {lo hi : Int} (h0 : 0 ≤ lo) : ∀ {l : List Int}, l.all (Codec.inInt lo hi) = true → l.map V.int = (l.map Int.toNat).map nv
  | [], _ => rfl
  | x :: l, h => by
    rw [List.all_cons, Bool.and_eq_true] at h
    have ih := nats_of h0 h.2
    show V.int x :: l.map V.int = V.int ((x.toNat : Nat) : Int) :: (l.map Int.toNat).map nv
    rw [ih, inInt_nat h0 h.1]
end Wp
namespace Wp
open PySem PySem.Spec PyProof.Rows L2
open PySem.W (Codec)
theorem start_both {K : PySem.W.Frag} {H : Hp} {a b : Addr} {n m u v : Int} {net second : List Int} (q1 : Codec.inInt 0 4294967295 n = true) (q2 : Codec.inInt 0 4294967295 m = true) (q3 : Codec.inInt 0 4294967295 u = true) (q4 : Codec.inInt 0 4294967295 v = true)
    (q5 : Codec.inLen 0 24 net = true) (q6 : net.all (Codec.inInt 0 4294967295) = true) (q7 : Codec.inLen 0 24 second = true) (q8 : second.all (Codec.inInt 0 4294967295) = true)
    (h3 : SqL K H a (net.map V.int)) (h4 : SqL K H b (second.map V.int)) {E : XK} : spBoth K [.int n, .int m, .int u, .int v, .ref a, .ref b] H (fun z H' => Dw K H' z (.list ((PyKs539.both n m u v net second).map PySem.W.WData.int))) E := by
  refine ⟨a, b, n.toNat, m.toNat, u.toNat, v.toNat, net.map Int.toNat, second.map Int.toNat, ?_, ?_, ?_, ?_, ?_, fun H' p hp => ?_⟩
  · show [V.int n, V.int m, V.int u, V.int v, V.ref a, V.ref b] = [V.int ((n.toNat : Nat) : Int), V.int ((m.toNat : Nat) : Int), V.int ((u.toNat : Nat) : Int), V.int ((v.toNat : Nat) : Int), V.ref a, V.ref b]
    rw [inInt_nat (by decide) q1, inInt_nat (by decide) q2, inInt_nat (by decide) q3, inInt_nat (by decide) q4]
  · rw [← nats_of (by decide) q6]
    exact h3
  · rw [← nats_of (by decide) q8]
    exact h4
  · rw [List.length_map]
    exact (Codec.inNat_iff.mp q5).2
  · rw [List.length_map]
    exact (Codec.inNat_iff.mp q7).2
  · rw [← both_is] at hp
    exact .lst (SqL.of hp) (dw_ints _)
end Wp
namespace Wp
open PySem PySem.Spec PyProof.Rows L2
theorem all_mk {P : Program} {w : World} {K : PySem.W.Frag} {h : Heap} {mg : Str → Option Value} {fa f1 f2 f3 f4 f5 f6 f7 f8 f9 f10 f11 f12 f13 f14 f15 : Addr} (X : K.In h) (G : h.Ns mainGlobals mg) (hfa : mg "both" = some (.ref fa))
    {od1 an1 od2 an2 od3 an3 od4 an4 od5 an5 od6 an6 od7 an7 od8 an8 od9 an9 od10 an10 od11 an11 od12 an12 od13 an13 od14 an14 od15 an15 : Option Addr} {sl1 sl2 sl3 sl4 sl5 sl6 sl7 sl8 sl9 sl10 sl11 sl12 sl13 sl14 sl15 : Array (Option Value)} {oc1 kV1 dc1 pm1 cd1 ct1 oc2 kV2 dc2 pm2 cd2 ct2 oc3 kV3 dc3 pm3 cd3 ct3 oc4 kV4 dc4 pm4 cd4 ct4 oc5 kV5 dc5 pm5 cd5 ct5 oc6 kV6 dc6 pm6 cd6 ct6 oc7 kV7 dc7 pm7 cd7 ct7 oc8 kV8 dc8 pm8 cd8 ct8 oc9 kV9 dc9 pm9 cd9 ct9 oc10 kV10 dc10 pm10 cd10 ct10 oc11 kV11 dc11 pm11 cd11 ct11 oc12 kV12 dc12 pm12 cd12 ct12 oc13 kV13 dc13 pm13 cd13 ct13 oc14 kV14 dc14 pm14 cd14 ct14 oc15 kV15 dc15 pm15 cd15 ct15 : Value} {t1 t2 t3 t4 t5 t6 t7 t8 t9 t10 t11 t12 : Tok}
    (a1 : PySem.W.nsIn K mainGlobals "both" = some (some (.ref f1))) (l1 : K.lookup f1 = some ⟨oc1, od1, .func (PySem.W.fnOf "both" "both" (defArgs s_both) (defBody s_both) (defScope s_both) .none kV1 dc1 pm1 an1 cd1 ct1), sl1⟩) (c1 : PySem.W.codeIn K cd1 "both" = true) (k1 : PySem.W.keepIn K (.ref f1) = true)
    (a2 : PySem.W.nsIn K mainGlobals "refusal_of_two" = some (some (.ref f2))) (l2 : K.lookup f2 = some ⟨oc2, od2, .func (PySem.W.fnOf "refusal_of_two" "refusal_of_two" (defArgs s_refusal_of_two) (defBody s_refusal_of_two) (defScope s_refusal_of_two) .none kV2 dc2 pm2 an2 cd2 ct2), sl2⟩) (c2 : PySem.W.codeIn K cd2 "refusal_of_two" = true) (k2 : PySem.W.keepIn K (.ref f2) = true)
    (a3 : PySem.W.nsIn K mainGlobals "refusal_to_tell_apart" = some (some (.ref f3))) (l3 : K.lookup f3 = some ⟨oc3, od3, .func (PySem.W.fnOf "refusal_to_tell_apart" "refusal_to_tell_apart" (defArgs s_refusal_to_tell_apart) (defBody s_refusal_to_tell_apart) (defScope s_refusal_to_tell_apart) .none kV3 dc3 pm3 an3 cd3 ct3), sl3⟩) (c3 : PySem.W.codeIn K cd3 "refusal_to_tell_apart" = true) (k3 : PySem.W.keepIn K (.ref f3) = true)
    (a4 : PySem.W.nsIn K mainGlobals "is_net" = some (some (.ref f4))) (l4 : K.lookup f4 = some ⟨oc4, od4, .func (PySem.W.fnOf "is_net" "is_net" (defArgs s_is_net) (defBody s_is_net) (defScope s_is_net) .none kV4 dc4 pm4 an4 cd4 ct4), sl4⟩) (c4 : PySem.W.codeIn K cd4 "is_net" = true) (k4 : PySem.W.keepIn K (.ref f4) = true)
    (a5 : PySem.W.nsIn K mainGlobals "links_of" = some (some (.ref f5))) (l5 : K.lookup f5 = some ⟨oc5, od5, .func (PySem.W.fnOf "links_of" "links_of" (defArgs s_links_of) (defBody s_links_of) (defScope s_links_of) .none kV5 dc5 pm5 an5 cd5 ct5), sl5⟩) (c5 : PySem.W.codeIn K cd5 "links_of" = true) (k5 : PySem.W.keepIn K (.ref f5) = true)
    (a6 : PySem.W.nsIn K mainGlobals "links_are_allowed" = some (some (.ref f6))) (l6 : K.lookup f6 = some ⟨oc6, od6, .func (PySem.W.fnOf "links_are_allowed" "links_are_allowed" (defArgs s_links_are_allowed) (defBody s_links_are_allowed) (defScope s_links_are_allowed) .none kV6 dc6 pm6 an6 cd6 ct6), sl6⟩) (c6 : PySem.W.codeIn K cd6 "links_are_allowed" = true) (k6 : PySem.W.keepIn K (.ref f6) = true)
    (a7 : PySem.W.nsIn K mainGlobals "hang_together" = some (some (.ref f7))) (l7 : K.lookup f7 = some ⟨oc7, od7, .func (PySem.W.fnOf "hang_together" "hang_together" (defArgs s_hang_together) (defBody s_hang_together) (defScope s_hang_together) .none kV7 dc7 pm7 an7 cd7 ct7), sl7⟩) (c7 : PySem.W.codeIn K cd7 "hang_together" = true) (k7 : PySem.W.keepIn K (.ref f7) = true)
    (a8 : PySem.W.nsIn K mainGlobals "exits_of_places" = some (some (.ref f8))) (l8 : K.lookup f8 = some ⟨oc8, od8, .func (PySem.W.fnOf "exits_of_places" "exits_of_places" (defArgs s_exits_of_places) (defBody s_exits_of_places) (defScope s_exits_of_places) .none kV8 dc8 pm8 an8 cd8 ct8), sl8⟩) (c8 : PySem.W.codeIn K cd8 "exits_of_places" = true) (k8 : PySem.W.keepIn K (.ref f8) = true)
    (a9 : PySem.W.nsIn K mainGlobals "seen_at" = some (some (.ref f9))) (l9 : K.lookup f9 = some ⟨oc9, od9, .func (PySem.W.fnOf "seen_at" "seen_at" (defArgs s_seen_at) (defBody s_seen_at) (defScope s_seen_at) .none kV9 dc9 pm9 an9 cd9 ct9), sl9⟩) (c9 : PySem.W.codeIn K cd9 "seen_at" = true) (k9 : PySem.W.keepIn K (.ref f9) = true)
    (a10 : PySem.W.nsIn K mainGlobals "step_by" = some (some (.ref f10))) (l10 : K.lookup f10 = some ⟨oc10, od10, .func (PySem.W.fnOf "step_by" "step_by" (defArgs s_step_by) (defBody s_step_by) (defScope s_step_by) .none kV10 dc10 pm10 an10 cd10 ct10), sl10⟩) (c10 : PySem.W.codeIn K cd10 "step_by" = true) (k10 : PySem.W.keepIn K (.ref f10) = true)
    (a11 : PySem.W.nsIn K mainGlobals "shortest_word_apart" = some (some (.ref f11))) (l11 : K.lookup f11 = some ⟨oc11, od11, .func (PySem.W.fnOf "shortest_word_apart" "shortest_word_apart" (defArgs s_shortest_word_apart) (defBody s_shortest_word_apart) (defScope s_shortest_word_apart) .none kV11 dc11 pm11 an11 cd11 ct11), sl11⟩) (c11 : PySem.W.codeIn K cd11 "shortest_word_apart" = true) (k11 : PySem.W.keepIn K (.ref f11) = true)
    (a12 : PySem.W.nsIn K mainGlobals "pair_behind" = some (some (.ref f12))) (l12 : K.lookup f12 = some ⟨oc12, od12, .func (PySem.W.fnOf "pair_behind" "pair_behind" (defArgs s_pair_behind) (defBody s_pair_behind) (defScope s_pair_behind) .none kV12 dc12 pm12 an12 cd12 ct12), sl12⟩) (c12 : PySem.W.codeIn K cd12 "pair_behind" = true) (k12 : PySem.W.keepIn K (.ref f12) = true)
    (a13 : PySem.W.nsIn K mainGlobals "three_answers" = some (some (.ref f13))) (l13 : K.lookup f13 = some ⟨oc13, od13, .func (PySem.W.fnOf "three_answers" "three_answers" (defArgs s_three_answers) (defBody s_three_answers) (defScope s_three_answers) .none kV13 dc13 pm13 an13 cd13 ct13), sl13⟩) (c13 : PySem.W.codeIn K cd13 "three_answers" = true) (k13 : PySem.W.keepIn K (.ref f13) = true)
    (a14 : PySem.W.nsIn K mainGlobals "naming" = some (some (.ref f14))) (l14 : K.lookup f14 = some ⟨oc14, od14, .func (PySem.W.fnOf "naming" "naming" (defArgs s_naming) (defBody s_naming) (defScope s_naming) .none kV14 dc14 pm14 an14 cd14 ct14), sl14⟩) (c14 : PySem.W.codeIn K cd14 "naming" = true) (k14 : PySem.W.keepIn K (.ref f14) = true)
    (a15 : PySem.W.nsIn K mainGlobals "pairs_met" = some (some (.ref f15))) (l15 : K.lookup f15 = some ⟨oc15, od15, .func (PySem.W.fnOf "pairs_met" "pairs_met" (defArgs s_pairs_met) (defBody s_pairs_met) (defScope s_pairs_met) .none kV15 dc15 pm15 an15 cd15 ct15), sl15⟩) (c15 : PySem.W.codeIn K cd15 "pairs_met" = true) (k15 : PySem.W.keepIn K (.ref f15) = true)
    (g1 : PySem.W.nsIn K mainGlobals "NOT_A_NET" = some (some (.int (-22) t1)))
    (g2 : PySem.W.nsIn K mainGlobals "NO_PLACE" = some (some (.int (-2) t2)))
    (g3 : PySem.W.nsIn K mainGlobals "TOO_MANY_PLACES" = some (some (.int (-75) t3)))
    (g4 : PySem.W.nsIn K mainGlobals "NOT_REFUSED" = some (some (.int 0 t4)))
    (g5 : PySem.W.nsIn K mainGlobals "MOST_PLACES" = some (some (.int 7 t5)))
    (g6 : PySem.W.nsIn K mainGlobals "MOST_PLACES_TO_TELL_APART" = some (some (.int 5 t6)))
    (g7 : PySem.W.nsIn K mainGlobals "MOST_LINKS" = some (some (.int 10 t7)))
    (g8 : PySem.W.nsIn K mainGlobals "PUT_DOWN" = some (some (.int 1 t8)))
    (g9 : PySem.W.nsIn K mainGlobals "TAKE_UP" = some (some (.int 2 t9)))
    (g10 : PySem.W.nsIn K mainGlobals "FIRST_EXIT" = some (some (.int 3 t10)))
    (g11 : PySem.W.nsIn K mainGlobals "CARRIED" = some (some (.int 0 t11)))
    (g12 : PySem.W.nsIn K mainGlobals "DID_NOT_GO" = some (some (.int 0 t12)))
    (z1 : PySem.W.nsIn K mainGlobals "len" = some none)
    (z2 : PySem.W.nsIn K mainGlobals "range" = some none)
    (z3 : PySem.W.nsIn K mainGlobals "all" = some none)
    (z4 : PySem.W.nsIn K mainGlobals "max" = some none)
    (z5 : PySem.W.nsIn K mainGlobals "sorted" = some none)
    (z6 : PySem.W.nsIn K mainGlobals "zip" = some none) :
    ∃ fd : FuncData, (∀ (s : Shared) (us : List Value), us.length = (["n", "m", "u", "v", "net", "second"] : List Str).length → BindsTo s fd ⟨us, []⟩ ((["n", "m", "u", "v", "net", "second"] : List Str).zip us)) ∧ ∀ base : Heap, K.In base → base.Ns mainGlobals mg → FnOk P w K mg base CX0 5 fa fd ["n", "m", "u", "v", "net", "second"] (spBoth K) := by
  have e := hfa.symm.trans (PySem.W.mg_of X G a1)
  cases e
  have T : Txt mg := ⟨⟨_, PySem.W.mg_of X G g1⟩, ⟨_, PySem.W.mg_of X G g2⟩, ⟨_, PySem.W.mg_of X G g3⟩, ⟨_, PySem.W.mg_of X G g4⟩, ⟨_, PySem.W.mg_of X G g5⟩, ⟨_, PySem.W.mg_of X G g6⟩, ⟨_, PySem.W.mg_of X G g7⟩, ⟨_, PySem.W.mg_of X G g8⟩, ⟨_, PySem.W.mg_of X G g9⟩, ⟨_, PySem.W.mg_of X G g10⟩, ⟨_, PySem.W.mg_of X G g11⟩, ⟨_, PySem.W.mg_of X G g12⟩, PySem.W.mg_none_of X G z1, PySem.W.mg_none_of X G z2, PySem.W.mg_none_of X G z3, PySem.W.mg_none_of X G z4, PySem.W.mg_none_of X G z5, PySem.W.mg_none_of X G z6⟩
  have F_both := fun_mk (st := s_both) l1 c1 k1
  have F_refusal_of_two := fun_mk (st := s_refusal_of_two) l2 c2 k2
  have D_refusal_of_two : Dfn K mg "refusal_of_two" s_refusal_of_two ["n", "m", "u", "v", "net", "second"] f2 _ := ⟨F_refusal_of_two, PySem.W.mg_of X G a2, F_refusal_of_two.binds (ps := ["n", "m", "u", "v", "net", "second"]) fun _ _ _ _ _ _ us hl => match us, hl with | [_, _, _, _, _, _], _ => rfl⟩
  have F_refusal_to_tell_apart := fun_mk (st := s_refusal_to_tell_apart) l3 c3 k3
  have D_refusal_to_tell_apart : Dfn K mg "refusal_to_tell_apart" s_refusal_to_tell_apart ["n", "m", "u", "v", "net", "second"] f3 _ := ⟨F_refusal_to_tell_apart, PySem.W.mg_of X G a3, F_refusal_to_tell_apart.binds (ps := ["n", "m", "u", "v", "net", "second"]) fun _ _ _ _ _ _ us hl => match us, hl with | [_, _, _, _, _, _], _ => rfl⟩
  have F_is_net := fun_mk (st := s_is_net) l4 c4 k4
  have D_is_net : Dfn K mg "is_net" s_is_net ["n", "net"] f4 _ := ⟨F_is_net, PySem.W.mg_of X G a4, F_is_net.binds (ps := ["n", "net"]) fun _ _ _ _ _ _ us hl => match us, hl with | [_, _], _ => rfl⟩
  have F_links_of := fun_mk (st := s_links_of) l5 c5 k5
  have D_links_of : Dfn K mg "links_of" s_links_of ["net"] f5 _ := ⟨F_links_of, PySem.W.mg_of X G a5, F_links_of.binds (ps := ["net"]) fun _ _ _ _ _ _ us hl => match us, hl with | [_], _ => rfl⟩
  have F_links_are_allowed := fun_mk (st := s_links_are_allowed) l6 c6 k6
  have D_links_are_allowed : Dfn K mg "links_are_allowed" s_links_are_allowed ["n", "links"] f6 _ := ⟨F_links_are_allowed, PySem.W.mg_of X G a6, F_links_are_allowed.binds (ps := ["n", "links"]) fun _ _ _ _ _ _ us hl => match us, hl with | [_, _], _ => rfl⟩
  have F_hang_together := fun_mk (st := s_hang_together) l7 c7 k7
  have D_hang_together : Dfn K mg "hang_together" s_hang_together ["n", "links"] f7 _ := ⟨F_hang_together, PySem.W.mg_of X G a7, F_hang_together.binds (ps := ["n", "links"]) fun _ _ _ _ _ _ us hl => match us, hl with | [_, _], _ => rfl⟩
  have F_exits_of_places := fun_mk (st := s_exits_of_places) l8 c8 k8
  have D_exits_of_places : Dfn K mg "exits_of_places" s_exits_of_places ["n", "links"] f8 _ := ⟨F_exits_of_places, PySem.W.mg_of X G a8, F_exits_of_places.binds (ps := ["n", "links"]) fun _ _ _ _ _ _ us hl => match us, hl with | [_, _], _ => rfl⟩
  have F_seen_at := fun_mk (st := s_seen_at) l9 c9 k9
  have D_seen_at : Dfn K mg "seen_at" s_seen_at ["exits", "place", "pebble"] f9 _ := ⟨F_seen_at, PySem.W.mg_of X G a9, F_seen_at.binds (ps := ["exits", "place", "pebble"]) fun _ _ _ _ _ _ us hl => match us, hl with | [_, _, _], _ => rfl⟩
  have F_step_by := fun_mk (st := s_step_by) l10 c10 k10
  have D_step_by : Dfn K mg "step_by" s_step_by ["exits", "place", "pebble", "letter"] f10 _ := ⟨F_step_by, PySem.W.mg_of X G a10, F_step_by.binds (ps := ["exits", "place", "pebble", "letter"]) fun _ _ _ _ _ _ us hl => match us, hl with | [_, _, _, _], _ => rfl⟩
  have F_shortest_word_apart := fun_mk (st := s_shortest_word_apart) l11 c11 k11
  have D_shortest_word_apart : Dfn K mg "shortest_word_apart" s_shortest_word_apart ["exits", "exits_of_second", "u", "v"] f11 _ := ⟨F_shortest_word_apart, PySem.W.mg_of X G a11, F_shortest_word_apart.binds (ps := ["exits", "exits_of_second", "u", "v"]) fun _ _ _ _ _ _ us hl => match us, hl with | [_, _, _, _], _ => rfl⟩
  have F_pair_behind := fun_mk (st := s_pair_behind) l12 c12 k12
  have D_pair_behind : Dfn K mg "pair_behind" s_pair_behind ["exits", "exits_of_second", "pair", "letter"] f12 _ := ⟨F_pair_behind, PySem.W.mg_of X G a12, F_pair_behind.binds (ps := ["exits", "exits_of_second", "pair", "letter"]) fun _ _ _ _ _ _ us hl => match us, hl with | [_, _, _, _], _ => rfl⟩
  have F_three_answers := fun_mk (st := s_three_answers) l13 c13 k13
  have D_three_answers : Dfn K mg "three_answers" s_three_answers ["exits", "exits_of_second", "u", "v"] f13 _ := ⟨F_three_answers, PySem.W.mg_of X G a13, F_three_answers.binds (ps := ["exits", "exits_of_second", "u", "v"]) fun _ _ _ _ _ _ us hl => match us, hl with | [_, _, _, _], _ => rfl⟩
  have F_naming := fun_mk (st := s_naming) l14 c14 k14
  have D_naming : Dfn K mg "naming" s_naming ["exits", "exits_of_second", "u", "v"] f14 _ := ⟨F_naming, PySem.W.mg_of X G a14, F_naming.binds (ps := ["exits", "exits_of_second", "u", "v"]) fun _ _ _ _ _ _ us hl => match us, hl with | [_, _, _, _], _ => rfl⟩
  have F_pairs_met := fun_mk (st := s_pairs_met) l15 c15 k15
  have D_pairs_met : Dfn K mg "pairs_met" s_pairs_met ["exits", "exits_of_second", "u", "v"] f15 _ := ⟨F_pairs_met, PySem.W.mg_of X G a15, F_pairs_met.binds (ps := ["exits", "exits_of_second", "u", "v"]) fun _ _ _ _ _ _ us hl => match us, hl with | [_, _, _, _], _ => rfl⟩
  refine ⟨PySem.W.fnOf "both" "both" (defArgs s_both) (defBody s_both) (defScope s_both) .none kV1 dc1 pm1 an1 cd1 ct1, fun s us hu => match us, hu with | [_, _, _, _, _, _], _ => .of_eq rfl, fun base _ _ => ?_⟩
  have GN := ok_is_net (P := P) (w := w) (base := base) D_is_net.F T D_links_of D_links_are_allowed D_hang_together
  have GQ := ok_refusalS (P := P) (w := w) (base := base) D_refusal_of_two.F T D_is_net GN
  have GR := ok_refusal2 (P := P) (w := w) (base := base) D_refusal_to_tell_apart.F T D_refusal_of_two GQ
  have GP := ok_pair (P := P) (w := w) (base := base) D_pair_behind.F T D_step_by D_seen_at
  have GS := ok_short (P := P) (w := w) (base := base) D_shortest_word_apart.F T D_seen_at D_pair_behind GP
  have GM := ok_naming (P := P) (w := w) (base := base) D_naming.F T D_pairs_met
  have GT := ok_three (P := P) (w := w) (base := base) D_three_answers.F T D_pairs_met D_shortest_word_apart GS D_naming GM
  exact ok_both F_both T D_refusal_to_tell_apart GR D_exits_of_places D_links_of D_three_answers GT
end Wp
open PySem PySem.W PyProof.Rows
set_option maxRecDepth 100000 in
set_option maxHeartbeats 8000000 in
theorem PySem.Challenge.cw_withpebble_s05_both_holds : PySem.Challenge.rw_withpebble_s05_both.Holds := by
  w_on; k_headS; (case hw => exact ⟨[.int 0, .int 0, .int 0, .int 0, .list [], .list []], by decide +kernel, by decide +kernel⟩)
  k_fillS
  refine L2.walk_specK (r := PySem.Challenge.rw_withpebble_s05_both) (k := 5) (CX := L2.CX0) (ps := ["n", "m", "u", "v", "net", "second"]) (sp := Wp.spBoth) (by decide +kernel) rfl rfl ⟨rfl, by decide, by decide⟩ (fun w h Y => PySem.W.kIn_of Y) ?F ?S (fun _ _ _ _ z => z)
  case F =>
    intro w mg fa h Y KX G hmg
    refine' Wp.all_mk KX G hmg ?a1 ?l1 ?c1 ?k1 ?a2 ?l2 ?c2 ?k2 ?a3 ?l3 ?c3 ?k3 ?a4 ?l4 ?c4 ?k4 ?a5 ?l5 ?c5 ?k5 ?a6 ?l6 ?c6 ?k6 ?a7 ?l7 ?c7 ?k7 ?a8 ?l8 ?c8 ?k8 ?a9 ?l9 ?c9 ?k9 ?a10 ?l10 ?c10 ?k10 ?a11 ?l11 ?c11 ?k11 ?a12 ?l12 ?c12 ?k12 ?a13 ?l13 ?c13 ?k13 ?a14 ?l14 ?c14 ?k14 ?a15 ?l15 ?c15 ?k15 ?g1 ?g2 ?g3 ?g4 ?g5 ?g6 ?g7 ?g8 ?g9 ?g10 ?g11 ?g12 ?z1 ?z2 ?z3 ?z4 ?z5 ?z6
    (case a1 => k_is)
    (case l1 => k_is)
    (case c1 => k_is)
    (case k1 => k_is)
    (case a2 => k_is)
    (case l2 => k_is)
    (case c2 => k_is)
    (case k2 => k_is)
    (case a3 => k_is)
    (case l3 => k_is)
    (case c3 => k_is)
    (case k3 => k_is)
    (case a4 => k_is)
    (case l4 => k_is)
    (case c4 => k_is)
    (case k4 => k_is)
    (case a5 => k_is)
    (case l5 => k_is)
    (case c5 => k_is)
    (case k5 => k_is)
    (case a6 => k_is)
    (case l6 => k_is)
    (case c6 => k_is)
    (case k6 => k_is)
    (case a7 => k_is)
    (case l7 => k_is)
    (case c7 => k_is)
    (case k7 => k_is)
    (case a8 => k_is)
    (case l8 => k_is)
    (case c8 => k_is)
    (case k8 => k_is)
    (case a9 => k_is)
    (case l9 => k_is)
    (case c9 => k_is)
    (case k9 => k_is)
    (case a10 => k_is)
    (case l10 => k_is)
    (case c10 => k_is)
    (case k10 => k_is)
    (case a11 => k_is)
    (case l11 => k_is)
    (case c11 => k_is)
    (case k11 => k_is)
    (case a12 => k_is)
    (case l12 => k_is)
    (case c12 => k_is)
    (case k12 => k_is)
    (case a13 => k_is)
    (case l13 => k_is)
    (case c13 => k_is)
    (case k13 => k_is)
    (case a14 => k_is)
    (case l14 => k_is)
    (case c14 => k_is)
    (case k14 => k_is)
    (case a15 => k_is)
    (case l15 => k_is)
    (case c15 => k_is)
    (case k15 => k_is)
    (case g1 => k_is)
    (case g2 => k_is)
    (case g3 => k_is)
    (case g4 => k_is)
    (case g5 => k_is)
    (case g6 => k_is)
    (case g7 => k_is)
    (case g8 => k_is)
    (case g9 => k_is)
    (case g10 => k_is)
    (case g11 => k_is)
    (case g12 => k_is)
    (case z1 => k_is)
    (case z2 => k_is)
    (case z3 => k_is)
    (case z4 => k_is)
    (case z5 => k_is)
    (case z6 => k_is)
  case S =>
    intro K H xs a hO hwi hask hx
    obtain ⟨n, m, u, v, net, second, ⟨⟩⟩ := a
    cases hx with
    | cons h1 hx =>
      cases hx with
      | cons h2 hx =>
        cases hx with
        | cons h3 hx =>
          cases hx with
          | cons h4 hx =>
            cases hx with
            | cons h5 hx =>
              cases hx with
              | cons h6 hx =>
                cases hx
                cases h1
                cases h2
                cases h3
                cases h4
                cases h5 with
                | lst hs5 ha5 =>
                  cases h6 with
                  | lst hs6 ha6 =>
                    have e5 := L2.ints_dw net _ ha5
                    have e6 := L2.ints_dw second _ ha6
                    subst e5 e6
                    have q : (Codec.inInt 0 4294967295 n && (Codec.inInt 0 4294967295 m && (Codec.inInt 0 4294967295 u && (Codec.inInt 0 4294967295 v && ((Codec.inLen 0 24 net && net.all (Codec.inInt 0 4294967295)) && ((Codec.inLen 0 24 second && second.all (Codec.inInt 0 4294967295)) && true)))))) = true := hwi
                    simp only [Bool.and_eq_true] at q
                    obtain ⟨q1, q2, q3, q4, ⟨q5, q6⟩, ⟨q7, q8⟩, _⟩ := q
                    exact Wp.start_both q1 q2 q3 q4 q5 q6 q7 q8 hs5 hs6
#print axioms PySem.Challenge.cw_withpebble_s05_both_holds
