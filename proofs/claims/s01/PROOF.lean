import PyProof.Rows.All
import Wide.All
import OpenK.AllK
import Wide.FinOn
import PyProof.EqAt
import PyProof.EqKinds
import PyProof.TupleCall
import Open.SpecLaws
import PyKp409
import KE.OsGo
import HandS.ForSpec
import HandS.Comp
import HandS.More
import KE.KExcInit
import HandS.ExcInit
import HandS.ClsMeth
import HandS.CallLocal
import KE.KMinKey
import HandS.Nested
import HandS.Words
import PySem.Challenge.RW_sievecuts_s01_answers
import HandS.SetFor
import KE.KExcLine
set_option Elab.async false
set_option linter.all false
set_option maxRecDepth 100000
set_option maxHeartbeats 4000000
/-! Lists and numbers of the specification alone: nothing of the program stands here. -/
namespace Sv
open Kp409

/-! ### the calls as they are handed in -/
def encCall (c : List (List Int)) : List Int := match c with
  | (p :: ns) :: _ => p :: (ns.length : Int) :: (ns ++ [0])
  | _ => []

theorem row_some {r ns s : List Int} (h : PyFlat.row r = some (ns, s)) : r = (ns.length : Int) :: (ns ++ s) := by
  cases r with
  | nil => cases h
  | cons n r =>
    simp only [PyFlat.row] at h
    split at h
    · rename_i c
      cases h
      have : (r.take n.toNat).length = n.toNat := by rw [List.length_take]; omega
      rw [List.take_append_drop, this]
      congr 1
      omega
    · cases h

theorem rows_len : ∀ {k : Nat} {r t : List Int} {xs : List (List Int)}, PyFlat.rows k r = some (xs, t) → xs.length = k
  | 0, r, t, xs, h => by
    simp only [PyFlat.rows] at h
    cases h
    rfl
  | k + 1, r, t, xs, h => by
    simp only [PyFlat.rows] at h
    split at h
    · cases h
    · split at h
      · cases h
      · rename_i e
        cases h
        rw [List.length_cons, rows_len e]

theorem asked1_form {c : List (List Int)} (h : Kp409Neutral.asked1 c = true) : ∃ p ns, c = [p :: ns] := by
  unfold Kp409Neutral.asked1 at h
  split at h <;> first | exact ⟨_, _, rfl⟩ | cases h

theorem call_enc {l t : List Int} {c : List (List Int)} (h : PyWide.call l = some (c, t)) (a : Kp409Neutral.asked1 c = true) : l = encCall c ++ t := by
  cases l with
  | nil => cases h
  | cons p r =>
    simp only [PyWide.call] at h
    split at h
    · cases h
    · cases h
    · rename_i ns k s e
      split at h
      · rename_i kn
        split at h
        · cases h
        · rename_i xs u e2
          cases h
          obtain ⟨q, ms, f⟩ := asked1_form a
          have hx : xs = [] := by
            simp only [List.cons.injEq] at f
            exact f.2
          subst hx
          have k0 : k.toNat = 0 := (rows_len e2).symm
          rw [k0] at e2
          simp only [PyFlat.rows] at e2
          cases e2
          have : k = 0 := by omega
          subst this
          rw [row_some e]
          simp [encCall]
      · cases h

theorem calls_enc : ∀ {f : Nat} {l : List Int} {cs : List (List (List Int))}, PyWide.calls f l = some cs → cs.all Kp409Neutral.asked1 = true → l = cs.flatMap encCall
  | f, [], cs, h, _ => by
    cases f <;> (simp only [PyWide.calls] at h; cases h; rfl)
  | 0, _ :: _, cs, h, _ => by
    simp only [PyWide.calls] at h
    cases h
  | f + 1, p :: r, cs, h, a => by
    simp only [PyWide.calls] at h
    split at h
    · cases h
    · rename_i c t e
      split at h
      · cases h
      · rename_i cs' e2
        cases h
        rw [List.all_cons, Bool.and_eq_true] at a
        rw [List.flatMap_cons, ← calls_enc e2 a.2]
        exact call_enc e a.1

/-! ### the first of the least -/
/-- the walk of the specification: the best so far -/
def better (cost : List Nat → Nat) (best : Option (List Nat)) (l : List Nat) : Option (List Nat) := match best with
  | none => some l
  | some b => if cost l < cost b then some l else some b

theorem lowest_eq (cost : List Nat → Nat) (ls : List (List Nat)) : lowest cost ls = ls.foldl (better cost) none := rfl

/-- the place of the first of the least -/
structure FirstLeast {α : Type} (cost : α → Nat) (ls : List α) (k : Nat) (b : α) : Prop where
  at_ : ls[k]? = some b
  le : ∀ (j : Nat) (x : α), ls[j]? = some x → cost b ≤ cost x
  lt : ∀ (j : Nat) (x : α), j < k → ls[j]? = some x → cost b < cost x

theorem FirstLeast.one {α : Type} {cost : α → Nat} {ls : List α} {k j : Nat} {b c : α} (h : FirstLeast cost ls k b) (g : FirstLeast cost ls j c) : k = j ∧ b = c := by
  have e : k = j := by
    rcases Nat.lt_trichotomy k j with q | q | q
    · have := g.lt k b q h.at_
      have := h.le j c g.at_
      omega
    · exact q
    · have := h.lt j c q g.at_
      have := g.le k b h.at_
      omega
  subst e
  exact ⟨rfl, Option.some.inj (h.at_.symm.trans g.at_)⟩

theorem fold_first (cost : List Nat → Nat) : ∀ (r pre : List (List Nat)) (k : Nat) (b : List Nat), FirstLeast cost pre k b → ∃ k' b', r.foldl (better cost) (some b) = some b' ∧ FirstLeast cost (pre ++ r) k' b'
  | [], pre, k, b, h => ⟨k, b, rfl, by rw [List.append_nil]; exact h⟩
  | x :: r, pre, k, b, h => by
    have kl : k < pre.length := by
      have := h.at_
      rcases Nat.lt_or_ge k pre.length with q | q
      · exact q
      · rw [List.getElem?_eq_none q] at this
        cases this
    have go : ∃ k1 b1, better cost (some b) x = some b1 ∧ FirstLeast cost (pre ++ [x]) k1 b1 := by
      by_cases c : cost x < cost b
      · refine ⟨pre.length, x, if_pos c, ⟨by simp, ?_, ?_⟩⟩
        · intro j y hj
          rw [List.getElem?_append] at hj
          split at hj
          · have := h.le j y hj
            omega
          · have : y = x := by
              rw [List.getElem?_singleton] at hj
              split at hj
              · exact (Option.some.inj hj).symm
              · cases hj
            subst this
            exact Nat.le_refl _
        · intro j y hl hj
          rw [List.getElem?_append, if_pos hl] at hj
          have := h.le j y hj
          omega
      · refine ⟨k, b, if_neg c, ⟨by rw [List.getElem?_append, if_pos kl]; exact h.at_, ?_, ?_⟩⟩
        · intro j y hj
          rw [List.getElem?_append] at hj
          split at hj
          · exact h.le j y hj
          · have : y = x := by
              rw [List.getElem?_singleton] at hj
              split at hj
              · exact (Option.some.inj hj).symm
              · cases hj
            subst this
            omega
        · intro j y hl hj
          rw [List.getElem?_append, if_pos (by omega)] at hj
          exact h.lt j y hl hj
    obtain ⟨k1, b1, e1, f1⟩ := go
    obtain ⟨k2, b2, e2, f2⟩ := fold_first cost r (pre ++ [x]) k1 b1 f1
    refine ⟨k2, b2, ?_, ?_⟩
    · rw [List.foldl_cons, e1]
      exact e2
    · rw [List.append_assoc] at f2
      exact f2

theorem lowest_first {cost : List Nat → Nat} {ls : List (List Nat)} (h : ls ≠ []) : ∃ k b, lowest cost ls = some b ∧ FirstLeast cost ls k b := by
  cases ls with
  | nil => exact absurd rfl h
  | cons x r =>
    have f : FirstLeast cost [x] 0 x := by
      refine ⟨rfl, fun j y hj => ?_, fun j y hl => absurd hl (Nat.not_lt_zero j)⟩
      rw [List.getElem?_singleton] at hj
      split at hj
      · rw [Option.some.inj hj]
        exact Nat.le_refl _
      · cases hj
    obtain ⟨k, b, e, g⟩ := fold_first cost r [x] 0 x f
    exact ⟨k, b, e, g⟩

theorem lowest_of_first {cost : List Nat → Nat} {ls : List (List Nat)} {k : Nat} {b : List Nat} (h : FirstLeast cost ls k b) : lowest cost ls = some b := by
  have : ls ≠ [] := by
    intro e
    subst e
    have := h.at_
    simp at this
  obtain ⟨k', b', e, f⟩ := lowest_first (cost := cost) this
  rw [e, (h.one f).2]

/-! ### lists of positions, longer by one at the end -/
/-- the least number that may stand behind a list -/
def behind (first : Nat) (l : List Nat) : Nat := match l.getLast? with
  | none => first
  | some p => p + 1

theorem behind_cons (first p : Nat) (l : List Nat) : behind first (p :: l) = behind (p + 1) l := by
  unfold behind
  cases l with
  | nil => rfl
  | cons q r => rw [List.getLast?_cons_cons]; simp [List.getLast?_cons]

theorem flatMap_flatMap' {α β γ : Type} (l : List α) (f : α → List β) (g : β → List γ) : (l.flatMap f).flatMap g = l.flatMap fun x => (f x).flatMap g := List.flatMap_assoc

theorem positionLists_more (n : Nat) : ∀ (k first : Nat), positionLists n (k + 1) first = (positionLists n k first).flatMap fun l => ((List.range n).drop (behind first l)).map fun p => l ++ [p]
  | 0, first => by
    simp only [positionLists, List.flatMap_cons, List.flatMap_nil, List.append_nil, List.map_cons, List.map_nil, behind, List.getLast?_nil, List.nil_append]
    generalize (List.range n).drop first = z
    induction z with
    | nil => rfl
    | cons a z ih => rw [List.flatMap_cons, ih]; rfl
  | k + 1, first => by
    have e : positionLists n (k + 2) first = ((List.range n).drop first).flatMap fun p => (positionLists n (k + 1) (p + 1)).map fun rest => p :: rest := rfl
    have e2 : positionLists n (k + 1) first = ((List.range n).drop first).flatMap fun p => (positionLists n k (p + 1)).map fun rest => p :: rest := rfl
    rw [e, e2, flatMap_flatMap']
    congr 1
    funext p
    rw [positionLists_more n k (p + 1), List.map_flatMap, List.flatMap_map]
    congr 1
    funext l
    rw [behind_cons, List.map_map]
    rfl

/-- what a list of positions is -/
structure Pos (n first : Nat) (l : List Nat) : Prop where
  lo : ∀ p ∈ l, first ≤ p
  hi : ∀ p ∈ l, p < n
  up : l.Pairwise (· < ·)

theorem mem_range_drop {n first p : Nat} : p ∈ (List.range n).drop first ↔ first ≤ p ∧ p < n := by
  rw [List.mem_drop_iff_getElem]
  constructor
  · rintro ⟨i, h, e⟩
    rw [List.length_range] at h
    rw [List.getElem_range] at e
    omega
  · intro ⟨h1, h2⟩
    exact ⟨p - first, by rw [List.length_range]; omega, by rw [List.getElem_range]; omega⟩

theorem mem_positionLists {n : Nat} : ∀ {k first : Nat} {l : List Nat}, l ∈ positionLists n k first ↔ l.length = k ∧ Pos n first l
  | 0, first, l => by
    simp only [positionLists, List.mem_singleton]
    constructor
    · rintro rfl
      exact ⟨rfl, ⟨by simp, by simp, .nil⟩⟩
    · intro h
      exact List.length_eq_zero_iff.mp h.1
  | k + 1, first, l => by
    simp only [positionLists, List.mem_flatMap, List.mem_map]
    constructor
    · rintro ⟨p, hp, r, hr, rfl⟩
      have ⟨a, b⟩ := mem_range_drop.mp hp
      have ⟨c, d⟩ := mem_positionLists.mp hr
      refine ⟨by rw [List.length_cons, c], ⟨?_, ?_, ?_⟩⟩
      · intro q hq
        rcases List.mem_cons.mp hq with e | e
        · omega
        · have := d.lo q e
          omega
      · intro q hq
        rcases List.mem_cons.mp hq with e | e
        · omega
        · exact d.hi q e
      · exact List.pairwise_cons.mpr ⟨fun q hq => by have := d.lo q hq; omega, d.up⟩
    · intro ⟨hl, h⟩
      cases l with
      | nil => simp at hl
      | cons p r =>
        have u := List.pairwise_cons.mp h.up
        refine ⟨p, mem_range_drop.mpr ⟨h.lo p (by simp), h.hi p (by simp)⟩, r, mem_positionLists.mpr ⟨by simpa using hl, ⟨?_, ?_, u.2⟩⟩, rfl⟩
        · intro q hq
          have := u.1 q hq
          omega
        · intro q hq
          exact h.hi q (by simp [hq])

/-- there is a list of k positions from first on, where there is room for it -/
theorem positionLists_ne {n k first : Nat} (h : first + k ≤ n) : positionLists n k first ≠ [] := by
  intro e
  have m : List.range' first k ∈ positionLists n k first := by
    refine mem_positionLists.mpr ⟨List.length_range', ⟨?_, ?_, ?_⟩⟩
    · intro p hp
      have := List.mem_range'_1.mp hp
      omega
    · intro p hp
      have := List.mem_range'_1.mp hp
      omega
    · exact List.pairwise_lt_range'
  rw [e] at m
  cases m

/-! ### valid sieves -/
theorem pairwise_of_next : ∀ {l : List Nat}, (∀ i, i < l.length - 1 → l.getD i 0 < l.getD (i + 1) 0) → l.Pairwise (· < ·)
  | [], _ => .nil
  | [a], _ => by simp
  | a :: b :: r, h => by
    have ih : (b :: r).Pairwise (· < ·) := pairwise_of_next fun i hi => by
      have := h (i + 1) (by simp at hi ⊢; omega)
      simpa using this
    refine List.pairwise_cons.mpr ⟨?_, ih⟩
    have ab : a < b := by simpa using h 0 (by simp)
    intro q hq
    rcases List.mem_cons.mp hq with e | e
    · omega
    · have := (List.pairwise_cons.mp ih).1 q e
      omega

theorem next_of_pairwise {l : List Nat} (h : l.Pairwise (· < ·)) (i : Nat) (hi : i < l.length - 1) : l.getD i 0 < l.getD (i + 1) 0 := by
  have h1 : i < l.length := by omega
  have h2 : i + 1 < l.length := by omega
  rw [List.getD_eq_getElem?_getD, List.getD_eq_getElem?_getD, List.getElem?_eq_getElem h1, List.getElem?_eq_getElem h2]
  exact List.pairwise_iff_getElem.mp h i (i + 1) h1 h2 (by omega)

theorem valid_iff {s : Sifter} {l : List Nat} : validSieves s l = true ↔ Pos s.sizes.length 1 l := by
  unfold validSieves
  rw [Bool.and_eq_true, List.all_eq_true, List.all_eq_true]
  constructor
  · intro ⟨h, g⟩
    refine ⟨fun p hp => ?_, fun p hp => ?_, pairwise_of_next fun i hi => ?_⟩
    · have := h p hp
      rw [Bool.and_eq_true, decide_eq_true_eq] at this
      exact this.1
    · have := h p hp
      rw [Bool.and_eq_true, decide_eq_true_eq, decide_eq_true_eq] at this
      exact this.2
    · have := g i (List.mem_range.mpr hi)
      rwa [decide_eq_true_eq] at this
  · intro h
    refine ⟨fun p hp => ?_, fun i hi => ?_⟩
    · rw [Bool.and_eq_true, decide_eq_true_eq, decide_eq_true_eq]
      exact ⟨h.lo p hp, h.hi p hp⟩
    · rw [decide_eq_true_eq]
      exact next_of_pairwise h.up i (List.mem_range.mp hi)

/-! ### lowest terms -/
theorem rat_parts (a b : Nat) (hb : b ≠ 0) : (((a : Nat) : Rat) / ((b : Nat) : Rat)).num = (a : Int) / (Nat.gcd a b : Int) ∧ (((((a : Nat) : Rat) / ((b : Nat) : Rat)).den : Nat) : Int) = (b : Int) / (Nat.gcd a b : Int) := by
  have e : (((a : Nat) : Rat) / ((b : Nat) : Rat)) = mkRat (a : Int) b := by
    rw [Rat.mkRat_eq_div]
    rfl
  rw [e, Rat.num_mkRat, Rat.den_mkRat, if_neg hb, if_neg hb, Nat.gcd_comm]
  simp

/-! ### positions, one more at the end -/
theorem nil_or_snoc {α : Type} (l : List α) : l = [] ∨ ∃ m y, l = m ++ [y] := by
  rcases List.eq_nil_or_concat l with e | ⟨m, y, e⟩
  · exact .inl e
  · exact .inr ⟨m, y, by rw [e, List.concat_eq_append]⟩
theorem behind_nil (first : Nat) : behind first [] = first := rfl
theorem behind_snoc (first : Nat) (l : List Nat) (x : Nat) : behind first (l ++ [x]) = x + 1 := by
  unfold behind
  rw [List.getLast?_concat]
theorem Pos.take {n first : Nat} {l : List Nat} (h : Pos n first l) (i : Nat) : Pos n first (l.take i) :=
  ⟨fun p hp => h.lo p (List.mem_of_mem_take hp), fun p hp => h.hi p (List.mem_of_mem_take hp), h.up.sublist (List.take_sublist i l)⟩
theorem pos_snoc {n first : Nat} {l : List Nat} {x : Nat} : Pos n first (l ++ [x]) ↔ Pos n first l ∧ behind first l ≤ x ∧ x < n := by
  constructor
  · intro h
    have u := List.pairwise_append.mp h.up
    refine ⟨⟨fun p hp => h.lo p (by simp [hp]), fun p hp => h.hi p (by simp [hp]), u.1⟩, ?_, h.hi x (by simp)⟩
    rcases nil_or_snoc l with e | ⟨m, y, e⟩
    · subst e
      exact h.lo x (by simp)
    · subst e
      rw [behind_snoc]
      exact u.2.2 y (by simp) x (by simp)
  · intro ⟨h, b, c⟩
    have all : ∀ p ∈ l, p < x := by
      intro p hp
      rcases nil_or_snoc l with e | ⟨m, y, e⟩
      · subst e
        cases hp
      · subst e
        rw [behind_snoc] at b
        rcases List.mem_append.mp hp with q | q
        · have := (List.pairwise_append.mp h.up).2.2 p q y (by simp)
          omega
        · rw [List.mem_singleton] at q
          omega
    have fx : first ≤ x := by
      rcases nil_or_snoc l with e | ⟨m, y, e⟩
      · subst e
        exact b
      · subst e
        have := h.lo y (by simp)
        rw [behind_snoc] at b
        omega
    refine ⟨fun p hp => ?_, fun p hp => ?_, List.pairwise_append.mpr ⟨h.up, by simp, fun a ha b hb => ?_⟩⟩
    · rcases List.mem_append.mp hp with q | q
      · exact h.lo p q
      · rw [List.mem_singleton] at q
        omega
    · rcases List.mem_append.mp hp with q | q
      · exact h.hi p q
      · rw [List.mem_singleton] at q
        omega
    · rw [List.mem_singleton] at hb
      subst hb
      exact all a ha

/-! ### how many lists there are -/
theorem range_drop_cons {n first : Nat} (h : first < n) : (List.range n).drop first = first :: (List.range n).drop (first + 1) := by
  rw [List.drop_eq_getElem_cons (by rw [List.length_range]; exact h), List.getElem_range]
theorem positionLists_room (n : Nat) : ∀ (d k first : Nat), n - first ≤ d → (positionLists n k first).length ≤ 2 ^ d
  | d, 0, first, _ => by
    simp only [positionLists, List.length_singleton]
    exact Nat.one_le_two_pow
  | 0, k + 1, first, h => by
    have e : (List.range n).drop first = [] := by
      rw [List.drop_eq_nil_iff, List.length_range]
      omega
    simp [positionLists, e]
  | d + 1, k + 1, first, h => by
    by_cases c : first < n
    · have a := positionLists_room n d k (first + 1) (by omega)
      have b := positionLists_room n d (k + 1) (first + 1) (by omega)
      have e : positionLists n (k + 1) first = (positionLists n k (first + 1)).map (fun rest => first :: rest) ++ positionLists n (k + 1) (first + 1) := by
        show ((List.range n).drop first).flatMap _ = _
        rw [range_drop_cons c, List.flatMap_cons]
        rfl
      rw [e, List.length_append, List.length_map, Nat.pow_succ]
      omega
    · have e : (List.range n).drop first = [] := by
        rw [List.drop_eq_nil_iff, List.length_range]
        omega
      simp [positionLists, e]
theorem flatMap_take_len {α β : Type} (l : List α) (f : α → List β) (j : Nat) : ((l.take j).flatMap f).length ≤ (l.flatMap f).length := by
  have e : l.flatMap f = (l.take j).flatMap f ++ (l.drop j).flatMap f := by
    rw [← List.flatMap_append, List.take_append_drop]
  rw [e, List.length_append]
  exact Nat.le_add_right _ _
end Sv

/-! What is handed in, as rows of a number and the whole numbers behind it; what is due of each. -/
namespace Sv
abbrev CallR' := Int × List Nat
abbrev nums (l : List Nat) : List Int := l.map fun n : Nat => (n : Int)
/-- a call as it is handed in -/
def encR (r : CallR') : List Int := r.1 :: (r.2.length : Int) :: (nums r.2 ++ [0])
def rowOf (r : CallR') : List (List Int) := [r.1 :: nums r.2]
def askedR (r : CallR') : Bool := Kp409Neutral.asked1 (rowOf r)
theorem asked1_nat {p : Int} {ms : List Int} (h : Kp409Neutral.asked1 [p :: ms] = true) : ∀ m ∈ ms, 0 ≤ m := by
  unfold Kp409Neutral.asked1 at h
  split at h <;> simp_all [Kp409Neutral.natural] <;> omega
theorem nums_back {ms : List Int} (h : ∀ m ∈ ms, 0 ≤ m) : nums (ms.map Int.toNat) = ms := by
  unfold nums
  rw [List.map_map]
  conv => rhs; rw [← List.map_id ms]
  exact List.map_congr_left fun m hm => by
    have := h m hm
    show ((m.toNat : Nat) : Int) = m
    omega
theorem row_of_asked {c : List (List Int)} (h : Kp409Neutral.asked1 c = true) : ∃ r : CallR', c = rowOf r := by
  obtain ⟨p, ms, rfl⟩ := asked1_form h
  exact ⟨(p, ms.map Int.toNat), by unfold rowOf; rw [nums_back (asked1_nat h)]⟩
theorem rows_of_asked : ∀ {cs : List (List (List Int))}, cs.all Kp409Neutral.asked1 = true → ∃ rs : List CallR', cs = rs.map rowOf
  | [], _ => ⟨[], rfl⟩
  | c :: cs, h => by
    rw [List.all_cons, Bool.and_eq_true] at h
    obtain ⟨r, e⟩ := row_of_asked h.1
    obtain ⟨rs, e2⟩ := rows_of_asked h.2
    exact ⟨r :: rs, by rw [e, e2]; rfl⟩
theorem enc_row (r : CallR') : encCall (rowOf r) = encR r := by
  unfold encCall rowOf encR
  simp
structure Handed (ns : List Int) (rs : List CallR') : Prop where
  enc : ns = rs.flatMap encR
  few : rs.length ≤ 60
  each : ∀ r ∈ rs, askedR r = true
  due : PyKp409.answers ns = PyFlat.told (PyFlat.played Kp409Neutral.step none (rs.map rowOf))
  short : (PyKp409.answers ns).length ≤ 10000000
theorem handed_asked {ns : List Int} (h : PyKp409.answers_asked ns = true) : ∃ rs, Handed ns rs := by
  unfold PyKp409.answers_asked at h
  split at h
  · cases h
  · rename_i cs hc
    simp only [Bool.and_eq_true] at h
    obtain ⟨⟨h1, h2⟩, h3⟩ := h
    unfold Kp409Neutral.asked at h2
    simp only [Bool.and_eq_true] at h2
    obtain ⟨_, h4, h5⟩ := h2
    obtain ⟨rs, rfl⟩ := rows_of_asked h5
    have e := calls_enc (by unfold PyKp409.calls at hc; exact hc) h5
    refine ⟨rs, ⟨?_, ?_, fun r hr => ?_, ?_, ?_⟩⟩
    · rw [e, List.flatMap_map]
      congr 1
      funext r
      exact enc_row r
    · have z := of_decide_eq_true h4
      simpa using z
    · exact List.all_eq_true.mp h5 _ (List.mem_map_of_mem hr)
    · unfold PyKp409.answers
      rw [hc]
      rfl
    · unfold PyFlat.short at h3
      exact of_decide_eq_true h3
theorem asked_none {p : Int} (hp : p = 2 ∨ p = 4 ∨ p = 6 ∨ p = 7 ∨ p = 8 ∨ p = 9 ∨ p = 13 ∨ p = 20) {l : List Nat} (h : askedR (p, l) = true) : l = [] := by
  rcases l with _ | ⟨x, r⟩
  · rfl
  · exfalso
    rcases hp with e | e | e | e | e | e | e | e <;> subst e <;> simp [askedR, rowOf, Kp409Neutral.asked1] at h
theorem asked_one {p : Int} (hp : p = 10 ∨ p = 11 ∨ p = 12 ∨ p = 14 ∨ p = 15 ∨ p = 16 ∨ p = 17 ∨ p = 19) {l : List Nat} (h : askedR (p, l) = true) : ∃ x, l = [x] := by
  rcases l with _ | ⟨x, _ | ⟨y, r⟩⟩
  · exfalso
    rcases hp with e | e | e | e | e | e | e | e <;> subst e <;> simp [askedR, rowOf, Kp409Neutral.asked1] at h
  · exact ⟨x, rfl⟩
  · exfalso
    rcases hp with e | e | e | e | e | e | e | e <;> subst e <;> simp [askedR, rowOf, Kp409Neutral.asked1] at h
theorem asked_add {l : List Nat} (h : askedR (1, l) = true) : ∃ x y, l = [x, y] := by
  rcases l with _ | ⟨x, _ | ⟨y, _ | ⟨z, r⟩⟩⟩
  · simp [askedR, rowOf, Kp409Neutral.asked1] at h
  · simp [askedR, rowOf, Kp409Neutral.asked1] at h
  · exact ⟨x, y, rfl⟩
  · simp [askedR, rowOf, Kp409Neutral.asked1] at h
theorem asked_set {l : List Nat} (h : askedR (3, l) = true) : ∃ x y z, l = [x, y, z] := by
  rcases l with _ | ⟨x, _ | ⟨y, _ | ⟨z, _ | ⟨u, r⟩⟩⟩⟩
  · simp [askedR, rowOf, Kp409Neutral.asked1] at h
  · simp [askedR, rowOf, Kp409Neutral.asked1] at h
  · simp [askedR, rowOf, Kp409Neutral.asked1] at h
  · exact ⟨x, y, z, rfl⟩
  · simp [askedR, rowOf, Kp409Neutral.asked1] at h
theorem asked_list {p : Int} (hp : p = 5 ∨ p = 18) {l : List Nat} (h : askedR (p, l) = true) : l.length ≤ 12 := by
  have key : ((nums l).all Kp409Neutral.natural && decide ((nums l).length ≤ 12)) = true := by
    rcases hp with e | e
    · subst e
      exact h
    · subst e
      exact h
  rw [Bool.and_eq_true, decide_eq_true_eq, List.length_map] at key
  exact key.2
theorem asked_create {l : List Nat} (h : askedR (0, l) = true) : l = [] := by
  rcases l with _ | ⟨x, r⟩
  · rfl
  · simp [askedR, rowOf, Kp409Neutral.asked1] at h
theorem num_of {p : Int} {ms : List Int} {c : List (List Int)} (e : [p :: ms] = c) : p = (c.headD []).headD 0 := by
  subst e
  rfl
/-- a call's number is one of the 21 -/
theorem asked_number {p : Int} {l : List Nat} (h : askedR (p, l) = true) : 0 ≤ p ∧ p ≤ 20 := by
  unfold askedR rowOf at h
  generalize hc : [(p, l).1 :: nums (p, l).2] = c at h
  have z := num_of hc
  unfold Kp409Neutral.asked1 at h
  split at h
  all_goals first
    | cases h; done
    | (have z2 : p = _ := z; dsimp only [List.headD] at z2; subst z2; exact ⟨by decide, by decide⟩)

/-! ### what is due -/
/-- what the specification says of the call p, l on the sifter s -/
def due (s : Kp409.Sifter) (p : Int) (l : List Nat) : Kp409.State × List Int := Kp409Neutral.step (some s) [p :: nums l]
open Kp409 in
theorem due_of {s : Sifter} {p : Int} {l : List Nat} {x : Call} (h : Kp409Neutral.callOf [p :: nums l] = some x) : due s p l = ((step (some s) x).1, (step (some s) x).2.num :: (step (some s) x).2.nums) := by
  unfold due Kp409Neutral.step
  rw [h]
theorem nums_toNat (l : List Nat) : (nums l).map Int.toNat = l := by
  unfold nums
  rw [List.map_map]
  conv => rhs; rw [← List.map_id l]
  exact List.map_congr_left fun m _ => Int.toNat_natCast m
/-- without a sifter -/
theorem due_none {p : Int} {l : List Nat} (h : askedR (p, l) = true) (p0 : p ≠ 0) : Kp409Neutral.step none (rowOf (p, l)) = (none, [-11]) := by
  unfold askedR at h
  generalize hc : rowOf (p, l) = c at h ⊢
  have z := num_of (p := p) (ms := nums l) hc
  unfold Kp409Neutral.asked1 at h
  split at h
  all_goals first
    | cases h; done
    | rfl
    | exact absurd z p0
theorem due_create (st : Kp409.State) : Kp409Neutral.step st (rowOf (0, [])) = (some ⟨[], []⟩, [0]) := by
  cases st <;> rfl
/-! ### the calls, one behind another -/
def runSt (st : Kp409.State) (rs : List CallR') : Kp409.State := rs.foldl (fun s r => (Kp409Neutral.step s (rowOf r)).1) st
def outs (st : Kp409.State) (rs : List CallR') : List (List Int) := PyFlat.played Kp409Neutral.step st (rs.map rowOf)
theorem runSt_snoc (st : Kp409.State) (rs : List CallR') (r : CallR') : runSt st (rs ++ [r]) = (Kp409Neutral.step (runSt st rs) (rowOf r)).1 := by
  unfold runSt
  rw [List.foldl_append]
  rfl
theorem outs_snoc : ∀ (st : Kp409.State) (rs : List CallR') (r : CallR'), outs st (rs ++ [r]) = outs st rs ++ [(Kp409Neutral.step (runSt st rs) (rowOf r)).2]
  | _, [], _ => rfl
  | st, q :: rs, r => by
    have ih := outs_snoc (Kp409Neutral.step st (rowOf q)).1 rs r
    unfold outs at ih ⊢
    show _ :: PyFlat.played Kp409Neutral.step _ ((rs ++ [r]).map rowOf) = _
    rw [ih]
    rfl
theorem outs_app : ∀ (st : Kp409.State) (rs qs : List CallR'), outs st (rs ++ qs) = outs st rs ++ outs (runSt st rs) qs
  | _, [], _ => rfl
  | st, r :: rs, qs => by
    have ih := outs_app (Kp409Neutral.step st (rowOf r)).1 rs qs
    unfold outs at ih ⊢
    show _ :: PyFlat.played Kp409Neutral.step _ ((rs ++ qs).map rowOf) = _
    rw [ih]
    rfl
theorem told_snoc (l : List (List Int)) (x : List Int) : PyFlat.told (l ++ [x]) = PyFlat.told l ++ ((x.length : Int) :: x) := by
  unfold PyFlat.told
  rw [List.flatMap_append]
  simp
theorem told_room {st : Kp409.State} {rs : List CallR'} (i : Nat) : (PyFlat.told (outs st (rs.take i))).length ≤ (PyFlat.told (outs st rs)).length := by
  have e := outs_app st (rs.take i) (rs.drop i)
  rw [List.take_append_drop] at e
  rw [e]
  unfold PyFlat.told
  rw [List.flatMap_append, List.length_append]
  exact Nat.le_add_right _ _
end Sv

/-! Lists of things on the heap; comprehensions that change nothing; what classes are, cut by cut. -/
namespace Sv
open PySem PySem.Spec PyProof.Rows L2

/-! ### tests whose answer is known -/
theorem ifT {c : Bool} {A B : Prop} (hc : c = true) (h : A) : if c = true then A else B := by
  rw [if_pos hc]
  exact h
theorem ifF {c : Bool} {A B : Prop} (hc : c = false) (h : B) : if c = true then A else B := by
  rw [hc, if_neg Bool.false_ne_true]
  exact h

/-! ### two lists, place by place -/
structure All2 {α : Type} (R : V → α → Prop) (vs : List V) (xs : List α) : Prop where
  len : vs.length = xs.length
  at_ : ∀ (i : Nat) (v : V) (x : α), vs[i]? = some v → xs[i]? = some x → R v x
section
variable {α : Type} {R S : V → α → Prop} {vs ws : List V} {xs ys : List α}
theorem All2.nil : All2 R [] ([] : List α) := ⟨rfl, fun i v x h => by simp at h⟩
theorem All2.imp (h : All2 R vs xs) (q : ∀ v x, R v x → S v x) : All2 S vs xs := ⟨h.len, fun i v x a b => q v x (h.at_ i v x a b)⟩
theorem All2.app (h : All2 R vs xs) (g : All2 R ws ys) : All2 R (vs ++ ws) (xs ++ ys) := by
  refine ⟨by rw [List.length_append, List.length_append, h.len, g.len], fun i v x a b => ?_⟩
  by_cases c : i < vs.length
  · rw [List.getElem?_append_left c] at a
    rw [List.getElem?_append_left (by rw [← h.len]; exact c)] at b
    exact h.at_ i v x a b
  · rw [List.getElem?_append_right (by omega)] at a
    rw [List.getElem?_append_right (by rw [← h.len]; omega), ← h.len] at b
    exact g.at_ _ v x a b
theorem All2.one {v : V} {x : α} (h : R v x) : All2 R [v] [x] := ⟨rfl, fun i u y a b => by
  cases i with
  | zero =>
    cases a
    cases b
    exact h
  | succ i => simp at a⟩
theorem All2.cut (h : All2 R vs xs) (i j : Nat) : All2 R ((vs.take j).drop i) ((xs.take j).drop i) := by
  refine ⟨by simp [h.len], fun k v x a b => ?_⟩
  rw [List.getElem?_drop, List.getElem?_take] at a b
  split at a
  · rename_i c
    rw [if_pos c] at b
    exact h.at_ _ v x a b
  · cases a
theorem All2.front (h : All2 R vs xs) : All2 R vs.dropLast xs.dropLast := by
  refine ⟨by simp [h.len], fun k v x a b => ?_⟩
  rw [List.getElem?_dropLast] at a b
  split at a
  · rename_i c
    split at b
    · exact h.at_ _ v x a b
    · cases b
  · cases a
theorem All2.put {v : V} {x : α} (h : All2 R vs xs) (i : Nat) (r : R v x) : All2 R (vs.set i v) (xs.set i x) := by
  refine ⟨by simp [h.len], fun k u y a b => ?_⟩
  rw [List.getElem?_set] at a b
  split at a
  · rename_i e
    rw [if_pos e] at b
    split at a
    · split at b
      · cases a
        cases b
        exact r
      · cases b
    · cases a
  · rename_i e
    rw [if_neg e] at b
    exact h.at_ k u y a b
theorem All2.some_of (h : All2 R vs xs) {i : Nat} {v : V} (a : vs[i]? = some v) : ∃ x, xs[i]? = some x ∧ R v x := by
  have c : i < vs.length := by
    rcases Nat.lt_or_ge i vs.length with c | c
    · exact c
    · rw [List.getElem?_eq_none c] at a
      cases a
  have b : xs[i]? = some (xs[i]'(by rw [← h.len]; exact c)) := List.getElem?_eq_getElem _
  exact ⟨_, b, h.at_ i v _ a b⟩
theorem All2.val_of (h : All2 R vs xs) {i : Nat} {x : α} (b : xs[i]? = some x) : ∃ v, vs[i]? = some v ∧ R v x := by
  have c : i < xs.length := by
    rcases Nat.lt_or_ge i xs.length with c | c
    · exact c
    · rw [List.getElem?_eq_none c] at b
      cases b
  have a : vs[i]? = some (vs[i]'(by rw [h.len]; exact c)) := List.getElem?_eq_getElem _
  exact ⟨_, a, h.at_ i _ x a b⟩
end
theorem map_at {α β : Type} {l : List α} {f : α → β} {i : Nat} {y : β} (h : (l.map f)[i]? = some y) : ∃ x, l[i]? = some x ∧ y = f x := by
  rw [List.getElem?_map] at h
  obtain ⟨x, a, b⟩ := Option.map_eq_some_iff.mp h
  exact ⟨x, a, b.symm⟩
theorem take_more {α : Type} {l : List α} {i : Nat} {x : α} (h : l[i]? = some x) : l.take (i + 1) = l.take i ++ [x] := by
  rw [List.take_add_one, h]
  rfl
theorem lt_of_at {α : Type} {l : List α} {i : Nat} {x : α} (h : l[i]? = some x) : i < l.length := by
  rcases Nat.lt_or_ge i l.length with c | c
  · exact c
  · rw [List.getElem?_eq_none c] at h
    cases h

/-! ### heaps -/
theorem same_new {H : Hp} {p : Addr} {o : HO} (h : H p = none) : Same H (upd H p o) := fun b x e => by
  rw [upd_ne (ne_of_none e h)]
  exact e
theorem small (n : Nat) (h : n ≤ 100000) : n ≤ sizeLine := Nat.le_trans h (by rw [sizeLine_eq]; decide)
theorem ltLine {n : Nat} (h : n < 16777216) : n < sizeLine := by rw [sizeLine_eq]; exact h

/-! ### a comprehension over a list that changes nothing but its own list -/
theorem lc_pure {K : PySem.W.Frag} {a : Addr} {xs : List V} {g : TG} {te : TE} {vs : List Nat} {σ : L2.St} {H1 : Hp} {D : Addr} {Qd : Hp → Prop} (ys : List V) (nD : H1 D = none) (hS : SqL K H1 a xs) (len : ys.length = xs.length) (big : xs.length ≤ sizeLine)
    (turn : ∀ (i : Nat) (x y : V) (H : Hp) (P : V → Hp → Prop), xs[i]? = some x → ys[i]? = some y → Same H1 H → P y H → g x (wipe σ vs) H fun σ2 H2 => wipe σ2 vs = wipe σ vs ∧ te σ2 H2 P) (hd : Qd (upd H1 D (.lst ys))) :
    ∃ W : Nat → Nat → Hp → Prop, (∃ m, W 0 m (upd H1 D (.lst []))) ∧ ∀ i m H, W i m H →
      ((Itl K a).stop i H ∧ Qd H) ∨ ((Itl K a).go i H ∧ ∃ Nx : Hp → Prop, (∀ H', Nx H' → ∃ m', m' < m ∧ W (i + 1) m' H') ∧ ∀ x H', (Itl K a).yld i H x H' → g x (wipe σ vs) H' fun σ2 H2 => wipe σ2 vs = wipe σ vs ∧ tYes σ2 H2 fun b H3 =>
        if b = true then te σ2 H3 fun y H4 => ∃ acc, H4 D = some (.lst acc) ∧ acc.length < sizeLine ∧ Nx (upd H4 D (.lst (acc ++ [y]))) else Nx H3) := by
  refine lc_list (xs := xs) (fun i H => H = upd H1 D (.lst (ys.take i))) rfl (fun i H _ e => ?_) (fun i x H hx e => ?_) (fun H e => ?_)
  · rw [e]
    exact (same_new nD).seq hS
  · have hi : i < ys.length := by rw [len]; exact lt_of_at hx
    have hy : ys[i]? = some ys[i] := List.getElem?_eq_getElem hi
    subst e
    refine turn i x ys[i] _ _ hx hy (same_new nD) ?_
    refine ⟨_, upd_same, ?_, ?_⟩
    · rw [List.length_take]
      omega
    · rw [upd_upd, take_more hy]
  · rw [e, ← len, List.take_length]
    exact hd

/-! ### slices -/
theorem cut_mid (xs : List V) (i j : Nat) (h : i ≤ j) (hj : j ≤ xs.length) : cutV xs (some (i : Int)) (some (j : Int)) = (xs.take j).drop i := by
  unfold cutV
  rw [show HT.sIx xs.length 0 (some (i : Int)) = min i xs.length from HT.sIx_nat xs.length 0 i, show HT.sIx xs.length xs.length (some (j : Int)) = min j xs.length from HT.sIx_nat xs.length xs.length j]
  have e1 : min i xs.length = i := by omega
  have e2 : min j xs.length = j := by omega
  simp only [e1, e2, List.drop_take]

/-! ### the classes, cut by cut -/
open Kp409 in
/-- the class between two cuts -/
def seg (sz : List SizeFraction) (x : Nat × Nat) : List SizeFraction := (sz.take x.1).drop x.2
theorem zip_longer {α β : Type} : ∀ (l : List α) (m r : List β), l.length ≤ m.length → l.zip (m ++ r) = l.zip m
  | [], _, _, _ => rfl
  | a :: l, [], r, h => by simp at h
  | a :: l, b :: m, r, h => by
    show (a, b) :: l.zip (m ++ r) = (a, b) :: l.zip m
    rw [zip_longer l m r (by simpa using h)]
theorem classes_cuts (s : Kp409.Sifter) (pos : List Nat) : Kp409.classes s pos = ((pos ++ [s.sizes.length]).zip (0 :: (pos ++ [s.sizes.length]))).map (seg s.sizes) := by
  have e : (0 :: (pos ++ [s.sizes.length])) = (0 :: pos) ++ [s.sizes.length] := rfl
  rw [e, zip_longer _ _ _ (by simp)]
  rfl
/-- the cuts rise -/
theorem cuts_up {n : Nat} {pos : List Nat} (h : Pos n 1 pos) : (0 :: (pos ++ [n])).Pairwise (· ≤ ·) := by
  refine List.pairwise_cons.mpr ⟨fun _ _ => Nat.zero_le _, List.pairwise_append.mpr ⟨h.up.imp (fun q => Nat.le_of_lt q), by simp, fun a ha b hb => ?_⟩⟩
  rw [List.mem_singleton] at hb
  subst hb
  exact Nat.le_of_lt (h.hi a ha)
theorem cuts_step {n : Nat} {pos : List Nat} (h : Pos n 1 pos) {i a b : Nat} (ha : (0 :: (pos ++ [n]))[i]? = some a) (hb : (pos ++ [n])[i]? = some b) : a ≤ b ∧ b ≤ n := by
  have hb' : (0 :: (pos ++ [n]))[i + 1]? = some b := hb
  have la := lt_of_at ha
  have lb := lt_of_at hb'
  have ea := (List.getElem?_eq_some_iff.mp ha).2
  have eb := (List.getElem?_eq_some_iff.mp hb').2
  refine ⟨?_, ?_⟩
  · have := List.pairwise_iff_getElem.mp (cuts_up h) i (i + 1) la lb (Nat.lt_succ_self i)
    omega
  · have m : b ∈ pos ++ [n] := List.mem_of_getElem? hb
    rcases List.mem_append.mp m with q | q
    · exact Nat.le_of_lt (h.hi b q)
    · rw [List.mem_singleton] at q
      omega
theorem class_at {s : Kp409.Sifter} {pos : List Nat} {i a b : Nat} (ha : (0 :: (pos ++ [s.sizes.length]))[i]? = some a) (hb : (pos ++ [s.sizes.length])[i]? = some b) : (Kp409.classes s pos)[i]? = some (seg s.sizes (b, a)) := by
  have z : ((pos ++ [s.sizes.length]).zip (0 :: (pos ++ [s.sizes.length])))[i]? = some (b, a) := List.getElem?_zip_eq_some.mpr ⟨hb, ha⟩
  rw [classes_cuts, List.getElem?_map, z]
  rfl
theorem classes_len (s : Kp409.Sifter) (pos : List Nat) : (Kp409.classes s pos).length = pos.length + 1 := by
  rw [classes_cuts]
  simp

/-! ### sums -/
theorem sum_ints {α : Type} (f : α → Nat) : ∀ l : List α, (l.map fun x => ((f x : Nat) : Int)).sum = (((l.map f).sum : Nat) : Int)
  | [] => rfl
  | x :: l => by
    rw [List.map_cons, List.sum_cons, sum_ints f l, List.map_cons, List.sum_cons]
    omega
end Sv

/-! An own exception under Exception whose __init__ is a def that hands the code on to its base's __init__, which stores it. -/
namespace Sv
open PySem PySem.Spec PyProof.Rows L2
abbrev eTail : List Value := [.type "Exception", .type "BaseException", .type "object"]
/-- what the written part says of such a class -/
structure ExC (K : PySem.W.Frag) (C : Addr) : Prop where
  cls : ∃ nm q N bs bm sn sub ab col dd k0 k1 k2 k3 k5, K.lookup C = some (excClassObj nm q C N bs bm true sn sub ab col dd k0 k1 k2 k3 k5 "Exception.__new__") ∧ PySem.W.excTail eTail bm = true
  ov : PySem.W.excOver K C eTail = true
  tk : PySem.W.takerIn K C "code" = some none
  sa : PySem.W.findIn K (.ref C) "__setattr__" = some (some (.builtin "object.__setattr__"))
  exC : PySem.W.subIn K (.ref C) (.type "BaseException") = some true
  tyC : PySem.W.typeIn K (.ref C) = some (.type "type")
  kC : PySem.W.keepIn K (.ref C) = true
  ga : PySem.W.findIn K (.ref C) "__getattribute__" = some (some (.builtin "BaseException.__getattribute__"))
  gg : PySem.W.findIn K (.ref C) "__getattr__" = some none
  hd : PySem.W.hasDictIn K C = true
  no : PySem.W.findIn K (.ref C) "code" = some none
section
open Builtin Builtin.ObjectAttr
variable {prog : Program} {w : World} {A : Around} {R : Result → Shared → Prop} {hp : Heap} {g : Array GenState} {d : Drawn} {t : Nat} {os : OsState}
/-- the first attribute of an exception: its dict is made -/
theorem osa_first {K : PySem.W.Frag} {tk : Tok} {v : Value} {x C : Addr} {fv : Array Value} (T : ExC K C) (X : K.In hp) (hx : hp.get? x = some { cls := .ref C, data := .fields fv })
    (hq : ∀ h2 t2 dx, (∀ b o, b ≠ x → hp.get? b = some o → h2.get? b = some o) → hp.objs.size ≤ dx → dx ≠ x →
      h2.get? x = some { cls := .ref C, dict := some dx, data := .fields fv } → h2.Ns1 dx (fun y => if y = "code" then some v else none) →
      R (.ok (.ret .none)) ⟨h2, g, d, t2, os⟩) :
    codeAny (model prog w) A (.call (.builtin "object.__setattr__") ⟨[.ref x, .str "code" tk, v], []⟩) R ⟨hp, g, d, t, os⟩ := by
  obtain ⟨nm, q, N, bs, bm, sn, sub, ab, col, dd, k0, k1, k2, k3, k5, hC, hbm⟩ := T.cls
  have away : hp.objs.size ≠ x := Nat.ne_of_gt (Heap.lt_size hx)
  have I : PySem.W.InstAt hp x { cls := .ref C, data := .fields fv } C none := ⟨hx, rfl, rfl, trivial⟩
  refine PySem.W.osa_openX (od := none) (s := ⟨hp, g, d, t, os⟩) PySem.F.store_Exception X I T.ov T.tk fun b => ?_
  have look : PySem.W.Looks (model prog w) hp (classData C) { name := nm, bases := bs, mro := .ref C :: bm, ns := N, qualname := q, hasDict := true, slotNames := sn, subclasses := sub, abstract := ab, collection := col, hasDel := false } :=
    PySem.W.looks_clsIn X (by unfold PySem.W.clsIn; rw [hC] <;> rfl)
  dsimp only
  unfold storeInOwnDict ownDictForStores
  repeat (first
    | with_reducible refine PySem.HandSPX.store_in_new ?_ ?_
    | with_reducible refine wpAny_loadPart_at hx ?_
    | with_reducible refine look.at ?_
    | wp_step)
  · exact ⟨_, #[], _, (Heap.get?_update_ne _ _ _ _ away).trans (Heap.get?_push_at rfl rfl), rfl, fun e he => absurd he (by simp), fun _ => rfl⟩
  · intro h2 t2 hn2 hs
    have hx1 := Heap.get?_push_of_some { cls := .type "dict", data := .dict #[] } hx
    refine hq h2 t2 hp.objs.size (fun b o hb ho => ?_) (Nat.le_refl _) away ?_ hn2
    · refine (hs.2 b (Nat.ne_of_lt (Heap.lt_size ho))).trans ?_
      exact (Heap.get?_update_ne _ _ _ _ hb).trans (Heap.get?_push_of_some _ ho)
    · exact (hs.2 x away.symm).trans (Heap.get?_update_self _ hx1 rfl)
end

section
variable {X : Cx} {pins : List (Addr × Obj)} {σ : L2.St} {H : Hp} {s : Shared} {a C : Addr} {y : V} {u : Value} {A : Around}
/-- self.code = y, where nothing was stored before -/
theorem code_store {Q : Unit → Shared → Prop} {E : Value → Shared → Prop} (T : ExC X.K C) (I : Inv X pins σ H s) (e : H a = some (exo a C none)) (ry : RelV y u)
    (h : ∀ dx s2, H dx = none → dx ≠ a → Inv X pins σ (upd (upd H dx (exd dx [("code", y)])) a (exo a C (some dx))) s2 → Q () s2) :
    wpAny (model X.prog X.w) A (setAttr (.ref a) "code" u) Q E s := by
  obtain ⟨t1, ho⟩ := exo_at I.hok e
  obtain ⟨hp, g, d, t, os⟩ := s
  have In : PySem.W.InstAt hp a { cls := .ref C, dict := none, data := .fields #[.ref t1, .none, .none, .none, .bool false, .none] } C none := ⟨ho, rfl, rfl, trivial⟩
  refine PySem.W.set_plain I.kIn In T.sa (osa_first T I.kIn ho fun h2 t2 dx kept big other at_a inD => ?_)
  have free : H dx = none := I.hok.fresh big
  have notD : ∀ {b : Addr} {o : Obj}, hp.get? b = some o → b ≠ dx := fun {b o} q => Nat.ne_of_lt (Nat.lt_of_lt_of_le (Heap.lt_size q) big)
  have notA : ∀ {b : Addr}, H b = none → b ≠ a := fun {b} n z => by
    rw [z, e] at n
    cases n
  have U : Un X.fs [] H (upd (upd H dx (exd dx [("code", y)])) a (exo a C (some dx))) hp h2 := {
    keep := fun b o q n _ _ => kept b o (notA n) q
    slot := fun b o q n _ _ => ⟨o.slots, kept b o (notA n) q⟩
    free := fun b o q n _ => by
      rw [upd_ne (notA n), upd_ne (notD q)]
      exact n
    there := fun b o q _ => by
      by_cases hb : b = a
      · subst hb
        exact ⟨_, at_a⟩
      · exact ⟨o, kept b o hb q⟩
    tups := fun b xs q => by
      rw [upd_ne (at_ne e q exo_tup), upd_ne (ne_of_none q free)]
      exact q
    frzs := fun b o v q => by
      rw [upd_ne (at_ne e q exo_frz), upd_ne (ne_of_none q free)]
      exact q
    tbls := fun b ps q => ⟨#[], by
      rw [upd_ne (at_ne e q exo_tbl), upd_ne (ne_of_none q free), q]
      simp⟩ }
  refine h dx _ free other (I.un (t' := t2) U fun b o q => ?_)
  by_cases hb : b = a
  · subst hb
    rw [upd_same] at q
    cases q
    exact exo_ok at_a
  rw [upd_ne hb] at q
  by_cases hd : b = dx
  · subst hd
    rw [upd_same] at q
    cases q
    exact exd_ok inD (relO_put (fs := []) ry fun _ => True.intro)
  rw [upd_ne hd] at q
  refine (I.hok b o q).stay (fun c v hc z => kept c v ?_ z) (fun c hc => ?_) (fun c xs hc => ?_)
  · rcases hc with hc | hc
    · exact fun z => hb (hc.symm.trans z)
    · exact at_ne e hc exo_own
  · rw [upd_ne (at_ne e hc exo_own), upd_ne (ne_of_none hc free)]
    exact hc
  · rw [upd_ne (at_ne e hc exo_tup), upd_ne (ne_of_none hc free)]
    exact hc
/-- Exception.__init__ of it: nothing of it is told -/
theorem base_init {us : List Value} {Q : Value → Shared → Prop} {E : Value → Shared → Prop} (T : ExC X.K C) (I : Inv X pins σ H s) (e : H a = some (exo a C none)) (hl : us.length ≤ sizeLine)
    (h : ∀ s2, Inv X pins σ H s2 → Q .none s2) : wpAny (model X.prog X.w) A (call (.builtin "Exception.__init__") (.ref a :: us)) Q E s := by
  obtain ⟨nm, q, N, bs, bm, sn, sub, ab, col, dd, k0, k1, k2, k3, k5, hC, hbm⟩ := T.cls
  obtain ⟨t1, ho⟩ := exo_at I.hok e
  obtain ⟨hp, g, d, t, os⟩ := s
  have tail : ∀ Y : String, bm.contains (.type Y) = eTail.contains (.type Y) := fun Y => PySem.W.excTail_contains Y bm hbm
  refine wpAny_call (PySem.HandSPX.init_base PySem.F.excBase_Exception tail (I.kIn _ _ hC) ho hl fun h2 t2 kept at_a => ?_)
  have J := I.write (t' := t) (x := a) (e := a) (o := exo a C none) (by rw [e]; exact True.intro) (.inl rfl) kept ⟨_, at_a⟩ (exo_ok at_a)
  have same : upd H a (exo a C none) = H := funext fun b => by
    by_cases hb : b = a
    · rw [hb, upd_same, e]
    · exact upd_ne hb
  rw [same] at J
  exact h _ J
end

/-! ### readings and rules -/
/-- Exception.__init__(self) -/
def tBaseInit (K : PySem.W.Frag) (ta : TA) : TE := fun σ H Q => ta σ H fun vs H1 => ∃ (a C : Addr), vs = [.ref a] ∧ ExC K C ∧ H1 a = some (exo a C none) ∧ Q .non H1
/-- self.code = e -/
def tCode (K : PySem.W.Frag) (to te : TE) : TS := fun D σ H => te σ H fun y H1 => to σ H1 fun x H2 => ∃ a C : Addr, x = .ref a ∧ ExC K C ∧ H2 a = some (exo a C none) ∧
  ∀ dx, H2 dx = none → dx ≠ a → D.nx σ (upd (upd H2 dx (exd dx [("code", y)])) a (exo a C (some dx)))
theorem typ_Exc : typeOf (.type "Exception") = pure (.type "type") := by kernel_rfl
section
variable {X : Cx} {o e : Expr} {es : List Expr} {to te : TE} {ta : TA} {p p' p1 p2 pos : PySem.Pos}
theorem pe_baseInit {pl : Sem Bool} (hg : Gl X "Exception") (hm : X.mg "Exception" = none) (hV : PySem.W.findCls X.K (.type "Exception") (.type "type") "__init__" = some (.val (.builtin "Exception.__init__"))) (ha : PA X (e :: es) ta)
    (hc : eval (.Call (.Attribute (.Name "Exception" p1) "__init__" p2) (e :: es) [] pos) X.env = (do
      let cls ← eval (.Name "Exception" p1) X.env
      standAt p2.atName
      let (f, first) ← holding [cls] (getMethod cls "__init__" pl)
      callWith pos f first (backTo pos (starEach (e :: es) X.env)) (backToKw pos (keywordEach [] X.env))) := by rfl)
    (he : starEach (e :: es) X.env = (false, eval e X.env) :: starEach es X.env := by rfl) (hpl : (backTo pos (starEach es X.env)).any (·.1) = false := by rfl) :
    PE X (.Call (.Attribute (.Name "Exception" p1) "__init__" p2) (e :: es) [] pos) (tBaseInit X.K ta) := by
  refine ⟨fun pins s σ H Q I h => ?_⟩
  refine PySem.W.methodCall_KW (ld_blt I hg hm PyProof.Rows.Boot.«Exception» ?_ (by decide) (by decide)) hc
  obtain ⟨m, fr⟩ := I.fr
  refine PySem.W.method_type fr I.ok.mod.kin typ_Exc (by decide +kernel) hV (by decide +kernel) ?_
  refine PyProof.Rows.callWith_method1 (first := []) (thn (ha.run pos pins _ σ H _ (I.tok _) h) fun us s1 ⟨vs, H1, I1, r1, a, C, ev, T, ea, q⟩ => ?_) he hpl
  subst ev
  cases r1 with
  | @cons _ u0 _ ur ra rr =>
    cases rr
    obtain rfl : u0 = Value.ref a := ra
    exact base_init T I1 ea (Nat.zero_le _) fun s2 J => ⟨.non, H1, J, rfl, q⟩
theorem ps_code (ho : PE X o to) (he : PE X e te) (hs : swapsWith e (some (.Attribute o "code" p')) pos.line X.env = pure false := by rfl) : PS X (.Assign [.Attribute o "code" p'] e pos) (tCode X.K to te) := by
  refine ⟨fun pins s σ H D I h => ?_⟩
  refine plainObj_wpAny_Assign_Attribute (thn (he.run pins s σ H _ I h) fun v s1 ⟨y, H1, I1, r1, q1⟩ => thn (ho.run pins s1 σ H1 _ I1 q1) fun u s2 ⟨x, H2, I2, r2, z⟩ => ?_) hs
  obtain ⟨a, C, ex, T, ea, q⟩ := z
  subst ex
  obtain rfl : u = Value.ref a := r2
  exact code_store T I2 ea r1 fun dx s3 n ne J => ⟨σ, _, J, q dx n ne⟩
/-- B.__init__(e, ..): a def of the class at B, read off the class -/
theorem pe_offClass {CX : CXT} {k : Nat} {B f : Addr} {fd : FuncData} {ps : List Str} {sp : Sp} {E : XK} {x m : Str} {mc : Value} {pl : Sem Bool} (F : FnOk X.prog X.w X.K X.mg X.base CX k f fd ps sp) (hr : Room k X.A) (hg : Gl X x) (hm : X.mg x = some (.ref B))
    (rd : ClX.CRead X.K B mc) (vl : ClX.CVal X.K B mc m (.ref f) (.ref f)) (hk : PySem.W.keepIn X.K (.ref f) = true) (hb : Binds X.K fd ps []) (hx : Passes CX X E) (ha : PA X (e :: es) ta) (hdb : (x == ("__debug__" : Str)) = false := by decide)
    (hc : eval (.Call (.Attribute (.Name x p1) m p2) (e :: es) [] pos) X.env = (do
      let cls ← eval (.Name x p1) X.env
      standAt p2.atName
      let (f, first) ← holding [cls] (getMethod cls m pl)
      callWith pos f first (backTo pos (starEach (e :: es) X.env)) (backToKw pos (keywordEach [] X.env))) := by rfl)
    (he : starEach (e :: es) X.env = (false, eval e X.env) :: starEach es X.env := by rfl) (hpl : (backTo pos (starEach es X.env)).any (·.1) = false := by rfl) :
    PE X (.Call (.Attribute (.Name x p1) m p2) (e :: es) [] pos) (tCall sp [] E ta) := by
  refine ⟨fun pins s σ H Q I h => ?_⟩
  refine PySem.W.methodCall_KW (ld_glob I hg hm ?_ hdb) hc
  refine PySem.W.method_cls I.kIn rd.ga (ClX.getcval_ok I rd vl fun s1 J => ?_)
  refine PySem.W.callWith_K (first := []) (h₀ := X.base) I.ok.mod.kin hk (thn (ha.run pos pins s1 σ H _ J h) fun us s2 ⟨vs, H2, I2, r, q⟩ => ⟨I2.kIn, ?_⟩) he hpl
  exact run_fn (us := us) (vs := vs) F hr hb .nil hx I2 r q
/-- C(), C's __init__ keeping sp -/
def tMkC (C : Addr) (sp : Sp) : L2.St → Hp → XK → Prop := fun σ H Q => ∀ a, H a = none → sp [.ref a] (upd H a (exo a C none))
  (fun v H2 => v = .non ∧ ∃ (d : Addr) (fs : List (Str × V)), H2 a = some (exo a C (some d)) ∧ H2 d = some (exd d fs) ∧ H d = none ∧ Q (.ref C) (some d) (upd (del H2 a) d (.xd fs))) (fun _ _ _ => False)
theorem pmk_own0 {CX : CXT} {x : Str} {C f : Addr} {k : Nat} {fd : FuncData} {ps : List Str} {sp : Sp} (T : ExC X.K C) (iC : PySem.W.findIn X.K (.ref C) "__init__" = some (some (.ref f))) (tI : PySem.W.typeIn X.K (.ref f) = some (.type "function"))
    (F : FnOk X.prog X.w X.K X.mg X.base CX k f fd ps sp) (hr : Room (k + 1) X.A) (hb : Binds X.K fd ps []) (hx : Passes CX X (fun _ _ _ => False)) (hg : Gl X x) (hm : X.mg x = some (.ref C)) (hdb : (x == ("__debug__" : Str)) = false := by decide) :
    PMk X (.Call (.Name x p) [] [] pos) (tMkC C sp) := by
  intro pins s σ H Q I h
  obtain ⟨nm, q, N, bs, bm, sn, sub, ab, col, dd, k0, k1, k2, k3, k5, hC, hbm⟩ := T.cls
  have tail : ∀ Y : String, bm.contains (.type Y) = eTail.contains (.type Y) := fun Y => PySem.W.excTail_contains Y bm hbm
  refine wpAny_Call_Name_kw (ld_glob I hg hm ?_ hdb)
  refine PySem.W.callWith_K0 I.kIn T.kC ?_
  obtain ⟨hp, g, dr, tk, os⟩ := s
  have big : hp.objs.size ≤ hp.objs.size + 1 := Nat.le_succ _
  have free : H (hp.objs.size + 1) = none := I.hok.fresh big
  have hq := h (hp.objs.size + 1) free
  have kept : ∀ b o, hp.get? b = some o → ((hp.push (PySem.W.kdv_tup [])).push (PySem.HandSPX.excO C hp.objs.size)).get? b = some o := fun b o e => Heap.get?_push_of_some _ (Heap.get?_push_of_some _ e)
  have hget : ((hp.push (PySem.W.kdv_tup [])).push (PySem.HandSPX.excO C hp.objs.size)).get? (hp.objs.size + 1) = some (PySem.HandSPX.excO C hp.objs.size) := by heap_get
  have I2 := I.laid (t' := tk) (a := hp.objs.size + 1) (o := exo (hp.objs.size + 1) C none) kept big (exo_ok hget)
  have r2 : Vals [V.ref (hp.objs.size + 1)] [Value.ref (hp.objs.size + 1)] := .cons rfl .nil
  have hl : ([Value.ref (hp.objs.size + 1)] ++ []).length = ps.length := by
    have z := F.len _ _ _ _ hq
    exact z
  have run := F.run _ X.stack _ _ ⟨[Value.ref (hp.objs.size + 1)], []⟩ [Value.ref (hp.objs.size + 1)] _ _ (fun _ _ _ => False) (hr.make C [] []) (I2.env0.make C [] []) (hb _ [Value.ref (hp.objs.size + 1)] I2.kIn hl) r2 hq
  refine wpAny_call (PySem.HandSPX.call_own PySem.F.excBase_Exception tail (I.kIn _ _ hC) (PySem.W.looks_findIn I.kIn iC) (fun self => PySem.W.bind_fn I.kIn self tI) (Nat.zero_le _) (codeAny_mono run fun r s2 z => ?_))
  match r, z with
  | .error er, z => exact hx pins σ _ _ er s2 I2 z
  | .ok .next, z => exact z.elim
  | .ok .brk, z => exact z.elim
  | .ok .cont, z => exact z.elim
  | .ok (.ret u), z =>
    obtain ⟨v, H2, os2, bare2, un2, hok2, rv, ev, d, fs, ea, ed, hd1, q2⟩ := z
    subst ev
    obtain ⟨h2, g2, d2, t2, os3⟩ := s2
    exact ⟨rv, mk_end (raises_own T.exC T.tyC) I big kept un2 hok2 os2 bare2 ea ed hd1 q2⟩
end

/-! ### the code of a caught error -/
/-- x.code, x the error that the suite holds at a (its class cls, its dict d) -/
def tCaught (K : PySem.W.Frag) (a : Addr) (cls : Value) (d : Option Addr) (te : TE) : TE := fun σ H Q => te σ H fun x H1 => x = .ref a ∧
  ∃ (C dd : Addr) (v : V), cls = .ref C ∧ ExC K C ∧ d = some dd ∧ H1 dd = some (.xd [("code", v)]) ∧ Q v H1
theorem pe_caught {X : Cx} {a : Addr} {oe : Obj} {cls : Value} {d : Option Addr} {pn : List (Addr × Obj)} {e : Expr} {te : TE} {pos : PySem.Pos} (hz : Zc cls d oe) (hf : ∃ vs, oe.data = .fields vs) (he : PE (X.suite a ((a, oe) :: pn)) e te)
    (hb : attributeBase e "code" X.env (eval e X.env) = eval e X.env := by rfl) :
    PE (X.suite a ((a, oe) :: pn)) (.Attribute e "code" pos) (tCaught X.K a cls d te) := by
  refine ⟨fun pins s σ H Q I h => ?_⟩
  refine attr_of hb (thn (he.run pins s σ H _ I h) fun u s1 z => ?_)
  obtain ⟨x, H1, I1, rx, ex, C, dd, v, ec, T, ed, ea, q⟩ := z
  subst ex
  subst ec
  subst ed
  obtain rfl : u = Value.ref a := rx
  have here := (I1.pin (a, oe) (List.mem_append_left _ List.mem_cons_self)).1
  obtain ⟨vs, hdat⟩ := hf
  obtain ⟨mA, hns, rel⟩ := (show ∃ mA, s1.heap.Ns1 dd mA ∧ ∀ f, RelO (List.lookup f [(("code" : Str), v)]) (mA f) from I1.hok dd _ ea)
  obtain ⟨od, ho, look⟩ := lookIn_ns hns
  have lk : List.lookup ("code" : Str) [(("code" : Str), v)] = some v := by simp [List.lookup]
  have rc := rel "code"
  rw [lk] at rc
  obtain ⟨u, hu, ru⟩ := RelO.some_of rc
  have J : PySem.W.InstAt s1.heap a oe C (some od) := by
    refine ⟨here, hz.1, ?_, ?_⟩
    · unfold PySem.W.notCls
      rw [hdat] <;> rfl
    · rw [hz.2]
      exact ho
  have found := PySem.W.findObj_own (od := od) T.hd T.no rfl (by rw [look, hu])
  exact HandSPX.exc_get I1.kIn J T.ga T.gg T.exC found (handed_of ru) ⟨v, H1, I1.tok _, ru, q⟩

/-! ### the promises of the two __init__ -/
def spBase (K : PySem.W.Frag) : Sp := fun vs H Q _ => ∃ (a C : Addr) (y : V), vs = [.ref a, y] ∧ ExC K C ∧ H a = some (exo a C none) ∧
  ∀ dx, H dx = none → dx ≠ a → Q .non (upd (upd H dx (exd dx [("code", y)])) a (exo a C (some dx)))
def spCoded (K : PySem.W.Frag) (c : Int) : Sp := fun vs H Q E => ∃ a, vs = [V.ref a] ∧ spBase K [.ref a, .int c] H Q E
/-- C(): an error that bears its code -/
theorem made_coded {K : PySem.W.Frag} {C : Addr} {c : Int} {σ : L2.St} {H : Hp} {Q : XK} (T : ExC K C) (h : ∀ d, H d = none → Q (.ref C) (some d) (upd H d (.xd [("code", .int c)]))) : tMkC C (spCoded K c) σ H Q := by
  intro a na
  refine ⟨a, rfl, a, C, .int c, rfl, T, upd_same, fun dx nd ne => ?_⟩
  rw [upd_ne ne] at nd
  refine ⟨rfl, dx, _, upd_same, (upd_ne ne).trans upd_same, nd, ?_⟩
  have e : upd (del (upd (upd (upd H a (exo a C none)) dx (exd dx [("code", .int c)])) a (exo a C (some dx))) a) dx (.xd [("code", .int c)]) = upd H dx (.xd [("code", .int c)]) := by
    funext b
    by_cases h1 : b = dx
    · rw [h1, upd_same, upd_same]
    · rw [upd_ne h1, upd_ne h1]
      by_cases h2 : b = a
      · rw [h2, del_same, na]
      · rw [del_ne h2, upd_ne h2, upd_ne h1, upd_ne h2]
  rw [e]
  exact h dx nd
/-- an error of a class under the clause's is what the clause names -/
theorem clause_takes {K : PySem.W.Frag} {C B : Addr} (h1 : PySem.W.subIn K (.ref B) (.type "BaseException") = some true) (h2 : PySem.W.isClsIn K B = true) (h3 : PySem.W.typeIn K (.ref B) = some (.type "type")) (h4 : PySem.W.subIn K (.ref C) (.ref B) = some true) :
    PySem.W.exmOne K (.ref C) (.ref B) = some true := by
  have c1 : (PySem.W.subIn K (.ref B) (.type "BaseException") == some true) = true := by rw [h1] <;> rfl
  have c2 : ((PySem.W.clsIn K B).isSome && PySem.W.typeIn K (.ref B) == some (.type "type")) = true := by
    rw [show (PySem.W.clsIn K B).isSome = true from h2, h3] <;> rfl
  show (if (PySem.W.subIn K (.ref B) (.type "BaseException") == some true) = true then (if ((PySem.W.clsIn K B).isSome && PySem.W.typeIn K (.ref B) == some (.type "type")) = true then PySem.W.subIn K (.ref C) (.ref B) else none) else none) = some true
  rw [if_pos c1, if_pos c2, h4]
end Sv

/-! Rules that the layer lacks: extend by a tuple; an item of a written dict whose keys are numbers; a call of a local that holds one of several defs, which may raise. -/
namespace Sv
open PySem PySem.Spec PyProof.Rows L2
open PySem.AutoSeq1 in
theorem extend_by_tuple (l : Addr) (items : Array Value) (n : Nat) (b : Addr) (o : Obj) (more : Array Value) (m : Nat) (hc : o.cls = .type "tuple") (hd : o.data = .seq more m) (h0 : ¬(!items.isEmpty && Builtin.List.listTooLong (items.size + more.size)) = true) (h1 : items.size ≤ sizeLine) (h2 : items.size + more.size ≤ sizeLine + 1) :
    Meets (Builtin.«list.extend» ⟨[.ref l, .ref b], []⟩) (fun _ R s => s.heap.get? l = some { cls := .type "list", dict := none, data := .seq items n, slots := #[] } ∧ s.heap.get? b = some o ∧
      R (.ok (.ret Value.none)) { s with heap := s.heap.update l (Obj.mapSeq fun x => x ++ more), toks := s.toks }) :=
  .of_wp fun prog w A R s h => by
    obtain ⟨c, dd, dt, sl⟩ := o
    dsimp only at hc hd
    subst hc
    subst hd
    obtain ⟨hp, g, d, tk, os⟩ := s
    obtain ⟨hl, hb, h⟩ := h
    have f1 := idx_int
    have f2 := AutoSeq1.sub_tuple_tuple
    have f3 := AutoSeq1.sub_list_list
    have f4 := AutoSeq1.sub_tuple_list
    have f5 := AutoSeq1.sub_list_tuple
    have hz : (items ++ more).size ≤ sizeLine + 1 := by
      rw [Array.size_append]
      exact h2
    wp_walk using (wpAny_updateSeq hl rfl (hz := h1) (_hz' := hz)), wpAny_loadPart' hl, wpAny_loadPart' hb
    exact ⟨_, rfl, h⟩
/-- xs.extend(t), t a tuple -/
def rExtT (K : PySem.W.Frag) : V → List V → Hp → VK → Prop := fun x vs H Q => ∃ l b xs zs, x = .ref l ∧ vs = [.ref b] ∧ H l = some (.lst xs) ∧ SqT K H b zs ∧ xs.length + zs.length ≤ sizeLine ∧ Q .non (upd H l (.lst (xs ++ zs)))
theorem mt_extT {X : Cx} : MtM X "list.extend" (rExtT X.K) := by
  intro pins s σ H x vs v us Q I rx rv h
  obtain ⟨l, b, xs, zs, rfl, rfl, hH, hB, hz, q⟩ := h
  cases rx
  obtain ⟨u, rfl, ru⟩ := rv.one
  cases ru
  obtain ⟨z, its, n, r, hl, e⟩ := I.lstM hH
  obtain ⟨its2, r2, ⟨o2, ho2, hc2, n2, hd2⟩, z2⟩ := I.tuple hB
  have lens := r2.length
  have hsz : its.toArray.size + its2.toArray.size ≤ sizeLine := by
    rw [List.size_toArray, List.size_toArray]
    omega
  have room : ¬ (!its.toArray.isEmpty && Builtin.List.listTooLong (its.toArray.size + its2.toArray.size)) = true := by
    rw [notLongL hsz, Bool.and_false]
    exact Bool.false_ne_true
  refine call_meets PySem.F.slot_list_extend ⟨_, e, rfl⟩ PySem.F.entry_list_extend (PySem.F.args_list_extend_2 _ _) (extend_by_tuple l its.toArray n b o2 its2.toArray n2 hc2 hd2 room (by rw [List.size_toArray]; omega) (by omega)) ⟨e, ho2, ?_⟩
  refine ⟨.non, _, I.lset (its' := its ++ its2) hH e (by simp) (r.append r2) ?_, rfl, q⟩
  rw [List.length_append]
  omega

/-! ### a written dict from numbers to defs -/
/-- its entries, read -/
def tabOf : List DictEntry → Option (List (Int × Addr))
  | [] => some []
  | e :: r => match e.key, e.val with
    | .int k _, .ref f => if e.hash = hashInt k then (tabOf r).map ((k, f) :: ·) else none
    | _, _ => none
theorem tabOf_keys {P : Program} {w : World} : ∀ {l : List DictEntry} {tab : List (Int × Addr)}, tabOf l = some tab → ∀ e ∈ l, ∃ k, (intKind P w).is k e.key = true ∧ e.hash = (intKind P w).hash k
  | [], _, _, e, he => by cases he
  | a :: r, tab, h, e, he => by
    unfold tabOf at h
    split at h
    · rename_i k t f hk hv
      split at h
      · rename_i hh
        obtain ⟨tab2, h2, _⟩ := Option.map_eq_some_iff.mp h
        rcases List.mem_cons.mp he with q | q
        · subst q
          exact ⟨k, by rw [hk]; exact intKind_is P w k t, hh⟩
        · exact tabOf_keys h2 e q
      · cases h
    · cases h
theorem tabOf_find {P : Program} {w : World} (k : Int) : ∀ {l : List DictEntry} {tab : List (Int × Addr)}, tabOf l = some tab → (l.find? fun e => (intKind P w).is k e.key).map (·.val) = (tab.lookup k).map Value.ref
  | [], tab, h => by
    unfold tabOf at h
    cases h
    rfl
  | a :: r, tab, h => by
    unfold tabOf at h
    split at h
    · rename_i j t f hk hv
      split at h
      · obtain ⟨tab2, h2, e⟩ := Option.map_eq_some_iff.mp h
        subst e
        rw [List.find?_cons, hk]
        by_cases q : k = j
        · subst q
          have z : (intKind P w).is k (.int k t) = true := intKind_is P w k t
          rw [z]
          have b : (k == k) = true := beq_self_eq_true k
          simp only [List.lookup, b, Option.map_some, hv]
        · have z : (intKind P w).is k (.int j t) = false := by
            cases c : (intKind P w).is k (.int j t) with
            | false => rfl
            | true => exact absurd ((intKind P w).inj _ _ _ c (intKind_is P w j t)) q
          rw [z]
          have b : (k == j) = false := by simpa using q
          simp only [List.lookup, b]
          exact tabOf_find k h2
      · cases h
    · cases h
/-- at d: a written dict from numbers to defs -/
def KTab (K : PySem.W.Frag) (d : Addr) (tab : List (Int × Addr)) : Prop := ∃ es n, K.lookup d = some ⟨.type "dict", none, .dict es n, #[]⟩ ∧ tabOf es.toList = some tab
/-- d[number] -/
def rIxTab (K : PySem.W.Frag) : R2 := fun x y H Q => ∃ d tab k f, x = .ref d ∧ y = .int k ∧ KTab K d tab ∧ tab.lookup k = some f ∧ Q (.ref f) H
theorem ix_tab {X : Cx} : IxR X (rIxTab X.K) := by
  intro value slice pins s σ H x y v u Q I rx ry h hs
  obtain ⟨d, tab, k, f, rfl, rfl, ⟨es, n, hl, ht⟩, hf, q⟩ := h
  obtain rfl : v = Value.ref d := rx
  obtain ⟨t, rfl⟩ := ry
  have hm : s.heap.MapOf (intKind X.prog X.w) d (fun j => findBy (intKind X.prog X.w).is es j) :=
    ⟨_, es, n, I.kIn _ _ hl, ⟨rfl, rfl, rfl⟩, rfl, fun e he => tabOf_keys ht e (Array.mem_toList_iff.mpr he), fun _ => rfl⟩
  have hv : findBy (intKind X.prog X.w).is es k = some (.ref f) := by
    have z := tabOf_find (P := X.prog) (w := X.w) k ht
    rw [hf] at z
    unfold findBy
    rw [← Array.find?_toList]
    exact z
  exact tail_any hm.typeIs slot_dict_getitem.lookup (wpAny_getItem_of (intKind_is X.prog X.w k t) hm hv ⟨.ref f, H, I.tok _, rfl, q⟩) hs

/-! ### a local that holds one of several defs; they may raise -/
/-- a def with its promise: one of those that the local may hold -/
structure Def1 (P : Program) (w : World) (K : PySem.W.Frag) (mg : Str → Option Value) (base : Heap) (k : Nat) (f : Addr) (sp : Sp) : Prop where
  ex : ∃ (fd : FuncData) (ps : List Str), FnOk P w K mg base (L2.CX P w) k f fd ps sp ∧ PySem.W.keepIn K (.ref f) = true ∧ Binds K fd ps []
def tCallD (i : Nat) (S : Addr → Sp → Prop) (E : XK) (t : TA) : TE := fun σ H Q => ∃ f sp, σ[i]? = some (some (.ref f)) ∧ S f sp ∧ t σ H fun vs H1 => sp vs H1 Q E
theorem pe_callD {X : Cx} {k i : Nat} {x : Str} {p pos : PySem.Pos} {e : Expr} {es : List Expr} {t : TA} {S : Addr → Sp → Prop} {E : XK} (D : ∀ f sp, S f sp → Def1 X.prog X.w X.K X.mg X.base k f sp) (hr : Room k X.A) (hN : X.N[i]? = some x) (hv : Vis X.env.scope x) (hx : Passes (L2.CX X.prog X.w) X E) (ha : PA X (e :: es) t)
    (hdb : (x == ("__debug__" : Str)) = false := by decide) (hcd : (x == ("__classdict__" : Str)) = false := by decide)
    (he : starEach (e :: es) X.env = (false, eval e X.env) :: starEach es X.env := by rfl) (hpl : (backTo pos (starEach es X.env)).any (·.1) = false := by rfl) : PE X (.Call (.Name x p) (e :: es) [] pos) (tCallD i S E t) := by
  refine ⟨fun pins s σ H Q I h => ?_⟩
  obtain ⟨f, sp, hs, hS, ht⟩ := h
  obtain ⟨fd, ps, F, hk, hb⟩ := (D f sp hS).ex
  refine (pe_callL (i := i) (f := f) (sp := sp) (dvs := []) (E := E) F hr hN hv hk hb .nil hx ha hdb hcd he hpl).run pins s σ H Q I ⟨hs, ?_⟩
  have e0 : (fun (vs : List V) (H1 : Hp) => sp (vs ++ []) H1 Q E) = fun vs H1 => sp vs H1 Q E := by
    funext vs H1
    rw [List.append_nil]
  show t σ H (fun vs H1 => sp (vs ++ []) H1 Q E)
  rw [e0]
  exact ht
end Sv

/-! A lambda with parameters and captured names: made, called; min(xs, key=it). -/
namespace Sv
open PySem PySem.Spec PyProof.Rows L2 LamX NdefX
/-! ### the made function -/
/-- a lambda's words, the cells that it captured, its code object -/
structure LF where
  qual : Str
  params : Arguments
  body : Expr
  scope : Scope
  cl : List (Str × Addr)
  c : Addr
abbrev LF.nf (F : LF) : NF := ⟨"<lambda>", F.qual, F.params, [], F.scope, F.cl, F.c⟩
/-- at f stands the lambda F -/
def LamO (f : Addr) (F : LF) : HO := .ext fun h => ∃ pm ctv : Value, h.get? f = some (PySem.W.kla_obj "<lambda>" F.qual F.params F.body F.scope F.cl pm F.c ctv)
theorem lamO_at {P : Program} {w : World} {H : Hp} {h : Heap} {f : Addr} {F : LF} (hok : HOk P w H h) (e : H f = some (LamO f F)) : ∃ pm ctv : Value, h.get? f = some (PySem.W.kla_obj "<lambda>" F.qual F.params F.body F.scope F.cl pm F.c ctv) := by
  have z := hok f _ e
  exact z.1
theorem lamO_ne {f : Addr} {F : LF} (ps : Array Value) : LamO f F ≠ .tbl ps := fun z => by
  unfold LamO at z
  cases z
section
variable {X : Cx} {pins : List (Addr × Obj)} {σ : L2.St} {H : Hp} {s : Shared}
/-- a lambda's object just made is known from now on -/
theorem inv_lam {F : LF} {t' : Nat} {pm ctv : Value} (I : Inv X pins σ H s) :
    Inv X pins σ (upd H s.heap.objs.size (LamO s.heap.objs.size F)) { s with heap := s.heap.push (PySem.W.kla_obj "<lambda>" F.qual F.params F.body F.scope F.cl pm F.c ctv), toks := t' } := by
  have e : (s.heap.push (PySem.W.kla_obj "<lambda>" F.qual F.params F.body F.scope F.cl pm F.c ctv)).get? s.heap.objs.size = some (PySem.W.kla_obj "<lambda>" F.qual F.params F.body F.scope F.cl pm F.c ctv) := Heap.get?_push_size _ rfl
  refine I.laid (a := s.heap.objs.size) (fun _ _ q => Heap.get?_push_of_some _ q) (Nat.le_refl _) ?_
  exact ⟨⟨pm, ctv, e⟩, ⟨_, e⟩, fun g1 g2 ⟨p, t, z⟩ st => ⟨p, t, st _ z⟩⟩
/-- one more entry in a table -/
theorem tabs_more {T : List (Addr × Str)} {P b : Addr} {q : Str} {pos : PySem.Pos} {ps : Array Value} (hT : Tabs T H) (hu : ∀ p ∈ T, p.1 = P → p.2 = q) (hP : H P = some (.tbl ps)) (ht : TriplesOk ps.toList)
    (ha : ∀ (p' : PySem.Pos) (v : Value), codeAmong p' ps.toList = some v → ∃ b', v = .ref b' ∧ H b' = some (CodeO b' q)) (nb : H b = none) :
    ExtN H (upd (upd H P (.tbl (ps ++ #[rawInt pos.line, rawInt pos.col, .ref b]))) b (CodeO b q)) ∧ Tabs T (upd (upd H P (.tbl (ps ++ #[rawInt pos.line, rawInt pos.col, .ref b]))) b (CodeO b q)) := by
  have grow : ExtN H (upd (upd H P (.tbl (ps ++ #[rawInt pos.line, rawInt pos.col, .ref b]))) b (CodeO b q)) := fun d u e n => by
    have n1 : d ≠ P := fun z => by
      rw [z, hP] at e
      exact n ps (Option.some.inj e).symm
    rw [upd_ne (ne_of_none e nb), upd_ne n1]
    exact e
  refine ⟨grow, fun p hp => ?_⟩
  by_cases c : p.1 = P
  · have el : (ps ++ #[rawInt pos.line, rawInt pos.col, .ref b]).toList = ps.toList ++ [rawInt pos.line, rawInt pos.col, .ref b] := by simp
    rw [hu p hp c, c]
    refine ⟨ps ++ #[rawInt pos.line, rawInt pos.col, .ref b], ?_, ?_, fun p' v hv => ?_⟩
    · rw [upd_ne (ne_of_none hP nb), upd_same]
    · rw [el]
      exact PySem.TriplesOk_snoc _ _ _ _ ht
    · rw [el] at hv
      rcases among_app _ ht hv with z | z
      · obtain ⟨b', e1, e2⟩ := ha p' v z
        exact ⟨b', e1, grow _ _ e2 codeO_ne⟩
      · exact ⟨b, z, upd_same⟩
  · obtain ⟨ps2, a1, a2, a3⟩ := hT p hp
    refine ⟨ps2, ?_, a2, fun p' v hv => ?_⟩
    · rw [upd_ne (ne_of_none a1 nb), upd_ne c]
      exact a1
    · obtain ⟨b', e1, e2⟩ := a3 p' v hv
      exact ⟨b', e1, grow _ _ e2 codeO_ne⟩
theorem extN_upd {H1 : Hp} {a : Addr} {o : HO} (e : ExtN H H1) (n : H1 a = none) : ExtN H (upd H1 a o) := fun b u h1 h2 => by
  have z := e b u h1 h2
  rw [upd_ne (ne_of_none z n)]
  exact z
theorem tabs_upd {T : List (Addr × Str)} {a : Addr} {o : HO} (t : Tabs T H) (n : H a = none) : Tabs T (upd H a o) := t.ext fun b u e => by
  rw [upd_ne (ne_of_none e n)]
  exact e
/-- a lambda is evaluated -/
theorem lam_made {T : List (Addr × Str)} {c P : Addr} {params : Arguments} {body : Expr} {scope : Scope} {pos : PySem.Pos} {E : Value → Shared → Prop} {Q : Value → Shared → Prop} (I : Inv X pins σ H s) (TB : TabB X.base X.mg c P) (hcode : X.env.code = .ref c)
    (hm : (P, X.env.qual ++ "<lambda>") ∈ T) (hu : ∀ p ∈ T, p.1 = P → p.2 = X.env.qual ++ "<lambda>") (hT : Tabs T H) (hdef : defaultsOf params X.env = ([], [])) (hfree : ∀ y ∈ scope.names, y.2 = .free → ∃ c, X.env.cells.lookup y.1 = some c)
    (h : ∀ (f b : Addr) (H1 : Hp) (s' : Shared), Inv X pins σ H1 s' → ExtN H H1 → Tabs T H1 → H f = none → H1 f = some (LamO f ⟨X.env.qual ++ "<lambda>", params, body, scope, cloFrom X.env.cells scope.names [], b⟩) → H1 b = some (CodeO b (X.env.qual ++ "<lambda>")) → Q (.ref f) s') :
    wpAny (model X.prog X.w) X.A (eval (.Lambda params body scope pos) X.env) Q E s := by
  obtain ⟨ps, hP, ht, ha⟩ := hT _ hm
  have bP : s.heap.BuiltinsAt X.mg P := TB.bm.keeps I.bk
  have gP := I.hok P _ hP
  have gl := I.mod.glob.keeps I.bk
  have cd := TB.code.keeps I.bk
  refine PySem.W.kla_eval hdef ?_
  cases hc : codeAmong pos ps.toList with
  | some v =>
    obtain ⟨b, e, hb⟩ := ha pos v hc
    subst e
    refine PySem.W.kla_makeFunctionHit (mg := X.mg) (c := c) (P := P) (ps := ps) (closure_ok hfree) I.ok.glob gl hcode cd gP ht hc bP fun ctv h1 tk hx hz => ?_
    have I1 : Inv X pins σ H { s with heap := h1, toks := tk } := I.kept hx
    have n1 : H h1.objs.size = none := I1.hok.fresh (Nat.le_refl _)
    have I2 := inv_lam (F := ⟨X.env.qual ++ "<lambda>", params, body, scope, cloFrom X.env.cells scope.names [], b⟩) (t' := tk) (pm := (X.mg "__name__").getD .none) (ctv := ctv) I1
    refine h _ b _ _ I2 (extN_upd (ExtN.refl H) n1) (tabs_upd hT n1) n1 upd_same ?_
    show upd H h1.objs.size _ b = _
    rw [upd_ne (ne_of_none hb n1)]
    exact hb
  | none =>
    refine PySem.W.kla_makeFunction (mg := X.mg) (c := c) (P := P) (ps := ps) (closure_ok hfree) I.ok.glob gl hcode cd gP ht hc TB.gP bP fun b ctv h1 tk hx hge hlt hrec htb => ?_
    obtain ⟨b2, ob, ws, tt, e2, g1, g2, g3⟩ := hrec
    cases e2
    have nb : H b = none := I.hok.fresh hge
    obtain ⟨x1, x2⟩ := tabs_more (pos := pos) hT hu hP ht ha nb
    have I1 := inv_table (t' := tk) (more := #[rawInt pos.line, rawInt pos.col, .ref b]) (h' := h1) I hP (fun d o hd e => hx d o hd e) htb hge ⟨ob, ws, tt, g1, g2, g3⟩
    have n1 := I1.hok.fresh (Nat.le_refl _)
    have I2 := inv_lam (F := ⟨X.env.qual ++ "<lambda>", params, body, scope, cloFrom X.env.cells scope.names [], b⟩) (t' := tk) (pm := (X.mg "__name__").getD .none) (ctv := ctv) I1
    have nb1 : b ≠ h1.objs.size := Nat.ne_of_lt hlt
    refine h _ b _ _ I2 (extN_upd x1 n1) (tabs_upd x2 n1) (I.hok.fresh (Nat.le_trans hge (Nat.le_of_lt hlt))) upd_same ?_
    show upd _ h1.objs.size _ b = _
    rw [upd_ne nb1]
    exact upd_same
end
/-- what a lambda's evaluation asks, and leaves -/
def tLamb (T : List (Addr × Str)) (mk : Addr → LF) : TE := fun _ H Q => Tabs T H ∧ ∀ (f b : Addr) (H1 : Hp), ExtN H H1 → Tabs T H1 → H f = none → H1 f = some (LamO f (mk b)) → H1 b = some (CodeO b (mk b).qual) → Q (.ref f) H1
theorem pe_lamb {X : Cx} {T : List (Addr × Str)} {c P : Addr} {params : Arguments} {body : Expr} {scope : Scope} {pos : PySem.Pos} (TB : TabB X.base X.mg c P) (hcode : X.env.code = .ref c) (hm : (P, X.env.qual ++ "<lambda>") ∈ T) (hu : ∀ p ∈ T, p.1 = P → p.2 = X.env.qual ++ "<lambda>")
    (hdef : defaultsOf params X.env = ([], [])) (hfree : ∀ y ∈ scope.names, y.2 = .free → X.env.scope.names.lookup y.1 = some .cell ∨ X.env.scope.names.lookup y.1 = some .free) :
    PE X (.Lambda params body scope pos) (tLamb T fun b => ⟨X.env.qual ++ "<lambda>", params, body, scope, cloFrom X.env.cells scope.names [], b⟩) := by
  refine ⟨fun pins s σ H Q I h => ?_⟩
  obtain ⟨hT, h⟩ := h
  refine lam_made I TB hcode hm hu hT hdef (fun y hy e => (hfree y hy e).elim (fun z => I.ok.has _ (.inl z)) fun z => I.ok.has _ (.inr z)) fun f b H1 s' J e1 t1 n1 l1 c1 => ?_
  exact ⟨.ref f, H1, J, rfl, h f b H1 e1 t1 n1 l1 c1⟩
/-! ### its call -/
section
variable {P : Program} {w : World} {K : PySem.W.Frag} {mg : Str → Option Value} {base : Heap} {N ps fr : List Str} {CX : CXT} {k : Nat} {A : Around} {outer : List Env} {s : Shared} {H : Hp} {E : XK} {Q : VK} {us : List Value} {vs : List V} {ws : List (Option V)} {f : Addr} {F : LF}
theorem lam_call (S : NScope N ps fr F.scope) (hb : ∀ pm ctv : Value, bindArgs (PySem.W.kla_fn "<lambda>" F.qual F.params F.body F.scope F.cl pm (.ref F.c) ctv) ⟨us, []⟩ = pure (ps.zip us)) (hr : Room (k + 1) A) (e0 : Env0 P w K mg base A outer s H) (hf : H f = some (LamO f F)) (hc : H F.c = some (CodeO F.c F.qual))
    (C : CellsAt F.cl fr ws s.heap H) (r : Vals vs us) (hl : vs.length = ps.length) (hbody : Room k (A.deeper (envF F.nf f s.heap.objs.size)) → ∃ t, PE (ncx CX P w K mg base N F.nf f A outer s H E) F.body t ∧ t (startF N vs ws) H Q) :
    codeAny (model P w) A (.call (.ref f) ⟨us, []⟩) (CR CX outer P w H s Q E) s := by
  have lim : s.heap.NoLimit := e0.mod.nolimit.keeps fun b o e => (e0.bs b o e).1
  obtain ⟨pm, ctv, ho⟩ := lamO_at e0.hok hf
  refine PySem.W.kla_callFunE hr.depth ho rfl S.co S.gen rfl (codeO_at e0.hok hc) ?_
  rw [hb pm ctv]
  refine wpAny_pure (wpAny_newFunctionEnv S.nocell (fun ⟨n, _⟩ hy => S.par n (List.of_mem_zip hy).1) (fun g hns hsb => ⟨lim.fresh _ hsb, ?_⟩) S.kind)
  have kp : ∀ b o, s.heap.get? b = some o → g.get? b = some o := fun b o e => hsb.extBut b o (Nat.ne_of_lt (Heap.lt_size e)) (Heap.get?_push_of_some _ e)
  obtain ⟨t, ht, hq⟩ := hbody (hr.deeper _)
  have I : Inv (ncx CX P w K mg base N F.nf f A outer s H E) [] (startF N vs ws) H { s with heap := g, toks := s.toks + (ps.zip us).length } := inv_startN (F := F.nf) S hr.hd e0 hl r C hns kp
  show codeAny _ _ (.expr F.body (envF F.nf f s.heap.objs.size)) _ _
  refine PySem.W.kla_codeExpr (wpAny_mono (ht.run [] _ (startF N vs ws) H Q I hq) (fun u s' hs => ?_) fun e s' hs => hs)
  obtain ⟨v, H', J, rv, q⟩ := hs
  exact ⟨v, H', J.os, J.bare, J.base, J.hok, rv, q⟩
end
end Sv

/-! min(xs, key=f), f any function whose call keeps what is tracked and gives a whole number: the first of the least. -/
namespace Sv
open PySem PySem.Spec PyProof.Rows L2 LamX NdefX
/-- a call of the key at each item, wherever what stood stands -/
def KeyGo (X : Cx) (σ : L2.St) (H : Hp) (f : Addr) (xs : List V) (kf : Nat → Int) : Prop :=
  ∀ (i : Nat) (x : V) (u : Value) (pn : List (Addr × Obj)) (s : Shared) (H1 : Hp), xs[i]? = some x → RelV x u → Same H H1 → Inv X pn σ H1 s →
    codeAny (model X.prog X.w) X.A.in1 (.call (.ref f) ⟨[u], []⟩) (CR CX0 X.stack X.prog X.w H1 s (fun v H2 => v = .int (kf i) ∧ Same H1 H2) (fun _ _ _ => False)) s
def LeastAt (kf : Nat → Int) (n i : Nat) : Prop := ∀ j, j < n → kf i ≤ kf j ∧ (j < i → kf i < kf j)
theorem fp_pin {X : Cx} {pins : List (Addr × Obj)} {H H' : Hp} {b : Addr} {q : Addr × Obj} (h : FpOk X pins H b) (n : H' b = none) (d : q.1 ≠ b) : FpOk X (pins ++ [q]) H' b := by
  obtain ⟨_, h1, h2, h3, h4, h5⟩ := h
  refine ⟨n, h1, h2, h3, h4, fun p hp => ?_⟩
  rw [← List.append_assoc] at hp
  rcases List.mem_append.mp hp with z | z
  · exact h5 p z
  · rw [List.mem_singleton.mp z]
    exact d
section
variable {X : Cx} {pins : List (Addr × Obj)} {σ : L2.St} {H : Hp} {s : Shared}
/-- an untracked object of ours is written, the pins stay -/
theorem Inv.ours {h' : Heap} {t' : Nat} {b : Addr} (I : Inv X pins σ H s) (fp : FpOk X pins H b) (k : ∀ d o, d ≠ b → s.heap.get? d = some o → h'.get? d = some o) : Inv X pins σ H { s with heap := h', toks := t' } :=
  I.turned k fp.1 fp.2.1 fp.2.2.2.1 fp.2.2.2.2.1 fp.2.2.2.2.2
/-- one more pin -/
theorem Inv.pin1 {b : Addr} {o : Obj} (I : Inv X pins σ H s) (fp : FpOk X pins H b) (e : s.heap.get? b = some o) (d : ∀ v, o.data ≠ .cell v) : Inv X (pins ++ [(b, o)]) σ H s :=
  I.pins_of fun p hp => by
    rcases List.mem_append.mp hp with z | z
    · exact I.pin p (List.mem_append_right _ z)
    · rw [List.mem_singleton.mp z]
      exact ⟨e, fp.1, fp.2.1, fp.2.2.1, d⟩
variable {l f I S : Addr} {xs : List V} {kf : Nat → Int} {R : Result → Shared → Prop}
theorem min_loop (hh : X.A.handled = none) (key : KeyGo X σ H f xs kf) (hl : H l = some (.lst xs)) (hSI : S ≠ I) (fS : FpOk X pins H S) (fI : FpOk X pins H I)
    (fin : ∀ (i : Nat) (x : V) (u : Value) (s' : Shared) (H' : Hp), xs[i]? = some x → LeastAt kf xs.length i → Same H H' → RelV x u → Inv X pins σ H' s' → R (.ok (.ret u)) s') :
    ∀ (r j i : Nat) (s' : Shared) (H' : Hp) (x : V) (vb : Value) (tb : Tok) (c : Nat) (oI : Obj), xs.length - (j + 1) = r → j + 1 ≤ xs.length → Same H H' → Inv X ((pins ++ [(S, seqObj "list" #[vb, .int (kf i) tb] c)]) ++ [(I, oI)]) σ H' s' →
      s'.heap.IsListIter I l (j + 1) → xs[i]? = some x → RelV x vb → i ≤ j → LeastAt kf (j + 1) i → codeAny (model X.prog X.w) X.A (.builtin "min.loop" ⟨[.ref I, .ref f, .ref S], []⟩) R s' := by
  have nmL : (toString "min" ++ toString ".loop" : String) = "min.loop" := by decide
  intro r
  induction r with
  | zero =>
    intro j i s' H' x vb tb c oI hr hj sm J hit hx rx hij hbest
    have hin : j + 1 = xs.length := by omega
    have pI := J.pin (I, oI) (by simp)
    have pS := J.pin (S, seqObj "list" #[vb, .int (kf i) tb] c) (by simp)
    have hl' := sm _ _ hl
    have hlI : l ≠ I := ne_of_none hl' pI.2.1
    have J0 : Inv X pins σ H' s' := J.unpinned.unpinned
    obtain ⟨its, rv, pl, _⟩ := J.list (SqL.of hl')
    have hsz : its.toArray.size = xs.length := by rw [List.size_toArray, ← rv.length]
    refine codeAny_builtin PySem.F.entry_min_loop ?_
    rw [Around.under_plainId PySem.F.plain_min_loop _]
    show wpAny _ X.A.in1 (seqItems? (.ref S) >>= _) _ _ _
    refine wpAny_bind (wpAny_seqItems pS.1 rfl ?_)
    show wpAny _ X.A.in1 (tryCatch (pyNext (.ref I)) _ >>= _) _ _ _
    have W := Walks.list (prog := X.prog) (w := X.w) (A := X.A.in1) hh I l hlI its.toArray
    refine wpAny_bind (wpAny_tryCatch (W.done _ _ _ ⟨by rw [hsz, ← hin]; exact hit, pl.isList⟩ fun h2 tk hk => ?_))
    have fI0 : FpOk X pins H' I := ⟨pI.2.1, fI.2⟩
    have fS0 : FpOk X pins H' S := ⟨pS.2.1, fS.2⟩
    have J1 : Inv X pins σ H' { s' with heap := h2, toks := tk } := Inv.ours J0 fI0 fun d o hd e => hk d o (by simpa using hd) e
    have gS : h2.get? S = some (seqObj "list" #[vb, .int (kf i) tb] c) := hk S _ (by simpa using hSI) pS.1
    have sb := Heap.SameBut.update h2 S (Obj.mapSeq fun _ => (#[] : Array Value))
    show wpAny _ X.A.in1 (updateSeq S (fun _ => #[]) >>= _) _ _ _
    refine wpAny_bind ?_
    refine wpAny_updateSeq gS rfl (wpAny_bind (wpAny_letGo (wpAny_pure ?_)))
    exact fin i x vb _ H' hx (by rw [← hin]; exact hbest) sm rx (Inv.ours (t' := tk) J1 fS0 fun d o hd e => (sb.2 d hd).trans e)
  | succ r ih =>
    intro j i s' H' x vb tb c oI hr hj sm J hit hx rx hij hbest
    have hlt : j + 1 < xs.length := by omega
    have pI := J.pin (I, oI) (by simp)
    have pS := J.pin (S, seqObj "list" #[vb, .int (kf i) tb] c) (by simp)
    have hl' := sm _ _ hl
    have hlI : l ≠ I := ne_of_none hl' pI.2.1
    have J0 : Inv X (pins ++ [(S, seqObj "list" #[vb, .int (kf i) tb] c)]) σ H' s' := J.unpinned
    obtain ⟨its, rv, pl, _⟩ := J.list (SqL.of hl')
    have hsz : its.toArray.size = xs.length := by rw [List.size_toArray, ← rv.length]
    obtain ⟨x1, hx1⟩ : ∃ x1, xs[j + 1]? = some x1 := ⟨_, List.getElem?_eq_getElem hlt⟩
    obtain ⟨u1, hu1, ru1⟩ := rv.get hx1
    refine codeAny_builtin PySem.F.entry_min_loop ?_
    rw [Around.under_plainId PySem.F.plain_min_loop _]
    show wpAny _ X.A.in1 (seqItems? (.ref S) >>= _) _ _ _
    refine wpAny_bind (wpAny_seqItems pS.1 rfl ?_)
    show wpAny _ X.A.in1 (tryCatch (pyNext (.ref I)) _ >>= _) _ _ _
    have W := Walks.list (prog := X.prog) (w := X.w) (A := X.A.in1) hh I l hlI its.toArray
    refine wpAny_bind (wpAny_tryCatch (W.item (j + 1) _ _ _ (by rw [hsz]; exact hlt) ⟨hit, pl.isList⟩ fun v h2 tk hP hst hk => ?_))
    have ev : v = u1 := by
      have z : its[j + 1]? = some v := by simpa using hP
      rw [hu1] at z
      exact (Option.some.inj z).symm
    subst ev
    have fI0 : FpOk X (pins ++ [(S, seqObj "list" #[vb, .int (kf i) tb] c)]) H' I := fp_pin fI pI.2.1 hSI
    have J1 : Inv X (pins ++ [(S, seqObj "list" #[vb, .int (kf i) tb] c)]) σ H' { s' with heap := h2, toks := tk } := Inv.ours J0 fI0 fun d o hd e => hk d o (by simpa using hd) e
    obtain ⟨oI2, gI2, hoc, hod⟩ := id hst.1
    have J2 := Inv.pin1 J1 fI0 gI2 (by rw [hod]; intro v z; cases z)
    show wpAny _ X.A.in1 (tryCatch (holding [v] (call (.ref f) [v])) _ >>= _) _ _ _
    refine wpAny_bind (wpAny_tryCatch (wpAny_holding (wpAny_call (codeAny_mono (key (j + 1) x1 v _ _ H' hx1 ru1 sm J2) fun rr s3 hq => ?_))))
    cases rr with
    | error e => exact (show False from hq).elim
    | ok fl =>
      cases fl with
      | next => exact False.elim hq
      | brk => exact False.elim hq
      | cont => exact False.elim hq
      | ret u3 =>
        obtain ⟨v3, H3, J3, r3, e3, sm3⟩ := J2.after hq
        subst e3
        obtain ⟨t3, rfl⟩ := r3
        have sm' := sm.trans sm3
        have qI := J3.pin (I, oI2) (by simp)
        have qS := J3.pin (S, seqObj "list" #[vb, .int (kf i) tb] c) (by simp)
        have it3 : s3.heap.IsListIter I l (j + 1 + 1) := ⟨oI2, qI.1, hoc, hod⟩
        show wpAny _ X.A.in1 (tryCatch (holding [v, .int (kf (j + 1)) t3] (richCompare .Lt (.int (kf (j + 1)) t3) (.int (kf i) tb) >>= _)) _ >>= _) _ _ _
        refine wpAny_bind (wpAny_tryCatch (wpAny_holding (wpAny_bind (CmpOf.ints_lt (prog := X.prog) (w := X.w) (A := X.A.in1) (P := fun i v => ∃ t, v = .int (kf i) t) kf (fun i v h => h) (j + 1) i _ _ _ _ _ ⟨t3, rfl⟩ ⟨tb, rfl⟩ ?_))))
        refine wpAny_bind (wpAny_holding (wpAny_truthy_bool ?_))
        refine wpAny_bind (wpAny_letGo (wpAny_pure ?_))
        by_cases hb : kf (j + 1) < kf i
        · have sb := Heap.SameBut.update s3.heap S (Obj.mapSeq fun _ => #[v, .int (kf (j + 1)) t3])
          obtain ⟨c2, hc2⟩ : ∃ c2, (s3.heap.update S (Obj.mapSeq fun _ => #[v, .int (kf (j + 1)) t3])).get? S = some (seqObj "list" #[v, .int (kf (j + 1)) t3] c2) := ⟨_, get?_update_seq qS.1 fun _ => #[v, .int (kf (j + 1)) t3]⟩
          simp only [hb, decide_true, if_true]
          refine wpAny_bind ?_
          refine wpAny_updateSeq qS.1 rfl (wpAny_bind (wpAny_letGo ?_))
          rw [nmL]
          have J4 : Inv X pins σ H3 s3 := J3.unpinned.unpinned
          have fS4 : FpOk X pins H3 S := ⟨qS.2.1, fS.2⟩
          have J5 : Inv X pins σ H3 { s3 with heap := s3.heap.update S (Obj.mapSeq fun _ => #[v, .int (kf (j + 1)) t3]), toks := s3.toks } := Inv.ours J4 fS4 fun d o hd e => (sb.2 d hd).trans e
          have J6 := Inv.pin1 J5 fS4 hc2 (by intro v z; cases z)
          have J7 := Inv.pin1 (b := I) (o := oI2) J6 (fp_pin fI qI.2.1 hSI) ((sb.2 I hSI.symm).trans qI.1) (by rw [hod]; intro v z; cases z)
          refine wpAny_pure ⟨plainId_quiet PySem.F.plain_min_loop _, ih (j + 1) (j + 1) _ H3 x1 v t3 c2 oI2 (by omega) hlt sm' J7 ⟨oI2, (sb.2 I hSI.symm).trans qI.1, hoc, hod⟩ hx1 ru1 (Nat.le_refl _) fun j' hj' => ?_⟩
          by_cases e : j' = j + 1
          · subst e
            exact ⟨Int.le_refl _, fun z => absurd z (Nat.lt_irrefl _)⟩
          · have b1 := (hbest j' (by omega)).1
            exact ⟨by omega, fun _ => by omega⟩
        · simp only [hb, decide_false, Bool.false_eq_true, if_false]
          refine wpAny_bind (wpAny_letGo ?_)
          rw [nmL]
          refine wpAny_pure ⟨plainId_quiet PySem.F.plain_min_loop _, ih (j + 1) i _ H3 x vb tb c oI2 (by omega) hlt sm' J3 it3 hx rx (by omega) fun j' hj' => ?_⟩
          by_cases e : j' = j + 1
          · subst e
            exact ⟨by omega, fun _ => by omega⟩
          · exact hbest j' (by omega)

theorem min_call {Q : Value → Shared → Prop} {E : Value → Shared → Prop} (hh : X.A.handled = none) (key : KeyGo X σ H f xs kf) (hl : H l = some (.lst xs)) (hne : 0 < xs.length) (J : Inv X pins σ H s)
    (fin : ∀ (i : Nat) (x : V) (u : Value) (s' : Shared) (H' : Hp), xs[i]? = some x → LeastAt kf xs.length i → Same H H' → RelV x u → Inv X pins σ H' s' → Q u s') :
    wpAny (model X.prog X.w) X.A (call (.builtin "min") [.ref l] [(Str.ofString "key", .ref f)]) Q E s := by
  have nmL : (toString "min" ++ toString ".loop" : String) = "min.loop" := by decide
  obtain ⟨its0, rv0, pl0, _⟩ := J.list (SqL.of hl)
  refine kmk_tree PySem.F.kind_min PySem.F.plain_min PySem.F.entry_min (kmk_min_key _ _) ?_
  show wpAny _ X.A.in1 (Builtin.Builtins.bindParams "min" ["key", "default"] 0 ⟨[], [(Str.ofString "key", .ref f)]⟩ >>= _) _ _ s
  refine wpAny_bind (wpAny_of_eq (show Builtin.Builtins.bindParams "min" ["key", "default"] 0 ⟨[], [(Str.ofString "key", .ref f)]⟩ = pure [some (.ref f), none] from rfl) ?_)
  refine wpAny_bind (wpAny_pure ?_)
  refine wpAny_bind (wpAny_pyIter_list pl0.isList ?_)
  refine wpAny_bind (wpAny_newList ?_ (Nat.zero_le _))
  rw [nmL]
  refine wpAny_pure ⟨plainId_quiet PySem.F.plain_min_loop _, ?_⟩
  have z1 : s.heap.objs.size < (s.heap.push { cls := .type "list_iterator", data := .fields #[.ref l, .int 0 0] }).objs.size := by
    rw [Heap.size_push]
    omega
  have gI : ((s.heap.push { cls := .type "list_iterator", data := .fields #[.ref l, .int 0 0] }).push (seqObj "list" #[] 0)).get? s.heap.objs.size = some { cls := .type "list_iterator", data := .fields #[.ref l, .int 0 0] } :=
    Heap.get?_push_of_some _ (Heap.get?_push_size _ rfl)
  have gS : ((s.heap.push { cls := .type "list_iterator", data := .fields #[.ref l, .int 0 0] }).push (seqObj "list" #[] 0)).get? (s.heap.push { cls := .type "list_iterator", data := .fields #[.ref l, .int 0 0] }).objs.size = some (seqObj "list" #[] 0) := Heap.get?_push_size _ rfl
  have J0 : Inv X pins σ H { s with heap := (s.heap.push { cls := .type "list_iterator", data := .fields #[.ref l, .int 0 0] }).push (seqObj "list" #[] 0), toks := s.toks } := J.kept fun b o e => Heap.get?_push_of_some _ (Heap.get?_push_of_some _ e)
  have fI : FpOk X pins H s.heap.objs.size := Inv.fpOk J (Nat.le_refl _) (J.hok.fresh (Nat.le_refl _))
  have fS : FpOk X pins H (s.heap.push { cls := .type "list_iterator", data := .fields #[.ref l, .int 0 0] }).objs.size := Inv.fpOk J (Nat.le_of_lt z1) (J.hok.fresh (Nat.le_of_lt z1))
  have hSI : (s.heap.push { cls := .type "list_iterator", data := .fields #[.ref l, .int 0 0] }).objs.size ≠ s.heap.objs.size := Nat.ne_of_gt z1
  generalize (s.heap.push { cls := .type "list_iterator", data := .fields #[.ref l, .int 0 0] }).objs.size = S at gS fS hSI
  generalize s.heap.objs.size = I at gI fI hSI
  generalize (s.heap.push { cls := .type "list_iterator", data := .fields #[.ref l, .int 0 0] }).push (seqObj "list" #[] 0) = h1 at gI gS J0
  obtain ⟨its, rv, pl, _⟩ := J0.list (SqL.of hl)
  have hsz : its.toArray.size = xs.length := by rw [List.size_toArray, ← rv.length]
  have hlI : l ≠ I := ne_of_none hl fI.1
  obtain ⟨x1, hx1⟩ : ∃ x1, xs[0]? = some x1 := ⟨_, List.getElem?_eq_getElem hne⟩
  obtain ⟨u1, hu1, ru1⟩ := rv.get hx1
  refine codeAny_builtin PySem.F.entry_min_loop ?_
  rw [Around.under_plainId PySem.F.plain_min_loop _]
  show wpAny _ X.A.in1 (seqItems? (.ref S) >>= _) _ _ _
  refine wpAny_bind (wpAny_seqItems gS rfl ?_)
  show wpAny _ X.A.in1 (tryCatch (pyNext (.ref I)) _ >>= _) _ _ _
  have W := Walks.list (prog := X.prog) (w := X.w) (A := X.A.in1) hh I l hlI its.toArray
  refine wpAny_bind (wpAny_tryCatch (W.item 0 _ _ _ (by rw [hsz]; exact hne) ⟨⟨_, gI, rfl, rfl⟩, pl.isList⟩ fun v h2 tk hP hst hk => ?_))
  have ev : v = u1 := by
    have z : its[0]? = some v := by simpa using hP
    rw [hu1] at z
    exact (Option.some.inj z).symm
  subst ev
  have J1 := Inv.ours (h' := h2) (t' := tk) J0 fI fun d o hd e => hk d o (by simpa using hd) e
  obtain ⟨oI2, gI2, hoc, hod⟩ := id hst.1
  have J1' := Inv.pin1 J1 fS (hk S _ (by simpa using hSI) gS) (by intro v z; cases z)
  have J2 := Inv.pin1 J1' (fp_pin fI fI.1 hSI) gI2 (by rw [hod]; intro v z; cases z)
  show wpAny _ X.A.in1 (tryCatch (holding [v] (call (.ref f) [v])) _ >>= _) _ _ _
  refine wpAny_bind (wpAny_tryCatch (wpAny_holding (wpAny_call (codeAny_mono (key 0 x1 v _ _ H hx1 ru1 (fun _ _ e => e) J2) fun rr s3 hq => ?_))))
  cases rr with
  | error e => exact (show False from hq).elim
  | ok fl =>
    cases fl with
    | next => exact False.elim hq
    | brk => exact False.elim hq
    | cont => exact False.elim hq
    | ret u3 =>
      obtain ⟨v3, H3, J3, r3, e3, sm3⟩ := J2.after hq
      subst e3
      obtain ⟨t3, rfl⟩ := r3
      have qI := J3.pin (I, oI2) (by simp)
      have qS := J3.pin (S, seqObj "list" #[] 0) (by simp)
      have sb := Heap.SameBut.update s3.heap S (Obj.mapSeq fun _ => #[v, .int (kf 0) t3])
      obtain ⟨c2, hc2⟩ : ∃ c2, (s3.heap.update S (Obj.mapSeq fun _ => #[v, .int (kf 0) t3])).get? S = some (seqObj "list" #[v, .int (kf 0) t3] c2) := ⟨_, get?_update_seq qS.1 fun _ => #[v, .int (kf 0) t3]⟩
      show wpAny _ X.A.in1 (updateSeq S (fun _ => #[v, .int (kf 0) t3]) >>= _) _ _ _
      refine wpAny_bind ?_
      refine wpAny_updateSeq qS.1 rfl ?_
      rw [nmL]
      have J4 : Inv X pins σ H3 s3 := J3.unpinned.unpinned
      have fS4 : FpOk X pins H3 S := ⟨qS.2.1, fS.2⟩
      have J5 : Inv X pins σ H3 { s3 with heap := s3.heap.update S (Obj.mapSeq fun _ => #[v, .int (kf 0) t3]), toks := s3.toks } := Inv.ours J4 fS4 fun d o hd e => (sb.2 d hd).trans e
      have J6 := Inv.pin1 J5 fS4 hc2 (by intro v z; cases z)
      have J7 := Inv.pin1 (b := I) (o := oI2) J6 (fp_pin fI qI.2.1 hSI) ((sb.2 I hSI.symm).trans qI.1) (by rw [hod]; intro v z; cases z)
      refine wpAny_pure ⟨plainId_quiet PySem.F.plain_min_loop _, min_loop hh key hl hSI fS fI fin _ 0 0 _ H3 x1 v t3 c2 oI2 rfl hne sm3 J7 ⟨oI2, (sb.2 I hSI.symm).trans qI.1, hoc, hod⟩ hx1 ru1 (Nat.le_refl _) fun j' hj' => ?_⟩
      have e : j' = 0 := by omega
      subst e
      exact ⟨Int.le_refl _, fun z => absurd z (Nat.lt_irrefl _)⟩
end

/-! ### the call as an expression -/
theorem pe_minK {X : Cx} {e : Expr} {kws : List Keyword} {ta tk : TA} {p pos : PySem.Pos} (hc : X.calm = true) (hg : Gl X "min") (hm : X.mg "min" = none) (ha : PA X [e] ta) (hk : PK X kws tk)
    (he : backTo pos (starEach [e] X.env) = (false, eval e X.env) :: backTo pos (starEach [] X.env) := by rfl) (hpl : (backTo pos (starEach [e] X.env)).any (·.1) = false := by rfl)
    (hall : (backToKw pos (keywordEach kws X.env)).all (·.1.isSome) = true := by rfl) (hnone : (backToKw pos (keywordEach kws X.env)).any (·.1.isNone) = false := by rfl) (hks : (backToKw pos (keywordEach kws X.env)).filterMap (·.1) = [Str.ofString "key"] := by rfl) :
    PE X (.Call (.Name "min" p) [e] kws pos) (fun σ H Q => ta σ H fun vs H1 => tk σ H1 fun zs H2 => ∃ (l f : Addr) (xs : List V) (kf : Nat → Int), vs = [.ref l] ∧ zs = [.ref f] ∧ H2 l = some (.lst xs) ∧ 0 < xs.length ∧ KeyGo X σ H2 f xs kf ∧
      ∀ (i : Nat) (x : V) (H3 : Hp), xs[i]? = some x → LeastAt kf xs.length i → Same H2 H3 → Q x H3) := by
  refine ⟨fun pins s σ H Q I h => ?_⟩
  refine wpAny_Call_Name_kw (ld_blt I hg hm (u := .builtin "min") (by decide +kernel) ?_)
  refine PyProof.Rows.callWith_kw (thn (ha.run pos pins s σ H _ I h) fun us s1 ⟨vs, H1, I1, r1, q1⟩ => thn (hk.run pos pins s1 σ H1 _ I1 q1) fun ws s2 ⟨zs, H2, I2, r2, q2⟩ => ?_) he hpl hall hnone
  obtain ⟨l, f, xs, kf, rfl, rfl, hl, hne, key, fin⟩ := q2
  rw [hks, Vals.ref1 r1, Vals.ref1 r2]
  exact min_call (I2.ok.hd hc) key hl hne I2 fun i x u s' H' hx hle sm rx J => ⟨x, H', J, rx, fin i x H' hx hle sm⟩
theorem key_go {X : Cx} {σ : L2.St} {H : Hp} {f : Addr} {F : LF} {xs : List V} {kf : Nat → Int} {N fr : List Str} {a : Str} {js : List Nat} {k : Nat} (S : NScope N [a] fr F.scope) (hb : ∀ pm ctv u : Value, bindArgs (PySem.W.kla_fn "<lambda>" F.qual F.params F.body F.scope F.cl pm (.ref F.c) ctv) ⟨[u], []⟩ = pure ([a].zip [u]))
    (hr : Room (k + 2) X.A) (hf : H f = some (LamO f F)) (hc : H F.c = some (CodeO F.c F.qual)) (cp : X.Ok → Caps X F.cl fr js)
    (hbody : ∀ (A : Around) (outer : List Env) (s : Shared) (H1 : Hp) (i : Nat) (x : V), Room k (A.deeper (envF F.nf f s.heap.objs.size)) → xs[i]? = some x → Same H H1 →
      ∃ t, PE (ncx CX0 X.prog X.w X.K X.mg X.base N F.nf f A outer s H1 (fun _ _ _ => False)) F.body t ∧ t (startF N [x] (js.map (slotAt σ))) H1 (fun v H2 => v = .int (kf i) ∧ Same H1 H2)) : KeyGo X σ H f xs kf := by
  intro i x u pn s H1 hx rx sm J
  exact lam_call (ws := js.map (slotAt σ)) (vs := [x]) S (fun pm ctv => hb pm ctv u) hr.in1 J.env0.in1 (sm _ _ hf) (sm _ _ hc) (cells_of J (cp J.ok)) (.cons rx .nil) rfl fun hr' => hbody _ _ _ H1 i x hr' hx sm
/-- a def whose code object is known -/
theorem fun_okC {P : Program} {w : World} {K : PySem.W.Frag} {mg : Str → Option Value} {base : Heap} {x qual : Str} {st : Stmt} {f c : Addr} {fd : FuncData} {N ps : List Str} {k : Nat} {sp : Sp} (F : Fun K x qual st f fd) (hcd : fd.code = .ref c) (S : FnScope N ps (defScope st)) (len : ∀ vs H Q E, sp vs H Q E → vs.length = ps.length)
    (hbody : ∀ (A : Around) (outer : List Env) (s : Shared) (H : Hp) (vs : List V) (Q : VK) (E : XK), Room k (A.deeper (envOfC qual (defScope st) s.heap.objs.size f (.ref c))) → sp vs H Q E →
      ∃ t, PSs (cxOf CX0 P w K mg base N qual (defScope st) f (.ref c) A outer s H E).nox (defBody st) t ∧ t { nx := fun _ H' => Q .non H', rt := Q } (start N vs) H) : FnOk P w K mg base CX0 (k + 1) f fd ps sp := by
  obtain ⟨oc, od, kV, doc, pm, an, cdv, ct, osl, rfl, lk, hin⟩ := F.ex
  obtain rfl : cdv = .ref c := hcd
  refine fn_of lk hin S len fun A outer s H vs Q E hr hsp => ?_
  obtain ⟨t, ht, q⟩ := hbody A outer s H vs Q E hr hsp
  exact ⟨t, ht.nox, q⟩
end Sv

/-! sum of a tuple of whole numbers. -/
namespace Sv
open PySem PySem.Spec PyProof.Rows L2
section
variable {prog : Program} {w : World} {A : Around} {E : Value → Shared → Prop} {s : Shared} {l : Addr} {its : List Value} {ns : List Int} {Q : Value → Shared → Prop}
theorem sum_of_tuple (noH : A.handled = none) (hl : s.heap.IsTuple l its.toArray) (isI : IntsAre its ns)
    (h : ∀ h' tk t', (∀ b o, s.heap.get? b = some o → h'.get? b = some o) → Q (.int ns.sum t') { s with heap := h', toks := tk }) : wpAny (model prog w) A (call (.builtin "sum") [.ref l]) Q E s := by
  obtain ⟨prs, e⟩ := isI.allInts.items
  have nsE : numsOf (intItems prs).toList = ns := by
    rw [← e]
    exact isI.numsOf
  rw [nums_intItems] at nsE
  rw [e] at hl
  have ltL : l < s.heap.objs.size := by
    obtain ⟨o, q, _⟩ := id hl
    exact Heap.lt_size q
  refine call_sum_walkG (wpAny_pyIter_tuple hl ?_)
  refine ⟨s.heap.objs.size, [s.heap.objs.size, l], [s.heap.objs.size], (intItems prs).size, _, _, numAt prs, rfl, Walks.tuple (A := A.in1) noH _ l (Nat.ne_of_lt ltL) (intItems prs), ⟨⟨_, Heap.get?_push_size _ rfl, rfl, rfl⟩, hl.push _⟩, fun b hb => ?_, (fun _ _ => intItems_at), fun h' tk t' hk => ?_⟩
  · show b < (s.heap.push _).objs.size
    rw [Heap.size_push]
    rcases List.mem_cons.mp hb with z | hb
    · rw [z]
      exact Nat.lt_succ_self _
    · rw [List.mem_singleton.mp hb]
      exact Nat.lt_succ_of_lt ltL
  · have z := h h' tk t' fun b o q => hk b o (fun m => by
      rw [List.mem_singleton.mp m] at q
      exact Nat.lt_irrefl _ (Heap.lt_size q)) (Heap.get?_push_of_some _ q)
    rw [preSum_eq, List.take_of_length_le (by simp [intItems]), nsE]
    exact z
end
/-- sum(t), t a tuple of whole numbers -/
def rSumT (K : PySem.W.Frag) : List V → Hp → VK → Prop := fun vs H Q => ∃ (a : Addr) (ns : List Int), vs = [V.ref a] ∧ SqT K H a (ns.map V.int) ∧ Q (.int ns.sum) H
theorem cr_sumT {X : Cx} (hc : X.calm = true) : CallR X (.builtin "sum") (rSumT X.K) := by
  intro pins s σ H vs us Q I r h
  obtain ⟨a, ns, rfl, hs, q⟩ := h
  obtain ⟨its, rv, hl, _⟩ := I.tuple hs
  rw [Vals.ref1 r]
  exact sum_of_tuple (I.ok.hd hc) hl rv.ints fun h' tk t' hk => ⟨.int _, H, I.kept hk, ⟨_, rfl⟩, q⟩
end Sv

namespace Sv
open PySem PySem.Spec PyProof.Rows L2
open Kp409 (Sifter SizeFraction classes totalFlour totalBran totalWeight misplacedInClass)
def top (i : Nat) : Stmt := PySem.Challenge.pw_sievecuts_s01_answers.main.body.getD i (.Pass ⟨0, 0, 0, 0⟩)
abbrev sTotalAmounts : Stmt := top 1
abbrev sClassTotals : Stmt := top 2
abbrev sClassAmounts : Stmt := top 3
abbrev sClassNumber : Stmt := top 4
abbrev sGoesToFlour : Stmt := top 5
abbrev sMisplacedAmount : Stmt := top 6
abbrev sHeaviest : Stmt := top 7
/-- Python's own names stand for what they stand for -/
structure Own (mg : Str → Option Value) : Prop where
  len : mg "len" = none
  sum : mg "sum" = none
  range : mg "range" = none
  min : mg "min" = none
  max : mg "max" = none
  list : mg "list" = none
  sorted : mg "sorted" = none
  exc : mg "Exception" = none

/-! ### sizes and classes on the heap -/
/-- two amounts -/
def PrV (H : Hp) (v : V) (x : Nat × Nat) : Prop := ∃ t, v = .ref t ∧ H t = some (.tup [.int x.1, .int x.2])
def PrL (H : Hp) (l : Addr) (xs : List (Nat × Nat)) : Prop := ∃ vs, H l = some (.lst vs) ∧ All2 (PrV H) vs xs
/-- a size: its flour and bran -/
def SzV (H : Hp) (v : V) (x : SizeFraction) : Prop := ∃ t, v = .ref t ∧ H t = some (.tup [.int x.flour, .int x.bran])
/-- a class: its number of sizes, its flour and bran -/
def ClV (H : Hp) (v : V) (c : List SizeFraction) : Prop := ∃ t, v = .ref t ∧ H t = some (.tup [.int c.length, .int (totalFlour c), .int (totalBran c)])
def SzL (H : Hp) (l : Addr) (sz : List SizeFraction) : Prop := ∃ vs, H l = some (.lst vs) ∧ All2 (SzV H) vs sz
/-- flour and bran of a size, of a class -/
def fb (x : SizeFraction) : Nat × Nat := (x.flour, x.bran)
def tfb (c : List SizeFraction) : Nat × Nat := (totalFlour c, totalBran c)
theorem PrV.same {H H' : Hp} (s : Same H H') {v : V} {x : Nat × Nat} (h : PrV H v x) : PrV H' v x := by
  obtain ⟨t, e, q⟩ := h
  exact ⟨t, e, s _ _ q⟩
theorem SzV.same {H H' : Hp} (s : Same H H') {v : V} {x : SizeFraction} (h : SzV H v x) : SzV H' v x := by
  obtain ⟨t, e, q⟩ := h
  exact ⟨t, e, s _ _ q⟩
theorem ClV.same {H H' : Hp} (s : Same H H') {v : V} {c : List SizeFraction} (h : ClV H v c) : ClV H' v c := by
  obtain ⟨t, e, q⟩ := h
  exact ⟨t, e, s _ _ q⟩
theorem SzL.same {H H' : Hp} (s : Same H H') {l : Addr} {sz : List SizeFraction} (h : SzL H l sz) : SzL H' l sz := by
  obtain ⟨vs, e, q⟩ := h
  exact ⟨vs, s _ _ e, q.imp fun _ _ z => z.same s⟩
theorem PrL.same {H H' : Hp} (s : Same H H') {l : Addr} {sz : List (Nat × Nat)} (h : PrL H l sz) : PrL H' l sz := by
  obtain ⟨vs, e, q⟩ := h
  exact ⟨vs, s _ _ e, q.imp fun _ _ z => z.same s⟩
theorem sz_pr {H : Hp} {vs : List V} {sz : List SizeFraction} (h : All2 (SzV H) vs sz) : All2 (PrV H) vs (sz.map fb) := by
  refine ⟨by rw [List.length_map]; exact h.len, fun i v x a b => ?_⟩
  obtain ⟨z, hz, rfl⟩ := map_at b
  exact h.at_ i v z a hz
theorem SzL.pr {H : Hp} {l : Addr} {sz : List SizeFraction} (h : SzL H l sz) : PrL H l (sz.map fb) := by
  obtain ⟨vs, e, q⟩ := h
  exact ⟨vs, e, sz_pr q⟩
theorem fb_flour (sz : List SizeFraction) : ((sz.map fb).map Prod.fst).sum = totalFlour sz := by
  unfold Kp409.totalFlour
  rw [List.map_map]
  rfl
theorem fb_bran (sz : List SizeFraction) : ((sz.map fb).map Prod.snd).sum = totalBran sz := by
  unfold Kp409.totalBran
  rw [List.map_map]
  rfl
abbrev nats (l : List Nat) : List V := l.map fun n : Nat => V.int (n : Int)
theorem nats_at {l : List Nat} {i : Nat} {x : V} (h : (nats l)[i]? = some x) : ∃ n, l[i]? = some n ∧ x = .int (n : Int) := map_at h
theorem at_nats {l : List Nat} {i n : Nat} (h : l[i]? = some n) : (nats l)[i]? = some (.int (n : Int)) := by
  rw [List.getElem?_map, h]
  rfl
theorem pos_len' {n : Nat} : ∀ {l : List Nat} {first : Nat}, Pos n first l → l.length ≤ n - first
  | [], _, _ => Nat.zero_le _
  | p :: r, first, h => by
    have a := h.lo p List.mem_cons_self
    have b := h.hi p List.mem_cons_self
    have u := List.pairwise_cons.mp h.up
    have z : Pos n (p + 1) r := ⟨fun q hq => u.1 q hq, fun q hq => h.hi q (List.mem_cons_of_mem _ hq), u.2⟩
    have := pos_len' z
    rw [List.length_cons]
    omega
theorem pos_len {n : Nat} {pos : List Nat} (h : Pos n 1 pos) : pos.length ≤ n := Nat.le_trans (pos_len' h) (Nat.sub_le _ _)
/-- a def of the program's top: its text, its name, how it is called -/
structure Df (K : PySem.W.Frag) (mg : Str → Option Value) (x : Str) (st : Stmt) (ps : List Str) (f : Addr) (fd : FuncData) : Prop where
  F : Fun K x x st f fd
  g : mg x = some (.ref f)
  b : Binds K fd ps []
section
variable {P : Program} {w : World} {K : PySem.W.Frag} {mg : Str → Option Value} {base : Heap}
/-! ### total_amounts -/
def spTotal : Sp := fun vs H Q _ => ∃ (lp : Addr) (xs : List (Nat × Nat)), vs = [.ref lp] ∧ PrL H lp xs ∧ xs.length ≤ 100 ∧
  ∀ (H' : Hp) (p : Addr), Same H H' → H p = none → H' p = some (.tup [.int ((xs.map Prod.fst).sum : Nat), .int ((xs.map Prod.snd).sum : Nat)]) → Q (.ref p) H'
abbrev nTA : List Str := ["parts", "flour", "bran"]
theorem scTA : FnScope nTA ["parts"] (defScope sTotalAmounts) := ⟨rfl, rfl, rfl, by decide +kernel, rfl, by decide +kernel, by decide +kernel⟩
theorem ok_total_amounts {f : Addr} {fd : FuncData} {k : Nat} (D : Df K mg "total_amounts" sTotalAmounts ["parts"] f fd) (T : Own mg) : FnOk P w K mg base CX0 (k + 1) f fd ["parts"] spTotal := by
  refine D.F.ok scTA (fun vs H Q E h => ?_) (fun cdv A outer s H vs Q E hr h => ?_)
  · obtain ⟨lp, xs, rfl, _⟩ := h
    rfl
  · refine ⟨_, pss_one (ps_ret (pe_tup (pa_cons (pe_callB (cr_sum rfl) (by rfl) T.sum (by decide +kernel) (pa_cons (pe_lc (own := [("flour", 1), ("bran", 2)])
        (g := gTup K 2 (gCons (gName 1) (gCons (gName 2) gNil))) (tt := tYes) (te := tVar 1)
        rfl scTA.nd (pi_list (pv 0)) (blkOk_by (own := [("flour", 1), ("bran", 2)]) (N := nTA) (sc := defScope sTotalAmounts) (by decide +kernel))
        (fun _ _ _ _ _ => pg_tup (by rfl) (pgs_cons (pg_name (i := 1) scTA.nd rfl (.inl rfl)) (pgs_cons (pg_name (i := 2) scTA.nd rfl (.inl rfl)) pgs_nil)))
        (fun _ _ _ _ _ => pts_nil) (fun _ _ _ _ _ => pv 1)) pa_nil)) (pa_cons (pe_callB (cr_sum rfl) (by rfl) T.sum (by decide +kernel) (pa_cons (pe_lc (own := [("flour", 1), ("bran", 2)])
        (g := gTup K 2 (gCons (gName 1) (gCons (gName 2) gNil))) (tt := tYes) (te := tVar 2)
        rfl scTA.nd (pi_list (pv 0)) (blkOk_by (own := [("flour", 1), ("bran", 2)]) (N := nTA) (sc := defScope sTotalAmounts) (by decide +kernel))
        (fun _ _ _ _ _ => pg_tup (by rfl) (pgs_cons (pg_name (i := 1) scTA.nd rfl (.inl rfl)) (pgs_cons (pg_name (i := 2) scTA.nd rfl (.inl rfl)) pgs_nil)))
        (fun _ _ _ _ _ => pts_nil) (fun _ _ _ _ _ => pv 2)) pa_nil)) pa_nil)))), ?_⟩
    obtain ⟨lp, xs, rfl, ⟨vs, hl, hz⟩, h100, q⟩ := h
    refine ⟨_, rfl, lp, rfl, ⟨_, SqL.of hl⟩, fun D nD => lc_pure (K := K) (a := lp) (xs := vs) ((xs.map fun x => ((x.1 : Nat) : Int)).map V.int) nD (SqL.of hl) (by simp [hz.len]) (small _ (by rw [hz.len]; omega)) (fun j x y H2 P' hx hy s2 hP => ?_) ?_⟩
    · obtain ⟨z, hz', t, rfl, ht⟩ := hz.some_of hx
      have ey : y = V.int (z.1 : Int) := by
        rw [List.map_map, List.getElem?_map, hz'] at hy
        exact (Option.some.inj hy).symm
      subst ey
      exact ⟨t, _, rfl, SqT.of (s2 _ _ ht), rfl, _, _, rfl, _, _, rfl, rfl, rfl, _, rfl, hP⟩
    have s1 : Same H (upd H D (.lst ((xs.map fun x => ((x.1 : Nat) : Int)).map V.int))) := same_new nD
    refine ⟨D, _, rfl, SqL.of upd_same, ?_⟩
    rw [sum_ints (fun x : Nat × Nat => x.1)]
    generalize upd H D (.lst ((xs.map fun x => ((x.1 : Nat) : Int)).map V.int)) = H1 at s1
    refine ⟨_, rfl, lp, rfl, ⟨_, SqL.of (s1 _ _ hl)⟩, fun D2 nD2 => lc_pure (K := K) (a := lp) (xs := vs) ((xs.map fun x => ((x.2 : Nat) : Int)).map V.int) nD2 (SqL.of (s1 _ _ hl)) (by simp [hz.len]) (small _ (by rw [hz.len]; omega)) (fun j x y H2 P' hx hy s2 hP => ?_) ?_⟩
    · obtain ⟨z, hz', t, rfl, ht⟩ := hz.some_of hx
      have ey : y = V.int (z.2 : Int) := by
        rw [List.map_map, List.getElem?_map, hz'] at hy
        exact (Option.some.inj hy).symm
      subst ey
      exact ⟨t, _, rfl, SqT.of (s2 _ _ (s1 _ _ ht)), rfl, _, _, rfl, _, _, rfl, rfl, rfl, _, rfl, hP⟩
    have s2 : Same H1 (upd H1 D2 (.lst ((xs.map fun x => ((x.2 : Nat) : Int)).map V.int))) := same_new nD2
    refine ⟨D2, _, rfl, SqL.of upd_same, ?_⟩
    rw [sum_ints (fun x : Nat × Nat => x.2)]
    generalize upd H1 D2 (.lst ((xs.map fun x => ((x.2 : Nat) : Int)).map V.int)) = H2 at s2
    refine ⟨small _ (by show 2 ≤ 100000; decide), fun p np => q _ p ((s1.trans s2).trans (same_new np)) ((s1.trans s2).free np) upd_same⟩

/-! ### class_totals -/
def spClassTotals : Sp := fun vs H Q _ => ∃ (ls lp : Addr) (s : Sifter) (pos : List Nat), vs = [.ref ls, .ref lp] ∧ SzL H ls s.sizes ∧ s.sizes.length ≤ 10 ∧ H lp = some (.lst (nats pos)) ∧ Pos s.sizes.length 1 pos ∧
  ∀ (H' : Hp) (p : Addr) (ts : List V), Same H H' → H p = none → H' p = some (.lst ts) → All2 (ClV H') ts (classes s pos) → Q (.ref p) H'
abbrev nCT : List Str := ["sizes", "positions", "totals", "start", "end"]
theorem scCT : FnScope nCT ["sizes", "positions"] (defScope sClassTotals) := ⟨rfl, rfl, rfl, by decide +kernel, rfl, by decide +kernel, by decide +kernel⟩
theorem ok_class_totals {f fA : Addr} {fd fdA : FuncData} {k : Nat} (D : Df K mg "class_totals" sClassTotals ["sizes", "positions"] f fd) (T : Own mg) (A0 : Df K mg "total_amounts" sTotalAmounts ["parts"] fA fdA) : FnOk P w K mg base CX0 (k + 2) f fd ["sizes", "positions"] spClassTotals := by
  have GA : FnOk P w K mg base CX0 (k + 1) fA fdA ["parts"] spTotal := ok_total_amounts A0 T
  refine D.F.ok scCT (fun vs H Q E h => ?_) (fun cdv A outer s H vs Q E hr h => ?_)
  · obtain ⟨ls, lp, s, pos, rfl, _⟩ := h
    rfl
  · refine ⟨_, pss_cons (ps_set (i := 2) scCT.nd rfl (.inl rfl) (pe_lst pa_nil))
      (pss_cons (ps_set (i := 3) scCT.nd rfl (.inl rfl) pe_int)
      (pss_cons (ps_for PassesOwn.never rfl (pi_list (pe_op op_cat (pv 1) (pe_lst (pa_cons (pe_callB call_len_seq (by rfl) T.len PySem.boot_len (pa_cons (pv 0) pa_nil)) pa_nil)))) (pg_name (i := 4) scCT.nd rfl (.inl rfl))
        (pss_cons (ps_expr (pe_bm PySem.F.plainAttrs_list PySem.F.slot_list_append PySem.F.type_list_append mt_append (pv 2) (pa_cons (pe_op op_catT (pe_tup (pa_cons (pe_op op_sub (pv 4) (pv 3)) pa_nil))
            (pe_call GA hr rfl A0.g A0.F.kp A0.b .nil pass0 (pa_cons (pe_slice sl_list (pv 0) (po_some (pv 3)) (po_some (pv 4))) pa_nil))) pa_nil)))
        (pss_one (ps_set (i := 3) scCT.nd rfl (.inl rfl) (pv 4)))))
      (pss_one (ps_ret (pv 2))))), ?_⟩
    obtain ⟨ls, lp, s, pos, rfl, ⟨vs, hls, hsz⟩, h10, hp, hpos, q⟩ := h
    have hn : vs.length = s.sizes.length := hsz.len
    have hpl : pos.length ≤ 10 := Nat.le_trans (pos_len hpos) h10
    -- totals = []; start = 0
    refine ⟨Nat.zero_le _, fun o no => ?_⟩
    have s1 : Same H (upd H o (.lst [])) := same_new no
    have o1 : (upd H o (.lst [])) o = some (.lst []) := upd_same
    generalize upd H o (.lst []) = H1 at s1 o1
    -- positions + [len(sizes)]
    refine ⟨_, rfl, _, rfl, ls, vs, rfl, .inl (SqL.of (s1 _ _ hls)), small _ (by show 1 ≤ 100000; decide), fun e ne => ?_⟩
    have s2 : Same H1 (upd H1 e (.lst [V.int (vs.length : Int)])) := same_new ne
    have e2 : (upd H1 e (.lst [V.int (vs.length : Int)])) e = some (.lst [V.int (vs.length : Int)]) := upd_same
    generalize upd H1 e (.lst [V.int (vs.length : Int)]) = H2 at s2 e2
    refine ⟨lp, e, _, _, rfl, rfl, s2 _ _ (s1 _ _ hp), e2, small _ (by simp only [List.length_map, List.length_singleton]; omega), fun c nc => ?_⟩
    have ec : nats pos ++ [V.int (vs.length : Int)] = nats (pos ++ [s.sizes.length]) := by
      rw [hn]
      simp [nats]
    rw [ec]
    have s3 : Same H2 (upd H2 c (.lst (nats (pos ++ [s.sizes.length])))) := same_new nc
    have c3 : (upd H2 c (.lst (nats (pos ++ [s.sizes.length])))) c = some (.lst (nats (pos ++ [s.sizes.length]))) := upd_same
    have o3 := s3 _ _ (s2 _ _ o1)
    have nco : c ≠ o := (ne_of_none (s2 _ _ o1) nc).symm
    generalize upd H2 c (.lst (nats (pos ++ [s.sizes.length]))) = H3 at s3 c3 o3
    have sm : Same H H3 := (s1.trans s2).trans s3
    refine ⟨c, rfl, ⟨_, SqL.of c3⟩, for_list (K := K) (a := c) (xs := nats (pos ++ [s.sizes.length]))
      (fun i σ H' => ∃ (a : Nat) (ts : List V) (w4 : Option V), σ = [some (.ref ls), some (.ref lp), some (.ref o), some (.int a), w4] ∧ (0 :: (pos ++ [s.sizes.length]))[i]? = some a ∧
        Same H H' ∧ H' c = some (.lst (nats (pos ++ [s.sizes.length]))) ∧ H' o = some (.lst ts) ∧ All2 (ClV H') ts ((classes s pos).take i))
      ⟨0, [], none, rfl, rfl, sm, c3, o3, All2.nil⟩ (fun i σ H' _ ⟨_, _, _, _, _, _, z, _, _⟩ => SqL.of z) ?_ ?_⟩
    · rintro i x σ H' hx ⟨a, ts, w4, rfl, ha, sm', hc, ho, hts⟩
      obtain ⟨b, hb, rfl⟩ := nats_at hx
      obtain ⟨ab, bn⟩ := cuts_step hpos ha hb
      have tl : ts.length ≤ 11 := by
        have z := hts.len
        rw [List.length_take, classes_len] at z
        omega
      -- (end - start,)
      refine ⟨_, rfl, .inl ⟨rfl, _, SqL.of ho⟩, _, rfl, _, rfl, (b : Int), (a : Int), rfl, rfl, small _ (by show 1 ≤ 100000; decide), fun t1 nt1 => ?_⟩
      have s4 : Same H' (upd H' t1 (.tup [V.int ((b : Int) - (a : Int))])) := same_new nt1
      have t4 : (upd H' t1 (.tup [V.int ((b : Int) - (a : Int))])) t1 = some (.tup [V.int ((b : Int) - (a : Int))]) := upd_same
      generalize upd H' t1 (.tup [V.int ((b : Int) - (a : Int))]) = H4 at s4 t4
      -- sizes[start:end]
      refine ⟨_, rfl, _, rfl, (a : Int), rfl, _, rfl, (b : Int), rfl, ls, vs, rfl, SqL.of (s4 _ _ (sm' _ _ hls)), fun d nd => ?_⟩
      rw [cut_mid vs a b ab (by rw [hn]; exact bn)]
      have part : All2 (SzV H) ((vs.take b).drop a) (seg s.sizes (b, a)) := hsz.cut a b
      have pl : ((vs.take b).drop a).length ≤ 10 := by
        rw [List.length_drop, List.length_take]
        omega
      have s5 : Same H4 (upd H4 d (.lst ((vs.take b).drop a))) := same_new nd
      have d5 : (upd H4 d (.lst ((vs.take b).drop a))) d = some (.lst ((vs.take b).drop a)) := upd_same
      generalize upd H4 d (.lst ((vs.take b).drop a)) = H5 at s5 d5
      have sH5 : Same H H5 := sm'.trans (s4.trans s5)
      -- total_amounts(..)
      refine ⟨d, (seg s.sizes (b, a)).map fb, rfl, ⟨_, d5, sz_pr (part.imp fun _ _ z => z.same sH5)⟩, by rw [List.length_map, ← part.len]; omega, fun H6 p s6 np hp6 => ?_⟩
      rw [fb_flour, fb_bran] at hp6
      have s46 : Same H' H6 := (s4.trans s5).trans s6
      refine ⟨t1, p, _, _, rfl, rfl, SqT.of (s6 _ _ (s5 _ _ t4)), SqT.of hp6, by simp, small _ (by show 3 ≤ 100000; decide), fun z => (nomatch z), fun _ t nt => ?_⟩
      have s7 : Same H6 (upd H6 t (.tup ([V.int ((b : Int) - (a : Int))] ++ [V.int (totalFlour (seg s.sizes (b, a)) : Nat), V.int (totalBran (seg s.sizes (b, a)) : Nat)]))) := same_new nt
      have t7 : (upd H6 t (.tup ([V.int ((b : Int) - (a : Int))] ++ [V.int (totalFlour (seg s.sizes (b, a)) : Nat), V.int (totalBran (seg s.sizes (b, a)) : Nat)]))) t = some (.tup ([V.int ((b : Int) - (a : Int))] ++ [V.int (totalFlour (seg s.sizes (b, a)) : Nat), V.int (totalBran (seg s.sizes (b, a)) : Nat)])) := upd_same
      generalize upd H6 t (.tup ([V.int ((b : Int) - (a : Int))] ++ [V.int (totalFlour (seg s.sizes (b, a)) : Nat), V.int (totalBran (seg s.sizes (b, a)) : Nat)])) = H7 at s7 t7
      have s47 : Same H' H7 := s46.trans s7
      have o7 := s47 _ _ ho
      refine ⟨o, ts, _, rfl, rfl, o7, ltLine (by omega), ?_⟩
      -- start = end
      have keep : ∀ z u, H z = some u → (upd H7 o (.lst (ts ++ [.ref t]))) z = some u := fun z u e => by
        rw [upd_ne (ne_of_none e no)]
        exact s47 _ _ (sm' _ _ e)
      have nto : t ≠ o := (ne_of_none (s46 _ _ ho) nt).symm
      have old : All2 (ClV (upd H7 o (.lst (ts ++ [.ref t])))) ts ((classes s pos).take i) := hts.imp fun v c ⟨t', ev, et⟩ => by
        refine ⟨t', ev, ?_⟩
        rw [upd_ne (ne_of (s47 _ _ et) o7 (by intro z; cases z))]
        exact s47 _ _ et
      refine ⟨_, rfl, b, ts ++ [.ref t], _, rfl, hb, keep, ?_, upd_same, ?_⟩
      · rw [upd_ne nco]
        exact s47 _ _ hc
      · rw [take_more (class_at ha hb)]
        refine old.app (All2.one ⟨t, rfl, ?_⟩)
        rw [upd_ne nto, t7]
        have el : (seg s.sizes (b, a)).length = b - a := by
          unfold seg
          rw [List.length_drop, List.length_take]
          omega
        have ei : ((b : Int) - (a : Int)) = (((seg s.sizes (b, a)).length : Nat) : Int) := by
          rw [el]
          omega
        rw [ei]
        rfl
    · rintro σ H' ⟨a, ts, w4, rfl, ha, sm', hc, ho, hts⟩
      refine ⟨_, rfl, q H' o ts sm' no ho ?_⟩
      rwa [List.length_map, List.length_append, List.length_singleton, List.take_of_length_le (by rw [classes_len]; exact Nat.le_refl _)] at hts

/-! ### class_amounts -/
def spClassAmounts : Sp := fun vs H Q _ => ∃ (ls lp : Addr) (s : Sifter) (pos : List Nat), vs = [.ref ls, .ref lp] ∧ SzL H ls s.sizes ∧ s.sizes.length ≤ 10 ∧ H lp = some (.lst (nats pos)) ∧ Pos s.sizes.length 1 pos ∧
  ∀ (H' : Hp) (p : Addr), Same H H' → H p = none → PrL H' p ((classes s pos).map tfb) → Q (.ref p) H'
abbrev nKA : List Str := ["sizes", "positions", "size_count", "flour", "bran"]
theorem scKA : FnScope nKA ["sizes", "positions"] (defScope sClassAmounts) := ⟨rfl, rfl, rfl, by decide +kernel, rfl, by decide +kernel, by decide +kernel⟩
theorem ok_class_amounts {f fC fA : Addr} {fd fdC fdA : FuncData} {k : Nat} (D : Df K mg "class_amounts" sClassAmounts ["sizes", "positions"] f fd) (T : Own mg) (C : Df K mg "class_totals" sClassTotals ["sizes", "positions"] fC fdC) (A0 : Df K mg "total_amounts" sTotalAmounts ["parts"] fA fdA) :
    FnOk P w K mg base CX0 (k + 3) f fd ["sizes", "positions"] spClassAmounts := by
  have G : FnOk P w K mg base CX0 (k + 2) fC fdC ["sizes", "positions"] spClassTotals := ok_class_totals C T A0
  refine D.F.ok scKA (fun vs H Q E h => ?_) (fun cdv A outer s H vs Q E hr h => ?_)
  · obtain ⟨ls, lp, s, pos, rfl, _⟩ := h
    rfl
  · refine ⟨_, pss_one (ps_ret (pe_lc (own := [("size_count", 2), ("flour", 3), ("bran", 4)])
        (g := gTup K 3 (gCons (gName 2) (gCons (gName 3) (gCons (gName 4) gNil)))) (tt := tYes) (te := tTup (tCons (tVar 3) (tCons (tVar 4) tNil)))
        rfl scKA.nd (pi_list (pe_call G hr rfl C.g C.F.kp C.b .nil pass0 (pa_cons (pv 0) (pa_cons (pv 1) pa_nil)))) (blkOk_by (own := [("size_count", 2), ("flour", 3), ("bran", 4)]) (N := nKA) (sc := defScope sClassAmounts) (by decide +kernel))
        (fun _ _ _ _ _ => pg_tup (by rfl) (pgs_cons (pg_name (i := 2) scKA.nd rfl (.inl rfl)) (pgs_cons (pg_name (i := 3) scKA.nd rfl (.inl rfl)) (pgs_cons (pg_name (i := 4) scKA.nd rfl (.inl rfl)) pgs_nil))))
        (fun _ _ _ _ _ => pts_nil) (fun _ _ _ _ _ => pe_tup (pa_cons (pv 3) (pa_cons (pv 4) pa_nil))))), ?_⟩
    obtain ⟨ls, lp, s, pos, rfl, hs, h10, hp, hpos, q⟩ := h
    have hpl : pos.length ≤ 10 := Nat.le_trans (pos_len hpos) h10
    refine ⟨_, rfl, _, rfl, ls, lp, s, pos, rfl, hs, h10, hp, hpos, fun H1 p ts s1 np h1 hts => ?_⟩
    have tl : ts.length ≤ 11 := by
      have z := hts.len
      rw [classes_len] at z
      omega
    refine ⟨p, rfl, ⟨_, SqL.of h1⟩, fun D nD => lc_list (K := K) (a := p) (xs := ts) (fun i H' => ∃ us, (∀ b u, H1 b = some u → H' b = some u) ∧ H' D = some (.lst us) ∧ All2 (PrV H') us (((classes s pos).map tfb).take i))
      ⟨[], same_new nD, upd_same, All2.nil⟩ (fun i H' _ ⟨_, z, _, _⟩ => SqL.of (z _ _ h1)) (fun i x H2 hx ⟨us, k2, d2, z2⟩ => ?_) (fun H2 ⟨us, k2, d2, z2⟩ => ?_)⟩
    · obtain ⟨c, hc, t, rfl, ht⟩ := hts.some_of hx
      have hc' : ((classes s pos).map tfb)[i]? = some (tfb c) := by
        rw [List.getElem?_map, hc]
        rfl
      refine ⟨t, _, rfl, SqT.of (k2 _ _ ht), rfl, _, _, rfl, _, _, rfl, _, _, rfl, rfl, rfl, ?_⟩
      refine ⟨_, rfl, _, rfl, small _ (by show 2 ≤ 100000; decide), fun n nn => ?_⟩
      have s3 : Same H2 (upd H2 n (.tup [V.int (totalFlour c : Nat), V.int (totalBran c : Nat)])) := same_new nn
      have n3 : (upd H2 n (.tup [V.int (totalFlour c : Nat), V.int (totalBran c : Nat)])) n = some (.tup [V.int (totalFlour c : Nat), V.int (totalBran c : Nat)]) := upd_same
      generalize upd H2 n (.tup [V.int (totalFlour c : Nat), V.int (totalBran c : Nat)]) = H3 at s3 n3
      have d3 := s3 _ _ d2
      have ul : us.length ≤ 11 := by
        have z := z2.len
        rw [List.length_take, List.length_map, classes_len] at z
        omega
      have n4 : ∀ {b : Addr} {u : HO}, H3 b = some u → b ≠ D → (upd H3 D (.lst (us ++ [.ref n]))) b = some u := fun {b u} e n => by
        rw [upd_ne n]
        exact e
      refine ⟨us, d3, ltLine (by omega), us ++ [.ref n], fun b u e => n4 (s3 _ _ (k2 _ _ e)) (ne_of_none e nD), upd_same, ?_⟩
      rw [take_more hc']
      refine All2.app (z2.imp fun v y ⟨t', ev, e⟩ => ⟨t', ev, n4 (s3 _ _ e) (ne_of (s3 _ _ e) d3 (by intro z; cases z))⟩) (All2.one ⟨n, rfl, n4 n3 (ne_of n3 d3 (by intro z; cases z))⟩)
    · rw [hts.len, List.take_of_length_le (by rw [List.length_map]; exact Nat.le_refl _)] at z2
      exact q H2 D (s1.trans k2) (s1.free nD) ⟨us, d2, z2⟩

/-! ### class_number, goes_to_flour -/
def spClassNo : Sp := fun vs H Q _ => ∃ (lp : Addr) (l : List Nat) (n : Nat), vs = [.ref lp, .int n] ∧ H lp = some (.lst (nats l)) ∧ l.length ≤ 100 ∧ ∀ H', Same H H' → Q (.int ((l.filter fun p => decide (p ≤ n)).length : Nat)) H'
abbrev nKN : List Str := ["positions", "size", "position"]
theorem scKN : FnScope nKN ["positions", "size"] (defScope sClassNumber) := ⟨rfl, rfl, rfl, by decide +kernel, rfl, by decide +kernel, by decide +kernel⟩
theorem filter_take_some {l : List Nat} {i x : Nat} {q : Nat → Bool} (h : l[i]? = some x) (c : q x = true) : (l.take (i + 1)).filter q = (l.take i).filter q ++ [x] := by
  rw [take_more h, List.filter_append]
  simp [c]
theorem filter_take_none {l : List Nat} {i x : Nat} {q : Nat → Bool} (h : l[i]? = some x) (c : q x = false) : (l.take (i + 1)).filter q = (l.take i).filter q := by
  rw [take_more h, List.filter_append]
  simp [c]
theorem ok_class_number {f : Addr} {fd : FuncData} {k : Nat} (D : Df K mg "class_number" sClassNumber ["positions", "size"] f fd) (T : Own mg) : FnOk P w K mg base CX0 (k + 1) f fd ["positions", "size"] spClassNo := by
  refine D.F.ok scKN (fun vs H Q E h => ?_) (fun cdv A outer s H vs Q E hr h => ?_)
  · obtain ⟨lp, l, n, rfl, _⟩ := h
    rfl
  · refine ⟨_, pss_one (ps_ret (pe_callB call_len_seq (by rfl) T.len PySem.boot_len (pa_cons (pe_lc (own := [("position", 2)]) (g := gName 2) (tt := tTest (tOp (rI0 fun i j => .bl (decide (i ≤ j))) (tVar 2) (tVar 1))) (te := tVar 2) rfl scKN.nd (pi_list (pv 0)) (blkOk_by (own := [("position", 2)]) (N := nKN) (sc := defScope sClassNumber) (by decide +kernel))
          (fun _ _ _ _ _ => pg_name (i := 2) scKN.nd rfl (.inl rfl)) (fun _ _ _ _ _ => pts_one (pt_cmpR op_le (pv 2) (pv 1) (nomark _))) (fun _ _ _ _ _ => pv 2)) pa_nil))), ?_⟩
    obtain ⟨lp, l, n, rfl, hl, big, q⟩ := h
    refine ⟨_, rfl, lp, rfl, ⟨_, SqL.of hl⟩, fun L nL => ?_⟩
    refine lc_list (K := K) (a := lp) (xs := nats l) (fun i H' => H' = upd H L (.lst (nats ((l.take i).filter fun p => decide (p ≤ n))))) rfl
        (fun i H' _ e => by rw [e]; exact SqL.of (same_new nL _ _ hl)) (fun i x H' hx e => ?_) (fun H' e => ?_)
    · obtain ⟨p, hp, rfl⟩ := nats_at hx
      subst e
      refine ⟨rfl, _, rfl, _, rfl, _, _, rfl, rfl, _, rfl, ?_⟩
      by_cases c : p ≤ n
      · refine ifT (decide_eq_true (show (p : Int) ≤ (n : Int) by omega)) ?_
        refine ⟨_, rfl, _, upd_same, ltLine ?_, ?_⟩
        · rw [List.length_map]
          have := List.length_filter_le (fun p => decide (p ≤ n)) (l.take i)
          rw [List.length_take] at this
          omega
        · rw [upd_upd, filter_take_some hp (decide_eq_true c)]
          simp [nats]
      · refine ifF (decide_eq_false (show ¬ (p : Int) ≤ (n : Int) by omega)) ?_
        rw [filter_take_none hp (decide_eq_false c)]
    · subst e
      rw [List.length_map, List.take_length]
      refine ⟨L, _, rfl, .inl (SqL.of upd_same), ?_⟩
      rw [List.length_map]
      exact q _ (same_new nL)
def spGoes : Sp := fun vs H Q _ => ∃ (t : Addr) (x : Nat × Nat), vs = [.ref t] ∧ H t = some (.tup [.int x.1, .int x.2]) ∧ Q (.bl (decide (x.2 ≤ x.1))) H
abbrev nGF : List Str := ["amounts"]
theorem scGF : FnScope nGF ["amounts"] (defScope sGoesToFlour) := ⟨rfl, rfl, rfl, by decide +kernel, rfl, by decide +kernel, by decide +kernel⟩
theorem ok_goes {f : Addr} {fd : FuncData} {k : Nat} (D : Df K mg "goes_to_flour" sGoesToFlour ["amounts"] f fd) : FnOk P w K mg base CX0 (k + 1) f fd ["amounts"] spGoes := by
  refine D.F.ok scGF (fun vs H Q E h => ?_) (fun cdv A outer s H vs Q E hr h => ?_)
  · obtain ⟨t, x, rfl, _⟩ := h
    rfl
  · refine ⟨_, pss_one (ps_ret (pe_cmpR op_le (pe_ix ix_tup (pv 0) pe_int (fun _ _ => rfl)) (pe_ix ix_tup (pv 0) pe_int (fun _ _ => rfl)) (nomark _))), ?_⟩
    obtain ⟨t, x, rfl, ht, q⟩ := h
    refine ⟨_, rfl, t, _, 1, _, rfl, rfl, SqT.of ht, rfl, _, rfl, t, _, 0, _, rfl, rfl, SqT.of ht, rfl, _, _, rfl, rfl, ?_⟩
    have e : decide ((x.2 : Int) ≤ (x.1 : Int)) = decide (x.2 ≤ x.1) := by
      by_cases c : x.2 ≤ x.1
      · rw [decide_eq_true c, decide_eq_true (show (x.2 : Int) ≤ (x.1 : Int) by omega)]
      · rw [decide_eq_false c, decide_eq_false (show ¬ (x.2 : Int) ≤ (x.1 : Int) by omega)]
    rw [← e] at q
    exact q

/-! ### misplaced_amount, heaviest_weight -/
/-- a measure of sizes and positions -/
def spMeas (g : Sifter → List Nat → Nat) : Sp := fun vs H Q _ => ∃ (ls lp : Addr) (s : Sifter) (pos : List Nat), vs = [.ref ls, .ref lp] ∧ SzL H ls s.sizes ∧ s.sizes.length ≤ 10 ∧ H lp = some (.lst (nats pos)) ∧ Pos s.sizes.length 1 pos ∧
  ∀ (H' : Hp), Same H H' → Q (.int (g s pos : Nat)) H'
abbrev spMis : Sp := spMeas Kp409.misplaced
abbrev spHeavy : Sp := spMeas Kp409.heaviestClass
abbrev nMA : List Str := ["sizes", "positions", "flour", "bran"]
theorem scMA : FnScope nMA ["sizes", "positions"] (defScope sMisplacedAmount) := ⟨rfl, rfl, rfl, by decide +kernel, rfl, by decide +kernel, by decide +kernel⟩
theorem scHW : FnScope nMA ["sizes", "positions"] (defScope sHeaviest) := ⟨rfl, rfl, rfl, by decide +kernel, rfl, by decide +kernel, by decide +kernel⟩
theorem min_nat (a b : Nat) : (if (b : Int) < (a : Int) then (b : Int) else (a : Int)) = ((min a b : Nat) : Int) := by
  split <;> omega
/-- the defs of classes.py -/
structure ClassesT (K : PySem.W.Frag) (mg : Str → Option Value) (f1 f2 f3 f4 f5 f6 f7 : Addr) (fd1 fd2 fd3 fd4 fd5 fd6 fd7 : FuncData) : Prop where
  ta : Df K mg "total_amounts" sTotalAmounts ["parts"] f1 fd1
  ct : Df K mg "class_totals" sClassTotals ["sizes", "positions"] f2 fd2
  ka : Df K mg "class_amounts" sClassAmounts ["sizes", "positions"] f3 fd3
  kn : Df K mg "class_number" sClassNumber ["positions", "size"] f4 fd4
  gf : Df K mg "goes_to_flour" sGoesToFlour ["amounts"] f5 fd5
  ma : Df K mg "misplaced_amount" sMisplacedAmount ["sizes", "positions"] f6 fd6
  hw : Df K mg "heaviest_weight" sHeaviest ["sizes", "positions"] f7 fd7
variable {f1 f2 f3 f4 f5 f6 f7 : Addr} {fd1 fd2 fd3 fd4 fd5 fd6 fd7 : FuncData}
theorem ok_misplaced_amount {k : Nat} (Z : ClassesT K mg f1 f2 f3 f4 f5 f6 f7 fd1 fd2 fd3 fd4 fd5 fd6 fd7) (T : Own mg) : FnOk P w K mg base CX0 (k + 4) f6 fd6 ["sizes", "positions"] spMis := by
  have G : FnOk P w K mg base CX0 (k + 3) f3 fd3 ["sizes", "positions"] spClassAmounts := ok_class_amounts Z.ka T Z.ct Z.ta
  refine Z.ma.F.ok scMA (fun vs H Q E h => ?_) (fun cdv A outer s H vs Q E hr h => ?_)
  · obtain ⟨ls, lp, s, pos, rfl, _⟩ := h
    rfl
  · refine ⟨_, pss_one (ps_ret (pe_callB (cr_sum rfl) (by rfl) T.sum (by decide +kernel) (pa_cons (pe_lc (own := [("flour", 2), ("bran", 3)])
        (g := gTup K 2 (gCons (gName 2) (gCons (gName 3) gNil))) (tt := tYes) (te := tCB (fun xs H Q => ∃ i j : Int, xs = [V.int i, V.int j] ∧ Q (.int (if j < i then j else i)) H) (tCons (tVar 2) (tCons (tVar 3) tNil)))
        rfl scMA.nd (pi_list (pe_call G hr rfl Z.ka.g Z.ka.F.kp Z.ka.b .nil pass0 (pa_cons (pv 0) (pa_cons (pv 1) pa_nil)))) (blkOk_by (own := [("flour", 2), ("bran", 3)]) (N := nMA) (sc := defScope sMisplacedAmount) (by decide +kernel))
        (fun _ _ _ _ _ => pg_tup (by rfl) (pgs_cons (pg_name (i := 2) scMA.nd rfl (.inl rfl)) (pgs_cons (pg_name (i := 3) scMA.nd rfl (.inl rfl)) pgs_nil)))
        (fun _ _ _ _ _ => pts_nil) (fun _ _ _ _ _ => pe_callB (call_min2 rfl) (by rfl) T.min (by decide +kernel) (pa_cons (pv 2) (pa_cons (pv 3) pa_nil)))) pa_nil))), ?_⟩
    obtain ⟨ls, lp, s, pos, rfl, hs, h10, hp, hpos, q⟩ := h
    have hpl : pos.length ≤ 10 := Nat.le_trans (pos_len hpos) h10
    refine ⟨_, rfl, _, rfl, ls, lp, s, pos, rfl, hs, h10, hp, hpos, fun H1 p s1 np ⟨ts, h1, hts⟩ => ?_⟩
    have tl : ts.length ≤ 11 := by
      have z := hts.len
      rw [List.length_map, classes_len] at z
      omega
    refine ⟨p, rfl, ⟨_, SqL.of h1⟩, fun D nD => lc_pure (K := K) (a := p) (xs := ts) (((classes s pos).map fun c => ((misplacedInClass c : Nat) : Int)).map V.int) nD (SqL.of h1) (by simp [hts.len]) (small _ (by omega)) (fun j x y H2 P' hx hy s2 hP => ?_) ?_⟩
    · obtain ⟨z, hz, t, rfl, ht⟩ := hts.some_of hx
      obtain ⟨c, hc, rfl⟩ := map_at hz
      have ey : y = V.int (misplacedInClass c : Int) := by
        rw [List.map_map, List.getElem?_map, hc] at hy
        exact (Option.some.inj hy).symm
      subst ey
      refine ⟨t, _, rfl, SqT.of (s2 _ _ ht), rfl, _, _, rfl, _, _, rfl, rfl, rfl, ?_⟩
      refine ⟨_, rfl, _, rfl, _, _, rfl, ?_⟩
      rw [min_nat]
      exact hP
    · refine ⟨D, _, rfl, SqL.of upd_same, ?_⟩
      rw [sum_ints]
      exact q _ (s1.trans (same_new nD))
theorem foldl_max_le : ∀ {l : List Nat} {x m : Nat}, m ∈ x :: l → m ≤ l.foldl max x
  | [], x, m, h => by
    rw [List.mem_singleton.mp h]
    exact Nat.le_refl _
  | y :: l, x, m, h => by
    rw [List.foldl_cons]
    have start := foldl_max_le (l := l) (x := max x y) List.mem_cons_self
    rcases List.mem_cons.mp h with z | z
    · omega
    · rcases List.mem_cons.mp z with z | z
      · omega
      · exact foldl_max_le (List.mem_cons_of_mem _ z)
theorem foldl_max_mem : ∀ {l : List Nat} {x : Nat}, l.foldl max x ∈ x :: l
  | [], x => List.mem_cons_self
  | y :: l, x => by
    rw [List.foldl_cons]
    rcases List.mem_cons.mp (foldl_max_mem (l := l) (x := max x y)) with z | z
    · rw [z]
      rcases Nat.le_total x y with c | c
      · rw [Nat.max_eq_right c]
        exact List.mem_cons_of_mem _ List.mem_cons_self
      · rw [Nat.max_eq_left c]
        exact List.mem_cons_self
    · exact List.mem_cons_of_mem _ (List.mem_cons_of_mem _ z)
theorem heavy_max {l : List Nat} {m : Nat} (hm : m ∈ l) (h : ∀ y ∈ l, y ≤ m) : l.foldl max 0 = m := by
  have a := foldl_max_le (x := 0) (List.mem_cons_of_mem 0 hm)
  rcases List.mem_cons.mp (foldl_max_mem (l := l) (x := 0)) with z | z
  · omega
  · have := h _ z
    omega
theorem ok_heaviest {k : Nat} (Z : ClassesT K mg f1 f2 f3 f4 f5 f6 f7 fd1 fd2 fd3 fd4 fd5 fd6 fd7) (T : Own mg) : FnOk P w K mg base CX0 (k + 4) f7 fd7 ["sizes", "positions"] spHeavy := by
  have G : FnOk P w K mg base CX0 (k + 3) f3 fd3 ["sizes", "positions"] spClassAmounts := ok_class_amounts Z.ka T Z.ct Z.ta
  refine Z.hw.F.ok scHW (fun vs H Q E h => ?_) (fun cdv A outer s H vs Q E hr h => ?_)
  · obtain ⟨ls, lp, s, pos, rfl, _⟩ := h
    rfl
  · refine ⟨_, pss_one (ps_ret (pe_callB (cr_max rfl) (by rfl) T.max (by decide +kernel) (pa_cons (pe_lc (own := [("flour", 2), ("bran", 3)])
        (g := gTup K 2 (gCons (gName 2) (gCons (gName 3) gNil))) (tt := tYes) (te := tOp (rI0 fun i j => .int (i + j)) (tVar 2) (tVar 3))
        rfl scHW.nd (pi_list (pe_call G hr rfl Z.ka.g Z.ka.F.kp Z.ka.b .nil pass0 (pa_cons (pv 0) (pa_cons (pv 1) pa_nil)))) (blkOk_by (own := [("flour", 2), ("bran", 3)]) (N := nMA) (sc := defScope sHeaviest) (by decide +kernel))
        (fun _ _ _ _ _ => pg_tup (by rfl) (pgs_cons (pg_name (i := 2) scHW.nd rfl (.inl rfl)) (pgs_cons (pg_name (i := 3) scHW.nd rfl (.inl rfl)) pgs_nil)))
        (fun _ _ _ _ _ => pts_nil) (fun _ _ _ _ _ => pe_op op_add (pv 2) (pv 3))) pa_nil))), ?_⟩
    obtain ⟨ls, lp, s, pos, rfl, hs, h10, hp, hpos, q⟩ := h
    have hpl : pos.length ≤ 10 := Nat.le_trans (pos_len hpos) h10
    refine ⟨_, rfl, _, rfl, ls, lp, s, pos, rfl, hs, h10, hp, hpos, fun H1 p s1 np ⟨ts, h1, hts⟩ => ?_⟩
    have tl : ts.length ≤ 11 := by
      have z := hts.len
      rw [List.length_map, classes_len] at z
      omega
    refine ⟨p, rfl, ⟨_, SqL.of h1⟩, fun D nD => lc_pure (K := K) (a := p) (xs := ts) (((classes s pos).map fun c => ((totalWeight c : Nat) : Int)).map V.int) nD (SqL.of h1) (by simp [hts.len]) (small _ (by omega)) (fun j x y H2 P' hx hy s2 hP => ?_) ?_⟩
    · obtain ⟨z, hz, t, rfl, ht⟩ := hts.some_of hx
      obtain ⟨c, hc, rfl⟩ := map_at hz
      have ey : y = V.int ((totalFlour c : Int) + (totalBran c : Int)) := by
        rw [List.map_map, List.getElem?_map, hc] at hy
        exact (Option.some.inj hy).symm
      subst ey
      exact ⟨t, _, rfl, SqT.of (s2 _ _ ht), rfl, _, _, rfl, _, _, rfl, rfl, rfl, _, rfl, _, rfl, _, _, rfl, rfl, hP⟩
    · refine ⟨D, _, rfl, SqL.of upd_same, by rw [List.length_map, classes_len]; omega, fun m hm hle => ?_⟩
      obtain ⟨c, hc, rfl⟩ := List.mem_map.mp hm
      have e : Kp409.heaviestClass s pos = totalWeight c := heavy_max (List.mem_map.mpr ⟨c, hc, rfl⟩) fun y hy => by
        obtain ⟨d, hd, rfl⟩ := List.mem_map.mp hy
        have := hle _ (List.mem_map.mpr ⟨d, hd, rfl⟩)
        omega
      rw [e] at q
      exact q _ (s1.trans (same_new nD))
theorem weight_sum : ∀ sz : List SizeFraction, (sz.map fun x => x.flour + x.bran).sum = totalWeight sz
  | [] => rfl
  | x :: l => by
    have ih := weight_sum l
    unfold Kp409.totalWeight Kp409.totalFlour Kp409.totalBran at ih ⊢
    rw [List.map_cons, List.sum_cons, ih, List.map_cons, List.map_cons, List.sum_cons, List.sum_cons]
    omega

/-! ### lowest terms -/
abbrev sGcd : Stmt := top 9
abbrev sLowest : Stmt := top 10
def spGcd : Sp := fun vs H Q _ => ∃ a b : Nat, vs = [.int a, .int b] ∧ Q (.int (Nat.gcd a b : Nat)) H
abbrev nGD : List Str := ["first", "second", "remainder"]
theorem scGD : FnScope nGD ["first", "second"] (defScope sGcd) := ⟨rfl, rfl, rfl, by decide +kernel, rfl, by decide +kernel, by decide +kernel⟩
theorem ok_gcd {f : Addr} {fd : FuncData} {k : Nat} (D : Df K mg "greatest_divisor" sGcd ["first", "second"] f fd) : FnOk P w K mg base CX0 (k + 1) f fd ["first", "second"] spGcd := by
  refine D.F.ok scGD (fun vs H Q E h => ?_) (fun cdv A outer s H vs Q E hr h => ?_)
  · obtain ⟨a, b, rfl, _⟩ := h
    rfl
  · refine ⟨_, pss_cons (ps_while PassesOwn.never (pt_cmpR op_gt (pv 1) pe_int (nomark _))
        (pss_cons (ps_set (i := 2) scGD.nd rfl (.inl rfl) (pe_op op_modN (pv 0) (pv 1)))
        (pss_cons (ps_set (i := 0) scGD.nd rfl (.inl rfl) (pv 1)) (pss_one (ps_set (i := 1) scGD.nd rfl (.inl rfl) (pv 2))))))
      (pss_one (ps_ret (pv 0))), ?_⟩
    obtain ⟨a, b, rfl, q⟩ := h
    refine ⟨fun m σ H' => ∃ (x y : Nat) (v : Option V), σ = [some (.int x), some (.int y), v] ∧ m = y ∧ H' = H ∧ Nat.gcd x y = Nat.gcd a b, ⟨b, a, b, none, rfl, rfl, rfl, rfl⟩, ?_⟩
    rintro m σ H' ⟨x, y, v, rfl, rfl, rfl, e⟩
    refine ⟨_, rfl, _, _, rfl, rfl, _, rfl, ?_⟩
    by_cases c : 0 < m
    · refine ifT (decide_eq_true (show (0 : Int) < (m : Int) by omega)) ?_
      refine ⟨fun σ2 H2 => ∃ (x y : Nat) (v : Option V), σ2 = [some (.int x), some (.int y), v] ∧ y < m ∧ H2 = H' ∧ Nat.gcd x y = Nat.gcd a b, fun σ2 H2 ⟨x2, y2, v2, e1, e2, e3, e4⟩ => ⟨y2, e2, x2, y2, v2, e1, rfl, e3, e4⟩, ?_⟩
      have fm : Int.fmod (x : Int) (m : Int) = ((x % m : Nat) : Int) := by
        rw [Int.fmod_eq_emod_of_nonneg _ (by omega)]
        omega
      refine ⟨_, rfl, _, rfl, _, _, rfl, rfl, by omega, _, rfl, _, rfl, m, x % m, some (.int (Int.fmod (x : Int) (m : Int))), ?_, Nat.mod_lt _ c, rfl, ?_⟩
      · exact congrArg (fun z => [some (V.int (m : Int)), some (V.int z), some (V.int (Int.fmod (x : Int) (m : Int)))]) fm
      · rw [← e, Nat.gcd_comm x m, Nat.gcd_rec m x, Nat.gcd_comm]
    · refine ifF (decide_eq_false (show ¬ ((0 : Int) < (m : Int)) by omega)) ?_
      have m0 : m = 0 := by omega
      subst m0
      rw [Nat.gcd_zero_right] at e
      subst e
      exact ⟨_, rfl, q⟩
def spLowest : Sp := fun vs H Q _ => ∃ a b : Nat, vs = [.int a, .int b] ∧ 0 < b ∧ b < 1000000 ∧ ∀ p, H p = none → Q (.ref p) (upd H p (.lst [.int ((a : Int) / (Nat.gcd a b : Int)), .int ((b : Int) / (Nat.gcd a b : Int))]))
abbrev nLT : List Str := ["numerator", "denominator", "divisor"]
theorem scLT : FnScope nLT ["numerator", "denominator"] (defScope sLowest) := ⟨rfl, rfl, rfl, by decide +kernel, rfl, by decide +kernel, by decide +kernel⟩
theorem ok_lowest {f fG : Addr} {fd fdG : FuncData} {k : Nat} (D : Df K mg "lowest_terms" sLowest ["numerator", "denominator"] f fd) (G : Df K mg "greatest_divisor" sGcd ["first", "second"] fG fdG) :
    FnOk P w K mg base CX0 (k + 2) f fd ["numerator", "denominator"] spLowest := by
  have GG : FnOk P w K mg base CX0 (k + 1) fG fdG ["first", "second"] spGcd := ok_gcd G
  refine D.F.ok scLT (fun vs H Q E h => ?_) (fun cdv A outer s H vs Q E hr h => ?_)
  · obtain ⟨a, b, rfl, _⟩ := h
    rfl
  · refine ⟨_, pss_cons (ps_set (i := 2) scLT.nd rfl (.inl rfl) (pe_call GG hr rfl G.g G.F.kp G.b .nil pass0 (pa_cons (pv 0) (pa_cons (pv 1) pa_nil))))
      (pss_one (ps_ret (pe_lst (pa_cons (pe_op op_fdivN (pv 0) (pv 2)) (pa_cons (pe_op op_fdivN (pv 1) (pv 2)) pa_nil))))), ?_⟩
    obtain ⟨a, b, rfl, b0, bb, q⟩ := h
    have g0 : 0 < Nat.gcd a b := Nat.gcd_pos_of_pos_right a b0
    have gb : Nat.gcd a b ≤ b := Nat.gcd_le_right a b0
    refine ⟨_, rfl, _, rfl, a, b, rfl, ?_⟩
    refine ⟨_, rfl, _, rfl, _, _, rfl, rfl, ⟨by omega, by omega⟩, _, rfl, _, rfl, _, _, rfl, rfl, ⟨by omega, by omega⟩, small _ (by show 2 ≤ 100000; decide), fun p np => ?_⟩
    have z := q p np
    rw [← Int.fdiv_eq_ediv_of_nonneg (a : Int) (show (0 : Int) ≤ (Nat.gcd a b : Int) by omega), ← Int.fdiv_eq_ediv_of_nonneg (b : Int) (show (0 : Int) ≤ (Nat.gcd a b : Int) by omega)] at z
    exact z
end
end Sv

namespace Sv
open PySem PySem.Spec PyProof.Rows L2
open Kp409 (Sifter SizeFraction classes totalFlour totalBran totalWeight misplacedInClass positionLists)
abbrev sArePositions : Stmt := top 12
abbrev sPositionLists : Stmt := top 13
section
variable {P : Program} {w : World} {K : PySem.W.Frag} {mg : Str → Option Value} {base : Heap}
/-! ### are_positions -/
def spArePos (K : PySem.W.Frag) : Sp := fun vs H Q _ => ∃ (la : Addr) (l : List Nat) (n : Nat), vs = [.ref la, .int n] ∧ SqL K H la (nats l) ∧ ∀ b : Bool, (b = true ↔ Pos n 1 l) → Q (.bl b) H
abbrev nAP : List Str := ["numbers", "size_count", "lowest", "number"]
theorem scAP : FnScope nAP ["numbers", "size_count"] (defScope sArePositions) := ⟨rfl, rfl, rfl, by decide +kernel, rfl, by decide +kernel, by decide +kernel⟩
theorem ok_are_positions {f : Addr} {fd : FuncData} {k : Nat} (D : Df K mg "are_positions" sArePositions ["numbers", "size_count"] f fd) : FnOk P w K mg base CX0 (k + 1) f fd ["numbers", "size_count"] (spArePos K) := by
  refine D.F.ok scAP (fun vs H Q E h => ?_) (fun cdv A outer s H vs Q E hr h => ?_)
  · obtain ⟨la, l, n, rfl, _⟩ := h
    rfl
  · refine ⟨_, pss_cons (ps_set (i := 2) scAP.nd rfl (.inl rfl) pe_int)
      (pss_cons (ps_for PassesOwn.never rfl (pi_list (pv 0)) (pg_name (i := 3) scAP.nd rfl (.inl rfl))
        (pss_cons (ps_if (PW.pt (pw_or (pt_cmpR op_lt (pv 3) (pv 2) (nomark _)) (pw_or1 (pt_cmpR op_ge (pv 3) (pv 1) (nomark _))))) (pss_one (ps_ret pe_bl)) pss_nil)
        (pss_one (ps_set (i := 2) scAP.nd rfl (.inl rfl) (pe_op op_add (pv 3) pe_int)))))
      (pss_one (ps_ret pe_bl))), ?_⟩
    obtain ⟨la, l, n, rfl, hS, q⟩ := h
    refine ⟨_, rfl, la, rfl, ⟨_, hS⟩, for_list (K := K) (a := la) (xs := nats l)
      (fun i σ H' => ∃ v : Option V, σ = [some (.ref la), some (.int n), some (.int (behind 1 (l.take i) : Nat)), v] ∧ H' = H ∧ Pos n 1 (l.take i))
      ⟨none, rfl, rfl, ⟨by simp, by simp, .nil⟩⟩ (fun i σ H' _ ⟨_, _, e, _⟩ => by rw [e]; exact hS) ?_ ?_⟩
    · rintro i x σ H' hx ⟨v, rfl, rfl, hp⟩
      obtain ⟨b, hb, rfl⟩ := nats_at hx
      have step := take_more hb
      have whole : Pos n 1 l → behind 1 (l.take i) ≤ b ∧ b < n := fun z => by
        have y := z.take (i + 1)
        rw [step, pos_snoc] at y
        exact y.2
      refine ⟨_, rfl, _, rfl, _, _, rfl, rfl, _, rfl, ?_⟩
      by_cases c : b < behind 1 (l.take i)
      · refine ifT (decide_eq_true (show (b : Int) < (behind 1 (l.take i) : Nat) by omega)) ?_
        exact ifT rfl (q false ⟨fun z => (nomatch z), fun z => absurd (whole z).1 (by omega)⟩)
      · refine ifF (decide_eq_false (show ¬ (b : Int) < (behind 1 (l.take i) : Nat) by omega)) ?_
        refine ⟨_, rfl, _, rfl, _, _, rfl, rfl, _, rfl, ?_⟩
        by_cases c2 : n ≤ b
        · refine ifT (decide_eq_true (show (n : Int) ≤ (b : Int) by omega)) ?_
          exact q false ⟨fun z => (nomatch z), fun z => absurd (whole z).2 (by omega)⟩
        · refine ifF (decide_eq_false (show ¬ (n : Int) ≤ (b : Int) by omega)) ?_
          refine ⟨_, rfl, _, _, rfl, rfl, some (.int b), ?_, rfl, ?_⟩
          · rw [step, behind_snoc]
            rfl
          · rw [step, pos_snoc]
            exact ⟨hp, by omega, by omega⟩
    · rintro σ H' ⟨v, rfl, rfl, hp⟩
      refine q true ⟨fun _ => ?_, fun _ => rfl⟩
      rwa [List.length_map, List.take_length] at hp

/-! ### position_lists -/
/-- a list of positions that is not the one at q -/
def PlV (H0 H : Hp) (q : Addr) (v : V) (l : List Nat) : Prop := ∃ a, v = .ref a ∧ a ≠ q ∧ H0 a = none ∧ H a = some (.lst (nats l))
/-- a list of positions that is new behind H0 -/
def PlW (H0 H : Hp) (v : V) (l : List Nat) : Prop := ∃ a, v = .ref a ∧ H0 a = none ∧ H a = some (.lst (nats l))
def spPosLists : Sp := fun vs H Q _ => ∃ n k : Nat, vs = [.int n, .int k] ∧ n ≤ 10 ∧ k ≤ 10 ∧ ∀ (H' : Hp) (p : Addr) (ts : List V), Same H H' → H p = none → H' p = some (.lst ts) → All2 (PlW H H') ts (positionLists n k 1) → Q (.ref p) H'
abbrev nPL : List Str := ["size_count", "count", "lists", "step", "longer", "positions", "lowest", "position"]
theorem scPL : FnScope nPL ["size_count", "count"] (defScope sPositionLists) := ⟨rfl, rfl, rfl, by decide +kernel, rfl, by decide +kernel, by decide +kernel⟩
/-- the lists that come of one -/
def ext (n : Nat) (l : List Nat) : List (List Nat) := ((List.range n).drop (behind 1 l)).map fun p => l ++ [p]
theorem ext_at {n : Nat} {l : List Nat} {t : Nat} (h : behind 1 l + t < n) : (ext n l)[t]? = some (l ++ [behind 1 l + t]) := by
  unfold ext
  rw [List.getElem?_map, List.getElem?_drop, List.getElem?_range h]
  rfl
theorem ext_len (n : Nat) (l : List Nat) : (ext n l).length = n - behind 1 l := by
  unfold ext
  simp
theorem posl_big {n k : Nat} (h : n ≤ 10) : (positionLists n k 1).length ≤ 1024 := Nat.le_trans (positionLists_room n 10 k 1 (by omega)) (by decide)
theorem last_at {l : List Nat} {y : Nat} (h : l.getLast? = some y) : atI (nats l) (-1) = some (.int y) := by
  rcases nil_or_snoc l with e | ⟨m, z, e⟩
  · rw [e] at h
    cases h
  · subst e
    rw [List.getLast?_concat] at h
    cases h
    have e2 : nats (m ++ [y]) = nats m ++ [V.int (y : Int)] := by simp [nats]
    rw [e2]
    exact atI_last _ _
theorem behind_le_of {n i j : Nat} {l : List Nat} (h : (positionLists n i 1)[j]? = some l) (hn : n ≤ 10) : behind 1 l ≤ 11 := by
  have z := (mem_positionLists.mp (List.mem_of_getElem? h)).2
  rcases nil_or_snoc l with e | ⟨m, y, e⟩
  · subst e
    decide
  · subst e
    rw [behind_snoc]
    have := z.hi y (by simp)
    omega
theorem ok_position_lists {f : Addr} {fd : FuncData} {k : Nat} (D : Df K mg "position_lists" sPositionLists ["size_count", "count"] f fd) (T : Own mg) : FnOk P w K mg base CX0 (k + 1) f fd ["size_count", "count"] spPosLists := by
  refine D.F.ok scPL (fun vs H Q E h => ?_) (fun cdv A outer s H vs Q E hr h => ?_)
  · obtain ⟨n, k, rfl, _⟩ := h
    rfl
  · refine ⟨_, pss_cons (ps_set (i := 2) scPL.nd rfl (.inl rfl) (pe_lst (pa_cons (pe_lst pa_nil) pa_nil)))
      (pss_cons (ps_for PassesOwn.never rfl (pi_range1 rfl T.range (pa_cons (pv 1) pa_nil)) (pg_name (i := 3) scPL.nd rfl (.inl rfl))
        (pss_cons (ps_set (i := 4) scPL.nd rfl (.inl rfl) (pe_lst pa_nil))
        (pss_cons (ps_for PassesOwn.never rfl (pi_list (pv 2)) (pg_name (i := 5) scPL.nd rfl (.inl rfl))
          (pss_cons (ps_set (i := 6) scPL.nd rfl (.inl rfl) (pe_ifExp (pt_truth (pv 5) (by intro _; rfl)) (pe_op op_add (pe_ix ix_list (pv 5) (pe_un un_neg pe_int) (fun _ _ => rfl)) pe_int) pe_int))
          (pss_one (ps_for PassesOwn.never rfl (pi_range2 (by rfl) T.range (pa_cons (pv 6) (pa_cons (pv 0) pa_nil))) (pg_name (i := 7) scPL.nd rfl (.inl rfl))
            (pss_one (ps_expr (pe_bm PySem.F.plainAttrs_list PySem.F.slot_list_append PySem.F.type_list_append mt_append (pv 4) (pa_cons (pe_op op_cat (pv 5) (pe_lst (pa_cons (pv 7) pa_nil))) pa_nil))))))))
        (pss_one (ps_set (i := 2) scPL.nd rfl (.inl rfl) (pv 4))))))
      (pss_one (ps_ret (pv 2)))), ?_⟩
    obtain ⟨n, kk, rfl, hn, hk, q⟩ := h
    -- lists = [[]]
    refine ⟨Nat.zero_le _, fun e0 ne0 => ⟨small _ (by show 1 ≤ 100000; decide), fun p0 np0 => ?_⟩⟩
    have s0 : Same H (upd (upd H e0 (.lst [])) p0 (.lst [.ref e0])) := (same_new ne0).trans (same_new np0)
    have a0 : (upd (upd H e0 (.lst [])) p0 (.lst [.ref e0])) e0 = some (.lst []) := same_new np0 _ _ upd_same
    have b0 : (upd (upd H e0 (.lst [])) p0 (.lst [.ref e0])) p0 = some (.lst [.ref e0]) := upd_same
    have f0 : H p0 = none := by
      by_cases c : p0 = e0
      · rw [c]
        exact ne0
      · rwa [upd_ne c] at np0
    generalize upd (upd H e0 (.lst [])) p0 (.lst [.ref e0]) = H0 at s0 a0 b0
    -- for step in range(count)
    refine ⟨_, rfl, (kk : Int), rfl, by omega, by omega, for_range (lo := 0) (n := kk)
      (fun i σ H' => ∃ (p : Addr) (ts : List V) (w3 w4 w5 w6 w7 : Option V), σ = [some (.int n), some (.int kk), some (.ref p), w3, w4, w5, w6, w7] ∧ Same H H' ∧ H p = none ∧ H' p = some (.lst ts) ∧ All2 (PlW H H') ts (positionLists n i 1))
      ⟨p0, _, none, none, none, none, none, rfl, s0, f0, b0, All2.one ⟨e0, rfl, ne0, a0⟩⟩ ?_ ?_⟩
    · rintro i σ H1 hi ⟨p, ts, w3, w4, w5, w6, w7, rfl, s1, fp, hp, hts⟩
      have tl : ts.length ≤ 1024 := by
        rw [hts.len]
        exact posl_big hn
      -- longer = []
      refine ⟨Nat.zero_le _, fun lg nlg => ?_⟩
      have s2 : Same H1 (upd H1 lg (.lst [])) := same_new nlg
      have l2 : (upd H1 lg (.lst [])) lg = some (.lst []) := upd_same
      have nlgH : H lg = none := s1.free nlg
      generalize upd H1 lg (.lst []) = H2 at s2 l2
      -- for positions in lists
      refine ⟨_, rfl, p, rfl, ⟨_, SqL.of (s2 _ _ hp)⟩, for_list (K := K) (a := p) (xs := ts)
        (fun j σ H' => ∃ (ws : List V) (w3 w5 w6 w7 : Option V), σ = [some (.int n), some (.int kk), some (.ref p), w3, some (.ref lg), w5, w6, w7] ∧ Same H1 H' ∧ H' lg = some (.lst ws) ∧ All2 (PlV H H' lg) ws (((positionLists n i 1).take j).flatMap (ext n)))
        ⟨[], _, _, _, _, rfl, s2, l2, All2.nil⟩ (fun j σ H' _ ⟨_, _, _, _, _, _, z, _, _⟩ => SqL.of (z _ _ hp)) ?_ ?_⟩
      · rintro j x σ H3 hx ⟨ws, w3', w5', w6', w7', rfl, s3, l3, hws⟩
        obtain ⟨l, hl, a, rfl, na0, ha⟩ := hts.some_of hx
        have a3 := s3 _ _ ha
        have step := take_more hl
        have ll : l.length ≤ 10 := by
          have m : l ∈ positionLists n i 1 := List.mem_of_getElem? hl
          have z := mem_positionLists.mp m
          have := pos_len z.2
          omega
        -- lowest
        refine ⟨_, rfl, !(nats l).isEmpty, .inl ⟨_, SqL.of a3, rfl⟩, ?_⟩
        have go : ∀ v6 : V, v6 = .int (behind 1 l : Nat) → tFor (iRng2 (tCons (tVar 6) (tCons (tVar 0) tNil))) (gName 7)
            (tDrop (tBM K "list" rAppend (tVar 4) (tCons (tOp rCat (tVar 5) (tLst (tCons (tVar 7) tNil))) tNil)))
            { nx := fun σ H' => ∃ (ws : List V) (w3 w5 w6 w7 : Option V), σ = [some (.int n), some (.int kk), some (.ref p), w3, some (.ref lg), w5, w6, w7] ∧ Same H1 H' ∧ H' lg = some (.lst ws) ∧ All2 (PlV H H' lg) ws (((positionLists n i 1).take (j + 1)).flatMap (ext n)),
              rt := Q } [some (.int n), some (.int kk), some (.ref p), w3', some (.ref lg), some (.ref a), some v6, w7'] H3 := by
          rintro v6 rfl
          refine ⟨_, rfl, _, rfl, (behind 1 l : Nat), (n : Int), rfl, by
            have := behind_le_of hl hn
            omega, for_range (lo := (behind 1 l : Nat)) (n := ((n : Int) - (behind 1 l : Nat)).toNat)
            (fun t σ H' => ∃ (ws : List V) (w7 : Option V), σ = [some (.int n), some (.int kk), some (.ref p), w3', some (.ref lg), some (.ref a), some (.int (behind 1 l : Nat)), w7] ∧ Same H1 H' ∧ H' lg = some (.lst ws) ∧
              All2 (PlV H H' lg) ws (((positionLists n i 1).take j).flatMap (ext n) ++ (ext n l).take t))
            ⟨ws, _, rfl, s3, l3, by rw [List.take_zero, List.append_nil]; exact hws⟩ ?_ ?_⟩
          · rintro t σ H4 ht ⟨ws4, w74, rfl, s4, l4, hws4⟩
            have htn : behind 1 l + t < n := by omega
            have et := ext_at htn
            have wl : ws4.length ≤ 2048 := by
              rw [hws4.len, List.length_append, List.length_take]
              have h1 := flatMap_take_len (positionLists n i 1) (ext n) j
              have h2 : ((positionLists n i 1).flatMap (ext n)).length ≤ 1024 := by
                have z := positionLists_more n i 1
                have y : positionLists n (i + 1) 1 = (positionLists n i 1).flatMap (ext n) := z
                rw [← y]
                exact posl_big hn
              rw [ext_len]
              omega
            -- longer.append(positions + [position])
            refine ⟨_, rfl, .inl ⟨rfl, _, SqL.of l4⟩, _, rfl, _, rfl, small _ (by show 1 ≤ 100000; decide), fun b nb => ?_⟩
            have s5 : Same H4 (upd H4 b (.lst [V.int ((behind 1 l : Nat) + (t : Nat) : Int)])) := same_new nb
            have b5 : (upd H4 b (.lst [V.int ((behind 1 l : Nat) + (t : Nat) : Int)])) b = some (.lst [V.int ((behind 1 l : Nat) + (t : Nat) : Int)]) := upd_same
            generalize upd H4 b (.lst [V.int ((behind 1 l : Nat) + (t : Nat) : Int)]) = H5 at s5 b5
            refine ⟨a, b, _, _, rfl, rfl, s5 _ _ (s4 _ _ ha), b5, small _ (by simp only [List.length_map, List.length_singleton]; omega), fun c nc => ?_⟩
            have ec : nats l ++ [V.int ((behind 1 l : Nat) + (t : Nat) : Int)] = nats (l ++ [behind 1 l + t]) := by simp [nats]
            rw [ec]
            have s6 : Same H5 (upd H5 c (.lst (nats (l ++ [behind 1 l + t])))) := same_new nc
            have c6 : (upd H5 c (.lst (nats (l ++ [behind 1 l + t])))) c = some (.lst (nats (l ++ [behind 1 l + t]))) := upd_same
            have clg : c ≠ lg := (ne_of_none (s5 _ _ l4) nc).symm
            generalize upd H5 c (.lst (nats (l ++ [behind 1 l + t]))) = H6 at s6 c6
            have s46 : Same H4 H6 := s5.trans s6
            refine ⟨lg, ws4, _, rfl, rfl, s46 _ _ l4, ltLine (by omega), ws4 ++ [.ref c], _, rfl, fun z u e => ?_, upd_same, ?_⟩
            · rw [upd_ne (ne_of_none e nlg)]
              exact s46 _ _ (s4 _ _ e)
            · rw [take_more et, ← List.append_assoc]
              have old : All2 (PlV H (upd H6 lg (.lst (ws4 ++ [.ref c]))) lg) ws4 (((positionLists n i 1).take j).flatMap (ext n) ++ (ext n l).take t) := hws4.imp fun v m ⟨a', ev, na', f0', ea'⟩ => by
                refine ⟨a', ev, na', f0', ?_⟩
                rw [upd_ne na']
                exact s46 _ _ ea'
              refine old.app (All2.one ⟨c, rfl, clg, (s1.trans (s4.trans s5)).free nc, ?_⟩)
              rw [upd_ne clg]
              exact c6
          · rintro σ H4 ⟨ws4, w74, rfl, s4, l4, hws4⟩
            refine ⟨ws4, _, _, _, _, rfl, s4, l4, ?_⟩
            rw [step, List.flatMap_append, List.flatMap_singleton]
            have all : (ext n l).take ((n : Int) - (behind 1 l : Nat)).toNat = ext n l := List.take_of_length_le (by rw [ext_len]; omega)
            rwa [all] at hws4
        cases el : l.getLast? with
        | none =>
          have e0 : l = [] := List.getLast?_eq_none_iff.mp el
          subst e0
          exact ifF rfl (go _ rfl)
        | some y =>
          have ne : (!(nats l).isEmpty) = true := by
            cases l with
            | nil => cases el
            | cons _ _ => rfl
          have eb : behind 1 l = y + 1 := by
            unfold behind
            rw [el]
          refine ifT ne ⟨_, rfl, 1, rfl, a, _, -1, _, rfl, rfl, SqL.of a3, last_at el, _, _, rfl, rfl, go _ ?_⟩
          rw [eb]
          rfl
      · rintro σ H3 ⟨ws, w3', w5', w6', w7', rfl, s3, l3, hws⟩
        rw [hts.len, List.take_length] at hws
        refine ⟨_, rfl, lg, ws, _, _, _, _, _, rfl, s1.trans s3, nlgH, l3, ?_⟩
        rw [positionLists_more]
        exact hws.imp fun v m ⟨a', ev, _, f0', ea'⟩ => ⟨a', ev, f0', ea'⟩
    · rintro σ H1 ⟨p, ts, w3, w4, w5, w6, w7, rfl, s1, fp, hp, hts⟩
      exact ⟨_, rfl, q H1 p ts s1 fp hp hts⟩
end
end Sv

namespace Sv
open PySem PySem.Spec PyProof.Rows L2 LamX NdefX
open Kp409 (Sifter SizeFraction classes totalFlour totalBran totalWeight misplacedInClass positionLists)
abbrev sLowestPos : Stmt := top 14
abbrev sBestPos : Stmt := top 15
abbrev sMostEven : Stmt := top 16
abbrev sBestAmount : Stmt := top 17
/-- the key of «return min(.., key=..)» behind one assignment -/
def keyOf : List Stmt → Expr
  | [_, .Return (some (.Call _ _ [⟨_, e, _⟩] _)) _] => e
  | _ => .Constant .none 0 ⟨0, 0, 0, 0⟩
def lamArgs : Expr → Arguments
  | .Lambda a _ _ _ => a
  | _ => defArgs (top 0)
def lamBody : Expr → Expr
  | .Lambda _ b _ _ => b
  | e => e
def lamScope : Expr → Scope
  | .Lambda _ _ s _ => s
  | _ => defScope (top 0)
abbrev eKey : Expr := keyOf (defBody sLowestPos)
abbrev qKey : Str := "lowest_positions.<locals>.<lambda>"
/-- the table of the key's code object -/
abbrev TT (P : Addr) : List (Addr × Str) := [(P, qKey)]
/-- all but the tables stays, and they stand -/
structure Still (T : List (Addr × Str)) (H H' : Hp) : Prop where
  ext : ExtN H H'
  tabs : Tabs T H'
theorem Still.trans {T : List (Addr × Str)} {H H1 H2 : Hp} (a : Still T H H1) (b : Still T H1 H2) : Still T H H2 := ⟨a.ext.trans b.ext, b.tabs⟩
theorem Still.of {T : List (Addr × Str)} {H H' : Hp} (t : Tabs T H) (s : Same H H') : Still T H H' := ⟨ExtN.of s, t.ext s⟩
theorem Still.then {T : List (Addr × Str)} {H H1 H2 : Hp} (a : Still T H H1) (b : Same H1 H2) : Still T H H2 := a.trans (.of a.tabs b)
theorem Still.lst {T : List (Addr × Str)} {H H' : Hp} (a : Still T H H') {l : Addr} {xs : List V} (h : H l = some (.lst xs)) : H' l = some (.lst xs) := a.ext _ _ h (by intro ps z; cases z)
theorem Still.tup {T : List (Addr × Str)} {H H' : Hp} (a : Still T H H') {l : Addr} {xs : List V} (h : H l = some (.tup xs)) : H' l = some (.tup xs) := a.ext _ _ h (by intro ps z; cases z)
theorem Still.ins {T : List (Addr × Str)} {H H' : Hp} (a : Still T H H') {l C dx : Addr} {fs : List (Str × V)} (h : H l = some (.ins C dx fs)) : H' l = some (.ins C dx fs) := a.ext _ _ h (by intro ps z; cases z)
theorem Still.sz {T : List (Addr × Str)} {H H' : Hp} (a : Still T H H') {l : Addr} {sz : List SizeFraction} (h : SzL H l sz) : SzL H' l sz := by
  obtain ⟨vs, e, q⟩ := h
  exact ⟨vs, a.lst e, q.imp fun _ _ ⟨t, ev, z⟩ => ⟨t, ev, a.tup z⟩⟩
/-- nothing that was tracked is gone -/
theorem Still.free {T : List (Addr × Str)} {H H' : Hp} (a : Still T H H') {b : Addr} (nt : ∀ ps, H b ≠ some (.tbl ps)) (h : H' b = none) : H b = none := by
  cases e : H b with
  | none => rfl
  | some u =>
    have z := a.ext b u e fun ps w => nt ps (by rw [e, w])
    rw [h] at z
    cases z
section
variable {P : Program} {w : World} {K : PySem.W.Frag} {mg : Str → Option Value} {base : Heap}
/-- a def of CX0 with its promise -/
structure Def0 (P : Program) (w : World) (K : PySem.W.Frag) (mg : Str → Option Value) (base : Heap) (k : Nat) (f : Addr) (sp : Sp) : Prop where
  ex : ∃ (fd : FuncData) (ps : List Str), FnOk P w K mg base CX0 k f fd ps sp ∧ PySem.W.keepIn K (.ref f) = true ∧ Binds K fd ps []
def tCall0 (i : Nat) (S : Addr → Sp → Prop) (E : XK) (t : TA) : TE := fun σ H Q => ∃ f sp, σ[i]? = some (some (.ref f)) ∧ S f sp ∧ t σ H fun vs H1 => sp vs H1 Q E
theorem pe_call0 {X : Cx} {k i : Nat} {x : Str} {p pos : PySem.Pos} {e : Expr} {es : List Expr} {t : TA} {S : Addr → Sp → Prop} {E : XK} (D : ∀ f sp, S f sp → Def0 X.prog X.w X.K X.mg X.base k f sp) (hr : Room k X.A) (hN : X.N[i]? = some x) (hv : Vis X.env.scope x) (hx : Passes CX0 X E) (ha : PA X (e :: es) t)
    (hdb : (x == ("__debug__" : Str)) = false := by decide) (hcd : (x == ("__classdict__" : Str)) = false := by decide)
    (he : starEach (e :: es) X.env = (false, eval e X.env) :: starEach es X.env := by rfl) (hpl : (backTo pos (starEach es X.env)).any (·.1) = false := by rfl) : PE X (.Call (.Name x p) (e :: es) [] pos) (tCall0 i S E t) := by
  refine ⟨fun pins s σ H Q I h => ?_⟩
  obtain ⟨f, sp, hs, hS, ht⟩ := h
  obtain ⟨fd, ps, F, hk, hb⟩ := (D f sp hS).ex
  refine (pe_callL (i := i) (f := f) (sp := sp) (dvs := []) (E := E) F hr hN hv hk hb .nil hx ha hdb hcd he hpl).run pins s σ H Q I ⟨hs, ?_⟩
  have e0 : (fun (vs : List V) (H1 : Hp) => sp (vs ++ []) H1 Q E) = fun vs H1 => sp vs H1 Q E := by
    funext vs H1
    rw [List.append_nil]
  show t σ H (fun vs H1 => sp (vs ++ []) H1 Q E)
  rw [e0]
  exact ht
/-! ### lowest_positions -/
/-- the measures that are handed in -/
def MeasS (fm fh : Addr) (f : Addr) (g : Sifter → List Nat → Nat) : Prop := (f = fm ∧ g = Kp409.misplaced) ∨ (f = fh ∧ g = Kp409.heaviestClass)
def spLow (fm fh PT : Addr) : Sp := fun vs H Q _ => ∃ (ls m : Addr) (s : Sifter) (k : Nat) (g : Sifter → List Nat → Nat), vs = [.ref ls, .int k, .ref m] ∧ MeasS fm fh m g ∧ Tabs (TT PT) H ∧ SzL H ls s.sizes ∧ s.sizes.length ≤ 10 ∧ k ≤ 10 ∧ positionLists s.sizes.length k 1 ≠ [] ∧
  ∀ (H' : Hp) (p : Addr) (l : List Nat), Still (TT PT) H H' → H p = none → H' p = some (.lst (nats l)) → Kp409.lowest (g s) (positionLists s.sizes.length k 1) = some l → Q (.ref p) H'
abbrev nLow : List Str := ["sizes", "count", "measure", "lists"]
theorem scLow : FnScope nLow ["sizes", "count", "measure"] (defScope sLowestPos) := ⟨rfl, rfl, rfl, by decide +kernel, rfl, by decide +kernel, by decide +kernel⟩
abbrev nLam : List Str := ["positions", "measure", "sizes"]
theorem scLam : NScope nLam ["positions"] ["measure", "sizes"] (lamScope eKey) := nscope_by (by decide +kernel)
theorem lowest_at {g : List Nat → Nat} {ls : List (List Nat)} {i : Nat} {l : List Nat} (hl : ls[i]? = some l) (h : LeastAt (fun j => ((g (ls.getD j []) : Nat) : Int)) ls.length i) : Kp409.lowest g ls = some l := by
  have c : ∀ j x, ls[j]? = some x → ls.getD j [] = x := fun j x e => by rw [List.getD_eq_getElem?_getD, e]; rfl
  refine lowest_of_first (k := i) ⟨hl, fun j x hx => ?_, fun j x hj hx => ?_⟩
  · have z := (h j (lt_of_at hx)).1
    simp only [c i l hl, c j x hx] at z
    omega
  · have z := (h j (lt_of_at hx)).2 hj
    simp only [c i l hl, c j x hx] at z
    omega
theorem ok_lowest_positions {f fP fm fh c PT : Addr} {fd fdP : FuncData} {k : Nat} (D : Df K mg "lowest_positions" sLowestPos ["sizes", "count", "measure"] f fd) (T : Own mg) (hcd : fd.code = .ref c) (TB : TabB base mg c PT) (A1 : Df K mg "position_lists" sPositionLists ["size_count", "count"] fP fdP)
    (GM : ∀ m g, MeasS fm fh m g → Def0 P w K mg base (k + 4) m (spMeas g)) : FnOk P w K mg base CX0 (k + 7) f fd ["sizes", "count", "measure"] (spLow fm fh PT) := by
  have GP : FnOk P w K mg base CX0 (k + 1) fP fdP ["size_count", "count"] spPosLists := ok_position_lists A1 T
  refine fun_okC D.F hcd scLow (fun vs H Q E h => ?_) (fun A outer s H vs Q E hr h => ?_)
  · obtain ⟨ls, m, s, k, g, rfl, _⟩ := h
    rfl
  · refine ⟨_, pss_cons (ps_set (i := 3) scLow.nd rfl (.inl rfl) (pe_call GP (hr.mono (by omega)) rfl A1.g A1.F.kp A1.b .nil pass0 (pa_cons (pe_callB call_len_seq (by rfl) T.len PySem.boot_len (pa_cons (pv 0) pa_nil)) (pa_cons (pv 1) pa_nil))))
      (pss_one (ps_ret (pe_minK rfl (by rfl) T.min (pa_cons (pv 3) pa_nil) (pk_cons (pe_lamb (T := TT PT) TB rfl (by exact List.mem_singleton.mpr rfl) (fun p hp _ => by rw [List.mem_singleton.mp hp]; rfl) rfl (ndef_free (sc := defScope sLowestPos) (nsc := lamScope eKey) (fr := ["measure", "sizes"]) (by decide +kernel))) pk_nil)))), ?_⟩
    obtain ⟨ls, m, sf, n, g, rfl, hm, hT, hz, h10, hn, hne, q⟩ := h
    obtain ⟨vs, hl, hz'⟩ := id hz
    -- lists = position_lists(len(sizes), count)
    refine ⟨_, rfl, ls, _, rfl, .inl (SqL.of hl), _, rfl, sf.sizes.length, n, by rw [hz'.len]; rfl, h10, hn, fun H1 p ts s1 np hp hts => ?_⟩
    -- min(lists, key=lambda positions: measure(sizes, positions))
    have t1 : Tabs (TT PT) H1 := hT.ext s1
    refine ⟨_, rfl, t1, fun fl b H2 e2 t2 nf hf hb => ?_⟩
    have st : Still (TT PT) H1 H2 := ⟨e2, t2⟩
    have hp2 := st.lst hp
    have hts2 : All2 (PlW H H2) ts (positionLists sf.sizes.length n 1) := hts.imp fun v l ⟨a, ev, na, e⟩ => ⟨a, ev, na, st.lst e⟩
    have tl : 0 < ts.length := by
      rw [hts2.len]
      exact List.length_pos_iff.mpr hne
    refine ⟨p, fl, ts, fun j => ((g sf ((positionLists sf.sizes.length n 1).getD j []) : Nat) : Int), rfl, rfl, hp2, tl, ?_, fun i x H3 hx hle sm => ?_⟩
    · have hz2 : SzL H2 ls sf.sizes := st.sz (hz.same s1)
      refine key_go (N := nLam) (fr := ["measure", "sizes"]) (a := "positions") (js := [2, 0]) (k := k + 4) scLam (fun pm ctv u => rfl) (hr.mono (by omega)) hf hb (fun ok => Caps.made ok (ndef_free (sc := defScope sLowestPos) (nsc := lamScope eKey) (fr := ["measure", "sizes"]) (by decide +kernel)) (ndef_fr (sc := defScope sLowestPos) (nsc := lamScope eKey) (fr := ["measure", "sizes"]) (by decide +kernel)) rfl) (fun A2 o2 s2 H3 i x hr2 hx sm => ?_)
      obtain ⟨l, hl', a, rfl, na, ha⟩ := hts2.some_of hx
      have mem := mem_positionLists.mp (List.mem_of_getElem? hl')
      refine ⟨_, pe_call0 (i := 1) (S := fun m' sp => ∃ g, MeasS fm fh m' g ∧ sp = spMeas g) (E := fun _ _ _ => False) (fun m' sp ⟨g, hm, e⟩ => by rw [e]; exact GM m' g hm) hr2 rfl (.inr (.inr rfl)) pass0 (pa_cons (pe_var (i := 2) rfl (.inr (.inr rfl))) (pa_cons (pe_var (i := 0) rfl (.inl rfl)) pa_nil)), ?_⟩
      refine ⟨m, spMeas g, rfl, ⟨g, hm, rfl⟩, _, rfl, _, rfl, ls, a, sf, l, rfl, hz2.same sm, h10, sm _ _ ha, mem.2, fun H4 s4 => ⟨?_, s4⟩⟩
      show V.int (g sf l : Nat) = V.int ((g sf ((positionLists sf.sizes.length n 1).getD i []) : Nat) : Int)
      rw [List.getD_eq_getElem?_getD, hl']
      rfl
    · obtain ⟨l, hl', a, rfl, na, ha⟩ := hts2.some_of hx
      rw [hts2.len] at hle
      exact q H3 a l ((Still.of hT s1).trans (st.then sm)) na (sm _ _ ha) (lowest_at hl' hle)
end
end Sv

namespace Sv
open PySem PySem.Spec PyProof.Rows L2 LamX NdefX
open Kp409 (Sifter SizeFraction classes totalFlour totalBran totalWeight misplacedInClass positionLists)
theorem lowest_mem {cost : List Nat → Nat} {ls : List (List Nat)} {l : List Nat} (h : Kp409.lowest cost ls = some l) : l ∈ ls := by
  by_cases c : ls = []
  · subst c
    cases h
  · obtain ⟨k, b, e, f⟩ := lowest_first (cost := cost) c
    rw [e] at h
    cases h
    exact List.mem_of_getElem? f.at_
theorem lowest_le {cost : List Nat → Nat} {ls : List (List Nat)} {l : List Nat} (h : Kp409.lowest cost ls = some l) {m : List Nat} (hm : m ∈ ls) : cost l ≤ cost m := by
  by_cases c : ls = []
  · subst c
    cases h
  · obtain ⟨k, b, e, f⟩ := lowest_first (cost := cost) c
    rw [e] at h
    cases h
    obtain ⟨j, hj⟩ := List.getElem?_of_mem hm
    exact f.le j m hj
section
variable {P : Program} {w : World} {K : PySem.W.Frag} {mg : Str → Option Value} {base : Heap}
/-- the defs of positions.py, and the key's table -/
structure PosT (K : PySem.W.Frag) (mg : Str → Option Value) (fP fL fB fE fA fm fh c : Addr) (fdP fdL fdB fdE fdA : FuncData) : Prop where
  pl : Df K mg "position_lists" sPositionLists ["size_count", "count"] fP fdP
  lw : Df K mg "lowest_positions" sLowestPos ["sizes", "count", "measure"] fL fdL
  bp : Df K mg "best_positions" sBestPos ["sizes", "count"] fB fdB
  me : Df K mg "most_even_positions" sMostEven ["sizes", "count"] fE fdE
  ba : Df K mg "best_amount" sBestAmount ["sizes", "count"] fA fdA
  gm : mg "misplaced_amount" = some (.ref fm)
  gh : mg "heaviest_weight" = some (.ref fh)
  cd : fdL.code = .ref c
def spBestOf (g : Sifter → List Nat → Nat) (PT : Addr) : Sp := fun vs H Q _ => ∃ (ls : Addr) (s : Sifter) (k : Nat), vs = [.ref ls, .int k] ∧ Tabs (TT PT) H ∧ SzL H ls s.sizes ∧ s.sizes.length ≤ 10 ∧ k ≤ 10 ∧ positionLists s.sizes.length k 1 ≠ [] ∧
  ∀ (H' : Hp) (p : Addr) (l : List Nat), Still (TT PT) H H' → H p = none → H' p = some (.lst (nats l)) → Kp409.lowest (g s) (positionLists s.sizes.length k 1) = some l → Q (.ref p) H'
abbrev nBP : List Str := ["sizes", "count"]
theorem scBP : FnScope nBP ["sizes", "count"] (defScope sBestPos) := ⟨rfl, rfl, rfl, by decide +kernel, rfl, by decide +kernel, by decide +kernel⟩
theorem scME : FnScope nBP ["sizes", "count"] (defScope sMostEven) := ⟨rfl, rfl, rfl, by decide +kernel, rfl, by decide +kernel, by decide +kernel⟩
theorem scBA : FnScope nBP ["sizes", "count"] (defScope sBestAmount) := ⟨rfl, rfl, rfl, by decide +kernel, rfl, by decide +kernel, by decide +kernel⟩
variable {fP fL fB fE fA fm fh c PT : Addr} {fdP fdL fdB fdE fdA : FuncData}
theorem ok_best_positions {k : Nat} (T : Own mg) (Z : PosT K mg fP fL fB fE fA fm fh c fdP fdL fdB fdE fdA) (TB : TabB base mg c PT) (GM : ∀ m g, MeasS fm fh m g → Def0 P w K mg base (k + 4) m (spMeas g)) :
    FnOk P w K mg base CX0 (k + 8) fB fdB ["sizes", "count"] (spBestOf Kp409.misplaced PT) := by
  have GL : FnOk P w K mg base CX0 (k + 7) fL fdL ["sizes", "count", "measure"] (spLow fm fh PT) := ok_lowest_positions Z.lw T Z.cd TB Z.pl GM
  refine Z.bp.F.ok scBP (fun vs H Q E h => ?_) (fun cdv A outer s H vs Q E hr h => ?_)
  · obtain ⟨ls, s, k, rfl, _⟩ := h
    rfl
  · refine ⟨_, pss_one (ps_ret (pe_call GL hr rfl Z.lw.g Z.lw.F.kp Z.lw.b .nil pass0 (pa_cons (pv 0) (pa_cons (pv 1) (pa_cons (pe_glob (v := .ref fm) rfl Z.gm rfl) pa_nil))))), ?_⟩
    obtain ⟨ls, sf, n, rfl, hT, hz, h10, hn, hne, q⟩ := h
    exact ⟨_, rfl, _, rfl, ls, fm, sf, n, Kp409.misplaced, rfl, .inl ⟨rfl, rfl⟩, hT, hz, h10, hn, hne, q⟩
theorem ok_most_even {k : Nat} (T : Own mg) (Z : PosT K mg fP fL fB fE fA fm fh c fdP fdL fdB fdE fdA) (TB : TabB base mg c PT) (GM : ∀ m g, MeasS fm fh m g → Def0 P w K mg base (k + 4) m (spMeas g)) :
    FnOk P w K mg base CX0 (k + 8) fE fdE ["sizes", "count"] (spBestOf Kp409.heaviestClass PT) := by
  have GL : FnOk P w K mg base CX0 (k + 7) fL fdL ["sizes", "count", "measure"] (spLow fm fh PT) := ok_lowest_positions Z.lw T Z.cd TB Z.pl GM
  refine Z.me.F.ok scME (fun vs H Q E h => ?_) (fun cdv A outer s H vs Q E hr h => ?_)
  · obtain ⟨ls, s, k, rfl, _⟩ := h
    rfl
  · refine ⟨_, pss_one (ps_ret (pe_call GL hr rfl Z.lw.g Z.lw.F.kp Z.lw.b .nil pass0 (pa_cons (pv 0) (pa_cons (pv 1) (pa_cons (pe_glob (v := .ref fh) rfl Z.gh rfl) pa_nil))))), ?_⟩
    obtain ⟨ls, sf, n, rfl, hT, hz, h10, hn, hne, q⟩ := h
    exact ⟨_, rfl, _, rfl, ls, fh, sf, n, Kp409.heaviestClass, rfl, .inr ⟨rfl, rfl⟩, hT, hz, h10, hn, hne, q⟩
def spBestAmount (PT : Addr) : Sp := fun vs H Q _ => ∃ (ls : Addr) (s : Sifter) (k : Nat), vs = [.ref ls, .int k] ∧ Tabs (TT PT) H ∧ SzL H ls s.sizes ∧ s.sizes.length ≤ 10 ∧ k ≤ 10 ∧ positionLists s.sizes.length k 1 ≠ [] ∧
  ∀ (H' : Hp) (l : List Nat), Still (TT PT) H H' → Kp409.bestSieves s k = some l → Q (.int (Kp409.misplaced s l : Nat)) H'
theorem ok_best_amount {k : Nat} {fdm : FuncData} (T : Own mg) (Z : PosT K mg fP fL fB fE fA fm fh c fdP fdL fdB fdE fdA) (TB : TabB base mg c PT) (GM : ∀ m g, MeasS fm fh m g → Def0 P w K mg base (k + 4) m (spMeas g)) (M : Df K mg "misplaced_amount" sMisplacedAmount ["sizes", "positions"] fm fdm)
    (G6 : FnOk P w K mg base CX0 (k + 4) fm fdm ["sizes", "positions"] spMis) : FnOk P w K mg base CX0 (k + 9) fA fdA ["sizes", "count"] (spBestAmount PT) := by
  have GB : FnOk P w K mg base CX0 (k + 8) fB fdB ["sizes", "count"] (spBestOf Kp409.misplaced PT) := ok_best_positions T Z TB GM
  refine Z.ba.F.ok scBA (fun vs H Q E h => ?_) (fun cdv A outer s H vs Q E hr h => ?_)
  · obtain ⟨ls, s, k, rfl, _⟩ := h
    rfl
  · refine ⟨_, pss_one (ps_ret (pe_call G6 (hr.mono (by omega)) rfl M.g M.F.kp M.b .nil pass0 (pa_cons (pv 0) (pa_cons (pe_call GB hr rfl Z.bp.g Z.bp.F.kp Z.bp.b .nil pass0 (pa_cons (pv 0) (pa_cons (pv 1) pa_nil))) pa_nil)))), ?_⟩
    obtain ⟨ls, sf, n, rfl, hT, hz, h10, hn, hne, q⟩ := h
    refine ⟨_, rfl, _, rfl, _, rfl, ls, sf, n, rfl, hT, hz, h10, hn, hne, fun H1 p l st np hp hl => ?_⟩
    exact ⟨ls, p, sf, l, rfl, st.sz hz, h10, hp, (mem_positionLists.mp (lowest_mem hl)).2, fun H2 s2 => q H2 l (st.then s2) hl⟩
end
end Sv

namespace Sv
open PySem PySem.Spec PyProof.Rows L2
abbrev sSplit : Stmt := top 61
/-! ### split_calls -/
/-- a call as it is found: its number, the list of its whole numbers -/
def CallV (H : Hp) (v : V) (r : CallR') : Prop := ∃ t la, v = .ref t ∧ H t = some (.tup [.int r.1, .ref la]) ∧ H la = some (.lst (nats r.2))
/-- the same, its list elsewhere than at q, and new since H0 -/
def CallW (H0 H : Hp) (q : Addr) (v : V) (r : CallR') : Prop := ∃ t la, v = .ref t ∧ la ≠ q ∧ H0 la = none ∧ H t = some (.tup [.int r.1, .ref la]) ∧ H la = some (.lst (nats r.2))
def spSplit (K : PySem.W.Frag) : Sp := fun vs H Q _ => ∃ (a : Addr) (rs : List CallR'), vs = [.ref a] ∧ SqL K H a ((rs.flatMap encR).map V.int) ∧ (rs.flatMap encR).length ≤ 900 ∧
  ∀ (H' : Hp) (p : Addr) (ts : List V), Same H H' → H p = none → H' p = some (.lst ts) → All2 (CallW H H' p) ts rs → Q (.ref p) H'
abbrev nSC : List Str := ["calls", "found", "start", "first", "behind"]
theorem scSC : FnScope nSC ["calls"] (defScope sSplit) := ⟨rfl, rfl, rfl, by decide +kernel, rfl, by decide +kernel, by decide +kernel⟩
theorem enc_len (r : CallR') : (encR r).length = r.2.length + 3 := by
  unfold encR
  simp
/-- where the j-th call stands -/
theorem enc_split {rs : List CallR'} {j : Nat} {r : CallR'} (h : rs[j]? = some r) : rs.flatMap encR = (rs.take j).flatMap encR ++ (encR r ++ (rs.drop (j + 1)).flatMap encR) := by
  have hj := lt_of_at h
  have e : rs.drop j = r :: rs.drop (j + 1) := by
    rw [List.drop_eq_getElem_cons hj]
    rw [(List.getElem?_eq_some_iff.mp h).2]
  conv => lhs; rw [← List.take_append_drop j rs, List.flatMap_append, e, List.flatMap_cons]
theorem enc_fst {rs : List CallR'} {j : Nat} {r : CallR'} (h : rs[j]? = some r) : (rs.flatMap encR)[((rs.take j).flatMap encR).length]? = some r.1 := by
  rw [enc_split h, List.getElem?_append_right (Nat.le_refl _), Nat.sub_self]
  rfl
theorem enc_snd {rs : List CallR'} {j : Nat} {r : CallR'} (h : rs[j]? = some r) : (rs.flatMap encR)[((rs.take j).flatMap encR).length + 1]? = some (r.2.length : Int) := by
  rw [enc_split h, List.getElem?_append_right (Nat.le_add_right _ 1), Nat.add_sub_cancel_left]
  rfl
theorem enc_args {rs : List CallR'} {j : Nat} {r : CallR'} (h : rs[j]? = some r) :
    ((rs.flatMap encR).take (((rs.take j).flatMap encR).length + 2 + r.2.length)).drop (((rs.take j).flatMap encR).length + 2) = r.2.map (fun n : Nat => (n : Int)) := by
  rw [enc_split h]
  generalize (rs.take j).flatMap encR = pre
  generalize (rs.drop (j + 1)).flatMap encR = post
  have e : pre ++ (encR r ++ post) = ((pre ++ [r.1, (r.2.length : Int)]) ++ r.2.map (fun n : Nat => (n : Int))) ++ ([0] ++ post) := by
    unfold encR
    simp
  have l1 : (pre ++ [r.1, (r.2.length : Int)]).length = pre.length + 2 := by simp
  have l2 : ((pre ++ [r.1, (r.2.length : Int)]) ++ r.2.map (fun n : Nat => (n : Int))).length = pre.length + 2 + r.2.length := by
    simp
    omega
  rw [e, List.take_left' l2, List.drop_left' l1]
theorem enc_end {rs : List CallR'} {j : Nat} {r : CallR'} (h : rs[j]? = some r) : ((rs.take (j + 1)).flatMap encR).length = ((rs.take j).flatMap encR).length + 2 + r.2.length + 1 := by
  rw [take_more h, List.flatMap_append, List.flatMap_singleton, List.length_append, enc_len]
  omega
theorem enc_fits {rs : List CallR'} (j : Nat) : ((rs.take j).flatMap encR).length ≤ (rs.flatMap encR).length := flatMap_take_len rs encR j
theorem calls_few : ∀ rs : List CallR', 3 * rs.length ≤ (rs.flatMap encR).length
  | [] => Nat.zero_le _
  | r :: rs => by
    have := calls_few rs
    rw [List.flatMap_cons, List.length_append, enc_len, List.length_cons]
    omega
section
variable {P : Program} {w : World} {K : PySem.W.Frag} {mg : Str → Option Value} {base : Heap}
theorem ok_split {f : Addr} {fd : FuncData} {k : Nat} (D : Df K mg "split_calls" sSplit ["calls"] f fd) (T : Own mg) : FnOk P w K mg base CX0 (k + 1) f fd ["calls"] (spSplit K) := by
  refine D.F.ok scSC (fun vs H Q E h => ?_) (fun cdv A outer s H vs Q E hr h => ?_)
  · obtain ⟨a, rs, rfl, _⟩ := h
    rfl
  · refine ⟨_, pss_cons (ps_set (i := 1) scSC.nd rfl (.inl rfl) (pe_lst pa_nil))
      (pss_cons (ps_set (i := 2) scSC.nd rfl (.inl rfl) pe_int)
      (pss_cons (ps_while PassesOwn.never (pt_cmpR op_lt (pv 2) (pe_callB call_len_seq (by rfl) T.len PySem.boot_len (pa_cons (pv 0) pa_nil)) (nomark _))
        (pss_cons (ps_set (i := 3) scSC.nd rfl (.inl rfl) (pe_op op_add (pv 2) pe_int))
        (pss_cons (ps_set (i := 4) scSC.nd rfl (.inl rfl) (pe_op op_add (pv 3) (pe_ix ix_list (pv 0) (pe_op op_add (pv 2) pe_int) (fun _ _ => rfl))))
        (pss_cons (ps_expr (pe_bm PySem.F.plainAttrs_list PySem.F.slot_list_append PySem.F.type_list_append mt_append (pv 1)
            (pa_cons (pe_tup (pa_cons (pe_ix ix_list (pv 0) (pv 2) (fun _ _ => rfl)) (pa_cons (pe_slice sl_list (pv 0) (po_some (pv 3)) (po_some (pv 4))) pa_nil))) pa_nil)))
        (pss_one (ps_set (i := 2) scSC.nd rfl (.inl rfl) (pe_op op_add (pv 4) pe_int)))))))
      (pss_one (ps_ret (pv 1))))), ?_⟩
    obtain ⟨a, rs, rfl, hS, big, q⟩ := h
    refine ⟨Nat.zero_le _, fun o no => ?_⟩
    have s1 : Same H (upd H o (.lst [])) := same_new no
    have o1 : (upd H o (.lst [])) o = some (.lst []) := upd_same
    generalize upd H o (.lst []) = H1 at s1 o1
    refine ⟨fun m σ H' => ∃ (j : Nat) (ts : List V) (w3 w4 : Option V), m = rs.length - j ∧ j ≤ rs.length ∧ σ = [some (.ref a), some (.ref o), some (.int ((rs.take j).flatMap encR).length), w3, w4] ∧ Same H H' ∧ H' o = some (.lst ts) ∧ All2 (CallW H H' o) ts (rs.take j),
      ⟨rs.length, 0, [], none, none, rfl, Nat.zero_le _, rfl, s1, o1, All2.nil⟩, ?_⟩
    rintro m σ H2 ⟨j, ts, w3, w4, rfl, hj, rfl, s2, o2, hts⟩
    refine ⟨_, rfl, _, rfl, a, _, rfl, .inl (s2.seq hS), _, _, rfl, rfl, _, rfl, ?_⟩
    by_cases c : j < rs.length
    · have hr' : rs[j]? = some rs[j] := List.getElem?_eq_getElem c
      generalize rs[j] = r at hr'
      have en := enc_end hr'
      have ef := enc_fits (rs := rs) (j + 1)
      have few := calls_few rs
      have tl : ts.length ≤ 300 := by
        rw [hts.len, List.length_take]
        omega
      refine ifT (decide_eq_true (show (((rs.take j).flatMap encR).length : Int) < (((rs.flatMap encR).map V.int).length : Int) by rw [List.length_map]; omega)) ?_
      refine ⟨fun σ2 H3 => ∃ (ts : List V) (w3 w4 : Option V), σ2 = [some (.ref a), some (.ref o), some (.int ((rs.take (j + 1)).flatMap encR).length), w3, w4] ∧ Same H H3 ∧ H3 o = some (.lst ts) ∧ All2 (CallW H H3 o) ts (rs.take (j + 1)),
        fun σ2 H3 ⟨ts, w3, w4, e1, e2, e3, e4⟩ => ⟨rs.length - (j + 1), by omega, j + 1, ts, w3, w4, rfl, c, e1, e2, e3, e4⟩, ?_⟩
      generalize hst : ((rs.take j).flatMap encR).length = st at *
      have g1 : atI ((rs.flatMap encR).map V.int) ((st : Int) + 1) = some (.int (r.2.length : Int)) := by
        have z := enc_snd hr'
        rw [hst] at z
        have y : ((rs.flatMap encR).map V.int)[st + 1]? = some (.int (r.2.length : Int)) := by
          rw [List.getElem?_map, z]
          rfl
        exact atI_nat (j := st + 1) y
      have g0 : atI ((rs.flatMap encR).map V.int) (st : Int) = some (.int r.1) := by
        have z := enc_fst hr'
        rw [hst] at z
        have y : ((rs.flatMap encR).map V.int)[st]? = some (.int r.1) := by
          rw [List.getElem?_map, z]
          rfl
        exact atI_nat (j := st) y
      refine ⟨_, rfl, _, _, rfl, rfl, ?_⟩
      refine ⟨_, rfl, _, rfl, _, rfl, _, _, rfl, rfl, a, _, _, _, rfl, rfl, s2.seq hS, g1, _, _, rfl, rfl, ?_⟩
      refine ⟨_, rfl, .inl ⟨rfl, _, SqL.of o2⟩, _, rfl, _, rfl, a, _, _, _, rfl, rfl, s2.seq hS, g0, _, rfl, _, rfl, _, rfl, _, rfl, _, rfl, a, _, rfl, s2.seq hS, fun la nla => ?_⟩
      have ec : cutV ((rs.flatMap encR).map V.int) (some ((st : Int) + 2)) (some ((st : Int) + 2 + (r.2.length : Int))) = nats r.2 := by
        have z := cut_mid ((rs.flatMap encR).map V.int) (st + 2) (st + 2 + r.2.length) (Nat.le_add_right _ _) (by rw [List.length_map]; omega)
        have y := enc_args hr'
        rw [hst] at y
        rw [← List.map_take, ← List.map_drop, y, List.map_map] at z
        exact z
      rw [show cutV ((rs.flatMap encR).map V.int) (some ((fun i j => i + j) (st : Int) 2)) (some ((st : Int) + 2 + (r.2.length : Int))) = nats r.2 from ec]
      have s3 : Same H2 (upd H2 la (.lst (nats r.2))) := same_new nla
      have a3 : (upd H2 la (.lst (nats r.2))) la = some (.lst (nats r.2)) := upd_same
      have lao : la ≠ o := (ne_of_none o2 nla).symm
      generalize upd H2 la (.lst (nats r.2)) = H3 at s3 a3
      refine ⟨small _ (by show 2 ≤ 100000; decide), fun t nt => ?_⟩
      have s4 : Same H3 (upd H3 t (.tup [.int r.1, .ref la])) := same_new nt
      have t4 : (upd H3 t (.tup [.int r.1, .ref la])) t = some (.tup [.int r.1, .ref la]) := upd_same
      have o3 := s3 _ _ o2
      have nto : t ≠ o := (ne_of_none o3 nt).symm
      generalize upd H3 t (.tup [.int r.1, .ref la]) = H4 at s4 t4
      have s24 := s3.trans s4
      have o4 := s24 _ _ o2
      refine ⟨o, ts, _, rfl, rfl, o4, ltLine (by omega), ?_⟩
      have old : All2 (CallW H (upd H4 o (.lst (ts ++ [.ref t]))) o) ts (rs.take j) := hts.imp fun v x ⟨t', la', ev, nl, n0, h1, h2⟩ => by
        refine ⟨t', la', ev, nl, n0, ?_, ?_⟩
        · rw [upd_ne (ne_of (s24 _ _ h1) o4 (by intro z; cases z))]
          exact s24 _ _ h1
        · rw [upd_ne nl]
          exact s24 _ _ h2
      refine ⟨_, rfl, _, _, rfl, rfl, ts ++ [.ref t], some (.int ((st : Int) + 2)), some (.int ((st : Int) + 2 + (r.2.length : Int))), ?_, fun z u e => ?_, upd_same, ?_⟩
      · rw [show (((rs.take (j + 1)).flatMap encR).length : Int) = (st : Int) + 2 + (r.2.length : Int) + 1 by rw [en]; omega]
        rfl
      · rw [upd_ne (ne_of_none e no)]
        exact s24 _ _ (s2 _ _ e)
      · rw [take_more hr']
        refine old.app (All2.one ⟨t, la, rfl, lao, s2.free nla, ?_, ?_⟩)
        · rw [upd_ne nto]
          exact t4
        · rw [upd_ne lao]
          exact s4 _ _ a3
    · have e : j = rs.length := by omega
      subst e
      rw [List.take_length] at hts
      refine ifF (decide_eq_false ?_) ⟨_, rfl, q H2 o ts s2 no o2 hts⟩
      rw [List.take_length, List.length_map]
      omega
end
end Sv

namespace Sv
open PySem PySem.Spec PyProof.Rows L2
open Kp409 (Sifter SizeFraction classes totalFlour totalBran totalWeight misplacedInClass)
/-! ### the errors -/
abbrev sRefusalInit : Stmt := inClass (top 19) 0
/-- what the written part says of the base: its class at R, its __init__ at fR -/
structure RefT (K : PySem.W.Frag) (mg : Str → Option Value) (R fR : Addr) (fdR : FuncData) : Prop where
  g : mg "Refusal" = some (.ref R)
  rd : ClX.CRead K R (.type "type")
  vl : ClX.CVal K R (.type "type") "__init__" (.ref fR) (.ref fR)
  F : Fun K "__init__" "Refusal.__init__" sRefusalInit fR fdR
  b : Binds K fdR ["self", "code"] []
  eI : PySem.W.findCls K (.type "Exception") (.type "type") "__init__" = some (.val (.builtin "Exception.__init__"))
/-- of an error's class at C under R: its name, its __init__ at f that hands on the code -/
structure ErrT (K : PySem.W.Frag) (mg : Str → Option Value) (R : Addr) (x qual : Str) (st : Stmt) (C f : Addr) (fd : FuncData) : Prop where
  g : mg x = some (.ref C)
  ex : ExC K C
  iC : PySem.W.findIn K (.ref C) "__init__" = some (some (.ref f))
  tI : PySem.W.typeIn K (.ref f) = some (.type "function")
  tk : PySem.W.exmOne K (.ref C) (.ref R) = some true
  F : Fun K "__init__" qual st f fd
  b : Binds K fd ["self"] []
/-- an error with the code c, from the heap H on -/
def Raised (K : PySem.W.Frag) (R : Addr) (c : Int) (H : Hp) (E : XK) : Prop := ∀ (C d : Addr) (H1 : Hp), ExC K C → PySem.W.exmOne K (.ref C) (.ref R) = some true → Same H H1 → H1 d = none → E (.ref C) (some d) (upd H1 d (.xd [("code", .int c)]))
theorem Raised.later {K : PySem.W.Frag} {R : Addr} {c : Int} {H H' : Hp} {E : XK} (h : Raised K R c H E) (s : Same H H') : Raised K R c H' E := fun C d H1 a b s1 n => h C d H1 a b (s.trans s1) n
section
variable {P : Program} {w : World} {K : PySem.W.Frag} {mg : Str → Option Value} {base : Heap} {R fR : Addr} {fdR : FuncData}
abbrev nRI : List Str := ["self", "code"]
theorem scRI : FnScope nRI ["self", "code"] (defScope sRefusalInit) := ⟨rfl, rfl, rfl, by decide +kernel, rfl, by decide +kernel, by decide +kernel⟩
theorem ok_refusal_init {k : Nat} (T : Own mg) (B : RefT K mg R fR fdR) : FnOk P w K mg base CX0 (k + 1) fR fdR ["self", "code"] (spBase K) := by
  refine B.F.ok scRI (fun vs H Q E h => ?_) (fun cdv A outer s H vs Q E hr h => ?_)
  · obtain ⟨a, C, y, rfl, _⟩ := h
    rfl
  · refine ⟨_, pss_cons (ps_expr (pe_baseInit (by rfl) T.exc B.eI (pa_cons (pv 0) pa_nil))) (pss_one (ps_code (pv 0) (pv 1))), ?_⟩
    obtain ⟨a, C, y, rfl, t, e, q⟩ := h
    exact ⟨_, rfl, a, C, rfl, t, e, _, rfl, _, rfl, a, C, rfl, t, e, q⟩
abbrev sNoSifter : Stmt := inClass (top 20) 0
theorem scNoSifter : FnScope ["self"] ["self"] (defScope sNoSifter) := ⟨rfl, rfl, rfl, by decide +kernel, rfl, by decide +kernel, by decide +kernel⟩
theorem ok_NoSifter {k : Nat} {C f : Addr} {fd : FuncData} (T : Own mg) (B : RefT K mg R fR fdR) (X : ErrT K mg R "NoSifter" "NoSifter.__init__" sNoSifter C f fd) : FnOk P w K mg base CX0 (k + 2) f fd ["self"] (spCoded K (-11)) := by
  have G : FnOk P w K mg base CX0 (k + 1) fR fdR ["self", "code"] (spBase K) := ok_refusal_init T B
  refine X.F.ok scNoSifter (fun vs H Q E h => ?_) (fun cdv A outer s H vs Q E hr h => ?_)
  · obtain ⟨a, rfl, _⟩ := h
    rfl
  · refine ⟨_, pss_one (ps_expr (pe_offClass G hr (by rfl) B.g B.rd B.vl B.F.kp B.b pass0 (pa_cons (pv 0) (pa_cons (pe_un un_neg pe_int) pa_nil)))), ?_⟩
    obtain ⟨a, rfl, q⟩ := h
    exact ⟨_, rfl, _, rfl, q⟩
/-- what is asked of «raise NoSifter()» -/
theorem raise_NoSifter {C f : Addr} {fd : FuncData} (X : ErrT K mg R "NoSifter" "NoSifter.__init__" sNoSifter C f fd) {σ : L2.St} {H : Hp} {E : XK} (h : Raised K R (-11) H E) : tMkC C (spCoded K (-11)) σ H E :=
  made_coded X.ex fun d nd => h C d H X.ex X.tk (Same.refl H) nd

abbrev sNotThere : Stmt := inClass (top 21) 0
theorem scNotThere : FnScope ["self"] ["self"] (defScope sNotThere) := ⟨rfl, rfl, rfl, by decide +kernel, rfl, by decide +kernel, by decide +kernel⟩
theorem ok_NotThere {k : Nat} {C f : Addr} {fd : FuncData} (T : Own mg) (B : RefT K mg R fR fdR) (X : ErrT K mg R "NotThere" "NotThere.__init__" sNotThere C f fd) : FnOk P w K mg base CX0 (k + 2) f fd ["self"] (spCoded K (-2)) := by
  have G : FnOk P w K mg base CX0 (k + 1) fR fdR ["self", "code"] (spBase K) := ok_refusal_init T B
  refine X.F.ok scNotThere (fun vs H Q E h => ?_) (fun cdv A outer s H vs Q E hr h => ?_)
  · obtain ⟨a, rfl, _⟩ := h
    rfl
  · refine ⟨_, pss_one (ps_expr (pe_offClass G hr (by rfl) B.g B.rd B.vl B.F.kp B.b pass0 (pa_cons (pv 0) (pa_cons (pe_un un_neg pe_int) pa_nil)))), ?_⟩
    obtain ⟨a, rfl, q⟩ := h
    exact ⟨_, rfl, _, rfl, q⟩
/-- what is asked of «raise NotThere()» -/
theorem raise_NotThere {C f : Addr} {fd : FuncData} (X : ErrT K mg R "NotThere" "NotThere.__init__" sNotThere C f fd) {σ : L2.St} {H : Hp} {E : XK} (h : Raised K R (-2) H E) : tMkC C (spCoded K (-2)) σ H E :=
  made_coded X.ex fun d nd => h C d H X.ex X.tk (Same.refl H) nd

abbrev sOutsideLimits : Stmt := inClass (top 22) 0
theorem scOutsideLimits : FnScope ["self"] ["self"] (defScope sOutsideLimits) := ⟨rfl, rfl, rfl, by decide +kernel, rfl, by decide +kernel, by decide +kernel⟩
theorem ok_OutsideLimits {k : Nat} {C f : Addr} {fd : FuncData} (T : Own mg) (B : RefT K mg R fR fdR) (X : ErrT K mg R "OutsideLimits" "OutsideLimits.__init__" sOutsideLimits C f fd) : FnOk P w K mg base CX0 (k + 2) f fd ["self"] (spCoded K (-22)) := by
  have G : FnOk P w K mg base CX0 (k + 1) fR fdR ["self", "code"] (spBase K) := ok_refusal_init T B
  refine X.F.ok scOutsideLimits (fun vs H Q E h => ?_) (fun cdv A outer s H vs Q E hr h => ?_)
  · obtain ⟨a, rfl, _⟩ := h
    rfl
  · refine ⟨_, pss_one (ps_expr (pe_offClass G hr (by rfl) B.g B.rd B.vl B.F.kp B.b pass0 (pa_cons (pv 0) (pa_cons (pe_un un_neg pe_int) pa_nil)))), ?_⟩
    obtain ⟨a, rfl, q⟩ := h
    exact ⟨_, rfl, _, rfl, q⟩
/-- what is asked of «raise OutsideLimits()» -/
theorem raise_OutsideLimits {C f : Addr} {fd : FuncData} (X : ErrT K mg R "OutsideLimits" "OutsideLimits.__init__" sOutsideLimits C f fd) {σ : L2.St} {H : Hp} {E : XK} (h : Raised K R (-22) H E) : tMkC C (spCoded K (-22)) σ H E :=
  made_coded X.ex fun d nd => h C d H X.ex X.tk (Same.refl H) nd

abbrev sTooManySizes : Stmt := inClass (top 23) 0
theorem scTooManySizes : FnScope ["self"] ["self"] (defScope sTooManySizes) := ⟨rfl, rfl, rfl, by decide +kernel, rfl, by decide +kernel, by decide +kernel⟩
theorem ok_TooManySizes {k : Nat} {C f : Addr} {fd : FuncData} (T : Own mg) (B : RefT K mg R fR fdR) (X : ErrT K mg R "TooManySizes" "TooManySizes.__init__" sTooManySizes C f fd) : FnOk P w K mg base CX0 (k + 2) f fd ["self"] (spCoded K (-28)) := by
  have G : FnOk P w K mg base CX0 (k + 1) fR fdR ["self", "code"] (spBase K) := ok_refusal_init T B
  refine X.F.ok scTooManySizes (fun vs H Q E h => ?_) (fun cdv A outer s H vs Q E hr h => ?_)
  · obtain ⟨a, rfl, _⟩ := h
    rfl
  · refine ⟨_, pss_one (ps_expr (pe_offClass G hr (by rfl) B.g B.rd B.vl B.F.kp B.b pass0 (pa_cons (pv 0) (pa_cons (pe_un un_neg pe_int) pa_nil)))), ?_⟩
    obtain ⟨a, rfl, q⟩ := h
    exact ⟨_, rfl, _, rfl, q⟩
/-- what is asked of «raise TooManySizes()» -/
theorem raise_TooManySizes {C f : Addr} {fd : FuncData} (X : ErrT K mg R "TooManySizes" "TooManySizes.__init__" sTooManySizes C f fd) {σ : L2.St} {H : Hp} {E : XK} (h : Raised K R (-28) H E) : tMkC C (spCoded K (-28)) σ H E :=
  made_coded X.ex fun d nd => h C d H X.ex X.tk (Same.refl H) nd

abbrev sNothingThere : Stmt := inClass (top 24) 0
theorem scNothingThere : FnScope ["self"] ["self"] (defScope sNothingThere) := ⟨rfl, rfl, rfl, by decide +kernel, rfl, by decide +kernel, by decide +kernel⟩
theorem ok_NothingThere {k : Nat} {C f : Addr} {fd : FuncData} (T : Own mg) (B : RefT K mg R fR fdR) (X : ErrT K mg R "NothingThere" "NothingThere.__init__" sNothingThere C f fd) : FnOk P w K mg base CX0 (k + 2) f fd ["self"] (spCoded K (-6)) := by
  have G : FnOk P w K mg base CX0 (k + 1) fR fdR ["self", "code"] (spBase K) := ok_refusal_init T B
  refine X.F.ok scNothingThere (fun vs H Q E h => ?_) (fun cdv A outer s H vs Q E hr h => ?_)
  · obtain ⟨a, rfl, _⟩ := h
    rfl
  · refine ⟨_, pss_one (ps_expr (pe_offClass G hr (by rfl) B.g B.rd B.vl B.F.kp B.b pass0 (pa_cons (pv 0) (pa_cons (pe_un un_neg pe_int) pa_nil)))), ?_⟩
    obtain ⟨a, rfl, q⟩ := h
    exact ⟨_, rfl, _, rfl, q⟩
/-- what is asked of «raise NothingThere()» -/
theorem raise_NothingThere {C f : Addr} {fd : FuncData} (X : ErrT K mg R "NothingThere" "NothingThere.__init__" sNothingThere C f fd) {σ : L2.St} {H : Hp} {E : XK} (h : Raised K R (-6) H E) : tMkC C (spCoded K (-6)) σ H E :=
  made_coded X.ex fun d nd => h C d H X.ex X.tk (Same.refl H) nd

abbrev sAlreadyThere : Stmt := inClass (top 25) 0
theorem scAlreadyThere : FnScope ["self"] ["self"] (defScope sAlreadyThere) := ⟨rfl, rfl, rfl, by decide +kernel, rfl, by decide +kernel, by decide +kernel⟩
theorem ok_AlreadyThere {k : Nat} {C f : Addr} {fd : FuncData} (T : Own mg) (B : RefT K mg R fR fdR) (X : ErrT K mg R "AlreadyThere" "AlreadyThere.__init__" sAlreadyThere C f fd) : FnOk P w K mg base CX0 (k + 2) f fd ["self"] (spCoded K (-17)) := by
  have G : FnOk P w K mg base CX0 (k + 1) fR fdR ["self", "code"] (spBase K) := ok_refusal_init T B
  refine X.F.ok scAlreadyThere (fun vs H Q E h => ?_) (fun cdv A outer s H vs Q E hr h => ?_)
  · obtain ⟨a, rfl, _⟩ := h
    rfl
  · refine ⟨_, pss_one (ps_expr (pe_offClass G hr (by rfl) B.g B.rd B.vl B.F.kp B.b pass0 (pa_cons (pv 0) (pa_cons (pe_un un_neg pe_int) pa_nil)))), ?_⟩
    obtain ⟨a, rfl, q⟩ := h
    exact ⟨_, rfl, _, rfl, q⟩
/-- what is asked of «raise AlreadyThere()» -/
theorem raise_AlreadyThere {C f : Addr} {fd : FuncData} (X : ErrT K mg R "AlreadyThere" "AlreadyThere.__init__" sAlreadyThere C f fd) {σ : L2.St} {H : Hp} {E : XK} (h : Raised K R (-17) H E) : tMkC C (spCoded K (-17)) σ H E :=
  made_coded X.ex fun d nd => h C d H X.ex X.tk (Same.refl H) nd

abbrev sNeverEnough : Stmt := inClass (top 26) 0
theorem scNeverEnough : FnScope ["self"] ["self"] (defScope sNeverEnough) := ⟨rfl, rfl, rfl, by decide +kernel, rfl, by decide +kernel, by decide +kernel⟩
theorem ok_NeverEnough {k : Nat} {C f : Addr} {fd : FuncData} (T : Own mg) (B : RefT K mg R fR fdR) (X : ErrT K mg R "NeverEnough" "NeverEnough.__init__" sNeverEnough C f fd) : FnOk P w K mg base CX0 (k + 2) f fd ["self"] (spCoded K (-33)) := by
  have G : FnOk P w K mg base CX0 (k + 1) fR fdR ["self", "code"] (spBase K) := ok_refusal_init T B
  refine X.F.ok scNeverEnough (fun vs H Q E h => ?_) (fun cdv A outer s H vs Q E hr h => ?_)
  · obtain ⟨a, rfl, _⟩ := h
    rfl
  · refine ⟨_, pss_one (ps_expr (pe_offClass G hr (by rfl) B.g B.rd B.vl B.F.kp B.b pass0 (pa_cons (pv 0) (pa_cons (pe_un un_neg pe_int) pa_nil)))), ?_⟩
    obtain ⟨a, rfl, q⟩ := h
    exact ⟨_, rfl, _, rfl, q⟩
/-- what is asked of «raise NeverEnough()» -/
theorem raise_NeverEnough {C f : Addr} {fd : FuncData} (X : ErrT K mg R "NeverEnough" "NeverEnough.__init__" sNeverEnough C f fd) {σ : L2.St} {H : Hp} {E : XK} (h : Raised K R (-33) H E) : tMkC C (spCoded K (-33)) σ H E :=
  made_coded X.ex fun d nd => h C d H X.ex X.tk (Same.refl H) nd
end
end Sv

namespace Sv
open PySem PySem.Spec PyProof.Rows L2
open Kp409 (Sifter SizeFraction classes totalFlour totalBran totalWeight misplacedInClass)
abbrev sCheckAmounts : Stmt := top 30
abbrev sCheckCount : Stmt := top 33
abbrev sCheckSize : Stmt := top 31
abbrev sCheckPositions : Stmt := top 32
abbrev sSifterInit : Stmt := inClass (top 57) 0
/-! ### a sifter on the heap -/
/-- the class of sifters -/
structure SifT (K : PySem.W.Frag) (mg : Str → Option Value) (S fS : Addr) (fdS : FuncData) : Prop where
  g : mg "Sifter" = some (.ref S)
  cl : Cls K S
  nZ : NoAttr K S "sizes"
  nV : NoAttr K S "sieves"
  made : Mk K S fS
  F : Fun K "__init__" "Sifter.__init__" sSifterInit fS fdS
  b : Binds K fdS ["self"] []
def sF (ls lv : Addr) : List (Str × V) := [("sizes", .ref ls), ("sieves", .ref lv)]
theorem sF_sizes (ls lv : Addr) : (sF ls lv).lookup ("sizes" : Str) = some (.ref ls) := by simp [sF, List.lookup]
theorem sF_sieves (ls lv : Addr) : (sF ls lv).lookup ("sieves" : Str) = some (.ref lv) := by
  have e : (("sieves" : Str) == ("sizes" : Str)) = false := by decide +kernel
  simp [sF, List.lookup, e]
theorem sF_putV (ls lv lw : Addr) : putF "sieves" (.ref lw) (sF ls lv) = sF ls lw := by
  have e : ¬ (("sizes" : Str) = ("sieves" : Str)) := by decide +kernel
  simp [sF, putF, e]
/-- the sifter s at a, its sizes at ls, its sieves at lv -/
structure SifAt (S : Addr) (H : Hp) (a ls lv : Addr) (s : Sifter) : Prop where
  obj : ∃ dx, H a = some (.ins S dx (sF ls lv))
  sz : SzL H ls s.sizes
  sv : H lv = some (.lst (nats s.sieves))
  ne : ls ≠ lv
/-- what holds of every sifter -/
structure Good (s : Sifter) : Prop where
  few : s.sizes.length ≤ 10
  low : ∀ x ∈ s.sizes, x.flour ≤ 99 ∧ x.bran ≤ 99
  pos : Pos s.sizes.length 1 s.sieves
theorem SifAt.same {S : Addr} {H H' : Hp} {a ls lv : Addr} {s : Sifter} (h : SifAt S H a ls lv s) (q : Same H H') : SifAt S H' a ls lv s := by
  obtain ⟨⟨dx, e⟩, z, v, n⟩ := h
  exact ⟨⟨dx, q _ _ e⟩, z.same q, q _ _ v, n⟩
section
variable {P : Program} {w : World} {K : PySem.W.Frag} {mg : Str → Option Value} {base : Heap} {R fR : Addr} {fdR : FuncData}
/-! ### the checks -/
def spCheckAmounts (K : PySem.W.Frag) (R : Addr) : Sp := fun vs H Q E => ∃ fl br : Nat, vs = [.int fl, .int br] ∧ (¬ (fl ≤ 99 ∧ br ≤ 99) → Raised K R (-22) H E) ∧ (fl ≤ 99 ∧ br ≤ 99 → Q .non H)
abbrev nCA : List Str := ["flour", "bran"]
theorem scCA : FnScope nCA ["flour", "bran"] (defScope sCheckAmounts) := ⟨rfl, rfl, rfl, by decide +kernel, rfl, by decide +kernel, by decide +kernel⟩
theorem ok_check_amounts {f C fC : Addr} {fd fdC : FuncData} {k t : Nat} (D : Df K mg "check_amounts" sCheckAmounts ["flour", "bran"] f fd) (T : Own mg) (B : RefT K mg R fR fdR) (X : ErrT K mg R "OutsideLimits" "OutsideLimits.__init__" sOutsideLimits C fC fdC)
    (mA : mg "MOST_AMOUNT" = some (.int 99 t)) : FnOk P w K mg base (L2.CX P w) (k + 4) f fd ["flour", "bran"] (spCheckAmounts K R) := by
  have G : FnOk P w K mg base CX0 (k + 2) fC fdC ["self"] (spCoded K (-22)) := ok_OutsideLimits T B X
  refine D.F.okX scCA (fun vs H Q E h => ?_) (fun cdv A outer s H vs Q E hr h => ?_)
  · obtain ⟨a, b, rfl, _⟩ := h
    rfl
  · refine ⟨_, pss_one (ps_if (PW.pt (pw_or (pt_cmpR op_gt (pv 0) (pe_glob (v := .int 99) rfl mA ⟨_, rfl⟩) (nomark _)) (pw_or1 (pt_cmpR op_gt (pv 1) (pe_glob (v := .int 99) rfl mA ⟨_, rfl⟩) (nomark _)))))
        (pss_one (ps_raise rfl (takes_of rfl rfl rfl rfl) (pmk_own0 X.ex X.iC X.tI G hr X.b pass0 (by rfl) X.g))) pss_nil), ?_⟩
    obtain ⟨fl, br, rfl, hb, hg⟩ := h
    refine ⟨_, rfl, _, _, rfl, rfl, _, rfl, ?_⟩
    by_cases c : 99 < fl
    · refine ifT (decide_eq_true (show (99 : Int) < (fl : Int) by omega)) (ifT rfl ?_)
      exact raise_OutsideLimits X (hb (by omega))
    · refine ifF (decide_eq_false (show ¬ (99 : Int) < (fl : Int) by omega)) ?_
      refine ⟨_, rfl, _, _, rfl, rfl, _, rfl, ?_⟩
      by_cases c2 : 99 < br
      · refine ifT (decide_eq_true (show (99 : Int) < (br : Int) by omega)) ?_
        exact raise_OutsideLimits X (hb (by omega))
      · refine ifF (decide_eq_false (show ¬ (99 : Int) < (br : Int) by omega)) ?_
        exact hg (by omega)
def spCheckCount (K : PySem.W.Frag) (R S : Addr) : Sp := fun vs H Q E => ∃ (a ls lv : Addr) (s : Sifter) (n : Nat), vs = [.ref a, .int n] ∧ SifAt S H a ls lv s ∧ (s.sizes.length ≤ n → Raised K R (-22) H E) ∧ (n < s.sizes.length → Q .non H)
abbrev nCC : List Str := ["sifter", "count"]
theorem scCC : FnScope nCC ["sifter", "count"] (defScope sCheckCount) := ⟨rfl, rfl, rfl, by decide +kernel, rfl, by decide +kernel, by decide +kernel⟩
theorem ok_check_count {f C fC S fS : Addr} {fd fdC fdS : FuncData} {k : Nat} (D : Df K mg "check_count" sCheckCount ["sifter", "count"] f fd) (T : Own mg) (B : RefT K mg R fR fdR) (X : ErrT K mg R "OutsideLimits" "OutsideLimits.__init__" sOutsideLimits C fC fdC)
    (Y : SifT K mg S fS fdS) : FnOk P w K mg base (L2.CX P w) (k + 4) f fd ["sifter", "count"] (spCheckCount K R S) := by
  have G : FnOk P w K mg base CX0 (k + 2) fC fdC ["self"] (spCoded K (-22)) := ok_OutsideLimits T B X
  refine D.F.okX scCC (fun vs H Q E h => ?_) (fun cdv A outer s H vs Q E hr h => ?_)
  · obtain ⟨a, ls, lv, s, n, rfl, _⟩ := h
    rfl
  · refine ⟨_, pss_one (ps_if (pt_cmpR op_ge (pv 1) (pe_callB call_len_seq (by rfl) T.len PySem.boot_len (pa_cons (pe_fld (pv 0) rfl) pa_nil)) (nomark _))
        (pss_one (ps_raise rfl (takes_of rfl rfl rfl rfl) (pmk_own0 X.ex X.iC X.tI G hr X.b pass0 (by rfl) X.g))) pss_nil), ?_⟩
    obtain ⟨a, ls, lv, s, n, rfl, hs, hb, hg⟩ := h
    obtain ⟨dx, ha⟩ := hs.obj
    obtain ⟨vs, hl, hz⟩ := hs.sz
    refine ⟨_, rfl, _, rfl, a, S, dx, _, _, rfl, ha, Y.cl, Y.nZ, sF_sizes ls lv, ls, _, rfl, .inl (SqL.of hl), _, _, rfl, rfl, _, rfl, ?_⟩
    rw [hz.len]
    by_cases c : s.sizes.length ≤ n
    · refine ifT (decide_eq_true (show (s.sizes.length : Int) ≤ (n : Int) by omega)) ?_
      exact raise_OutsideLimits X (hb c)
    · refine ifF (decide_eq_false (show ¬ (s.sizes.length : Int) ≤ (n : Int) by omega)) ?_
      exact hg (by omega)
def spCheckSize (K : PySem.W.Frag) (R S : Addr) : Sp := fun vs H Q E => ∃ (a ls lv : Addr) (s : Sifter) (n : Nat), vs = [.ref a, .int n] ∧ SifAt S H a ls lv s ∧ (s.sizes.length ≤ n → Raised K R (-2) H E) ∧ (n < s.sizes.length → Q .non H)
abbrev nCS : List Str := ["sifter", "size"]
theorem scCS : FnScope nCS ["sifter", "size"] (defScope sCheckSize) := ⟨rfl, rfl, rfl, by decide +kernel, rfl, by decide +kernel, by decide +kernel⟩
theorem ok_check_size {f C fC S fS : Addr} {fd fdC fdS : FuncData} {k : Nat} (D : Df K mg "check_size" sCheckSize ["sifter", "size"] f fd) (T : Own mg) (B : RefT K mg R fR fdR) (X : ErrT K mg R "NotThere" "NotThere.__init__" sNotThere C fC fdC)
    (Y : SifT K mg S fS fdS) : FnOk P w K mg base (L2.CX P w) (k + 4) f fd ["sifter", "size"] (spCheckSize K R S) := by
  have G : FnOk P w K mg base CX0 (k + 2) fC fdC ["self"] (spCoded K (-2)) := ok_NotThere T B X
  refine D.F.okX scCS (fun vs H Q E h => ?_) (fun cdv A outer s H vs Q E hr h => ?_)
  · obtain ⟨a, ls, lv, s, n, rfl, _⟩ := h
    rfl
  · refine ⟨_, pss_one (ps_if (pt_cmpR op_ge (pv 1) (pe_callB call_len_seq (by rfl) T.len PySem.boot_len (pa_cons (pe_fld (pv 0) rfl) pa_nil)) (nomark _))
        (pss_one (ps_raise rfl (takes_of rfl rfl rfl rfl) (pmk_own0 X.ex X.iC X.tI G hr X.b pass0 (by rfl) X.g))) pss_nil), ?_⟩
    obtain ⟨a, ls, lv, s, n, rfl, hs, hb, hg⟩ := h
    obtain ⟨dx, ha⟩ := hs.obj
    obtain ⟨vs, hl, hz⟩ := hs.sz
    refine ⟨_, rfl, _, rfl, a, S, dx, _, _, rfl, ha, Y.cl, Y.nZ, sF_sizes ls lv, ls, _, rfl, .inl (SqL.of hl), _, _, rfl, rfl, _, rfl, ?_⟩
    rw [hz.len]
    by_cases c : s.sizes.length ≤ n
    · refine ifT (decide_eq_true (show (s.sizes.length : Int) ≤ (n : Int) by omega)) ?_
      exact raise_NotThere X (hb c)
    · refine ifF (decide_eq_false (show ¬ (s.sizes.length : Int) ≤ (n : Int) by omega)) ?_
      exact hg (by omega)
def spCheckPos (K : PySem.W.Frag) (R S : Addr) : Sp := fun vs H Q E => ∃ (a ls lv la : Addr) (s : Sifter) (l : List Nat), vs = [.ref a, .ref la] ∧ SifAt S H a ls lv s ∧ H la = some (.lst (nats l)) ∧ (¬ Pos s.sizes.length 1 l → Raised K R (-22) H E) ∧ (Pos s.sizes.length 1 l → Q .non H)
abbrev nCP : List Str := ["sifter", "positions"]
theorem scCP : FnScope nCP ["sifter", "positions"] (defScope sCheckPositions) := ⟨rfl, rfl, rfl, by decide +kernel, rfl, by decide +kernel, by decide +kernel⟩
theorem ok_check_positions {f fP C fC S fS : Addr} {fd fdP fdC fdS : FuncData} {k : Nat} (D : Df K mg "check_positions" sCheckPositions ["sifter", "positions"] f fd) (T : Own mg) (B : RefT K mg R fR fdR) (X : ErrT K mg R "OutsideLimits" "OutsideLimits.__init__" sOutsideLimits C fC fdC)
    (A1 : Df K mg "are_positions" sArePositions ["numbers", "size_count"] fP fdP) (Y : SifT K mg S fS fdS) : FnOk P w K mg base (L2.CX P w) (k + 4) f fd ["sifter", "positions"] (spCheckPos K R S) := by
  have GP : FnOk P w K mg base CX0 (k + 1) fP fdP ["numbers", "size_count"] (spArePos K) := ok_are_positions A1
  have G : FnOk P w K mg base CX0 (k + 2) fC fdC ["self"] (spCoded K (-22)) := ok_OutsideLimits T B X
  refine D.F.okX scCP (fun vs H Q E h => ?_) (fun cdv A outer s H vs Q E hr h => ?_)
  · obtain ⟨a, ls, lv, la, s, l, rfl, _⟩ := h
    rfl
  · refine ⟨_, pss_one (ps_if (pt_not (pt_val (pe_call GP (hr.mono (by omega)) rfl A1.g A1.F.kp A1.b .nil pass0 (pa_cons (pv 1) (pa_cons (pe_callB call_len_seq (by rfl) T.len PySem.boot_len (pa_cons (pe_fld (pv 0) rfl) pa_nil)) pa_nil)))))
        (pss_one (ps_raise rfl (takes_of rfl rfl rfl rfl) (pmk_own0 X.ex X.iC X.tI G hr X.b pass0 (by rfl) X.g))) pss_nil), ?_⟩
    obtain ⟨a, ls, lv, la, s, l, rfl, hs, hla, hb, hg⟩ := h
    obtain ⟨dx, ha⟩ := hs.obj
    obtain ⟨vs, hl, hz⟩ := hs.sz
    refine ⟨_, rfl, _, rfl, a, S, dx, _, _, rfl, ha, Y.cl, Y.nZ, sF_sizes ls lv, ls, _, rfl, .inl (SqL.of hl), la, l, vs.length, rfl, SqL.of hla, fun b hc => ⟨b, rfl, ?_⟩⟩
    rw [hz.len] at hc
    by_cases c : b = true
    · subst c
      exact ifF rfl (hg (hc.mp rfl))
    · have bf : b = false := by
        cases b with
        | true => exact absurd rfl c
        | false => rfl
      subst bf
      exact ifT rfl (raise_OutsideLimits X (hb fun z => nomatch hc.mpr z))
end
end Sv

namespace Sv
open PySem PySem.Spec PyProof.Rows L2
open Kp409 (Sifter SizeFraction classes totalFlour totalBran totalWeight misplacedInClass)
abbrev sAddSize : Stmt := top 34
abbrev sRemoveLast : Stmt := top 35
abbrev sSetSize : Stmt := top 36
abbrev sGetSizes : Stmt := top 37
/-! ### what an operation promises -/
/-- nothing but the sifter's own is changed -/
def Kept (H H' : Hp) (a ls lv : Addr) : Prop := ∀ b u, H b = some u → b ≠ a → b ≠ ls → b ≠ lv → H' b = some u
/-- none of what stood there but the sifter's own -/
def Fresh (H : Hp) (o a ls lv : Addr) : Prop := ∀ b u, H b = some u → b ≠ a → b ≠ ls → b ≠ lv → o ≠ b
theorem fresh_new {H : Hp} {o a ls lv : Addr} (h : H o = none) : Fresh H o a ls lv := fun b u e _ _ _ => (ne_of_none e h).symm
theorem fresh_of {H H' : Hp} {o a ls lv : Addr} (k : Kept H H' a ls lv) (h : H' o = none) : Fresh H o a ls lv := fun b u e n1 n2 n3 => (ne_of_none (k b u e n1 n2 n3) h).symm
/-- an address that was the sifter's, or is new -/
def Mine (H : Hp) (x y : Addr) : Prop := x = y ∨ H x = none
def spOp (K : PySem.W.Frag) (R S : Addr) (p : Int) : Sp := fun vs H Q E => ∃ (a la ls lv : Addr) (s : Sifter) (l : List Nat), vs = [.ref a, .ref la] ∧ SifAt S H a ls lv s ∧ Good s ∧ H la = some (.lst (nats l)) ∧ la ≠ ls ∧ la ≠ lv ∧ askedR (p, l) = true ∧
  (∀ c : Int, due s p l = (some s, [c]) → c < 0 → Raised K R c H E) ∧
  ∀ (H' : Hp) (o ls' lv' : Addr) (s' : Sifter) (ns : List Int), due s p l = (some s', ns) → Kept H H' a ls lv → Mine H ls' ls → Mine H lv' lv → SifAt S H' a ls' lv' s' → Good s' → Fresh H o a ls lv → H' o = some (.lst (ns.map V.int)) → Q (.ref o) H'
theorem Kept.of {H H' : Hp} {a ls lv : Addr} (s : Same H H') : Kept H H' a ls lv := fun b u e _ _ _ => s b u e
section
variable {P : Program} {w : World} {K : PySem.W.Frag} {mg : Str → Option Value} {base : Heap} {R fR : Addr} {fdR : FuncData}
/-! ### add_size -/
theorem due_add {s : Sifter} {fl br : Nat} : due s 1 [fl, br] = if Kp409.validAmounts fl br = false then (some s, [-22]) else if 10 ≤ s.sizes.length then (some s, [-28]) else (some { s with sizes := s.sizes ++ [⟨fl, br⟩] }, [(s.sizes.length : Int)]) := by
  rw [due_of (x := .addSize fl br) (by rfl)]
  simp only [Kp409.step, Kp409.single]
  rw [show Kp409.maxSizes = 10 from rfl]
  split
  · rfl
  · split <;> rfl
theorem valid_amounts {fl br : Nat} : Kp409.validAmounts fl br = true ↔ fl ≤ 99 ∧ br ≤ 99 := by
  unfold Kp409.validAmounts
  rw [Bool.and_eq_true, decide_eq_true_eq, decide_eq_true_eq]
abbrev nAS : List Str := ["sifter", "arguments", "flour", "bran"]
theorem scAS : FnScope nAS ["sifter", "arguments"] (defScope sAddSize) := ⟨rfl, rfl, rfl, by decide +kernel, rfl, by decide +kernel, by decide +kernel⟩
theorem ok_add_size {f fA C fC S fS C2 fC2 : Addr} {fd fdA fdC fdS fdC2 : FuncData} {k t t2 : Nat} (D : Df K mg "add_size" sAddSize ["sifter", "arguments"] f fd) (T : Own mg) (B : RefT K mg R fR fdR)
    (X : ErrT K mg R "OutsideLimits" "OutsideLimits.__init__" sOutsideLimits C fC fdC) (X2 : ErrT K mg R "TooManySizes" "TooManySizes.__init__" sTooManySizes C2 fC2 fdC2) (mA : mg "MOST_AMOUNT" = some (.int 99 t)) (mS : mg "MOST_SIZES" = some (.int 10 t2))
    (A1 : Df K mg "check_amounts" sCheckAmounts ["flour", "bran"] fA fdA) (Y : SifT K mg S fS fdS) : FnOk P w K mg base (L2.CX P w) (k + 5) f fd ["sifter", "arguments"] (spOp K R S 1) := by
  have GA : FnOk P w K mg base (L2.CX P w) (k + 4) fA fdA ["flour", "bran"] (spCheckAmounts K R) := ok_check_amounts A1 T B X mA
  have G2 : FnOk P w K mg base CX0 (k + 2) fC2 fdC2 ["self"] (spCoded K (-28)) := ok_TooManySizes T B X2
  refine D.F.okX scAS (fun vs H Q E h => ?_) (fun cdv A outer s H vs Q E hr h => ?_)
  · obtain ⟨a, la, ls, lv, s, l, rfl, _⟩ := h
    rfl
  · refine ⟨_, pss_cons (ps_set (i := 2) scAS.nd rfl (.inl rfl) (pe_ix ix_list (pv 1) pe_int (fun _ _ => rfl)))
      (pss_cons (ps_set (i := 3) scAS.nd rfl (.inl rfl) (pe_ix ix_list (pv 1) pe_int (fun _ _ => rfl)))
      (pss_cons (ps_expr (pe_call GA hr rfl A1.g A1.F.kp A1.b .nil (passes_call (takes_of rfl rfl rfl rfl) (fun _ _ _ _ h => h)) (pa_cons (pv 2) (pa_cons (pv 3) pa_nil))))
      (pss_cons (ps_if (pt_cmpR op_ge (pe_callB call_len_seq (by rfl) T.len PySem.boot_len (pa_cons (pe_fld (pv 0) rfl) pa_nil)) (pe_glob (v := .int 10) rfl mS ⟨_, rfl⟩) (nomark _))
        (pss_one (ps_raise rfl (takes_of rfl rfl rfl rfl) (pmk_own0 X2.ex X2.iC X2.tI G2 (hr.mono (by omega)) X2.b pass0 (by rfl) X2.g))) pss_nil)
      (pss_cons (ps_expr (pe_bm PySem.F.plainAttrs_list PySem.F.slot_list_append PySem.F.type_list_append mt_append (pe_fld (pv 0) rfl) (pa_cons (pe_tup (pa_cons (pv 2) (pa_cons (pv 3) pa_nil))) pa_nil)))
      (pss_one (ps_ret (pe_lst (pa_cons (pe_op op_sub (pe_callB call_len_seq (by rfl) T.len PySem.boot_len (pa_cons (pe_fld (pv 0) rfl) pa_nil)) pe_int) pa_nil)))))))), ?_⟩
    obtain ⟨a, la, ls, lv, s, l, rfl, hs, hg, hla, n1, n2, hask, hE, hQ⟩ := h
    obtain ⟨fl, br, rfl⟩ := asked_add hask
    obtain ⟨dx, ha⟩ := hs.obj
    obtain ⟨vs, hl, hz⟩ := hs.sz
    have la0 : atI (nats [fl, br]) 0 = some (.int fl) := rfl
    have la1 : atI (nats [fl, br]) 1 = some (.int br) := rfl
    refine ⟨_, rfl, la, _, 0, _, rfl, rfl, SqL.of hla, la0, ?_⟩
    refine ⟨_, rfl, la, _, 1, _, rfl, rfl, SqL.of hla, la1, ?_⟩
    refine ⟨_, rfl, _, rfl, fl, br, rfl, fun bad => hE (-22) ?_ (by decide), fun good => ?_⟩
    · rw [due_add, if_pos]
      cases c : Kp409.validAmounts fl br with
      | false => rfl
      | true => exact absurd (valid_amounts.mp c) bad
    have vg : ¬ Kp409.validAmounts fl br = false := by
      rw [valid_amounts.mpr good]
      exact fun z => nomatch z
    have d1 := due_add (s := s) (fl := fl) (br := br)
    rw [if_neg vg] at d1
    refine ⟨_, rfl, a, S, dx, _, _, rfl, ha, Y.cl, Y.nZ, sF_sizes ls lv, ls, _, rfl, .inl (SqL.of hl), _, _, rfl, rfl, _, rfl, ?_⟩
    by_cases c : 10 ≤ s.sizes.length
    · refine ifT (decide_eq_true (show (10 : Int) ≤ (vs.length : Int) by rw [hz.len]; omega)) ?_
      rw [if_pos c] at d1
      exact raise_TooManySizes X2 (hE (-28) d1 (by decide))
    · refine ifF (decide_eq_false (show ¬ (10 : Int) ≤ (vs.length : Int) by rw [hz.len]; omega)) ?_
      rw [if_neg c] at d1
      -- sifter.sizes.append((flour, bran))
      refine ⟨_, rfl, a, S, dx, _, _, rfl, ha, Y.cl, Y.nZ, sF_sizes ls lv, .inl ⟨rfl, _, SqL.of hl⟩, _, rfl, _, rfl, small _ (by show 2 ≤ 100000; decide), fun t nt => ?_⟩
      have s1 : Same H (upd H t (.tup [.int fl, .int br])) := same_new nt
      have t1 : (upd H t (.tup [.int fl, .int br])) t = some (.tup [.int fl, .int br]) := upd_same
      generalize upd H t (.tup [.int fl, .int br]) = H1 at s1 t1
      have l1 := s1 _ _ hl
      refine ⟨ls, vs, _, rfl, rfl, l1, ltLine (by rw [hz.len]; omega), ?_⟩
      have kp : ∀ b u, H1 b = some u → b ≠ ls → (upd H1 ls (.lst (vs ++ [.ref t]))) b = some u := fun b u e n => by
        rw [upd_ne n]
        exact e
      have l2 : (upd H1 ls (.lst (vs ++ [.ref t]))) ls = some (.lst (vs ++ [.ref t])) := upd_same
      have als : a ≠ ls := ne_of ha hl (by intro z; cases z)
      have tls : t ≠ ls := ne_of t1 l1 (by intro z; cases z)
      have z2 : All2 (SzV (upd H1 ls (.lst (vs ++ [.ref t])))) (vs ++ [.ref t]) (s.sizes ++ [⟨fl, br⟩]) := by
        refine All2.app (hz.imp fun v x ⟨t', ev, e⟩ => ⟨t', ev, kp _ _ (s1 _ _ e) (ne_of e hl (by intro z; cases z))⟩) (All2.one ⟨t, rfl, kp _ _ t1 tls⟩)
      have a2 := kp _ _ (s1 _ _ ha) als
      have v2 := kp _ _ (s1 _ _ hs.sv) hs.ne.symm
      have keep : Kept H (upd H1 ls (.lst (vs ++ [.ref t]))) a ls lv := fun b u e _ n _ => kp _ _ (s1 _ _ e) n
      generalize upd H1 ls (.lst (vs ++ [.ref t])) = H2 at l2 z2 a2 v2 keep
      -- return [len(sifter.sizes) - 1]
      refine ⟨_, rfl, a, S, dx, _, _, rfl, a2, Y.cl, Y.nZ, sF_sizes ls lv, ls, _, rfl, .inl (SqL.of l2), _, _, rfl, rfl, small _ (by show 1 ≤ 100000; decide), fun o no => ?_⟩
      have s3 : Same H2 (upd H2 o (.lst [V.int (((vs ++ [V.ref t]).length : Int) - 1)])) := same_new no
      refine hQ _ o ls lv _ _ d1 (fun b u e n1 n2 n3 => s3 _ _ (keep b u e n1 n2 n3)) (.inl rfl) (.inl rfl) ⟨⟨dx, s3 _ _ a2⟩, ⟨_, s3 _ _ l2, z2.imp fun _ _ z => z.same s3⟩, s3 _ _ v2, hs.ne⟩ ?_ (fresh_of keep no) ?_
      · refine ⟨?_, fun x hx => ?_, ?_⟩
        · show (s.sizes ++ [_]).length ≤ 10
          rw [List.length_append, List.length_singleton]
          omega
        · rcases List.mem_append.mp hx with q | q
          · exact hg.low x q
          · rw [List.mem_singleton] at q
            subst q
            exact good
        · show Pos (s.sizes ++ [_]).length 1 s.sieves
          rw [List.length_append, List.length_singleton]
          exact ⟨hg.pos.lo, fun p hp => Nat.lt_succ_of_lt (hg.pos.hi p hp), hg.pos.up⟩
      · have e : (((vs ++ [V.ref t]).length : Int) - 1) = (s.sizes.length : Int) := by
          rw [List.length_append, List.length_singleton, hz.len]
          omega
        show (upd H2 o (.lst [V.int (((vs ++ [V.ref t]).length : Int) - 1)])) o = some (.lst [V.int (s.sizes.length : Int)])
        rw [e]
        exact upd_same
end
end Sv

namespace Sv
open PySem PySem.Spec PyProof.Rows L2
open Kp409 (Sifter SizeFraction classes totalFlour totalBran totalWeight misplacedInClass)
section
variable {P : Program} {w : World} {K : PySem.W.Frag} {mg : Str → Option Value} {base : Heap} {R fR : Addr} {fdR : FuncData}
/-! ### remove_last_size -/
theorem due_remove {s : Sifter} : due s 2 [] = if s.sizes.length = 0 then (some s, [-6]) else (some { s with sizes := s.sizes.dropLast, sieves := s.sieves.filter fun p => decide (p + 1 < s.sizes.length) }, [((s.sizes.length - 1 : Nat) : Int)]) := by
  rw [due_of (x := .removeLastSize) (by rfl)]
  simp only [Kp409.step, Kp409.single, List.isEmpty_iff_length_eq_zero]
  split <;> rfl
abbrev nRL : List Str := ["sifter", "arguments", "removed", "position"]
theorem scRL : FnScope nRL ["sifter", "arguments"] (defScope sRemoveLast) := ⟨rfl, rfl, rfl, by decide +kernel, rfl, by decide +kernel, by decide +kernel⟩
theorem ok_remove_last {f C fC S fS : Addr} {fd fdC fdS : FuncData} {k : Nat} (D : Df K mg "remove_last_size" sRemoveLast ["sifter", "arguments"] f fd) (T : Own mg) (B : RefT K mg R fR fdR)
    (X : ErrT K mg R "NothingThere" "NothingThere.__init__" sNothingThere C fC fdC) (Y : SifT K mg S fS fdS) : FnOk P w K mg base (L2.CX P w) (k + 5) f fd ["sifter", "arguments"] (spOp K R S 2) := by
  have G : FnOk P w K mg base CX0 (k + 2) fC fdC ["self"] (spCoded K (-6)) := ok_NothingThere T B X
  refine D.F.okX scRL (fun vs H Q E h => ?_) (fun cdv A outer s H vs Q E hr h => ?_)
  · obtain ⟨a, la, ls, lv, s, l, rfl, _⟩ := h
    rfl
  · refine ⟨_, pss_cons (ps_if (pt_cmpR op_eq (pe_callB call_len_seq (by rfl) T.len PySem.boot_len (pa_cons (pe_fld (pv 0) rfl) pa_nil)) pe_int (nomark _))
        (pss_one (ps_raise rfl (takes_of rfl rfl rfl rfl) (pmk_own0 X.ex X.iC X.tI G (hr.mono (by omega)) X.b pass0 (by rfl) X.g))) pss_nil)
      (pss_cons (ps_expr (pe_bm0 PySem.F.plainAttrs_list PySem.F.slot_list_pop PySem.F.type_list_pop mt_pop (pe_fld (pv 0) rfl)))
      (pss_cons (ps_set (i := 2) scRL.nd rfl (.inr rfl) (pe_callB call_len_seq (by rfl) T.len PySem.boot_len (pa_cons (pe_fld (pv 0) rfl) pa_nil)))
      (pss_cons (ps_fld (pv 0) (pe_lc (own := [("position", 3)]) (g := gName 3) (tt := tTest (tOp rNe (tVar 3) (tVar 2))) (te := tVar 3) rfl scRL.nd (pi_list (pe_fld (pv 0) rfl)) (blkOk_by (own := [("position", 3)]) (N := nRL) (sc := defScope sRemoveLast) (by decide +kernel))
          (fun _ _ _ _ _ => pg_name (i := 3) scRL.nd rfl (.inl rfl)) (fun _ _ _ _ _ => pts_one (pt_cmpR op_ne (pv 3) (pv 2) (nomark _))) (fun _ _ _ _ _ => pv 3)) rfl)
      (pss_one (ps_ret (pe_lst (pa_cons (pe_callB call_len_seq (by rfl) T.len PySem.boot_len (pa_cons (pe_fld (pv 0) rfl) pa_nil)) pa_nil))))))), ?_⟩
    obtain ⟨a, la, ls, lv, s, l, rfl, hs, hg, hla, n1, n2, hask, hE, hQ⟩ := h
    obtain rfl := asked_none (.inl rfl) hask
    obtain ⟨dx, ha⟩ := hs.obj
    obtain ⟨vs, hl, hz⟩ := hs.sz
    have d1 := due_remove (s := s)
    refine ⟨_, rfl, a, S, dx, _, _, rfl, ha, Y.cl, Y.nZ, sF_sizes ls lv, ls, _, rfl, .inl (SqL.of hl), rfl, _, rfl, ?_⟩
    by_cases c : s.sizes.length = 0
    · refine ifT (decide_eq_true (show V.int (vs.length : Int) = V.int 0 by rw [hz.len, c]; rfl)) ?_
      rw [if_pos c] at d1
      exact raise_NothingThere X (hE (-6) d1 (by decide))
    · refine ifF (decide_eq_false (show ¬ V.int (vs.length : Int) = V.int 0 by rw [hz.len]; intro z; injection z with z; omega)) ?_
      rw [if_neg c] at d1
      -- sifter.sizes.pop()
      have hv : vs[vs.length - 1]? = some (vs[vs.length - 1]'(by rw [hz.len]; omega)) := List.getElem?_eq_getElem _
      refine ⟨_, rfl, a, S, dx, _, _, rfl, ha, Y.cl, Y.nZ, sF_sizes ls lv, .inl ⟨rfl, _, SqL.of hl⟩, ls, vs, _, rfl, rfl, hl, hv, ?_⟩
      have kp : ∀ b u, H b = some u → b ≠ ls → (upd H ls (.lst vs.dropLast)) b = some u := fun b u e n => by
        rw [upd_ne n]
        exact e
      have l2 : (upd H ls (.lst vs.dropLast)) ls = some (.lst vs.dropLast) := upd_same
      have als : a ≠ ls := ne_of ha hl (by intro z; cases z)
      have z2 : All2 (SzV (upd H ls (.lst vs.dropLast))) vs.dropLast s.sizes.dropLast := hz.front.imp fun v x ⟨t', ev, e⟩ => ⟨t', ev, kp _ _ e (ne_of e hl (by intro z; cases z))⟩
      have a2 := kp _ _ ha als
      have v2 := kp _ _ hs.sv hs.ne.symm
      have keep : Kept H (upd H ls (.lst vs.dropLast)) a ls lv := fun b u e _ n _ => kp _ _ e n
      have free2 : ∀ b, (upd H ls (.lst vs.dropLast)) b = none → H b = none := fun b e => by
        by_cases n : b = ls
        · rw [n, l2] at e
          cases e
        · rwa [upd_ne n] at e
      generalize upd H ls (.lst vs.dropLast) = H2 at l2 z2 a2 v2 keep free2
      have dl : vs.dropLast.length = s.sizes.length - 1 := by rw [List.length_dropLast, hz.len]
      -- removed = len(sifter.sizes)
      refine ⟨_, rfl, a, S, dx, _, _, rfl, a2, Y.cl, Y.nZ, sF_sizes ls lv, ls, _, rfl, .inl (SqL.of l2), ?_⟩
      rw [dl]
      -- sifter.sieves = [position for position in sifter.sieves if position != removed]
      refine ⟨_, rfl, a, S, dx, _, _, rfl, a2, Y.cl, Y.nV, sF_sieves ls lv, lv, rfl, ⟨_, SqL.of v2⟩, fun L nL => ?_⟩
      have few : s.sieves.length ≤ 10 := Nat.le_trans (pos_len hg.pos) hg.few
      refine lc_list (K := K) (a := lv) (xs := nats s.sieves) (fun i H' => H' = upd H2 L (.lst (nats ((s.sieves.take i).filter fun p => decide (p + 1 < s.sizes.length))))) rfl
        (fun i H' _ e => by rw [e]; exact SqL.of (same_new nL _ _ v2)) (fun i x H' hx e => ?_) (fun H' e => ?_)
      · obtain ⟨p, hp, rfl⟩ := nats_at hx
        subst e
        have pn := hg.pos.hi p (List.mem_of_getElem? hp)
        refine ⟨rfl, _, rfl, _, rfl, rfl, _, rfl, ?_⟩
        by_cases q : p + 1 < s.sizes.length
        · refine ifT (show (!decide (V.int (p : Int) = V.int ((s.sizes.length - 1 : Nat) : Int))) = true by
            rw [decide_eq_false (by intro z; injection z with z; omega)]; rfl) ?_
          refine ⟨_, rfl, _, upd_same, ltLine ?_, ?_⟩
          · rw [List.length_map]
            have := List.length_filter_le (fun p => decide (p + 1 < s.sizes.length)) (s.sieves.take i)
            rw [List.length_take] at this
            omega
          · rw [upd_upd, filter_take_some hp (decide_eq_true q)]
            simp [nats]
        · refine ifF (show (!decide (V.int (p : Int) = V.int ((s.sizes.length - 1 : Nat) : Int))) = false by
            rw [decide_eq_true (show V.int (p : Int) = V.int ((s.sizes.length - 1 : Nat) : Int) by rw [show p = s.sizes.length - 1 by omega])]; rfl) ?_
          rw [filter_take_none hp (decide_eq_false q)]
      · subst e
        rw [List.length_map, List.take_length]
        generalize hfl : (s.sieves.filter fun p => decide (p + 1 < s.sizes.length)) = fl at *
        have s3 : Same H2 (upd H2 L (.lst (nats fl))) := same_new nL
        have L3 : (upd H2 L (.lst (nats fl))) L = some (.lst (nats fl)) := upd_same
        have fL : H L = none := free2 L nL
        generalize upd H2 L (.lst (nats fl)) = H3 at s3 L3
        have a3 := s3 _ _ a2
        refine ⟨_, rfl, a, S, dx, _, rfl, a3, Y.cl, Y.nV, (by show 2 < 1000; decide), ?_⟩
        rw [sF_putV]
        have l3 := s3 _ _ l2
        have z3 : All2 (SzV H3) vs.dropLast s.sizes.dropLast := z2.imp fun _ _ z => z.same s3
        have kp4 : ∀ b u, H3 b = some u → b ≠ a → (upd H3 a (.ins S dx (sF ls L))) b = some u := fun b u e n => by
          rw [upd_ne n]
          exact e
        have a4 : (upd H3 a (.ins S dx (sF ls L))) a = some (.ins S dx (sF ls L)) := upd_same
        have l4 := kp4 _ _ l3 als.symm
        have L4 := kp4 _ _ L3 (ne_of a3 L3 (by intro z; cases z)).symm
        have z4 : All2 (SzV (upd H3 a (.ins S dx (sF ls L)))) vs.dropLast s.sizes.dropLast := z3.imp fun v x ⟨t', ev, e⟩ => ⟨t', ev, kp4 _ _ e (ne_of e a3 (by intro z; cases z))⟩
        have keep4 : Kept H (upd H3 a (.ins S dx (sF ls L))) a ls lv := fun b u e n1 n2 n3 => kp4 _ _ (s3 _ _ (keep b u e n1 n2 n3)) n1
        generalize upd H3 a (.ins S dx (sF ls L)) = H4 at a4 l4 L4 z4 keep4
        refine ⟨_, rfl, a, S, dx, _, _, rfl, a4, Y.cl, Y.nZ, sF_sizes ls L, ls, _, rfl, .inl (SqL.of l4), small _ (by show 1 ≤ 100000; decide), fun o no => ?_⟩
        rw [dl]
        have s5 : Same H4 (upd H4 o (.lst [V.int ((s.sizes.length - 1 : Nat) : Int)])) := same_new no
        have lsL : ls ≠ L := ne_of_none l2 nL
        refine hQ _ o ls L _ _ d1 (fun b u e n1 n2 n3 => s5 _ _ (keep4 b u e n1 n2 n3)) (.inl rfl) (.inr fL) ⟨⟨dx, s5 _ _ a4⟩, ⟨_, s5 _ _ l4, z4.imp fun _ _ z => z.same s5⟩, s5 _ _ L4, lsL⟩ ?_ (fresh_of keep4 no) upd_same
        refine ⟨?_, fun x hx => hg.low x (List.dropLast_subset _ hx), ?_⟩
        · show s.sizes.dropLast.length ≤ 10
          rw [List.length_dropLast]
          have := hg.few
          omega
        · subst hfl
          show Pos s.sizes.dropLast.length 1 (s.sieves.filter fun p => decide (p + 1 < s.sizes.length))
          rw [List.length_dropLast]
          refine ⟨fun p hp => hg.pos.lo p (List.mem_filter.mp hp).1, fun p hp => ?_, hg.pos.up.sublist List.filter_sublist⟩
          have := of_decide_eq_true (List.mem_filter.mp hp).2
          omega
end
end Sv

namespace Sv
open PySem PySem.Spec PyProof.Rows L2
open Kp409 (Sifter SizeFraction classes totalFlour totalBran totalWeight misplacedInClass)
abbrev sSetSieves : Stmt := top 38
abbrev sGetSieves : Stmt := top 39
abbrev sGetClasses : Stmt := top 40
abbrev sMisplaced : Stmt := top 41
abbrev sPurity : Stmt := top 42
section
variable {P : Program} {w : World} {K : PySem.W.Frag} {mg : Str → Option Value} {base : Heap} {R fR : Addr} {fdR : FuncData}
/-! ### set_size -/
theorem due_setSize {s : Sifter} {i fl br : Nat} : due s 3 [i, fl, br] = match s.sizes[i]? with
    | none => (some s, [-2])
    | some old => if Kp409.validAmounts fl br then (some { s with sizes := s.sizes.set i ⟨fl, br⟩ }, [0, (old.flour : Int), (old.bran : Int)]) else (some s, [-22]) := by
  rw [due_of (x := .setSize i fl br) (by rfl)]
  simp only [Kp409.step, Kp409.single, Kp409.natResult]
  cases s.sizes[i]? with
  | none => rfl
  | some old =>
    dsimp only
    split <;> rfl
abbrev nSS : List Str := ["sifter", "arguments", "size", "flour", "bran", "previous"]
theorem scSS : FnScope nSS ["sifter", "arguments"] (defScope sSetSize) := ⟨rfl, rfl, rfl, by decide +kernel, rfl, by decide +kernel, by decide +kernel⟩
theorem ok_set_size {f fA fZ C fC S fS C2 fC2 : Addr} {fd fdA fdZ fdC fdS fdC2 : FuncData} {k t : Nat} (D : Df K mg "set_size" sSetSize ["sifter", "arguments"] f fd) (T : Own mg) (B : RefT K mg R fR fdR)
    (X : ErrT K mg R "OutsideLimits" "OutsideLimits.__init__" sOutsideLimits C fC fdC) (X2 : ErrT K mg R "NotThere" "NotThere.__init__" sNotThere C2 fC2 fdC2) (mA : mg "MOST_AMOUNT" = some (.int 99 t))
    (A1 : Df K mg "check_amounts" sCheckAmounts ["flour", "bran"] fA fdA) (A2 : Df K mg "check_size" sCheckSize ["sifter", "size"] fZ fdZ) (Y : SifT K mg S fS fdS) : FnOk P w K mg base (L2.CX P w) (k + 5) f fd ["sifter", "arguments"] (spOp K R S 3) := by
  have GA : FnOk P w K mg base (L2.CX P w) (k + 4) fA fdA ["flour", "bran"] (spCheckAmounts K R) := ok_check_amounts A1 T B X mA
  have GZ : FnOk P w K mg base (L2.CX P w) (k + 4) fZ fdZ ["sifter", "size"] (spCheckSize K R S) := ok_check_size A2 T B X2 Y
  refine D.F.okX scSS (fun vs H Q E h => ?_) (fun cdv A outer s H vs Q E hr h => ?_)
  · obtain ⟨a, la, ls, lv, s, l, rfl, _⟩ := h
    rfl
  · refine ⟨_, pss_cons (ps_set (i := 2) scSS.nd rfl (.inl rfl) (pe_ix ix_list (pv 1) pe_int (fun _ _ => rfl)))
      (pss_cons (ps_set (i := 3) scSS.nd rfl (.inl rfl) (pe_ix ix_list (pv 1) pe_int (fun _ _ => rfl)))
      (pss_cons (ps_set (i := 4) scSS.nd rfl (.inl rfl) (pe_ix ix_list (pv 1) pe_int (fun _ _ => rfl)))
      (pss_cons (ps_expr (pe_call GZ hr rfl A2.g A2.F.kp A2.b .nil (passes_call (takes_of rfl rfl rfl rfl) (fun _ _ _ _ h => h)) (pa_cons (pv 0) (pa_cons (pv 2) pa_nil))))
      (pss_cons (ps_expr (pe_call GA hr rfl A1.g A1.F.kp A1.b .nil (passes_call (takes_of rfl rfl rfl rfl) (fun _ _ _ _ h => h)) (pa_cons (pv 3) (pa_cons (pv 4) pa_nil))))
      (pss_cons (ps_set (i := 5) scSS.nd rfl (.inl rfl) (pe_ix ix_list (pe_fld (pv 0) rfl) (pv 2) (fun _ _ => rfl)))
      (pss_cons (ps_asg (pe_tup (pa_cons (pv 3) (pa_cons (pv 4) pa_nil))) (pg_sub (pe_fld (pv 0) rfl) (pv 2) set_list))
      (pss_one (ps_ret (pe_lst (pa_cons pe_int (pa_cons (pe_ix ix_tup (pv 5) pe_int (fun _ _ => rfl)) (pa_cons (pe_ix ix_tup (pv 5) pe_int (fun _ _ => rfl)) pa_nil)))))))))))), ?_⟩
    obtain ⟨a, la, ls, lv, s, l, rfl, hs, hg, hla, n1, n2, hask, hE, hQ⟩ := h
    obtain ⟨i, fl, br, rfl⟩ := asked_set hask
    obtain ⟨dx, ha⟩ := hs.obj
    obtain ⟨vs, hl, hz⟩ := hs.sz
    have la0 : atI (nats [i, fl, br]) 0 = some (.int i) := rfl
    have la1 : atI (nats [i, fl, br]) 1 = some (.int fl) := rfl
    have la2 : atI (nats [i, fl, br]) 2 = some (.int br) := rfl
    have d1 := due_setSize (s := s) (i := i) (fl := fl) (br := br)
    refine ⟨_, rfl, la, _, 0, _, rfl, rfl, SqL.of hla, la0, ?_⟩
    refine ⟨_, rfl, la, _, 1, _, rfl, rfl, SqL.of hla, la1, ?_⟩
    refine ⟨_, rfl, la, _, 2, _, rfl, rfl, SqL.of hla, la2, ?_⟩
    refine ⟨_, rfl, _, rfl, a, ls, lv, s, i, rfl, hs, fun c => hE (-2) ?_ (by decide), fun c => ?_⟩
    · rw [List.getElem?_eq_none c] at d1
      exact d1
    ·
      have hx : s.sizes[i]? = some s.sizes[i] := List.getElem?_eq_getElem (by omega)
      generalize s.sizes[i] = x at hx
      rw [hx] at d1
      dsimp only at d1
      refine ⟨_, rfl, _, rfl, fl, br, rfl, fun bad => hE (-22) ?_ (by decide), fun good => ?_⟩
      · rw [d1, if_neg]
        exact fun z => bad (valid_amounts.mp z)
      rw [if_pos (valid_amounts.mpr good)] at d1
      obtain ⟨v, hv, t0, rfl, ht0⟩ := hz.val_of hx
      -- previous = sifter.sizes[size]
      refine ⟨_, rfl, a, S, dx, _, _, rfl, ha, Y.cl, Y.nZ, sF_sizes ls lv, _, rfl, ls, _, (i : Int), _, rfl, rfl, SqL.of hl, atI_nat hv, ?_⟩
      -- sifter.sizes[size] = (flour, bran)
      refine ⟨_, rfl, _, rfl, small _ (by show 2 ≤ 100000; decide), fun t nt => ?_⟩
      have s1 : Same H (upd H t (.tup [.int fl, .int br])) := same_new nt
      have t1 : (upd H t (.tup [.int fl, .int br])) t = some (.tup [.int fl, .int br]) := upd_same
      generalize upd H t (.tup [.int fl, .int br]) = H1 at s1 t1
      have l1 := s1 _ _ hl
      refine ⟨_, rfl, a, S, dx, _, _, rfl, s1 _ _ ha, Y.cl, Y.nZ, sF_sizes ls lv, _, rfl, ls, vs, (i : Int), i, rfl, rfl, l1, ?_, ?_⟩
      · unfold ixN
        rw [if_pos (by omega), if_pos (by rw [hz.len]; omega)]
        rfl
      have kp : ∀ b u, H1 b = some u → b ≠ ls → (upd H1 ls (.lst (vs.set i (.ref t)))) b = some u := fun b u e n => by
        rw [upd_ne n]
        exact e
      have l2 : (upd H1 ls (.lst (vs.set i (.ref t)))) ls = some (.lst (vs.set i (.ref t))) := upd_same
      have als : a ≠ ls := ne_of ha hl (by intro z; cases z)
      have tls : t ≠ ls := ne_of t1 l1 (by intro z; cases z)
      have z2 : All2 (SzV (upd H1 ls (.lst (vs.set i (.ref t))))) (vs.set i (.ref t)) (s.sizes.set i ⟨fl, br⟩) :=
        All2.put (hz.imp fun v x ⟨t', ev, e⟩ => ⟨t', ev, kp _ _ (s1 _ _ e) (ne_of e hl (by intro z; cases z))⟩) i ⟨t, rfl, kp _ _ t1 tls⟩
      have a2 := kp _ _ (s1 _ _ ha) als
      have v2 := kp _ _ (s1 _ _ hs.sv) hs.ne.symm
      have t2 := kp _ _ (s1 _ _ ht0) (ne_of ht0 hl (by intro z; cases z))
      have keep : Kept H (upd H1 ls (.lst (vs.set i (.ref t)))) a ls lv := fun b u e _ n _ => kp _ _ (s1 _ _ e) n
      generalize upd H1 ls (.lst (vs.set i (.ref t))) = H2 at l2 z2 a2 v2 t2 keep
      refine ⟨_, rfl, t0, _, 0, _, rfl, rfl, SqT.of t2, rfl, _, rfl, t0, _, 1, _, rfl, rfl, SqT.of t2, rfl, small _ (by show 3 ≤ 100000; decide), fun o no => ?_⟩
      have s3 : Same H2 (upd H2 o (.lst [V.int 0, V.int (x.flour : Int), V.int (x.bran : Int)])) := same_new no
      refine hQ _ o ls lv _ _ d1 (fun b u e n1 n2 n3 => s3 _ _ (keep b u e n1 n2 n3)) (.inl rfl) (.inl rfl) ⟨⟨dx, s3 _ _ a2⟩, ⟨_, s3 _ _ l2, z2.imp fun _ _ z => z.same s3⟩, s3 _ _ v2, hs.ne⟩ ?_ (fresh_of keep no) upd_same
      refine ⟨?_, fun y hy => ?_, ?_⟩
      · show (s.sizes.set i _).length ≤ 10
        rw [List.length_set]
        exact hg.few
      · rcases List.mem_or_eq_of_mem_set hy with q | q
        · exact hg.low y q
        · subst q
          exact good
      · show Pos (s.sizes.set i _).length 1 s.sieves
        rw [List.length_set]
        exact hg.pos
/-! ### get_sizes -/
theorem due_getSizes {s : Sifter} : due s 4 [] = (some s, nums (s.sizes.length :: s.sizes.flatMap fun x => [x.flour, x.bran])) := by
  rw [due_of (x := .getSizes) (by rfl)]
  rfl
abbrev nGS : List Str := ["sifter", "arguments", "result", "amounts"]
theorem scGS : FnScope nGS ["sifter", "arguments"] (defScope sGetSizes) := ⟨rfl, rfl, rfl, by decide +kernel, rfl, by decide +kernel, by decide +kernel⟩
theorem nums_ints (l : List Nat) : (nums l).map V.int = nats l := by
  unfold nums nats
  rw [List.map_map]
  rfl
theorem ok_get_sizes {f S fS : Addr} {fd fdS : FuncData} {k : Nat} (D : Df K mg "get_sizes" sGetSizes ["sifter", "arguments"] f fd) (T : Own mg) (Y : SifT K mg S fS fdS) : FnOk P w K mg base (L2.CX P w) (k + 1) f fd ["sifter", "arguments"] (spOp K R S 4) := by
  refine D.F.okX scGS (fun vs H Q E h => ?_) (fun cdv A outer s H vs Q E hr h => ?_)
  · obtain ⟨a, la, ls, lv, s, l, rfl, _⟩ := h
    rfl
  · refine ⟨_, pss_cons (ps_set (i := 2) scGS.nd rfl (.inl rfl) (pe_lst (pa_cons (pe_callB call_len_seq (by rfl) T.len PySem.boot_len (pa_cons (pe_fld (pv 0) rfl) pa_nil)) pa_nil)))
      (pss_cons (ps_for (passes_of rfl) rfl (pi_list (pe_fld (pv 0) rfl)) (pg_name (i := 3) scGS.nd rfl (.inl rfl))
        (pss_one (ps_expr (pe_bm PySem.F.plainAttrs_list PySem.F.slot_list_extend PySem.F.type_list_extend mt_extT (pv 2) (pa_cons (pv 3) pa_nil)))))
      (pss_one (ps_ret (pv 2)))), ?_⟩
    obtain ⟨a, la, ls, lv, s, l, rfl, hs, hg, hla, n1, n2, hask, hE, hQ⟩ := h
    obtain rfl := asked_none (.inr (.inl rfl)) hask
    obtain ⟨dx, ha⟩ := hs.obj
    obtain ⟨vs, hl, hz⟩ := hs.sz
    have few := hg.few
    refine ⟨_, rfl, a, S, dx, _, _, rfl, ha, Y.cl, Y.nZ, sF_sizes ls lv, ls, _, rfl, .inl (SqL.of hl), small _ (by show 1 ≤ 100000; decide), fun o no => ?_⟩
    rw [hz.len]
    have s1 : Same H (upd H o (.lst [V.int (s.sizes.length : Int)])) := same_new no
    have o1 : (upd H o (.lst [V.int (s.sizes.length : Int)])) o = some (.lst [V.int (s.sizes.length : Int)]) := upd_same
    generalize upd H o (.lst [V.int (s.sizes.length : Int)]) = H1 at s1 o1
    refine ⟨_, rfl, a, S, dx, _, _, rfl, s1 _ _ ha, Y.cl, Y.nZ, sF_sizes ls lv, ls, rfl, ⟨_, SqL.of (s1 _ _ hl)⟩, for_list (K := K) (a := ls) (xs := vs)
      (fun i σ H' => ∃ v : Option V, σ = [some (.ref a), some (.ref la), some (.ref o), v] ∧ Same H H' ∧ H' o = some (.lst (nats (s.sizes.length :: (s.sizes.take i).flatMap fun x => [x.flour, x.bran]))))
      ⟨none, rfl, s1, o1⟩ (fun i σ H' _ ⟨_, _, z, _⟩ => SqL.of (z _ _ hl)) ?_ ?_⟩
    · rintro i x σ H' hx ⟨v, rfl, sm, ho⟩
      obtain ⟨z, hzz, t, rfl, ht⟩ := hz.some_of hx
      have room : ∀ l : List SizeFraction, (l.flatMap fun x => [x.flour, x.bran]).length = 2 * l.length := fun l => by
        induction l with
        | nil => rfl
        | cons y l ih =>
          simp only [List.flatMap_cons, List.length_append, List.length_cons, List.length_nil, ih]
          omega
      refine ⟨_, rfl, .inl ⟨rfl, _, SqL.of ho⟩, _, rfl, o, t, _, _, rfl, rfl, ho, SqT.of (sm _ _ ht), small _ ?_, _, rfl, fun b u e => ?_, ?_⟩
      · rw [List.length_map, List.length_cons, room, List.length_take]
        show _ + 2 ≤ _
        omega
      · rw [upd_ne (ne_of_none e no)]
        exact sm _ _ e
      · rw [upd_same, take_more hzz]
        simp [nats]
    · rintro σ H' ⟨v, rfl, sm, ho⟩
      refine ⟨_, rfl, hQ H' o ls lv s _ due_getSizes (Kept.of sm) (.inl rfl) (.inl rfl) (hs.same sm) hg (fresh_new no) ?_⟩
      rw [hz.len, List.take_length] at ho
      rw [nums_ints]
      exact ho
end
end Sv

namespace Sv
open PySem PySem.Spec PyProof.Rows L2
open Kp409 (Sifter SizeFraction classes totalFlour totalBran totalWeight misplacedInClass)
section
variable {P : Program} {w : World} {K : PySem.W.Frag} {mg : Str → Option Value} {base : Heap} {R fR : Addr} {fdR : FuncData}
/-! ### misplaced -/
theorem due_misplaced {s : Sifter} : due s 8 [] = (some s, [((Kp409.misplaced s s.sieves : Nat) : Int)]) := by
  rw [due_of (x := .misplaced) (by rfl)]
  rfl
abbrev nMI : List Str := ["sifter", "arguments"]
theorem scMI : FnScope nMI ["sifter", "arguments"] (defScope sMisplaced) := ⟨rfl, rfl, rfl, by decide +kernel, rfl, by decide +kernel, by decide +kernel⟩
variable {f1 f2 f3 f4 f5 f6 f7 : Addr} {fd1 fd2 fd3 fd4 fd5 fd6 fd7 : FuncData}
theorem ok_misplaced {f S fS : Addr} {fd fdS : FuncData} {k : Nat} (D : Df K mg "misplaced" sMisplaced ["sifter", "arguments"] f fd) (T : Own mg) (Z : ClassesT K mg f1 f2 f3 f4 f5 f6 f7 fd1 fd2 fd3 fd4 fd5 fd6 fd7) (Y : SifT K mg S fS fdS) : FnOk P w K mg base (L2.CX P w) (k + 5) f fd ["sifter", "arguments"] (spOp K R S 8) := by
  have GM : FnOk P w K mg base CX0 (k + 4) f6 fd6 ["sizes", "positions"] spMis := ok_misplaced_amount Z T
  refine D.F.okX scMI (fun vs H Q E h => ?_) (fun cdv A outer s H vs Q E hr h => ?_)
  · obtain ⟨a, la, ls, lv, s, l, rfl, _⟩ := h
    rfl
  · refine ⟨_, pss_one (ps_ret (pe_lst (pa_cons (pe_call GM hr rfl Z.ma.g Z.ma.F.kp Z.ma.b .nil pass0 (pa_cons (pe_fld (pv 0) rfl) (pa_cons (pe_fld (pv 0) rfl) pa_nil))) pa_nil))), ?_⟩
    obtain ⟨a, la, ls, lv, s, l, rfl, hs, hg, hla, n1, n2, hask, hE, hQ⟩ := h
    obtain rfl := asked_none (.inr (.inr (.inr (.inr (.inl rfl))))) hask
    obtain ⟨dx, ha⟩ := hs.obj
    refine ⟨_, rfl, a, S, dx, _, _, rfl, ha, Y.cl, Y.nZ, sF_sizes ls lv, _, rfl, a, S, dx, _, _, rfl, ha, Y.cl, Y.nV, sF_sieves ls lv, ls, lv, s, s.sieves, rfl, hs.sz, hg.few, hs.sv, hg.pos, fun H1 s1 => ⟨small _ (by show 1 ≤ 100000; decide), fun o no => ?_⟩⟩
    have s2 := s1.trans (same_new (o := .lst [V.int (Kp409.misplaced s s.sieves : Nat)]) no)
    exact hQ _ o ls lv s _ due_misplaced (Kept.of s2) (.inl rfl) (.inl rfl) (hs.same s2) hg (fresh_new (s1.free no)) upd_same
/-! ### misplaced(sifter, []) where the sieves are new -/
theorem ask_mis {S : Addr} {H2 : Hp} {a ls L e : Addr} {s2 : Sifter} {Q : VK} {E : XK} (sif : SifAt S H2 a ls L s2) (gd : Good s2) (ne : H2 e = none)
    (fin : ∀ (H' : Hp) (o ls' lv' : Addr), Kept (upd H2 e (.lst [])) H' a ls L → Mine (upd H2 e (.lst [])) ls' ls → Mine (upd H2 e (.lst [])) lv' L → SifAt S H' a ls' lv' s2 → Fresh (upd H2 e (.lst [])) o a ls L → H' o = some (.lst [.int (Kp409.misplaced s2 s2.sieves : Nat)]) → Q (.ref o) H') :
    spOp K R S 8 [.ref a, .ref e] (upd H2 e (.lst [])) Q E := by
  have s3 : Same H2 (upd H2 e (.lst [])) := same_new ne
  obtain ⟨vs, l2, _⟩ := id sif.sz
  refine ⟨a, e, ls, L, _, [], rfl, sif.same s3, gd, upd_same, (ne_of_none l2 ne).symm, (ne_of_none sif.sv ne).symm, rfl, fun c hc neg => ?_, fun H' o ls' lv' s' ns hd hk m1 m2 hs' hg' fr ho => ?_⟩
  · rw [due_misplaced] at hc
    have z : ((Kp409.misplaced s2 s2.sieves : Nat) : Int) = c := List.head_eq_of_cons_eq (Prod.mk.inj hc).2
    omega
  · rw [due_misplaced] at hd
    obtain ⟨e1, e2⟩ := Prod.mk.inj hd
    cases e1
    subst e2
    exact fin H' o ls' lv' hk m1 m2 hs' fr ho
/-- the same, in an operation that made the new list -/
theorem done_mis {S : Addr} {H H2 : Hp} {a la ls lv L e : Addr} {s s2 : Sifter} {p : Int} {l : List Nat} {Q : VK} {E : XK} (sif : SifAt S H2 a ls L s2) (gd : Good s2) (keep : Kept H H2 a ls lv) (free : ∀ b, H2 b = none → H b = none) (mL : Mine H L lv) (ne : H2 e = none)
    (hd : due s p l = (some s2, [((Kp409.misplaced s2 s2.sieves : Nat) : Int)]))
    (hQ : ∀ (H' : Hp) (o ls' lv' : Addr) (s' : Sifter) (ns : List Int), due s p l = (some s', ns) → Kept H H' a ls lv → Mine H ls' ls → Mine H lv' lv → SifAt S H' a ls' lv' s' → Good s' → Fresh H o a ls lv → H' o = some (.lst (ns.map V.int)) → Q (.ref o) H') :
    spOp K R S 8 [.ref a, .ref e] (upd H2 e (.lst [])) Q E := by
  have s3 : Same H2 (upd H2 e (.lst [])) := same_new ne
  have nL : ∀ {b u}, H b = some u → b ≠ lv → b ≠ L := fun {b u} e0 n => by
    rcases mL with q | q
    · rw [q]
      exact n
    · exact ne_of_none e0 q
  refine ask_mis sif gd ne fun H' o ls' lv' hk m1 m2 hs' fr ho => ?_
  have back : ∀ {x y}, Mine (upd H2 e (.lst [])) x y → x = y ∨ H x = none := fun {x y} m => by
    rcases m with q | q
    · exact .inl q
    · exact .inr (free x (s3.free q))
  refine hQ H' o ls' lv' s2 _ hd (fun b u e0 n1 n2 n3 => hk b u (s3 _ _ (keep b u e0 n1 n2 n3)) n1 n2 (nL e0 n3)) (back m1) ?_ hs' gd (fun b u e0 n1 n2 n3 => fr b u (s3 _ _ (keep b u e0 n1 n2 n3)) n1 n2 (nL e0 n3)) ho
  rcases back m2 with q | q
  · rw [q]
    exact mL
  · exact .inr q
/-- the sifter's list of sieves is another -/
theorem put_sieves {S : Addr} {H H1 : Hp} {a ls lv L dx : Addr} {s : Sifter} {l : List Nat} (hs : SifAt S H a ls lv s) (ha : H a = some (.ins S dx (sF ls lv))) (s1 : ∀ {b : Addr} {u : HO}, H b = some u → (∀ ps, u ≠ .tbl ps) → H1 b = some u) (L1 : H1 L = some (.lst (nats l))) (nl : ls ≠ L) :
    SifAt S (upd H1 a (.ins S dx (sF ls L))) a ls L { s with sieves := l } := by
  obtain ⟨vs, hl, hz⟩ := hs.sz
  have kp : ∀ {b u}, H1 b = some u → b ≠ a → (upd H1 a (.ins S dx (sF ls L))) b = some u := fun {b u} e n => by
    rw [upd_ne n]
    exact e
  have a1 := s1 ha (by intro ps z; cases z)
  refine ⟨⟨dx, upd_same⟩, ⟨vs, kp (s1 hl (by intro ps z; cases z)) (ne_of ha hl (by intro z; cases z)).symm, hz.imp fun v x ⟨t', ev, e⟩ => ⟨t', ev, kp (s1 e (by intro ps z; cases z)) (ne_of e ha (by intro z; cases z))⟩⟩, kp L1 (ne_of a1 L1 (by intro z; cases z)).symm, nl⟩
/-! ### set_sieves -/
theorem due_setSieves {s : Sifter} {l : List Nat} : due s 5 l = if Kp409.validSieves s l then (some { s with sieves := l }, [((Kp409.misplaced s l : Nat) : Int)]) else (some s, [-22]) := by
  rw [due_of (x := .setSieves ((nums l).map Int.toNat)) (by rfl), nums_toNat]
  simp only [Kp409.step, Kp409.single]
  split <;> rfl
theorem scSV : FnScope nMI ["sifter", "arguments"] (defScope sSetSieves) := ⟨rfl, rfl, rfl, by decide +kernel, rfl, by decide +kernel, by decide +kernel⟩
theorem ok_set_sieves {f fP fN fM C fC S fS : Addr} {fd fdP fdN fdM fdC fdS : FuncData} {k : Nat} (D : Df K mg "set_sieves" sSetSieves ["sifter", "arguments"] f fd) (T : Own mg) (B : RefT K mg R fR fdR) (X : ErrT K mg R "OutsideLimits" "OutsideLimits.__init__" sOutsideLimits C fC fdC)
    (Z : ClassesT K mg f1 f2 f3 f4 f5 f6 f7 fd1 fd2 fd3 fd4 fd5 fd6 fd7) (A1 : Df K mg "are_positions" sArePositions ["numbers", "size_count"] fP fdP) (A2 : Df K mg "check_positions" sCheckPositions ["sifter", "positions"] fN fdN) (M : Df K mg "misplaced" sMisplaced ["sifter", "arguments"] fM fdM) (Y : SifT K mg S fS fdS) :
    FnOk P w K mg base (L2.CX P w) (k + 6) f fd ["sifter", "arguments"] (spOp K R S 5) := by
  have GN : FnOk P w K mg base (L2.CX P w) (k + 4) fN fdN ["sifter", "positions"] (spCheckPos K R S) := ok_check_positions A2 T B X A1 Y
  have GM : FnOk P w K mg base (L2.CX P w) (k + 5) fM fdM ["sifter", "arguments"] (spOp K R S 8) := ok_misplaced M T Z Y
  refine D.F.okX scSV (fun vs H Q E h => ?_) (fun cdv A outer s H vs Q E hr h => ?_)
  · obtain ⟨a, la, ls, lv, s, l, rfl, _⟩ := h
    rfl
  · refine ⟨_, pss_cons (ps_expr (pe_call GN (hr.mono (by omega)) rfl A2.g A2.F.kp A2.b .nil (passes_call (takes_of rfl rfl rfl rfl) (fun _ _ _ _ h => h)) (pa_cons (pv 0) (pa_cons (pv 1) pa_nil))))
      (pss_cons (ps_fld (pv 0) (pe_callTy call_list_of (by rfl) T.list (by decide +kernel) (pa_cons (pv 1) pa_nil)) rfl)
      (pss_one (ps_ret (pe_call GM hr rfl M.g M.F.kp M.b .nil (passes_call (takes_of rfl rfl rfl rfl) (fun _ _ _ _ h => h)) (pa_cons (pv 0) (pa_cons (pe_lst pa_nil) pa_nil)))))), ?_⟩
    obtain ⟨a, la, ls, lv, s, l, rfl, hs, hg, hla, n1, n2, hask, hE, hQ⟩ := h
    obtain ⟨dx, ha⟩ := hs.obj
    have d1 := due_setSieves (s := s) (l := l)
    refine ⟨_, rfl, _, rfl, a, ls, lv, la, s, l, rfl, hs, hla, fun bad => hE (-22) ?_ (by decide), fun ps => ?_⟩
    · rw [d1, if_neg]
      exact fun z => bad (valid_iff.mp z)
    rw [if_pos (valid_iff.mpr ps)] at d1
    -- sifter.sieves = list(arguments)
    refine ⟨_, rfl, la, _, rfl, .inl (SqL.of hla), fun L nL => ?_⟩
    have s1 : Same H (upd H L (.lst (nats l))) := same_new nL
    have L1 : (upd H L (.lst (nats l))) L = some (.lst (nats l)) := upd_same
    generalize upd H L (.lst (nats l)) = H1 at s1 L1
    obtain ⟨vs, hl, hz⟩ := id hs.sz
    refine ⟨_, rfl, a, S, dx, _, rfl, s1 _ _ ha, Y.cl, Y.nV, (by show 2 < 1000; decide), ?_⟩
    rw [sF_putV]
    have sif := put_sieves (l := l) hs ha (fun e _ => s1 _ _ e) L1 (ne_of_none hl nL)
    have keep : Kept H (upd H1 a (.ins S dx (sF ls L))) a ls lv := fun b u e n1 n2 n3 => by
      rw [upd_ne n1]
      exact s1 _ _ e
    have free : ∀ b, (upd H1 a (.ins S dx (sF ls L))) b = none → H b = none := fun b e => by
      by_cases n : b = a
      · rw [n, upd_same] at e
        cases e
      · rw [upd_ne n] at e
        exact s1.free e
    generalize upd H1 a (.ins S dx (sF ls L)) = H2 at sif keep free
    -- return misplaced(sifter, [])
    exact ⟨_, rfl, Nat.zero_le _, fun e ne => done_mis (la := la) sif ⟨hg.few, hg.low, ps⟩ keep free (.inr nL) ne d1 hQ⟩
/-! ### get_sieves -/
theorem due_getSieves {s : Sifter} : due s 6 [] = (some s, nums (s.sieves.length :: s.sieves)) := by
  rw [due_of (x := .getSieves) (by rfl)]
  rfl
theorem scGV : FnScope nMI ["sifter", "arguments"] (defScope sGetSieves) := ⟨rfl, rfl, rfl, by decide +kernel, rfl, by decide +kernel, by decide +kernel⟩
theorem ok_get_sieves {f S fS : Addr} {fd fdS : FuncData} {k : Nat} (D : Df K mg "get_sieves" sGetSieves ["sifter", "arguments"] f fd) (T : Own mg) (Y : SifT K mg S fS fdS) : FnOk P w K mg base (L2.CX P w) (k + 1) f fd ["sifter", "arguments"] (spOp K R S 6) := by
  refine D.F.okX scGV (fun vs H Q E h => ?_) (fun cdv A outer s H vs Q E hr h => ?_)
  · obtain ⟨a, la, ls, lv, s, l, rfl, _⟩ := h
    rfl
  · refine ⟨_, pss_one (ps_ret (pe_op op_cat (pe_lst (pa_cons (pe_callB call_len_seq (by rfl) T.len PySem.boot_len (pa_cons (pe_fld (pv 0) rfl) pa_nil)) pa_nil)) (pe_fld (pv 0) rfl))), ?_⟩
    obtain ⟨a, la, ls, lv, s, l, rfl, hs, hg, hla, n1, n2, hask, hE, hQ⟩ := h
    obtain rfl := asked_none (.inr (.inr (.inl rfl))) hask
    obtain ⟨dx, ha⟩ := hs.obj
    have few : s.sieves.length ≤ 10 := Nat.le_trans (pos_len hg.pos) hg.few
    refine ⟨_, rfl, a, S, dx, _, _, rfl, ha, Y.cl, Y.nV, sF_sieves ls lv, lv, _, rfl, .inl (SqL.of hs.sv), small _ (by show 1 ≤ 100000; decide), fun e ne => ?_⟩
    rw [List.length_map]
    have s1 : Same H (upd H e (.lst [V.int (s.sieves.length : Int)])) := same_new ne
    have e1 : (upd H e (.lst [V.int (s.sieves.length : Int)])) e = some (.lst [V.int (s.sieves.length : Int)]) := upd_same
    generalize upd H e (.lst [V.int (s.sieves.length : Int)]) = H1 at s1 e1
    refine ⟨_, rfl, a, S, dx, _, _, rfl, s1 _ _ ha, Y.cl, Y.nV, sF_sieves ls lv, e, lv, _, _, rfl, rfl, e1, s1 _ _ hs.sv, small _ (by simp only [List.length_map, List.length_singleton]; omega), fun o no => ?_⟩
    have s2 := s1.trans (same_new (o := .lst ([V.int (s.sieves.length : Int)] ++ nats s.sieves)) no)
    refine hQ _ o ls lv s _ due_getSieves (Kept.of s2) (.inl rfl) (.inl rfl) (hs.same s2) hg (fresh_new (s1.free no)) ?_
    rw [nums_ints]
    exact upd_same
end
end Sv

namespace Sv
open PySem PySem.Spec PyProof.Rows L2
open Kp409 (Sifter SizeFraction classes totalFlour totalBran totalWeight misplacedInClass)
/-! ### the classes hold all sizes -/
theorem segs_flat {sz : List SizeFraction} : ∀ {pos : List Nat} {a : Nat}, (a :: (pos ++ [sz.length])).Pairwise (· ≤ ·) → (((pos ++ [sz.length]).zip (a :: (pos ++ [sz.length]))).map (seg sz)).flatten = sz.drop a
  | [], a, h => by
    simp [seg]
  | p :: r, a, h => by
    have u := List.pairwise_cons.mp h
    have ap : a ≤ p := u.1 p (by simp)
    have ih := segs_flat (sz := sz) (pos := r) (a := p) u.2
    show (seg sz (p, a) :: ((r ++ [sz.length]).zip (p :: (r ++ [sz.length]))).map (seg sz)).flatten = sz.drop a
    rw [List.flatten_cons, ih]
    unfold seg
    dsimp only
    have e : sz.drop a = (sz.drop a).take (p - a) ++ (sz.drop a).drop (p - a) := (List.take_append_drop _ _).symm
    rw [e, List.drop_take, List.drop_drop, show a + (p - a) = p by omega]
theorem classes_flat {s : Sifter} {pos : List Nat} (h : Pos s.sizes.length 1 pos) : (classes s pos).flatten = s.sizes := by
  rw [classes_cuts, segs_flat (cuts_up h)]
  rfl
theorem flour_flat : ∀ cs : List (List SizeFraction), (cs.map totalFlour).sum = totalFlour cs.flatten
  | [] => rfl
  | c :: cs => by
    unfold Kp409.totalFlour
    rw [List.map_cons, List.sum_cons, List.flatten_cons, List.map_append, List.sum_append]
    have := flour_flat cs
    unfold Kp409.totalFlour at this
    rw [this]
theorem min_le_flour : ∀ cs : List (List SizeFraction), (cs.map misplacedInClass).sum ≤ (cs.map totalFlour).sum
  | [] => Nat.le_refl _
  | c :: cs => by
    rw [List.map_cons, List.map_cons, List.sum_cons, List.sum_cons]
    exact Nat.add_le_add (Nat.min_le_left _ _) (min_le_flour cs)
theorem misplaced_le {s : Sifter} {pos : List Nat} (h : Pos s.sizes.length 1 pos) : Kp409.misplaced s pos ≤ totalWeight s.sizes := by
  have a := min_le_flour (classes s pos)
  rw [flour_flat, classes_flat h] at a
  exact Nat.le_trans a (Nat.le_add_right _ _)
theorem weight_small : ∀ {sz : List SizeFraction}, (∀ x ∈ sz, x.flour ≤ 99 ∧ x.bran ≤ 99) → totalWeight sz ≤ 198 * sz.length
  | [], _ => Nat.le_refl _
  | x :: sz, h => by
    have a := h x List.mem_cons_self
    have b := weight_small (sz := sz) fun y hy => h y (List.mem_cons_of_mem _ hy)
    rw [← weight_sum] at b ⊢
    rw [List.map_cons, List.sum_cons, List.length_cons]
    omega
section
variable {P : Program} {w : World} {K : PySem.W.Frag} {mg : Str → Option Value} {base : Heap} {R fR : Addr} {fdR : FuncData} {f1 f2 f3 f4 f5 f6 f7 : Addr} {fd1 fd2 fd3 fd4 fd5 fd6 fd7 : FuncData}
/-! ### get_classes -/
theorem due_getClasses {s : Sifter} : due s 7 [] = (some s, nums ((classes s s.sieves).length :: (classes s s.sieves).flatMap fun c => [c.length, totalFlour c, totalBran c])) := by
  rw [due_of (x := .getClasses) (by rfl)]
  rfl
abbrev nGC : List Str := ["sifter", "arguments", "totals", "result", "total"]
theorem scGC : FnScope nGC ["sifter", "arguments"] (defScope sGetClasses) := ⟨rfl, rfl, rfl, by decide +kernel, rfl, by decide +kernel, by decide +kernel⟩
theorem three_room : ∀ cs : List (List SizeFraction), (cs.flatMap fun c => [c.length, totalFlour c, totalBran c]).length = 3 * cs.length
  | [] => rfl
  | c :: cs => by
    simp only [List.flatMap_cons, List.length_append, List.length_cons, List.length_nil, three_room cs]
    omega
theorem ok_get_classes {f S fS : Addr} {fd fdS : FuncData} {k : Nat} (D : Df K mg "get_classes" sGetClasses ["sifter", "arguments"] f fd) (T : Own mg) (Z : ClassesT K mg f1 f2 f3 f4 f5 f6 f7 fd1 fd2 fd3 fd4 fd5 fd6 fd7) (Y : SifT K mg S fS fdS) : FnOk P w K mg base (L2.CX P w) (k + 3) f fd ["sifter", "arguments"] (spOp K R S 7) := by
  have GC : FnOk P w K mg base CX0 (k + 2) f2 fd2 ["sizes", "positions"] spClassTotals := ok_class_totals Z.ct T Z.ta
  refine D.F.okX scGC (fun vs H Q E h => ?_) (fun cdv A outer s H vs Q E hr h => ?_)
  · obtain ⟨a, la, ls, lv, s, l, rfl, _⟩ := h
    rfl
  · refine ⟨_, pss_cons (ps_set (i := 2) scGC.nd rfl (.inl rfl) (pe_call GC hr rfl Z.ct.g Z.ct.F.kp Z.ct.b .nil pass0 (pa_cons (pe_fld (pv 0) rfl) (pa_cons (pe_fld (pv 0) rfl) pa_nil))))
      (pss_cons (ps_set (i := 3) scGC.nd rfl (.inl rfl) (pe_lst (pa_cons (pe_callB call_len_seq (by rfl) T.len PySem.boot_len (pa_cons (pv 2) pa_nil)) pa_nil)))
      (pss_cons (ps_for (passes_of rfl) rfl (pi_list (pv 2)) (pg_name (i := 4) scGC.nd rfl (.inl rfl))
        (pss_one (ps_expr (pe_bm PySem.F.plainAttrs_list PySem.F.slot_list_extend PySem.F.type_list_extend mt_extT (pv 3) (pa_cons (pv 4) pa_nil)))))
      (pss_one (ps_ret (pv 3))))), ?_⟩
    obtain ⟨a, la, ls, lv, s, l, rfl, hs, hg, hla, n1, n2, hask, hE, hQ⟩ := h
    obtain rfl := asked_none (.inr (.inr (.inr (.inl rfl)))) hask
    obtain ⟨dx, ha⟩ := hs.obj
    have few : s.sieves.length ≤ 10 := Nat.le_trans (pos_len hg.pos) hg.few
    refine ⟨_, rfl, a, S, dx, _, _, rfl, ha, Y.cl, Y.nZ, sF_sizes ls lv, _, rfl, a, S, dx, _, _, rfl, ha, Y.cl, Y.nV, sF_sieves ls lv, ls, lv, s, s.sieves, rfl, hs.sz, hg.few, hs.sv, hg.pos, fun H1 p ts s1 np h1 hts => ?_⟩
    refine ⟨_, rfl, p, _, rfl, .inl (SqL.of h1), small _ (by show 1 ≤ 100000; decide), fun o no => ?_⟩
    rw [hts.len]
    have s2 : Same H1 (upd H1 o (.lst [V.int ((classes s s.sieves).length : Int)])) := same_new no
    have o2 : (upd H1 o (.lst [V.int ((classes s s.sieves).length : Int)])) o = some (.lst [V.int ((classes s s.sieves).length : Int)]) := upd_same
    generalize upd H1 o (.lst [V.int ((classes s s.sieves).length : Int)]) = H2 at s2 o2
    refine ⟨_, rfl, p, rfl, ⟨_, SqL.of (s2 _ _ h1)⟩, for_list (K := K) (a := p) (xs := ts)
      (fun i σ H' => ∃ v : Option V, σ = [some (.ref a), some (.ref la), some (.ref p), some (.ref o), v] ∧ Same H1 H' ∧ H' o = some (.lst (nats ((classes s s.sieves).length :: ((classes s s.sieves).take i).flatMap fun c => [c.length, totalFlour c, totalBran c]))))
      ⟨none, rfl, s2, o2⟩ (fun i σ H' _ ⟨_, _, z, _⟩ => SqL.of (z _ _ h1)) ?_ ?_⟩
    · rintro i x σ H' hx ⟨v, rfl, sm, ho⟩
      obtain ⟨c, hc, t, rfl, ht⟩ := hts.some_of hx
      refine ⟨_, rfl, .inl ⟨rfl, _, SqL.of ho⟩, _, rfl, o, t, _, _, rfl, rfl, ho, SqT.of (sm _ _ ht), small _ ?_, _, rfl, fun b u e => ?_, ?_⟩
      · have := classes_len s s.sieves
        rw [List.length_map, List.length_cons, three_room, List.length_take]
        show _ + 3 ≤ _
        omega
      · rw [upd_ne (ne_of_none e no)]
        exact sm _ _ e
      · rw [upd_same, take_more hc]
        simp [nats]
    · rintro σ H' ⟨v, rfl, sm, ho⟩
      refine ⟨_, rfl, hQ H' o ls lv s _ due_getClasses (Kept.of (s1.trans sm)) (.inl rfl) (.inl rfl) (hs.same (s1.trans sm)) hg (fresh_new (s1.free no)) ?_⟩
      rw [hts.len, List.take_length] at ho
      rw [nums_ints]
      exact ho
/-! ### purity -/
theorem due_purity {s : Sifter} (hp : Pos s.sizes.length 1 s.sieves) : due s 9 [] = if totalWeight s.sizes = 0 then (some s, [-6]) else
    (some s, [0, ((totalWeight s.sizes - Kp409.misplaced s s.sieves : Nat) : Int) / (Nat.gcd (totalWeight s.sizes - Kp409.misplaced s s.sieves) (totalWeight s.sizes) : Int), (totalWeight s.sizes : Int) / (Nat.gcd (totalWeight s.sizes - Kp409.misplaced s s.sieves) (totalWeight s.sizes) : Int)]) := by
  rw [due_of (x := .purity) (by rfl)]
  simp only [Kp409.step, Kp409.single]
  by_cases c : totalWeight s.sizes = 0
  · rw [if_pos c, if_pos c]
  · rw [if_neg c, if_neg c]
    have z := rat_parts (totalWeight s.sizes - Kp409.misplaced s s.sieves) (totalWeight s.sizes) c
    dsimp only
    rw [z.1, z.2]
abbrev nPU : List Str := ["sifter", "arguments", "weight", "amount"]
theorem scPU : FnScope nPU ["sifter", "arguments"] (defScope sPurity) := ⟨rfl, rfl, rfl, by decide +kernel, rfl, by decide +kernel, by decide +kernel⟩
theorem ok_purity {f fL fG C fC S fS : Addr} {fd fdL fdG fdC fdS : FuncData} {k : Nat} (D : Df K mg "purity" sPurity ["sifter", "arguments"] f fd) (T : Own mg) (B : RefT K mg R fR fdR) (X : ErrT K mg R "NothingThere" "NothingThere.__init__" sNothingThere C fC fdC)
    (Z : ClassesT K mg f1 f2 f3 f4 f5 f6 f7 fd1 fd2 fd3 fd4 fd5 fd6 fd7) (L1 : Df K mg "lowest_terms" sLowest ["numerator", "denominator"] fL fdL) (L2' : Df K mg "greatest_divisor" sGcd ["first", "second"] fG fdG) (Y : SifT K mg S fS fdS) :
    FnOk P w K mg base (L2.CX P w) (k + 5) f fd ["sifter", "arguments"] (spOp K R S 9) := by
  have GM : FnOk P w K mg base CX0 (k + 4) f6 fd6 ["sizes", "positions"] spMis := ok_misplaced_amount Z T
  have GW : FnOk P w K mg base CX0 (k + 1) f1 fd1 ["parts"] spTotal := ok_total_amounts Z.ta T
  have GL : FnOk P w K mg base CX0 (k + 2) fL fdL ["numerator", "denominator"] spLowest := ok_lowest L1 L2'
  have G : FnOk P w K mg base CX0 (k + 2) fC fdC ["self"] (spCoded K (-6)) := ok_NothingThere T B X
  refine D.F.okX scPU (fun vs H Q E h => ?_) (fun cdv A outer s H vs Q E hr h => ?_)
  · obtain ⟨a, la, ls, lv, s, l, rfl, _⟩ := h
    rfl
  · refine ⟨_, pss_cons (ps_set (i := 2) scPU.nd rfl (.inl rfl) (pe_callB (cr_sumT rfl) (by rfl) T.sum (by decide +kernel) (pa_cons (pe_call GW (hr.mono (by omega)) rfl Z.ta.g Z.ta.F.kp Z.ta.b .nil pass0 (pa_cons (pe_fld (pv 0) rfl) pa_nil)) pa_nil)))
      (pss_cons (ps_if (pt_cmpR op_eq (pv 2) pe_int (nomark _))
        (pss_one (ps_raise rfl (takes_of rfl rfl rfl rfl) (pmk_own0 X.ex X.iC X.tI G (hr.mono (by omega)) X.b pass0 (by rfl) X.g))) pss_nil)
      (pss_cons (ps_set (i := 3) scPU.nd rfl (.inl rfl) (pe_call GM (hr.mono (by omega)) rfl Z.ma.g Z.ma.F.kp Z.ma.b .nil pass0 (pa_cons (pe_fld (pv 0) rfl) (pa_cons (pe_fld (pv 0) rfl) pa_nil))))
      (pss_one (ps_ret (pe_op op_cat (pe_lst (pa_cons pe_int pa_nil)) (pe_call GL (hr.mono (by omega)) rfl L1.g L1.F.kp L1.b .nil pass0 (pa_cons (pe_op op_sub (pv 2) (pv 3)) (pa_cons (pv 2) pa_nil)))))))), ?_⟩
    obtain ⟨a, la, ls, lv, s, l, rfl, hs, hg, hla, n1, n2, hask, hE, hQ⟩ := h
    obtain rfl := asked_none (.inr (.inr (.inr (.inr (.inr (.inl rfl)))))) hask
    obtain ⟨dx, ha⟩ := hs.obj
    have d1 := due_purity (s := s) hg.pos
    have ml := misplaced_le hg.pos
    have ws := weight_small hg.low
    have few := hg.few
    refine ⟨_, rfl, a, S, dx, _, _, rfl, ha, Y.cl, Y.nZ, sF_sizes ls lv, ls, s.sizes.map fb, rfl, hs.sz.pr, by rw [List.length_map]; omega, fun H1 t s1 nt ht => ?_⟩
    rw [fb_flour, fb_bran] at ht
    refine ⟨t, [(totalFlour s.sizes : Int), (totalBran s.sizes : Int)], rfl, SqT.of ht, ?_⟩
    have ew : V.int ([(totalFlour s.sizes : Int), (totalBran s.sizes : Int)].sum) = V.int (totalWeight s.sizes : Nat) := by
      unfold Kp409.totalWeight
      simp
    rw [ew]
    refine ⟨_, rfl, rfl, _, rfl, ?_⟩
    by_cases c : totalWeight s.sizes = 0
    · refine ifT (decide_eq_true (show V.int (totalWeight s.sizes : Nat) = V.int 0 by rw [c]; rfl)) ?_
      rw [if_pos c] at d1
      exact raise_NothingThere X ((hE (-6) d1 (by decide)).later s1)
    · refine ifF (decide_eq_false (show ¬ V.int (totalWeight s.sizes : Nat) = V.int 0 by intro z; injection z with z; omega)) ?_
      rw [if_neg c] at d1
      have hs1 := hs.same s1
      have a1 := s1 _ _ ha
      refine ⟨_, rfl, a, S, dx, _, _, rfl, a1, Y.cl, Y.nZ, sF_sizes ls lv, _, rfl, a, S, dx, _, _, rfl, a1, Y.cl, Y.nV, sF_sieves ls lv, ls, lv, s, s.sieves, rfl, hs1.sz, hg.few, hs1.sv, hg.pos, fun H2 s2 => ?_⟩
      refine ⟨small _ (by show 1 ≤ 100000; decide), fun e ne => ?_⟩
      have s3 : Same H2 (upd H2 e (.lst [V.int 0])) := same_new ne
      have e3 : (upd H2 e (.lst [V.int 0])) e = some (.lst [V.int 0]) := upd_same
      generalize upd H2 e (.lst [V.int 0]) = H3 at s3 e3
      refine ⟨_, rfl, _, rfl, _, _, rfl, rfl, _, rfl, totalWeight s.sizes - Kp409.misplaced s s.sieves, totalWeight s.sizes, ?_, by omega, by omega, fun b nb => ?_⟩
      · rw [show ((totalWeight s.sizes - Kp409.misplaced s s.sieves : Nat) : Int) = (totalWeight s.sizes : Int) - (Kp409.misplaced s s.sieves : Int) by omega]
        rfl
      · have s4 := same_new (H := H3) (o := .lst [V.int (((totalWeight s.sizes - Kp409.misplaced s s.sieves : Nat) : Int) / (Nat.gcd (totalWeight s.sizes - Kp409.misplaced s s.sieves) (totalWeight s.sizes) : Int)), V.int ((totalWeight s.sizes : Int) / (Nat.gcd (totalWeight s.sizes - Kp409.misplaced s s.sieves) (totalWeight s.sizes) : Int))]) nb
        refine ⟨e, b, _, _, rfl, rfl, s4 _ _ e3, upd_same, small _ (by show 1 + 2 ≤ 100000; decide), fun o no => ?_⟩
        have s5 := ((s1.trans s2).trans (s3.trans s4)).trans (same_new (o := .lst ([V.int 0] ++ [V.int (((totalWeight s.sizes - Kp409.misplaced s s.sieves : Nat) : Int) / (Nat.gcd (totalWeight s.sizes - Kp409.misplaced s s.sieves) (totalWeight s.sizes) : Int)), V.int ((totalWeight s.sizes : Int) / (Nat.gcd (totalWeight s.sizes - Kp409.misplaced s s.sieves) (totalWeight s.sizes) : Int))])) no)
        exact hQ _ o ls lv s _ d1 (Kept.of s5) (.inl rfl) (.inl rfl) (hs.same s5) hg (fresh_new (((s1.trans s2).trans (s3.trans s4)).free no)) upd_same
end
end Sv

namespace Sv
open PySem PySem.Spec PyProof.Rows L2
open Kp409 (Sifter SizeFraction classes totalFlour totalBran totalWeight misplacedInClass)
abbrev sLowerBound : Stmt := top 46
abbrev sEvaluate : Stmt := top 51
abbrev sDestination : Stmt := top 52
abbrev sYields : Stmt := top 53
section
variable {P : Program} {w : World} {K : PySem.W.Frag} {mg : Str → Option Value} {base : Heap} {R fR : Addr} {fdR : FuncData} {f1 f2 f3 f4 f5 f6 f7 : Addr} {fd1 fd2 fd3 fd4 fd5 fd6 fd7 : FuncData}
/-! ### lower_bound -/
theorem due_lower {s : Sifter} : due s 13 [] = (some s, [((Kp409.lowerBound s : Nat) : Int)]) := by
  rw [due_of (x := .lowerBound) (by rfl)]
  rfl
abbrev nLB : List Str := ["sifter", "arguments", "flour", "bran"]
theorem scLB : FnScope nLB ["sifter", "arguments"] (defScope sLowerBound) := ⟨rfl, rfl, rfl, by decide +kernel, rfl, by decide +kernel, by decide +kernel⟩
theorem ok_lower_bound {f S fS : Addr} {fd fdS : FuncData} {k : Nat} (D : Df K mg "lower_bound" sLowerBound ["sifter", "arguments"] f fd) (T : Own mg) (Y : SifT K mg S fS fdS) : FnOk P w K mg base (L2.CX P w) (k + 1) f fd ["sifter", "arguments"] (spOp K R S 13) := by
  refine D.F.okX scLB (fun vs H Q E h => ?_) (fun cdv A outer s H vs Q E hr h => ?_)
  · obtain ⟨a, la, ls, lv, s, l, rfl, _⟩ := h
    rfl
  · refine ⟨_, pss_one (ps_ret (pe_lst (pa_cons (pe_callB (cr_sum rfl) (by rfl) T.sum (by decide +kernel) (pa_cons (pe_lc (own := [("flour", 2), ("bran", 3)])
        (g := gTup K 2 (gCons (gName 2) (gCons (gName 3) gNil))) (tt := tYes) (te := tCB (fun xs H Q => ∃ i j : Int, xs = [V.int i, V.int j] ∧ Q (.int (if j < i then j else i)) H) (tCons (tVar 2) (tCons (tVar 3) tNil)))
        rfl scLB.nd (pi_list (pe_fld (pv 0) rfl)) (blkOk_by (own := [("flour", 2), ("bran", 3)]) (N := nLB) (sc := defScope sLowerBound) (by decide +kernel))
        (fun _ _ _ _ _ => pg_tup (by rfl) (pgs_cons (pg_name (i := 2) scLB.nd rfl (.inl rfl)) (pgs_cons (pg_name (i := 3) scLB.nd rfl (.inl rfl)) pgs_nil)))
        (fun _ _ _ _ _ => pts_nil) (fun _ _ _ _ _ => pe_callB (call_min2 rfl) (by rfl) T.min (by decide +kernel) (pa_cons (pv 2) (pa_cons (pv 3) pa_nil)))) pa_nil)) pa_nil))), ?_⟩
    obtain ⟨a, la, ls, lv, s, l, rfl, hs, hg, hla, n1, n2, hask, hE, hQ⟩ := h
    obtain rfl := asked_none (.inr (.inr (.inr (.inr (.inr (.inr (.inl rfl))))))) hask
    obtain ⟨dx, ha⟩ := hs.obj
    obtain ⟨vs, hl, hz⟩ := hs.sz
    have few := hg.few
    refine ⟨_, rfl, a, S, dx, _, _, rfl, ha, Y.cl, Y.nZ, sF_sizes ls lv, ls, rfl, ⟨_, SqL.of hl⟩, fun D nD => lc_pure (K := K) (a := ls) (xs := vs) ((s.sizes.map fun x => ((min x.flour x.bran : Nat) : Int)).map V.int) nD (SqL.of hl) (by simp [hz.len]) (small _ (by rw [hz.len]; omega)) (fun j x y H2 P' hx hy s2 hP => ?_) ?_⟩
    · obtain ⟨z, hz', t, rfl, ht⟩ := hz.some_of hx
      have ey : y = V.int ((min z.flour z.bran : Nat) : Int) := by
        rw [List.map_map, List.getElem?_map, hz'] at hy
        exact (Option.some.inj hy).symm
      subst ey
      refine ⟨t, _, rfl, SqT.of (s2 _ _ ht), rfl, _, _, rfl, _, _, rfl, rfl, rfl, ?_⟩
      refine ⟨_, rfl, _, rfl, _, _, rfl, ?_⟩
      rw [min_nat]
      exact hP
    · refine ⟨D, _, rfl, SqL.of upd_same, ?_⟩
      rw [sum_ints (fun x : SizeFraction => min x.flour x.bran)]
      have s1 : Same H (upd H D (.lst ((s.sizes.map fun x => ((min x.flour x.bran : Nat) : Int)).map V.int))) := same_new nD
      generalize upd H D (.lst ((s.sizes.map fun x => ((min x.flour x.bran : Nat) : Int)).map V.int)) = H1 at s1
      refine ⟨small _ (by show 1 ≤ 100000; decide), fun o no => ?_⟩
      exact hQ _ o ls lv s _ due_lower (Kept.of (s1.trans (same_new no))) (.inl rfl) (.inl rfl) (hs.same (s1.trans (same_new no))) hg (fresh_new (s1.free no)) upd_same
/-! ### evaluate_sieves -/
theorem due_evaluate {s : Sifter} {l : List Nat} : due s 18 l = if Kp409.validSieves s l then (some s, [((Kp409.misplaced s l : Nat) : Int), ((Kp409.heaviestClass s l : Nat) : Int)]) else (some s, [-22]) := by
  rw [due_of (x := .evaluateSieves ((nums l).map Int.toNat)) (by rfl), nums_toNat]
  simp only [Kp409.step, Kp409.single, Kp409.natResult]
  split <;> rfl
theorem scEV : FnScope nMI ["sifter", "arguments"] (defScope sEvaluate) := ⟨rfl, rfl, rfl, by decide +kernel, rfl, by decide +kernel, by decide +kernel⟩
theorem ok_evaluate {f fP fN C fC S fS : Addr} {fd fdP fdN fdC fdS : FuncData} {k : Nat} (D : Df K mg "evaluate_sieves" sEvaluate ["sifter", "arguments"] f fd) (T : Own mg) (B : RefT K mg R fR fdR) (X : ErrT K mg R "OutsideLimits" "OutsideLimits.__init__" sOutsideLimits C fC fdC)
    (Z : ClassesT K mg f1 f2 f3 f4 f5 f6 f7 fd1 fd2 fd3 fd4 fd5 fd6 fd7) (A1 : Df K mg "are_positions" sArePositions ["numbers", "size_count"] fP fdP) (A2 : Df K mg "check_positions" sCheckPositions ["sifter", "positions"] fN fdN) (Y : SifT K mg S fS fdS) :
    FnOk P w K mg base (L2.CX P w) (k + 5) f fd ["sifter", "arguments"] (spOp K R S 18) := by
  have GN : FnOk P w K mg base (L2.CX P w) (k + 4) fN fdN ["sifter", "positions"] (spCheckPos K R S) := ok_check_positions A2 T B X A1 Y
  have GM : FnOk P w K mg base CX0 (k + 4) f6 fd6 ["sizes", "positions"] spMis := ok_misplaced_amount Z T
  have GH : FnOk P w K mg base CX0 (k + 4) f7 fd7 ["sizes", "positions"] spHeavy := ok_heaviest Z T
  refine D.F.okX scEV (fun vs H Q E h => ?_) (fun cdv A outer s H vs Q E hr h => ?_)
  · obtain ⟨a, la, ls, lv, s, l, rfl, _⟩ := h
    rfl
  · refine ⟨_, pss_cons (ps_expr (pe_call GN hr rfl A2.g A2.F.kp A2.b .nil (passes_call (takes_of rfl rfl rfl rfl) (fun _ _ _ _ h => h)) (pa_cons (pv 0) (pa_cons (pv 1) pa_nil))))
      (pss_one (ps_ret (pe_lst (pa_cons (pe_call GM hr rfl Z.ma.g Z.ma.F.kp Z.ma.b .nil pass0 (pa_cons (pe_fld (pv 0) rfl) (pa_cons (pv 1) pa_nil))) (pa_cons (pe_call GH hr rfl Z.hw.g Z.hw.F.kp Z.hw.b .nil pass0 (pa_cons (pe_fld (pv 0) rfl) (pa_cons (pv 1) pa_nil))) pa_nil))))), ?_⟩
    obtain ⟨a, la, ls, lv, s, l, rfl, hs, hg, hla, n1, n2, hask, hE, hQ⟩ := h
    obtain ⟨dx, ha⟩ := hs.obj
    have d1 := due_evaluate (s := s) (l := l)
    refine ⟨_, rfl, _, rfl, a, ls, lv, la, s, l, rfl, hs, hla, fun bad => hE (-22) ?_ (by decide), fun ps => ?_⟩
    · rw [d1, if_neg]
      exact fun z => bad (valid_iff.mp z)
    rw [if_pos (valid_iff.mpr ps)] at d1
    refine ⟨_, rfl, a, S, dx, _, _, rfl, ha, Y.cl, Y.nZ, sF_sizes ls lv, _, rfl, ls, la, s, l, rfl, hs.sz, hg.few, hla, ps, fun H1 s1 => ?_⟩
    refine ⟨_, rfl, a, S, dx, _, _, rfl, s1 _ _ ha, Y.cl, Y.nZ, sF_sizes ls lv, _, rfl, ls, la, s, l, rfl, hs.sz.same s1, hg.few, s1 _ _ hla, ps, fun H2 s2 => ?_⟩
    have s12 := s1.trans s2
    refine ⟨small _ (by show 2 ≤ 100000; decide), fun o no => ?_⟩
    exact hQ _ o ls lv s _ d1 (Kept.of (s12.trans (same_new no))) (.inl rfl) (.inl rfl) (hs.same (s12.trans (same_new no))) hg (fresh_new (s12.free no)) upd_same
/-! ### destination -/
theorem due_destination {s : Sifter} {i : Nat} : due s 19 [i] = if s.sizes.length ≤ i then (some s, [-2]) else (some s, [if Kp409.goesToFlour (Kp409.classOf s i) then 1 else 0]) := by
  rw [due_of (x := .destination i) (by rfl)]
  simp only [Kp409.step, Kp409.single]
  split <;> rfl
abbrev nDE : List Str := ["sifter", "arguments", "size", "amounts", "own"]
theorem scDE : FnScope nDE ["sifter", "arguments"] (defScope sDestination) := ⟨rfl, rfl, rfl, by decide +kernel, rfl, by decide +kernel, by decide +kernel⟩
theorem ok_destination {f fZ C fC S fS : Addr} {fd fdZ fdC fdS : FuncData} {k : Nat} (D : Df K mg "destination" sDestination ["sifter", "arguments"] f fd) (T : Own mg) (B : RefT K mg R fR fdR) (X : ErrT K mg R "NotThere" "NotThere.__init__" sNotThere C fC fdC)
    (Z : ClassesT K mg f1 f2 f3 f4 f5 f6 f7 fd1 fd2 fd3 fd4 fd5 fd6 fd7) (A2 : Df K mg "check_size" sCheckSize ["sifter", "size"] fZ fdZ) (Y : SifT K mg S fS fdS) :
    FnOk P w K mg base (L2.CX P w) (k + 5) f fd ["sifter", "arguments"] (spOp K R S 19) := by
  have GZ : FnOk P w K mg base (L2.CX P w) (k + 4) fZ fdZ ["sifter", "size"] (spCheckSize K R S) := ok_check_size A2 T B X Y
  have GA : FnOk P w K mg base CX0 (k + 3) f3 fd3 ["sizes", "positions"] spClassAmounts := ok_class_amounts Z.ka T Z.ct Z.ta
  have GN : FnOk P w K mg base CX0 (k + 1) f4 fd4 ["positions", "size"] spClassNo := ok_class_number Z.kn T
  have GF : FnOk P w K mg base CX0 (k + 1) f5 fd5 ["amounts"] spGoes := ok_goes Z.gf
  refine D.F.okX scDE (fun vs H Q E h => ?_) (fun cdv A outer s H vs Q E hr h => ?_)
  · obtain ⟨a, la, ls, lv, s, l, rfl, _⟩ := h
    rfl
  · refine ⟨_, pss_cons (ps_set (i := 2) scDE.nd rfl (.inl rfl) (pe_ix ix_list (pv 1) pe_int (fun _ _ => rfl)))
      (pss_cons (ps_expr (pe_call GZ hr rfl A2.g A2.F.kp A2.b .nil (passes_call (takes_of rfl rfl rfl rfl) (fun _ _ _ _ h => h)) (pa_cons (pv 0) (pa_cons (pv 2) pa_nil))))
      (pss_cons (ps_set (i := 3) scDE.nd rfl (.inl rfl) (pe_call GA (hr.mono (by omega)) rfl Z.ka.g Z.ka.F.kp Z.ka.b .nil pass0 (pa_cons (pe_fld (pv 0) rfl) (pa_cons (pe_fld (pv 0) rfl) pa_nil))))
      (pss_cons (ps_set (i := 4) scDE.nd rfl (.inl rfl) (pe_ix ix_list (pv 3) (pe_call GN (hr.mono (by omega)) rfl Z.kn.g Z.kn.F.kp Z.kn.b .nil pass0 (pa_cons (pe_fld (pv 0) rfl) (pa_cons (pv 2) pa_nil))) (fun _ _ => rfl)))
      (pss_one (ps_ret (pe_lst (pa_cons (pe_ifExp (pt_val (pe_call GF (hr.mono (by omega)) rfl Z.gf.g Z.gf.F.kp Z.gf.b .nil pass0 (pa_cons (pv 4) pa_nil))) pe_int pe_int) pa_nil))))))), ?_⟩
    obtain ⟨a, la, ls, lv, s, l, rfl, hs, hg, hla, n1, n2, hask, hE, hQ⟩ := h
    obtain ⟨i, rfl⟩ := asked_one (.inr (.inr (.inr (.inr (.inr (.inr (.inr rfl))))))) hask
    obtain ⟨dx, ha⟩ := hs.obj
    have la0 : atI (nats [i]) 0 = some (.int i) := rfl
    have d1 := due_destination (s := s) (i := i)
    refine ⟨_, rfl, la, _, 0, _, rfl, rfl, SqL.of hla, la0, ?_⟩
    refine ⟨_, rfl, _, rfl, a, ls, lv, s, i, rfl, hs, fun c => hE (-2) ?_ (by decide), fun c => ?_⟩
    · rw [d1, if_pos c]
    rw [if_neg (by omega)] at d1
    have few : s.sieves.length ≤ 10 := Nat.le_trans (pos_len hg.pos) hg.few
    -- amounts = class_amounts(sifter.sizes, sifter.sieves)
    refine ⟨_, rfl, a, S, dx, _, _, rfl, ha, Y.cl, Y.nZ, sF_sizes ls lv, _, rfl, a, S, dx, _, _, rfl, ha, Y.cl, Y.nV, sF_sieves ls lv, ls, lv, s, s.sieves, rfl, hs.sz, hg.few, hs.sv, hg.pos, fun H1 p s1 np ⟨ts, hp, hts⟩ => ?_⟩
    -- own = amounts[class_number(sifter.sieves, size)]
    refine ⟨_, rfl, _, rfl, a, S, dx, _, _, rfl, s1 _ _ ha, Y.cl, Y.nV, sF_sieves ls lv, _, rfl, lv, s.sieves, i, rfl, s1 _ _ hs.sv, by omega, fun H2 s2 => ?_⟩
    have kl : (s.sieves.filter fun q => decide (q ≤ i)).length < (classes s s.sieves).length := by
      have := List.length_filter_le (fun q => decide (q ≤ i)) s.sieves
      rw [classes_len]
      omega
    generalize hk : (s.sieves.filter fun q => decide (q ≤ i)).length = kk at kl
    have hc : (classes s s.sieves)[kk]? = some (classes s s.sieves)[kk] := List.getElem?_eq_getElem kl
    have eo : Kp409.classOf s i = (classes s s.sieves)[kk] := by
      unfold Kp409.classOf
      rw [hk, List.getD_eq_getElem?_getD, hc]
      rfl
    generalize (classes s s.sieves)[kk] = c0 at hc eo
    have hc' : ((classes s s.sieves).map tfb)[kk]? = some (tfb c0) := by
      rw [List.getElem?_map, hc]
      rfl
    obtain ⟨v, hv, t, rfl, ht⟩ := hts.val_of hc'
    have s12 := s1.trans s2
    refine ⟨p, ts, (kk : Int), _, rfl, rfl, SqL.of (s2 _ _ hp), atI_nat hv, ?_⟩
    refine ⟨_, rfl, t, tfb c0, rfl, s2 _ _ ht, _, rfl, ?_⟩
    have eg : decide ((tfb c0).2 ≤ (tfb c0).1) = Kp409.goesToFlour (Kp409.classOf s i) := by
      rw [eo]
      rfl
    rw [eg]
    cases hgo : Kp409.goesToFlour (Kp409.classOf s i) with
    | true =>
      rw [hgo] at d1
      refine ifT rfl ⟨small _ (by show 1 ≤ 100000; decide), fun o no => ?_⟩
      exact hQ _ o ls lv s _ d1 (Kept.of (s12.trans (same_new no))) (.inl rfl) (.inl rfl) (hs.same (s12.trans (same_new no))) hg (fresh_new (s12.free no)) upd_same
    | false =>
      rw [hgo] at d1
      refine ifF rfl ⟨small _ (by show 1 ≤ 100000; decide), fun o no => ?_⟩
      exact hQ _ o ls lv s _ d1 (Kept.of (s12.trans (same_new no))) (.inl rfl) (.inl rfl) (hs.same (s12.trans (same_new no))) hg (fresh_new (s12.free no)) upd_same
end
end Sv

namespace Sv
open PySem PySem.Spec PyProof.Rows L2
open Kp409 (Sifter SizeFraction classes totalFlour totalBran totalWeight misplacedInClass)
theorem filterA_some {α : Type} {l : List α} {i : Nat} {x : α} {q : α → Bool} (h : l[i]? = some x) (c : q x = true) : (l.take (i + 1)).filter q = (l.take i).filter q ++ [x] := by
  rw [take_more h, List.filter_append]
  simp [c]
theorem filterA_none {α : Type} {l : List α} {i : Nat} {x : α} {q : α → Bool} (h : l[i]? = some x) (c : q x = false) : (l.take (i + 1)).filter q = (l.take i).filter q := by
  rw [take_more h, List.filter_append]
  simp [c]
def goesP (x : Nat × Nat) : Bool := decide (x.2 ≤ x.1)
theorem goes_map (cs : List (List SizeFraction)) : (cs.map tfb).filter goesP = (cs.filter Kp409.goesToFlour).map tfb := by
  rw [List.filter_map]
  rfl
theorem tfb_flour (cs : List (List SizeFraction)) : ((cs.map tfb).map Prod.fst) = cs.map totalFlour := by
  rw [List.map_map]
  rfl
theorem tfb_bran (cs : List (List SizeFraction)) : ((cs.map tfb).map Prod.snd) = cs.map totalBran := by
  rw [List.map_map]
  rfl
section
variable {P : Program} {w : World} {K : PySem.W.Frag} {mg : Str → Option Value} {base : Heap} {R fR : Addr} {fdR : FuncData} {f1 f2 f3 f4 f5 f6 f7 : Addr} {fd1 fd2 fd3 fd4 fd5 fd6 fd7 : FuncData}
/-! ### yields -/
theorem due_yields {s : Sifter} : due s 20 [] = (some s, [((((classes s s.sieves).filter Kp409.goesToFlour).map totalFlour).sum : Int), ((((classes s s.sieves).filter Kp409.goesToFlour).map totalBran).sum : Int), (totalFlour s.sizes : Int), (totalBran s.sizes : Int)]) := by
  rw [due_of (x := .yields) (by rfl)]
  rfl
abbrev nYI : List Str := ["sifter", "arguments", "in_flour", "own"]
theorem scYI : FnScope nYI ["sifter", "arguments"] (defScope sYields) := ⟨rfl, rfl, rfl, by decide +kernel, rfl, by decide +kernel, by decide +kernel⟩
theorem ok_yields {f S fS : Addr} {fd fdS : FuncData} {k : Nat} (D : Df K mg "yields" sYields ["sifter", "arguments"] f fd) (T : Own mg) (Z : ClassesT K mg f1 f2 f3 f4 f5 f6 f7 fd1 fd2 fd3 fd4 fd5 fd6 fd7) (Y : SifT K mg S fS fdS) :
    FnOk P w K mg base (L2.CX P w) (k + 4) f fd ["sifter", "arguments"] (spOp K R S 20) := by
  have GA : FnOk P w K mg base CX0 (k + 3) f3 fd3 ["sizes", "positions"] spClassAmounts := ok_class_amounts Z.ka T Z.ct Z.ta
  have GT : FnOk P w K mg base CX0 (k + 1) f1 fd1 ["parts"] spTotal := ok_total_amounts Z.ta T
  have GF : FnOk P w K mg base CX0 (k + 1) f5 fd5 ["amounts"] spGoes := ok_goes Z.gf
  refine D.F.okX scYI (fun vs H Q E h => ?_) (fun cdv A outer s H vs Q E hr h => ?_)
  · obtain ⟨a, la, ls, lv, s, l, rfl, _⟩ := h
    rfl
  · refine ⟨_, pss_cons (ps_setLc (i := 2) (own := [("own", 3)]) (g := gName 3) (tt := tB (tCall spGoes [] E0 (tCons (tVar 3) tNil))) (te := tVar 3) rfl scYI.nd rfl rfl (sw_true rfl rfl rfl (by decide +kernel))
        (pi_list (pe_call GA (hr.mono (by omega)) rfl Z.ka.g Z.ka.F.kp Z.ka.b .nil pass0 (pa_cons (pe_fld (pv 0) rfl) (pa_cons (pe_fld (pv 0) rfl) pa_nil)))) (blkOk_by (own := [("own", 3)]) (N := nYI) (sc := defScope sYields) (by decide +kernel))
        (fun _ _ _ _ _ => pg_name (i := 3) scYI.nd rfl (.inl rfl)) (fun _ _ _ _ _ => pts_one (pt_val (pe_call GF (hr.mono (by omega)) rfl Z.gf.g Z.gf.F.kp Z.gf.b .nil pass0 (pa_cons (pv 3) pa_nil)))) (fun _ _ _ _ _ => pv 3))
      (pss_one (ps_ret (pe_callTy call_list_of (by rfl) T.list (by decide +kernel) (pa_cons (pe_op op_catT (pe_call GT (hr.mono (by omega)) rfl Z.ta.g Z.ta.F.kp Z.ta.b .nil pass0 (pa_cons (pv 2) pa_nil)) (pe_call GT (hr.mono (by omega)) rfl Z.ta.g Z.ta.F.kp Z.ta.b .nil pass0 (pa_cons (pe_fld (pv 0) rfl) pa_nil))) pa_nil)))), ?_⟩
    obtain ⟨a, la, ls, lv, s, l, rfl, hs, hg, hla, n1, n2, hask, hE, hQ⟩ := h
    obtain rfl := asked_none (.inr (.inr (.inr (.inr (.inr (.inr (.inr rfl))))))) hask
    obtain ⟨dx, ha⟩ := hs.obj
    have few : s.sieves.length ≤ 10 := Nat.le_trans (pos_len hg.pos) hg.few
    have few2 := hg.few
    refine ⟨_, rfl, a, S, dx, _, _, rfl, ha, Y.cl, Y.nZ, sF_sizes ls lv, _, rfl, a, S, dx, _, _, rfl, ha, Y.cl, Y.nV, sF_sieves ls lv, ls, lv, s, s.sieves, rfl, hs.sz, hg.few, hs.sv, hg.pos, fun H1 p s1 np ⟨ts, hp, hts⟩ => ?_⟩
    have tl : ts.length ≤ 11 := by
      have z := hts.len
      rw [List.length_map, classes_len] at z
      omega
    refine ⟨p, rfl, ⟨_, SqL.of hp⟩, fun D nD => lc_list (K := K) (a := p) (xs := ts) (fun i H' => ∃ us, (∀ b u, H1 b = some u → H' b = some u) ∧ H' D = some (.lst us) ∧ All2 (PrV H1) us ((((classes s s.sieves).map tfb).take i).filter goesP))
      ⟨[], same_new nD, upd_same, All2.nil⟩ (fun i H' _ ⟨_, z, _, _⟩ => SqL.of (z _ _ hp)) (fun i x H2 hx ⟨us, k2, d2, z2⟩ => ?_) (fun H2 ⟨us, k2, d2, z2⟩ => ?_)⟩
    · obtain ⟨z, hz, t, rfl, ht⟩ := hts.some_of hx
      have ul : us.length ≤ 11 := by
        have z3 := z2.len
        have := List.length_filter_le goesP (((classes s s.sieves).map tfb).take i)
        rw [List.length_take, List.length_map, classes_len] at this
        omega
      refine ⟨rfl, _, rfl, t, z, rfl, k2 _ _ ht, _, rfl, ?_⟩
      have e0 : decide (z.2 ≤ z.1) = goesP z := rfl
      rw [e0]
      cases c : goesP z with
      | true =>
        refine ifT rfl ⟨_, rfl, us, d2, ltLine (by omega), us ++ [.ref t], fun b u e => ?_, upd_same, ?_⟩
        · rw [upd_ne (ne_of_none e nD)]
          exact k2 _ _ e
        · rw [filterA_some hz c]
          exact z2.app (All2.one ⟨t, rfl, ht⟩)
      | false =>
        refine ifF rfl ⟨us, k2, d2, ?_⟩
        rw [filterA_none hz c]
        exact z2
    · rw [hts.len, List.take_of_length_le (Nat.le_refl _), goes_map] at z2
      have s2 : Same H H2 := s1.trans k2
      have ul : ((classes s s.sieves).filter Kp409.goesToFlour).length ≤ 11 := by
        have := List.length_filter_le Kp409.goesToFlour (classes s s.sieves)
        rw [classes_len] at this
        omega
      -- total_amounts(in_flour)
      refine ⟨_, rfl, D, _, rfl, ⟨us, d2, z2.imp fun _ _ z => z.same k2⟩, by rw [List.length_map]; omega, fun H3 t1 s3 nt1 ht1 => ?_⟩
      rw [tfb_flour, tfb_bran] at ht1
      -- total_amounts(sifter.sizes)
      refine ⟨_, rfl, a, S, dx, _, _, rfl, s3 _ _ (s2 _ _ ha), Y.cl, Y.nZ, sF_sizes ls lv, ls, s.sizes.map fb, rfl, ((hs.sz.same s2).same s3).pr, by rw [List.length_map]; omega, fun H4 t2 s4 nt2 ht2 => ?_⟩
      rw [fb_flour, fb_bran] at ht2
      refine ⟨t1, t2, _, _, rfl, rfl, SqT.of (s4 _ _ ht1), SqT.of ht2, by simp, small _ (by show 4 ≤ 100000; decide), fun z => (nomatch z), fun _ t nt => ?_⟩
      refine ⟨t, _, rfl, .inr (SqT.of upd_same), fun o no => ?_⟩
      have s5 := ((s2.trans s3).trans s4).trans (same_new (o := .tup ([V.int ((((classes s s.sieves).filter Kp409.goesToFlour).map totalFlour).sum : Nat), V.int ((((classes s s.sieves).filter Kp409.goesToFlour).map totalBran).sum : Nat)] ++ [V.int (totalFlour s.sizes : Nat), V.int (totalBran s.sizes : Nat)])) nt)
      exact hQ _ o ls lv s _ due_yields (Kept.of (s5.trans (same_new no))) (.inl rfl) (.inl rfl) (hs.same (s5.trans (same_new no))) hg (fresh_new (s5.free no)) upd_same
end
end Sv

namespace Sv
open PySem PySem.Spec PyProof.Rows L2
open Kp409 (Sifter SizeFraction classes totalFlour totalBran totalWeight misplacedInClass insertPosition)
abbrev sAddSieve : Stmt := top 47
abbrev sRemoveSieve : Stmt := top 48
/-! ### one more position, one fewer -/
theorem ins_perm (p : Nat) : ∀ l : List Nat, (insertPosition p l).Perm (p :: l)
  | [] => List.Perm.refl _
  | q :: r => by
    unfold Kp409.insertPosition
    split
    · exact List.Perm.refl _
    · exact ((ins_perm p r).cons q).trans (List.Perm.swap p q r)
theorem ins_up {p : Nat} : ∀ {l : List Nat}, l.Pairwise (· < ·) → p ∉ l → (insertPosition p l).Pairwise (· < ·)
  | [], _, _ => List.pairwise_singleton _ _
  | q :: r, h, hp => by
    have u := List.pairwise_cons.mp h
    unfold Kp409.insertPosition
    split
    · rename_i c
      refine List.pairwise_cons.mpr ⟨fun x hx => ?_, h⟩
      rcases List.mem_cons.mp hx with z | z
      · rw [z]
        exact c
      · exact Nat.lt_trans c (u.1 x z)
    · rename_i c
      have ne : p ≠ q := fun z => hp (by rw [z]; exact List.mem_cons_self)
      refine List.pairwise_cons.mpr ⟨fun x hx => ?_, ins_up u.2 fun z => hp (List.mem_cons_of_mem _ z)⟩
      rcases List.mem_cons.mp ((ins_perm p r).mem_iff.mp hx) with z | z
      · rw [z]
        omega
      · exact u.1 x z
theorem ins_pos {n p : Nat} {l : List Nat} (h : Pos n 1 l) (h1 : 1 ≤ p) (h2 : p < n) (hp : p ∉ l) : Pos n 1 (insertPosition p l) := by
  refine ⟨fun x hx => ?_, fun x hx => ?_, ins_up h.up hp⟩
  · rcases List.mem_cons.mp ((ins_perm p l).mem_iff.mp hx) with z | z
    · rw [z]
      exact h1
    · exact h.lo x z
  · rcases List.mem_cons.mp ((ins_perm p l).mem_iff.mp hx) with z | z
    · rw [z]
      exact h2
    · exact h.hi x z
theorem sorted_ins {p : Nat} {l : List Nat} (h : l.Pairwise (· < ·)) (hp : p ∉ l) {ns : List Int} (pm : ns.Perm (nums (l ++ [p]))) (up : ns.Pairwise (· ≤ ·)) : ns = nums (insertPosition p l) := by
  have pm2 : (nums (insertPosition p l)).Perm (nums (l ++ [p])) := ((ins_perm p l).trans (List.perm_append_comm (l₁ := [p]) (l₂ := l))).map _
  refine List.Perm.eq_of_pairwise (le := fun a b : Int => a ≤ b) (fun a b _ _ x y => Int.le_antisymm x y) up ?_ (pm.trans pm2.symm)
  unfold nums
  rw [List.pairwise_map]
  exact (ins_up h hp).imp fun q => by omega
theorem in_nats (p : Nat) : ∀ l : List Nat, inV (.int (p : Int)) (nats l) = l.contains p
  | [] => rfl
  | q :: r => by
    have ih := in_nats p r
    unfold inV at ih ⊢
    show (eqV (.int (q : Int)) (.int (p : Int)) || (nats r).any fun y => eqV y (.int (p : Int))) = (q :: r).contains p
    rw [ih]
    have e : eqV (.int (q : Int)) (.int (p : Int)) = (p == q) := by
      show ((q : Int) == (p : Int)) = (p == q)
      by_cases c : p = q
      · subst c
        simp
      · have c2 : ¬ (q : Int) = (p : Int) := by omega
        exact (beq_eq_false_iff_ne.mpr c2).trans (beq_eq_false_iff_ne.mpr c).symm
    rw [e, List.contains_cons]
theorem flat_nats : ∀ l : List Nat, (nats l).all flatV = true
  | [] => rfl
  | q :: r => by
    show (flatV (.int (q : Int)) && (nats r).all flatV) = true
    rw [flat_nats r]
    rfl
theorem erase_is : ∀ {l : List Nat} {j p : Nat}, l.Pairwise (· < ·) → l[j]? = some p → l.eraseIdx j = l.filter fun q => q != p
  | [], j, p, _, h => by simp at h
  | x :: r, 0, p, h, e => by
    have u := List.pairwise_cons.mp h
    obtain rfl : x = p := Option.some.inj e
    have k : r.filter (fun q => q != x) = r := List.filter_eq_self.mpr fun q hq => by
      have := u.1 q hq
      simp only [bne_iff_ne, ne_eq]
      omega
    rw [List.eraseIdx_cons_zero, List.filter_cons_of_neg (by simp), k]
  | x :: r, j + 1, p, h, e => by
    have u := List.pairwise_cons.mp h
    have e : r[j]? = some p := e
    have := u.1 p (List.mem_of_getElem? e)
    rw [List.eraseIdx_cons_succ, List.filter_cons_of_pos (by simp only [bne_iff_ne, ne_eq]; omega), erase_is u.2 e]
theorem nums_erase : ∀ (l : List Nat) (j : Nat), (nums l).eraseIdx j = nums (l.eraseIdx j)
  | [], j => rfl
  | x :: r, 0 => rfl
  | x :: r, j + 1 => congrArg ((x : Int) :: ·) (nums_erase r j)
theorem one_pos {n p : Nat} : Pos n 1 [p] ↔ 1 ≤ p ∧ p < n := by
  refine ⟨fun h => ⟨h.lo p List.mem_cons_self, h.hi p List.mem_cons_self⟩, fun h => ⟨fun x hx => ?_, fun x hx => ?_, List.pairwise_singleton _ _⟩⟩
  · rw [List.mem_singleton.mp hx]
    exact h.1
  · rw [List.mem_singleton.mp hx]
    exact h.2
theorem pos_filter {n : Nat} {l : List Nat} (h : Pos n 1 l) (q : Nat → Bool) : Pos n 1 (l.filter q) := ⟨fun p hp => h.lo p (List.mem_filter.mp hp).1, fun p hp => h.hi p (List.mem_filter.mp hp).1, h.up.sublist List.filter_sublist⟩
section
variable {P : Program} {w : World} {K : PySem.W.Frag} {mg : Str → Option Value} {base : Heap} {R fR : Addr} {fdR : FuncData} {f1 f2 f3 f4 f5 f6 f7 : Addr} {fd1 fd2 fd3 fd4 fd5 fd6 fd7 : FuncData}
/-! ### add_sieve -/
theorem due_addSieve {s : Sifter} {p : Nat} : due s 14 [p] = if p < 1 ∨ s.sizes.length ≤ p then (some s, [-22]) else if s.sieves.contains p then (some s, [-17]) else (some { s with sieves := insertPosition p s.sieves }, [((Kp409.misplaced s (insertPosition p s.sieves) : Nat) : Int)]) := by
  rw [due_of (x := .addSieve p) (by rfl)]
  simp only [Kp409.step, Kp409.single]
  split
  · rfl
  · split <;> rfl
abbrev nAV : List Str := ["sifter", "arguments", "position"]
theorem scAV : FnScope nAV ["sifter", "arguments"] (defScope sAddSieve) := ⟨rfl, rfl, rfl, by decide +kernel, rfl, by decide +kernel, by decide +kernel⟩
theorem ok_add_sieve {f fP fN fM C fC C2 fC2 S fS : Addr} {fd fdP fdN fdM fdC fdC2 fdS : FuncData} {k : Nat} (D : Df K mg "add_sieve" sAddSieve ["sifter", "arguments"] f fd) (T : Own mg) (B : RefT K mg R fR fdR) (X : ErrT K mg R "OutsideLimits" "OutsideLimits.__init__" sOutsideLimits C fC fdC)
    (X2 : ErrT K mg R "AlreadyThere" "AlreadyThere.__init__" sAlreadyThere C2 fC2 fdC2) (Z : ClassesT K mg f1 f2 f3 f4 f5 f6 f7 fd1 fd2 fd3 fd4 fd5 fd6 fd7) (A1 : Df K mg "are_positions" sArePositions ["numbers", "size_count"] fP fdP)
    (A2 : Df K mg "check_positions" sCheckPositions ["sifter", "positions"] fN fdN) (M : Df K mg "misplaced" sMisplaced ["sifter", "arguments"] fM fdM) (Y : SifT K mg S fS fdS) : FnOk P w K mg base (L2.CX P w) (k + 6) f fd ["sifter", "arguments"] (spOp K R S 14) := by
  have GN : FnOk P w K mg base (L2.CX P w) (k + 4) fN fdN ["sifter", "positions"] (spCheckPos K R S) := ok_check_positions A2 T B X A1 Y
  have GM : FnOk P w K mg base (L2.CX P w) (k + 5) fM fdM ["sifter", "arguments"] (spOp K R S 8) := ok_misplaced M T Z Y
  have G2 : FnOk P w K mg base CX0 (k + 2) fC2 fdC2 ["self"] (spCoded K (-17)) := ok_AlreadyThere T B X2
  refine D.F.okX scAV (fun vs H Q E h => ?_) (fun cdv A outer s H vs Q E hr h => ?_)
  · obtain ⟨a, la, ls, lv, s, l, rfl, _⟩ := h
    rfl
  · refine ⟨_, pss_cons (ps_set (i := 2) scAV.nd rfl (.inl rfl) (pe_ix ix_list (pv 1) pe_int (fun _ _ => rfl)))
      (pss_cons (ps_expr (pe_call GN (hr.mono (by omega)) rfl A2.g A2.F.kp A2.b .nil (passes_call (takes_of rfl rfl rfl rfl) (fun _ _ _ _ h => h)) (pa_cons (pv 0) (pa_cons (pe_lst (pa_cons (pv 2) pa_nil)) pa_nil))))
      (pss_cons (ps_if (pt_cmpR op_in_seq (pv 2) (pe_fld (pv 0) rfl) (by rfl))
        (pss_one (ps_raise rfl (takes_of rfl rfl rfl rfl) (pmk_own0 X2.ex X2.iC X2.tI G2 (hr.mono (by omega)) X2.b pass0 (by rfl) X2.g))) pss_nil)
      (pss_cons (ps_fld (pv 0) (pe_callB cr_sorted (by rfl) T.sorted (by decide +kernel) (pa_cons (pe_op op_cat (pe_fld (pv 0) rfl) (pe_lst (pa_cons (pv 2) pa_nil))) pa_nil)) rfl)
      (pss_one (ps_ret (pe_call GM hr rfl M.g M.F.kp M.b .nil (passes_call (takes_of rfl rfl rfl rfl) (fun _ _ _ _ h => h)) (pa_cons (pv 0) (pa_cons (pe_lst pa_nil) pa_nil)))))))), ?_⟩
    obtain ⟨a, la, ls, lv, s, l, rfl, hs, hg, hla, n1, n2, hask, hE, hQ⟩ := h
    obtain ⟨p, rfl⟩ := asked_one (.inr (.inr (.inr (.inl rfl)))) hask
    obtain ⟨dx, ha⟩ := hs.obj
    have la0 : atI (nats [p]) 0 = some (.int p) := rfl
    have d1 := due_addSieve (s := s) (p := p)
    refine ⟨_, rfl, la, _, 0, _, rfl, rfl, SqL.of hla, la0, ?_⟩
    -- check_positions(sifter, [position])
    refine ⟨_, rfl, _, rfl, small _ (by show 1 ≤ 100000; decide), fun c nc => ?_⟩
    have s1 : Same H (upd H c (.lst [V.int (p : Int)])) := same_new nc
    have c1 : (upd H c (.lst [V.int (p : Int)])) c = some (.lst (nats [p])) := upd_same
    generalize upd H c (.lst [V.int (p : Int)]) = H1 at s1 c1
    refine ⟨a, ls, lv, c, s, [p], rfl, hs.same s1, c1, fun bad => (hE (-22) ?_ (by decide)).later s1, fun ps => ?_⟩
    · rw [d1, if_pos]
      rcases Nat.lt_or_ge p 1 with z | z
      · exact .inl z
      · rcases Nat.lt_or_ge p s.sizes.length with y | y
        · exact absurd (one_pos.mpr ⟨z, y⟩) bad
        · exact .inr y
    have pr := one_pos.mp ps
    rw [if_neg (by omega)] at d1
    -- if position in sifter.sieves
    refine ⟨_, rfl, _, rfl, a, S, dx, _, _, rfl, s1 _ _ ha, Y.cl, Y.nV, sF_sieves ls lv, lv, nats s.sieves, rfl, .inl (SqL.of (s1 _ _ hs.sv)), rfl, flat_nats _, _, rfl, ?_⟩
    rw [in_nats]
    have few : s.sieves.length ≤ 10 := Nat.le_trans (pos_len hg.pos) hg.few
    cases hc : s.sieves.contains p with
    | true =>
      rw [if_pos hc] at d1
      exact ifT rfl (raise_AlreadyThere X2 ((hE (-17) d1 (by decide)).later s1))
    | false =>
      rw [if_neg (by rw [hc]; exact Bool.false_ne_true)] at d1
      have np : p ∉ s.sieves := fun z => by
        have := List.contains_iff_mem.mpr z
        rw [hc] at this
        cases this
      refine ifF rfl ?_
      -- sifter.sieves = sorted(sifter.sieves + [position])
      refine ⟨_, rfl, a, S, dx, _, _, rfl, s1 _ _ ha, Y.cl, Y.nV, sF_sieves ls lv, _, rfl, small _ (by show 1 ≤ 100000; decide), fun d nd => ?_⟩
      have s2 : Same H1 (upd H1 d (.lst [V.int (p : Int)])) := same_new nd
      have d2 : (upd H1 d (.lst [V.int (p : Int)])) d = some (.lst [V.int (p : Int)]) := upd_same
      generalize upd H1 d (.lst [V.int (p : Int)]) = H2 at s2 d2
      have s12 := s1.trans s2
      refine ⟨lv, d, _, _, rfl, rfl, s12 _ _ hs.sv, d2, small _ (by simp only [List.length_map, List.length_singleton]; omega), fun b nb => ?_⟩
      have s3 : Same H2 (upd H2 b (.lst (nats s.sieves ++ [V.int (p : Int)]))) := same_new nb
      have b3 : (upd H2 b (.lst (nats s.sieves ++ [V.int (p : Int)]))) b = some (.lst ((nums (s.sieves ++ [p])).map V.int)) := by
        rw [nums_ints]
        have e : nats (s.sieves ++ [p]) = nats s.sieves ++ [V.int (p : Int)] := by simp [nats]
        rw [e]
        exact upd_same
      generalize upd H2 b (.lst (nats s.sieves ++ [V.int (p : Int)])) = H3 at s3 b3
      have s13 := s12.trans s3
      refine ⟨b, nums (s.sieves ++ [p]), rfl, SqL.of b3, by simp [nums]; omega, fun ns' L pm up nL => ?_⟩
      obtain rfl := sorted_ins hg.pos.up np pm up
      rw [nums_ints]
      have s4 : Same H3 (upd H3 L (.lst (nats (insertPosition p s.sieves)))) := same_new nL
      have L4 : (upd H3 L (.lst (nats (insertPosition p s.sieves)))) L = some (.lst (nats (insertPosition p s.sieves))) := upd_same
      generalize upd H3 L (.lst (nats (insertPosition p s.sieves))) = H4 at s4 L4
      have s14 := s13.trans s4
      have nL0 : H L = none := s13.free nL
      obtain ⟨vs, hl, hz⟩ := id hs.sz
      refine ⟨_, rfl, a, S, dx, _, rfl, s14 _ _ ha, Y.cl, Y.nV, (by show 2 < 1000; decide), ?_⟩
      rw [sF_putV]
      have sif := put_sieves (l := insertPosition p s.sieves) hs ha (fun e _ => s14 _ _ e) L4 (ne_of_none hl nL0)
      have keep : Kept H (upd H4 a (.ins S dx (sF ls L))) a ls lv := fun b u e n1 n2 n3 => by
        rw [upd_ne n1]
        exact s14 _ _ e
      have free : ∀ b, (upd H4 a (.ins S dx (sF ls L))) b = none → H b = none := fun b e => by
        by_cases n : b = a
        · rw [n, upd_same] at e
          cases e
        · rw [upd_ne n] at e
          exact s14.free e
      generalize upd H4 a (.ins S dx (sF ls L)) = H5 at sif keep free
      exact ⟨_, rfl, Nat.zero_le _, fun e ne => done_mis (la := la) sif ⟨hg.few, hg.low, ins_pos hg.pos pr.1 pr.2 np⟩ keep free (.inr nL0) ne d1 hQ⟩
/-! ### remove_sieve -/
theorem due_removeSieve {s : Sifter} {p : Nat} : due s 15 [p] = if s.sieves.contains p then (some { s with sieves := s.sieves.filter fun q => q != p }, [((Kp409.misplaced s (s.sieves.filter fun q => q != p) : Nat) : Int)]) else (some s, [-2]) := by
  rw [due_of (x := .removeSieve p) (by rfl)]
  simp only [Kp409.step, Kp409.single]
  split <;> rfl
theorem scRV : FnScope nAV ["sifter", "arguments"] (defScope sRemoveSieve) := ⟨rfl, rfl, rfl, by decide +kernel, rfl, by decide +kernel, by decide +kernel⟩
theorem ok_remove_sieve {f fM C fC S fS : Addr} {fd fdM fdC fdS : FuncData} {k : Nat} (D : Df K mg "remove_sieve" sRemoveSieve ["sifter", "arguments"] f fd) (T : Own mg) (B : RefT K mg R fR fdR) (X : ErrT K mg R "NotThere" "NotThere.__init__" sNotThere C fC fdC)
    (Z : ClassesT K mg f1 f2 f3 f4 f5 f6 f7 fd1 fd2 fd3 fd4 fd5 fd6 fd7) (M : Df K mg "misplaced" sMisplaced ["sifter", "arguments"] fM fdM) (Y : SifT K mg S fS fdS) : FnOk P w K mg base (L2.CX P w) (k + 6) f fd ["sifter", "arguments"] (spOp K R S 15) := by
  have GM : FnOk P w K mg base (L2.CX P w) (k + 5) fM fdM ["sifter", "arguments"] (spOp K R S 8) := ok_misplaced M T Z Y
  have G2 : FnOk P w K mg base CX0 (k + 2) fC fdC ["self"] (spCoded K (-2)) := ok_NotThere T B X
  refine D.F.okX scRV (fun vs H Q E h => ?_) (fun cdv A outer s H vs Q E hr h => ?_)
  · obtain ⟨a, la, ls, lv, s, l, rfl, _⟩ := h
    rfl
  · refine ⟨_, pss_cons (ps_set (i := 2) scRV.nd rfl (.inl rfl) (pe_ix ix_list (pv 1) pe_int (fun _ _ => rfl)))
      (pss_cons (ps_if (pt_cmpR op_notIn_seq (pv 2) (pe_fld (pv 0) rfl) (by rfl))
        (pss_one (ps_raise rfl (takes_of rfl rfl rfl rfl) (pmk_own0 X.ex X.iC X.tI G2 (hr.mono (by omega)) X.b pass0 (by rfl) X.g))) pss_nil)
      (pss_cons (ps_expr (pe_bm PySem.F.plainAttrs_list PySem.F.slot_list_remove PySem.F.type_list_remove mt_remove (pe_fld (pv 0) rfl) (pa_cons (pv 2) pa_nil)))
      (pss_one (ps_ret (pe_call GM hr rfl M.g M.F.kp M.b .nil (passes_call (takes_of rfl rfl rfl rfl) (fun _ _ _ _ h => h)) (pa_cons (pv 0) (pa_cons (pe_lst pa_nil) pa_nil))))))), ?_⟩
    obtain ⟨a, la, ls, lv, s, l, rfl, hs, hg, hla, n1, n2, hask, hE, hQ⟩ := h
    obtain ⟨p, rfl⟩ := asked_one (.inr (.inr (.inr (.inr (.inl rfl))))) hask
    obtain ⟨dx, ha⟩ := hs.obj
    have la0 : atI (nats [p]) 0 = some (.int p) := rfl
    have d1 := due_removeSieve (s := s) (p := p)
    refine ⟨_, rfl, la, _, 0, _, rfl, rfl, SqL.of hla, la0, ?_⟩
    refine ⟨_, rfl, _, rfl, a, S, dx, _, _, rfl, ha, Y.cl, Y.nV, sF_sieves ls lv, lv, nats s.sieves, rfl, .inl (SqL.of hs.sv), rfl, flat_nats _, _, rfl, ?_⟩
    show if (!inV (.int (p : Int)) (nats s.sieves)) = true then _ else _
    rw [in_nats]
    cases hc : s.sieves.contains p with
    | false =>
      rw [if_neg (by rw [hc]; exact Bool.false_ne_true)] at d1
      exact ifT rfl (raise_NotThere X (hE (-2) d1 (by decide)))
    | true =>
      rw [if_pos hc] at d1
      refine ifF rfl ?_
      obtain ⟨j, hj⟩ := List.getElem?_of_mem (List.contains_iff_mem.mp hc)
      have hj' : (nums s.sieves)[j]? = some (p : Int) := by
        unfold nums
        rw [List.getElem?_map, hj]
        rfl
      have first : ∀ m : Nat, m < j → (nums s.sieves)[m]? ≠ some (p : Int) := fun m hm z => by
        unfold nums at z
        rw [List.getElem?_map] at z
        obtain ⟨q, hq, e⟩ := Option.map_eq_some_iff.mp z
        have e2 : q = p := by omega
        subst e2
        have h1 := lt_of_at hq
        have h2 := lt_of_at hj
        have := List.pairwise_iff_getElem.mp hg.pos.up m j h1 h2 hm
        rw [List.getElem?_eq_getElem h1] at hq
        rw [List.getElem?_eq_getElem h2] at hj
        have := Option.some.inj hq
        have := Option.some.inj hj
        omega
      -- sifter.sieves.remove(position)
      refine ⟨_, rfl, a, S, dx, _, _, rfl, ha, Y.cl, Y.nV, sF_sieves ls lv, .inl ⟨rfl, _, SqL.of hs.sv⟩, _, rfl, lv, nums s.sieves, (p : Int), j, rfl, rfl, by rw [nums_ints]; exact hs.sv, hj', first, ?_⟩
      rw [nums_erase, nums_ints, erase_is hg.pos.up hj]
      obtain ⟨vs, hl, hz⟩ := id hs.sz
      have kp : ∀ {b u}, H b = some u → b ≠ lv → (upd H lv (.lst (nats (s.sieves.filter fun q => q != p)))) b = some u := fun {b u} e n => by
        rw [upd_ne n]
        exact e
      have keep : Kept H (upd H lv (.lst (nats (s.sieves.filter fun q => q != p)))) a ls lv := fun b u e _ _ n3 => kp e n3
      have sif : SifAt S (upd H lv (.lst (nats (s.sieves.filter fun q => q != p)))) a ls lv { s with sieves := s.sieves.filter fun q => q != p } :=
        ⟨⟨dx, kp ha (ne_of ha hs.sv (by intro z; cases z))⟩, ⟨vs, kp hl hs.ne, hz.imp fun v x ⟨t', ev, e⟩ => ⟨t', ev, kp e (ne_of e hs.sv (by intro z; cases z))⟩⟩, upd_same, hs.ne⟩
      have free : ∀ b, (upd H lv (.lst (nats (s.sieves.filter fun q => q != p)))) b = none → H b = none := fun b e => by
        by_cases n : b = lv
        · rw [n, upd_same] at e
          cases e
        · rwa [upd_ne n] at e
      generalize upd H lv (.lst (nats (s.sieves.filter fun q => q != p))) = H2 at sif keep free
      exact ⟨_, rfl, Nat.zero_le _, fun e ne => done_mis (la := la) sif ⟨hg.few, hg.low, pos_filter hg.pos _⟩ keep free (.inl rfl) ne d1 hQ⟩
end
end Sv

namespace Sv
open PySem PySem.Spec PyProof.Rows L2 LamX NdefX
open Kp409 (Sifter SizeFraction classes totalFlour totalBran totalWeight misplacedInClass positionLists bestSieves)
/-! ### one more sieve misplaces no more -/
/-- what the cut from a to b misplaces -/
def gm (sz : List SizeFraction) (a b : Nat) : Nat := misplacedInClass (seg sz (b, a))
theorem seg_join (sz : List SizeFraction) {a p b : Nat} (h1 : a ≤ p) (h2 : p ≤ b) : seg sz (b, a) = seg sz (p, a) ++ seg sz (b, p) := by
  unfold seg
  dsimp only
  have e : (sz.take b).drop a = ((sz.take b).drop a).take (p - a) ++ ((sz.take b).drop a).drop (p - a) := (List.take_append_drop _ _).symm
  rw [e, List.drop_drop, show a + (p - a) = p by omega, ← List.drop_take, List.take_take, Nat.min_eq_left h2]
theorem gm_split (sz : List SizeFraction) {a p b : Nat} (h1 : a ≤ p) (h2 : p ≤ b) : gm sz a p + gm sz p b ≤ gm sz a b := by
  unfold gm Kp409.misplacedInClass
  rw [seg_join sz h1 h2]
  unfold Kp409.totalFlour Kp409.totalBran
  rw [List.map_append, List.map_append, List.sum_append, List.sum_append]
  omega
/-- what the cuts behind a misplace -/
def gms (sz : List SizeFraction) (n : Nat) : Nat → List Nat → Nat
  | a, [] => gm sz a n
  | a, p :: r => gm sz a p + gms sz n p r
theorem gms_is (sz : List SizeFraction) (n : Nat) : ∀ (a : Nat) (pos : List Nat), (((pos ++ [n]).zip (a :: pos)).map fun x => misplacedInClass (seg sz x)).sum = gms sz n a pos
  | a, [] => by
    simp [gms, gm]
  | a, p :: r => by
    have ih := gms_is sz n p r
    show misplacedInClass (seg sz (p, a)) + (((r ++ [n]).zip (p :: r)).map fun x => misplacedInClass (seg sz x)).sum = gm sz a p + gms sz n p r
    rw [ih]
    rfl
theorem mis_gms (s : Sifter) (pos : List Nat) : Kp409.misplaced s pos = gms s.sizes s.sizes.length 0 pos := by
  rw [← gms_is]
  unfold Kp409.misplaced Kp409.classes
  rw [List.map_map]
  rfl
theorem one_more (sz : List SizeFraction) {n : Nat} : ∀ {l : List Nat} {first a : Nat}, Pos n first l → a ≤ first → l.length < n - first → ∃ l', Pos n first l' ∧ l'.length = l.length + 1 ∧ gms sz n a l' ≤ gms sz n a l
  | [], first, a, h, ha, hl => by
    have hf : first < n := by
      simp at hl
      omega
    refine ⟨[first], ⟨fun x hx => ?_, fun x hx => ?_, List.pairwise_singleton _ _⟩, rfl, ?_⟩
    · rw [List.mem_singleton.mp hx]
      exact Nat.le_refl _
    · rw [List.mem_singleton.mp hx]
      exact hf
    · exact gm_split sz ha (Nat.le_of_lt hf)
  | q :: r, first, a, h, ha, hl => by
    have q1 := h.lo q List.mem_cons_self
    have q2 := h.hi q List.mem_cons_self
    have u := List.pairwise_cons.mp h.up
    rcases Nat.lt_or_ge first q with c | c
    · refine ⟨first :: q :: r, ⟨fun x hx => ?_, fun x hx => ?_, List.pairwise_cons.mpr ⟨fun x hx => ?_, h.up⟩⟩, rfl, ?_⟩
      · rcases List.mem_cons.mp hx with z | z
        · rw [z]
          exact Nat.le_refl _
        · exact h.lo x z
      · rcases List.mem_cons.mp hx with z | z
        · rw [z]
          omega
        · exact h.hi x z
      · rcases List.mem_cons.mp hx with z | z
        · rw [z]
          exact c
        · exact Nat.lt_trans c (u.1 x z)
      · show gm sz a first + (gm sz first q + gms sz n q r) ≤ gm sz a q + gms sz n q r
        have := gm_split sz ha (Nat.le_of_lt c)
        omega
    · have e : q = first := by omega
      subst e
      have pr : Pos n (q + 1) r := ⟨fun x hx => u.1 x hx, fun x hx => h.hi x (List.mem_cons_of_mem _ hx), u.2⟩
      rw [List.length_cons] at hl
      obtain ⟨l', h1, h2, h3⟩ := one_more sz (l := r) (first := q + 1) (a := q) pr (Nat.le_succ _) (by omega)
      refine ⟨q :: l', ⟨fun x hx => ?_, fun x hx => ?_, List.pairwise_cons.mpr ⟨fun x hx => h1.lo x hx, h1.up⟩⟩, by rw [List.length_cons, List.length_cons, h2], ?_⟩
      · rcases List.mem_cons.mp hx with z | z
        · rw [z]
          exact Nat.le_refl _
        · have := h1.lo x z
          omega
      · rcases List.mem_cons.mp hx with z | z
        · rw [z]
          exact q2
        · exact h1.hi x z
      · exact Nat.add_le_add_left h3 _
theorem best_more {s : Sifter} {k : Nat} {f m : List Nat} (hk : k + 1 < s.sizes.length) (hf : bestSieves s k = some f) (hm : bestSieves s (k + 1) = some m) : Kp409.misplaced s m ≤ Kp409.misplaced s f := by
  have pf := mem_positionLists.mp (lowest_mem hf)
  obtain ⟨l', h1, h2, h3⟩ := one_more s.sizes (a := 0) pf.2 (Nat.zero_le _) (by omega)
  have z := lowest_le hm (mem_positionLists.mpr ⟨by rw [h2, pf.1], h1⟩)
  rw [mis_gms s f]
  rw [← mis_gms] at h3
  rw [mis_gms s l'] at z
  rw [mis_gms s l'] at h3
  omega
theorem lists_ne {n k : Nat} (h : k < max 1 n) : positionLists n k 1 ≠ [] := by
  rcases Nat.lt_or_ge k n with c | c
  · exact positionLists_ne (by omega)
  · have e : k = 0 := by omega
    subst e
    exact fun z => nomatch z
theorem best_some {s : Sifter} {k : Nat} (g : Sifter → List Nat → Nat) (h : positionLists s.sizes.length k 1 ≠ []) : ∃ l, Kp409.lowest (g s) (positionLists s.sizes.length k 1) = some l := by
  obtain ⟨_, b, e, _⟩ := lowest_first (cost := g s) h
  exact ⟨b, e⟩
/-! ### operations whose heap has tables -/
/-- an error with the code c, somewhere behind the heap H -/
def RaisedT (K : PySem.W.Frag) (R : Addr) (T : List (Addr × Str)) (c : Int) (H : Hp) (E : XK) : Prop := ∀ (C d : Addr) (H1 : Hp), ExC K C → PySem.W.exmOne K (.ref C) (.ref R) = some true → Still T H H1 → H1 d = none → E (.ref C) (some d) (upd H1 d (.xd [("code", .int c)]))
theorem RaisedT.at_ {K : PySem.W.Frag} {R : Addr} {T : List (Addr × Str)} {c : Int} {H H' : Hp} {E : XK} (h : RaisedT K R T c H E) (s : Still T H H') : Raised K R c H' E := fun C d H1 a b s1 n => h C d H1 a b (s.then s1) n
/-- nothing but the sifter's own and the tables is changed -/
structure KeptT (T : List (Addr × Str)) (H H' : Hp) (a ls lv : Addr) : Prop where
  ext : ∀ b u, H b = some u → (∀ ps, u ≠ .tbl ps) → b ≠ a → b ≠ ls → b ≠ lv → H' b = some u
  tabs : Tabs T H'
def FreshT (H : Hp) (o a ls lv : Addr) : Prop := ∀ b u, H b = some u → (∀ ps, u ≠ .tbl ps) → b ≠ a → b ≠ ls → b ≠ lv → o ≠ b
def spOpT (K : PySem.W.Frag) (R S : Addr) (T : List (Addr × Str)) (p : Int) : Sp := fun vs H Q E => ∃ (a la ls lv : Addr) (s : Sifter) (l : List Nat), vs = [.ref a, .ref la] ∧ SifAt S H a ls lv s ∧ Good s ∧ H la = some (.lst (nats l)) ∧ la ≠ ls ∧ la ≠ lv ∧ askedR (p, l) = true ∧ Tabs T H ∧
  (∀ c : Int, due s p l = (some s, [c]) → c < 0 → RaisedT K R T c H E) ∧
  ∀ (H' : Hp) (o ls' lv' : Addr) (s' : Sifter) (ns : List Int), due s p l = (some s', ns) → KeptT T H H' a ls lv → Mine H ls' ls → Mine H lv' lv → SifAt S H' a ls' lv' s' → Good s' → FreshT H o a ls lv → H' o = some (.lst (ns.map V.int)) → Q (.ref o) H'
theorem KeptT.of {T : List (Addr × Str)} {H H' : Hp} {a ls lv : Addr} (s : Still T H H') : KeptT T H H' a ls lv := ⟨fun b u e n _ _ _ => s.ext b u e n, s.tabs⟩
theorem codeO_no {c : Addr} {q : Str} {u : HO} (h : (∃ xs, u = .lst xs) ∨ ∃ C dx fs, u = .ins C dx fs) : CodeO c q ≠ u := by
  rcases h with ⟨xs, rfl⟩ | ⟨C, dx, fs, rfl⟩
  · intro z
    unfold CodeO at z
    cases z
  · intro z
    unfold CodeO at z
    cases z
theorem tabs_kept {S : Addr} {T : List (Addr × Str)} {H H' : Hp} {a ls lv : Addr} {s : Sifter} (hs : SifAt S H a ls lv s) (k : Kept H H' a ls lv) (t : Tabs T H) : Tabs T H' := fun p hp => by
  obtain ⟨dx, ha⟩ := hs.obj
  obtain ⟨vs, hl, _⟩ := hs.sz
  have hv := hs.sv
  obtain ⟨ps, h1, h2, h3⟩ := t p hp
  refine ⟨ps, k _ _ h1 (ne_of h1 ha (by intro z; cases z)) (ne_of h1 hl (by intro z; cases z)) (ne_of h1 hv (by intro z; cases z)), h2, fun pos cv hc => ?_⟩
  obtain ⟨c, e1, e2⟩ := h3 pos cv hc
  exact ⟨c, e1, k _ _ e2 (ne_of e2 ha (codeO_no (.inr ⟨_, _, _, rfl⟩))) (ne_of e2 hl (codeO_no (.inl ⟨_, rfl⟩))) (ne_of e2 hv (codeO_no (.inl ⟨_, rfl⟩)))⟩
theorem spOp_of {K : PySem.W.Frag} {R S : Addr} {T : List (Addr × Str)} {p : Int} {vs : List V} {H : Hp} {Q : VK} {E : XK} (h : spOpT K R S T p vs H Q E) : spOp K R S p vs H Q E := by
  obtain ⟨a, la, ls, lv, s, l, e, hs, hg, hla, n1, n2, hask, hT, hE, hQ⟩ := h
  refine ⟨a, la, ls, lv, s, l, e, hs, hg, hla, n1, n2, hask, fun c hc neg => (hE c hc neg).at_ ⟨ExtN.refl H, hT⟩, fun H' o ls' lv' s' ns hd hk m1 m2 hs' hg' fr ho => ?_⟩
  exact hQ H' o ls' lv' s' ns hd ⟨fun b u e _ => hk b u e, tabs_kept hs hk hT⟩ m1 m2 hs' hg' (fun b u e _ => fr b u e) ho
theorem SifAt.still {S : Addr} {T : List (Addr × Str)} {H H' : Hp} {a ls lv : Addr} {s : Sifter} (h : SifAt S H a ls lv s) (q : Still T H H') : SifAt S H' a ls lv s := by
  obtain ⟨⟨dx, e⟩, z, v, n⟩ := h
  exact ⟨⟨dx, q.ins e⟩, q.sz z, q.lst v, n⟩
theorem freshT_new {T : List (Addr × Str)} {H H1 : Hp} {o a ls lv : Addr} (st : Still T H H1) (h : H1 o = none) : FreshT H o a ls lv := fun b u e n _ _ _ => (ne_of_none (st.ext b u e n) h).symm
end Sv

namespace Sv
open PySem PySem.Spec PyProof.Rows L2 LamX NdefX
open Kp409 (Sifter SizeFraction classes totalFlour totalBran totalWeight misplacedInClass positionLists bestSieves)
abbrev sBest : Stmt := top 43
abbrev sApply : Stmt := top 44
abbrev sNeeded : Stmt := top 45
abbrev sGain : Stmt := top 49
abbrev sEven : Stmt := top 50
section
variable {P : Program} {w : World} {K : PySem.W.Frag} {mg : Str → Option Value} {base : Heap} {R fR : Addr} {fdR : FuncData} {f1 f2 f3 f4 f5 f7 : Addr} {fd1 fd2 fd3 fd4 fd5 fd6 fd7 : FuncData} {fP fL fB fE fA fm fh c PT : Addr} {fdP fdL fdB fdE fdA : FuncData}
/-- the two measures, with their promises -/
theorem meas_def {k : Nat} (T : Own mg) (Z : ClassesT K mg f1 f2 f3 f4 f5 fm fh fd1 fd2 fd3 fd4 fd5 fd6 fd7) : ∀ m g, MeasS fm fh m g → Def0 P w K mg base (k + 4) m (spMeas g) := by
  rintro m g (⟨rfl, rfl⟩ | ⟨rfl, rfl⟩)
  · exact ⟨fd6, ["sizes", "positions"], ok_misplaced_amount Z T, Z.ma.F.kp, Z.ma.b⟩
  · exact ⟨fd7, ["sizes", "positions"], ok_heaviest Z T, Z.hw.F.kp, Z.hw.b⟩
theorem valid_count {s : Sifter} {n : Nat} (h : n < s.sizes.length) : ¬ Kp409.validCount s n = false := by
  unfold Kp409.validCount
  rw [decide_eq_true h]
  exact fun z => nomatch z
theorem not_count {s : Sifter} {n : Nat} (h : s.sizes.length ≤ n) : Kp409.validCount s n = false := by
  unfold Kp409.validCount
  exact decide_eq_false (by omega)
/-! ### best_sieves -/
theorem due_best_no {s : Sifter} {n : Nat} (h : s.sizes.length ≤ n) : due s 10 [n] = (some s, [-22]) := by
  rw [due_of (x := .bestSieves n) (by rfl)]
  simp only [Kp409.step, Kp409.single]
  rw [if_pos (not_count h)]
theorem due_best {s : Sifter} {n : Nat} {l : List Nat} (h : n < s.sizes.length) (e : bestSieves s n = some l) : due s 10 [n] = (some s, nums (Kp409.misplaced s l :: l)) := by
  rw [due_of (x := .bestSieves n) (by rfl)]
  simp only [Kp409.step]
  rw [if_neg (valid_count h), e]
  rfl
abbrev nBS : List Str := ["sifter", "arguments", "count", "positions"]
theorem scBS : FnScope nBS ["sifter", "arguments"] (defScope sBest) := ⟨rfl, rfl, rfl, by decide +kernel, rfl, by decide +kernel, by decide +kernel⟩
theorem ok_best {f fC C fi S fS : Addr} {fd fdC fdi fdS : FuncData} {k : Nat} (D : Df K mg "best_sieves" sBest ["sifter", "arguments"] f fd) (T : Own mg) (B : RefT K mg R fR fdR) (X : ErrT K mg R "OutsideLimits" "OutsideLimits.__init__" sOutsideLimits C fi fdi)
    (Z : ClassesT K mg f1 f2 f3 f4 f5 fm fh fd1 fd2 fd3 fd4 fd5 fd6 fd7) (Q1 : PosT K mg fP fL fB fE fA fm fh c fdP fdL fdB fdE fdA) (TB : TabB base mg c PT) (A1 : Df K mg "check_count" sCheckCount ["sifter", "count"] fC fdC) (Y : SifT K mg S fS fdS) :
    FnOk P w K mg base (L2.CX P w) (k + 10) f fd ["sifter", "arguments"] (spOpT K R S (TT PT) 10) := by
  have GC : FnOk P w K mg base (L2.CX P w) (k + 4) fC fdC ["sifter", "count"] (spCheckCount K R S) := ok_check_count A1 T B X Y
  have GB : FnOk P w K mg base CX0 (k + 8) fB fdB ["sizes", "count"] (spBestOf Kp409.misplaced PT) := ok_best_positions T Q1 TB (meas_def T Z)
  have GM : FnOk P w K mg base CX0 (k + 4) fm fd6 ["sizes", "positions"] spMis := ok_misplaced_amount Z T
  refine D.F.okX scBS (fun vs H Q E h => ?_) (fun cdv A outer s H vs Q E hr h => ?_)
  · obtain ⟨a, la, ls, lv, s, l, rfl, _⟩ := h
    rfl
  · refine ⟨_, pss_cons (ps_set (i := 2) scBS.nd rfl (.inl rfl) (pe_ix ix_list (pv 1) pe_int (fun _ _ => rfl)))
      (pss_cons (ps_expr (pe_call GC (hr.mono (by omega)) rfl A1.g A1.F.kp A1.b .nil (passes_call (takes_of rfl rfl rfl rfl) (fun _ _ _ _ h => h)) (pa_cons (pv 0) (pa_cons (pv 2) pa_nil))))
      (pss_cons (ps_set (i := 3) scBS.nd rfl (.inl rfl) (pe_call GB (hr.mono (by omega)) rfl Q1.bp.g Q1.bp.F.kp Q1.bp.b .nil pass0 (pa_cons (pe_fld (pv 0) rfl) (pa_cons (pv 2) pa_nil))))
      (pss_one (ps_ret (pe_op op_cat (pe_lst (pa_cons (pe_call GM (hr.mono (by omega)) rfl Z.ma.g Z.ma.F.kp Z.ma.b .nil pass0 (pa_cons (pe_fld (pv 0) rfl) (pa_cons (pv 3) pa_nil))) pa_nil)) (pv 3)))))), ?_⟩
    obtain ⟨a, la, ls, lv, s, l, rfl, hs, hg, hla, n1, n2, hask, hT, hE, hQ⟩ := h
    obtain ⟨n, rfl⟩ := asked_one (.inl rfl) hask
    obtain ⟨dx, ha⟩ := hs.obj
    have la0 : atI (nats [n]) 0 = some (.int n) := rfl
    have few := hg.few
    refine ⟨_, rfl, la, _, 0, _, rfl, rfl, SqL.of hla, la0, ?_⟩
    refine ⟨_, rfl, _, rfl, a, ls, lv, s, n, rfl, hs, fun bad => (hE (-22) (due_best_no bad) (by decide)).at_ ⟨ExtN.refl H, hT⟩, fun good => ?_⟩
    have ne := lists_ne (n := s.sizes.length) (k := n) (by omega)
    refine ⟨_, rfl, a, S, dx, _, _, rfl, ha, Y.cl, Y.nZ, sF_sizes ls lv, _, rfl, ls, s, n, rfl, hT, hs.sz, hg.few, by omega, ne, fun H1 p l st np hp hl => ?_⟩
    have pl := (mem_positionLists.mp (lowest_mem hl))
    have d1 := due_best good hl
    refine ⟨_, rfl, a, S, dx, _, _, rfl, st.ins ha, Y.cl, Y.nZ, sF_sizes ls lv, _, rfl, ls, p, s, l, rfl, st.sz hs.sz, hg.few, hp, pl.2, fun H2 s2 => ?_⟩
    have st2 := st.then s2
    refine ⟨small _ (by show 1 ≤ 100000; decide), fun e ne => ?_⟩
    have s3 : Same H2 (upd H2 e (.lst [V.int (Kp409.misplaced s l : Nat)])) := same_new ne
    have e3 : (upd H2 e (.lst [V.int (Kp409.misplaced s l : Nat)])) e = some (.lst [V.int (Kp409.misplaced s l : Nat)]) := upd_same
    generalize upd H2 e (.lst [V.int (Kp409.misplaced s l : Nat)]) = H3 at s3 e3
    have st3 := st2.then s3
    refine ⟨_, rfl, e, p, _, _, rfl, rfl, e3, s3 _ _ (s2 _ _ hp), small _ (by simp only [List.length_map, List.length_singleton]; omega), fun o no => ?_⟩
    have st4 := st3.then (same_new (o := .lst ([V.int (Kp409.misplaced s l : Nat)] ++ nats l)) no)
    refine hQ _ o ls lv s _ d1 (KeptT.of st4) (.inl rfl) (.inl rfl) (hs.still st4) hg (freshT_new st3 no) ?_
    rw [nums_ints]
    exact upd_same
/-! ### most_even_sieves -/
theorem due_even_no {s : Sifter} {n : Nat} (h : s.sizes.length ≤ n) : due s 17 [n] = (some s, [-22]) := by
  rw [due_of (x := .mostEvenSieves n) (by rfl)]
  simp only [Kp409.step, Kp409.single]
  rw [if_pos (not_count h)]
theorem due_even {s : Sifter} {n : Nat} {l : List Nat} (h : n < s.sizes.length) (e : Kp409.mostEvenSieves s n = some l) : due s 17 [n] = (some s, nums (Kp409.heaviestClass s l :: l)) := by
  rw [due_of (x := .mostEvenSieves n) (by rfl)]
  simp only [Kp409.step]
  rw [if_neg (valid_count h), e]
  rfl
theorem scES : FnScope nBS ["sifter", "arguments"] (defScope sEven) := ⟨rfl, rfl, rfl, by decide +kernel, rfl, by decide +kernel, by decide +kernel⟩
theorem ok_even {f fC C fi S fS : Addr} {fd fdC fdi fdS : FuncData} {k : Nat} (D : Df K mg "most_even_sieves" sEven ["sifter", "arguments"] f fd) (T : Own mg) (B : RefT K mg R fR fdR) (X : ErrT K mg R "OutsideLimits" "OutsideLimits.__init__" sOutsideLimits C fi fdi)
    (Z : ClassesT K mg f1 f2 f3 f4 f5 fm fh fd1 fd2 fd3 fd4 fd5 fd6 fd7) (Q1 : PosT K mg fP fL fB fE fA fm fh c fdP fdL fdB fdE fdA) (TB : TabB base mg c PT) (A1 : Df K mg "check_count" sCheckCount ["sifter", "count"] fC fdC) (Y : SifT K mg S fS fdS) :
    FnOk P w K mg base (L2.CX P w) (k + 10) f fd ["sifter", "arguments"] (spOpT K R S (TT PT) 17) := by
  have GC : FnOk P w K mg base (L2.CX P w) (k + 4) fC fdC ["sifter", "count"] (spCheckCount K R S) := ok_check_count A1 T B X Y
  have GB : FnOk P w K mg base CX0 (k + 8) fE fdE ["sizes", "count"] (spBestOf Kp409.heaviestClass PT) := ok_most_even T Q1 TB (meas_def T Z)
  have GM : FnOk P w K mg base CX0 (k + 4) fh fd7 ["sizes", "positions"] spHeavy := ok_heaviest Z T
  refine D.F.okX scES (fun vs H Q E h => ?_) (fun cdv A outer s H vs Q E hr h => ?_)
  · obtain ⟨a, la, ls, lv, s, l, rfl, _⟩ := h
    rfl
  · refine ⟨_, pss_cons (ps_set (i := 2) scES.nd rfl (.inl rfl) (pe_ix ix_list (pv 1) pe_int (fun _ _ => rfl)))
      (pss_cons (ps_expr (pe_call GC (hr.mono (by omega)) rfl A1.g A1.F.kp A1.b .nil (passes_call (takes_of rfl rfl rfl rfl) (fun _ _ _ _ h => h)) (pa_cons (pv 0) (pa_cons (pv 2) pa_nil))))
      (pss_cons (ps_set (i := 3) scES.nd rfl (.inl rfl) (pe_call GB (hr.mono (by omega)) rfl Q1.me.g Q1.me.F.kp Q1.me.b .nil pass0 (pa_cons (pe_fld (pv 0) rfl) (pa_cons (pv 2) pa_nil))))
      (pss_one (ps_ret (pe_op op_cat (pe_lst (pa_cons (pe_call GM (hr.mono (by omega)) rfl Z.hw.g Z.hw.F.kp Z.hw.b .nil pass0 (pa_cons (pe_fld (pv 0) rfl) (pa_cons (pv 3) pa_nil))) pa_nil)) (pv 3)))))), ?_⟩
    obtain ⟨a, la, ls, lv, s, l, rfl, hs, hg, hla, n1, n2, hask, hT, hE, hQ⟩ := h
    obtain ⟨n, rfl⟩ := asked_one (.inr (.inr (.inr (.inr (.inr (.inr (.inl rfl))))))) hask
    obtain ⟨dx, ha⟩ := hs.obj
    have la0 : atI (nats [n]) 0 = some (.int n) := rfl
    have few := hg.few
    refine ⟨_, rfl, la, _, 0, _, rfl, rfl, SqL.of hla, la0, ?_⟩
    refine ⟨_, rfl, _, rfl, a, ls, lv, s, n, rfl, hs, fun bad => (hE (-22) (due_even_no bad) (by decide)).at_ ⟨ExtN.refl H, hT⟩, fun good => ?_⟩
    have ne := lists_ne (n := s.sizes.length) (k := n) (by omega)
    refine ⟨_, rfl, a, S, dx, _, _, rfl, ha, Y.cl, Y.nZ, sF_sizes ls lv, _, rfl, ls, s, n, rfl, hT, hs.sz, hg.few, by omega, ne, fun H1 p l st np hp hl => ?_⟩
    have pl := (mem_positionLists.mp (lowest_mem hl))
    have d1 := due_even good hl
    refine ⟨_, rfl, a, S, dx, _, _, rfl, st.ins ha, Y.cl, Y.nZ, sF_sizes ls lv, _, rfl, ls, p, s, l, rfl, st.sz hs.sz, hg.few, hp, pl.2, fun H2 s2 => ?_⟩
    have st2 := st.then s2
    refine ⟨small _ (by show 1 ≤ 100000; decide), fun e ne => ?_⟩
    have s3 : Same H2 (upd H2 e (.lst [V.int (Kp409.heaviestClass s l : Nat)])) := same_new ne
    have e3 : (upd H2 e (.lst [V.int (Kp409.heaviestClass s l : Nat)])) e = some (.lst [V.int (Kp409.heaviestClass s l : Nat)]) := upd_same
    generalize upd H2 e (.lst [V.int (Kp409.heaviestClass s l : Nat)]) = H3 at s3 e3
    have st3 := st2.then s3
    refine ⟨_, rfl, e, p, _, _, rfl, rfl, e3, s3 _ _ (s2 _ _ hp), small _ (by simp only [List.length_map, List.length_singleton]; omega), fun o no => ?_⟩
    have st4 := st3.then (same_new (o := .lst ([V.int (Kp409.heaviestClass s l : Nat)] ++ nats l)) no)
    refine hQ _ o ls lv s _ d1 (KeptT.of st4) (.inl rfl) (.inl rfl) (hs.still st4) hg (freshT_new st3 no) ?_
    rw [nums_ints]
    exact upd_same
/-! ### gain_of_sieve -/
theorem due_gain_no {s : Sifter} {n : Nat} (h : s.sizes.length ≤ n ∨ n = 0) : due s 16 [n] = (some s, [-22]) := by
  rw [due_of (x := .gainOfSieve n) (by rfl)]
  simp only [Kp409.step, Kp409.single]
  rw [if_pos]
  rcases h with z | z
  · exact .inl (not_count z)
  · exact .inr z
theorem due_gain {s : Sifter} {n : Nat} {l m : List Nat} (h : n + 1 < s.sizes.length) (e1 : bestSieves s n = some l) (e2 : bestSieves s (n + 1) = some m) : due s 16 [n + 1] = (some s, [(Kp409.misplaced s l : Int) - (Kp409.misplaced s m : Int)]) := by
  rw [due_of (x := .gainOfSieve (n + 1)) (by rfl)]
  simp only [Kp409.step, Kp409.single, Nat.add_sub_cancel]
  have no : ¬ (Kp409.validCount s (n + 1) = false ∨ n + 1 = 0) := fun z => z.elim (valid_count h) (fun y => nomatch y)
  rw [if_neg no, e1, e2]
  dsimp only
  have le := best_more h e1 e2
  rw [show ((Kp409.misplaced s l - Kp409.misplaced s m : Nat) : Int) = (Kp409.misplaced s l : Int) - (Kp409.misplaced s m : Int) by omega]
abbrev nGA : List Str := ["sifter", "arguments", "count"]
theorem scGA : FnScope nGA ["sifter", "arguments"] (defScope sGain) := ⟨rfl, rfl, rfl, by decide +kernel, rfl, by decide +kernel, by decide +kernel⟩
theorem ok_gain {f fC C fi S fS : Addr} {fd fdC fdi fdS : FuncData} {k : Nat} (D : Df K mg "gain_of_sieve" sGain ["sifter", "arguments"] f fd) (T : Own mg) (B : RefT K mg R fR fdR) (X : ErrT K mg R "OutsideLimits" "OutsideLimits.__init__" sOutsideLimits C fi fdi)
    (Z : ClassesT K mg f1 f2 f3 f4 f5 fm fh fd1 fd2 fd3 fd4 fd5 fd6 fd7) (Q1 : PosT K mg fP fL fB fE fA fm fh c fdP fdL fdB fdE fdA) (TB : TabB base mg c PT) (A1 : Df K mg "check_count" sCheckCount ["sifter", "count"] fC fdC) (Y : SifT K mg S fS fdS) :
    FnOk P w K mg base (L2.CX P w) (k + 10) f fd ["sifter", "arguments"] (spOpT K R S (TT PT) 16) := by
  have GC : FnOk P w K mg base (L2.CX P w) (k + 4) fC fdC ["sifter", "count"] (spCheckCount K R S) := ok_check_count A1 T B X Y
  have GM : FnOk P w K mg base CX0 (k + 4) fm fd6 ["sizes", "positions"] spMis := ok_misplaced_amount Z T
  have GA : FnOk P w K mg base CX0 (k + 9) fA fdA ["sizes", "count"] (spBestAmount PT) := ok_best_amount T Q1 TB (meas_def T Z) Z.ma GM
  have G : FnOk P w K mg base CX0 (k + 2) fi fdi ["self"] (spCoded K (-22)) := ok_OutsideLimits T B X
  refine D.F.okX scGA (fun vs H Q E h => ?_) (fun cdv A outer s H vs Q E hr h => ?_)
  · obtain ⟨a, la, ls, lv, s, l, rfl, _⟩ := h
    rfl
  · refine ⟨_, pss_cons (ps_set (i := 2) scGA.nd rfl (.inl rfl) (pe_ix ix_list (pv 1) pe_int (fun _ _ => rfl)))
      (pss_cons (ps_if (pt_cmpR op_eq (pv 2) pe_int (nomark _))
        (pss_one (ps_raise rfl (takes_of rfl rfl rfl rfl) (pmk_own0 X.ex X.iC X.tI G (hr.mono (by omega)) X.b pass0 (by rfl) X.g))) pss_nil)
      (pss_cons (ps_expr (pe_call GC (hr.mono (by omega)) rfl A1.g A1.F.kp A1.b .nil (passes_call (takes_of rfl rfl rfl rfl) (fun _ _ _ _ h => h)) (pa_cons (pv 0) (pa_cons (pv 2) pa_nil))))
      (pss_one (ps_ret (pe_lst (pa_cons (pe_op op_sub (pe_call GA (hr.mono (by omega)) rfl Q1.ba.g Q1.ba.F.kp Q1.ba.b .nil pass0 (pa_cons (pe_fld (pv 0) rfl) (pa_cons (pe_op op_sub (pv 2) pe_int) pa_nil)))
        (pe_call GA (hr.mono (by omega)) rfl Q1.ba.g Q1.ba.F.kp Q1.ba.b .nil pass0 (pa_cons (pe_fld (pv 0) rfl) (pa_cons (pv 2) pa_nil)))) pa_nil)))))), ?_⟩
    obtain ⟨a, la, ls, lv, s, l, rfl, hs, hg, hla, n1, n2, hask, hT, hE, hQ⟩ := h
    obtain ⟨n, rfl⟩ := asked_one (.inr (.inr (.inr (.inr (.inr (.inl rfl)))))) hask
    obtain ⟨dx, ha⟩ := hs.obj
    have la0 : atI (nats [n]) 0 = some (.int n) := rfl
    have few := hg.few
    refine ⟨_, rfl, la, _, 0, _, rfl, rfl, SqL.of hla, la0, ?_⟩
    refine ⟨_, rfl, rfl, _, rfl, ?_⟩
    cases n with
    | zero => exact ifT (decide_eq_true rfl) (raise_OutsideLimits X ((hE (-22) (due_gain_no (.inr rfl)) (by decide)).at_ ⟨ExtN.refl H, hT⟩))
    | succ n =>
      refine ifF (decide_eq_false (show ¬ V.int ((n + 1 : Nat) : Int) = V.int 0 by intro z; injection z with z; omega)) ?_
      refine ⟨_, rfl, _, rfl, a, ls, lv, s, n + 1, rfl, hs, fun bad => (hE (-22) (due_gain_no (.inl bad)) (by decide)).at_ ⟨ExtN.refl H, hT⟩, fun good => ?_⟩
      have ne1 := lists_ne (n := s.sizes.length) (k := n) (by omega)
      have ne2 := lists_ne (n := s.sizes.length) (k := n + 1) (by omega)
      refine ⟨_, rfl, a, S, dx, _, _, rfl, ha, Y.cl, Y.nZ, sF_sizes ls lv, _, rfl, _, _, rfl, rfl, ls, s, n, ?_, hT, hs.sz, hg.few, by omega, ne1, fun H1 l st hl => ?_⟩
      · show [V.ref ls, V.int (((n + 1 : Nat) : Int) - 1)] ++ [] = [V.ref ls, V.int (n : Int)]
        rw [show (((n + 1 : Nat) : Int) - 1) = (n : Int) by omega]
        rfl
      refine ⟨_, rfl, a, S, dx, _, _, rfl, st.ins ha, Y.cl, Y.nZ, sF_sizes ls lv, _, rfl, ls, s, n + 1, rfl, st.tabs, st.sz hs.sz, hg.few, by omega, ne2, fun H2 m st' hm => ?_⟩
      have d1 := due_gain good hl hm
      have st2 := st.trans st'
      refine ⟨_, _, rfl, rfl, small _ (by show 1 ≤ 100000; decide), fun o no => ?_⟩
      have st3 := st2.then (same_new (o := .lst [V.int ((Kp409.misplaced s l : Int) - (Kp409.misplaced s m : Int))]) no)
      exact hQ _ o ls lv s _ d1 (KeptT.of st3) (.inl rfl) (.inl rfl) (hs.still st3) hg (freshT_new st2 no) upd_same
end
end Sv

namespace Sv
open PySem PySem.Spec PyProof.Rows L2 LamX NdefX
open Kp409 (Sifter SizeFraction classes totalFlour totalBran totalWeight misplacedInClass positionLists bestSieves)
section
variable {P : Program} {w : World} {K : PySem.W.Frag} {mg : Str → Option Value} {base : Heap} {R fR : Addr} {fdR : FuncData} {f1 f2 f3 f4 f5 f7 : Addr} {fd1 fd2 fd3 fd4 fd5 fd6 fd7 : FuncData} {fP fL fB fE fA fm fh c PT : Addr} {fdP fdL fdB fdE fdA : FuncData}
/-! ### apply_best_sieves -/
theorem due_apply_no {s : Sifter} {n : Nat} (h : s.sizes.length ≤ n) : due s 11 [n] = (some s, [-22]) := by
  rw [due_of (x := .applyBestSieves n) (by rfl)]
  simp only [Kp409.step, Kp409.single]
  rw [if_pos (not_count h)]
theorem due_apply {s : Sifter} {n : Nat} {l : List Nat} (h : n < s.sizes.length) (e : bestSieves s n = some l) : due s 11 [n] = (some { s with sieves := l }, [((Kp409.misplaced s l : Nat) : Int)]) := by
  rw [due_of (x := .applyBestSieves n) (by rfl)]
  simp only [Kp409.step, Kp409.single]
  rw [if_neg (valid_count h), e]
abbrev nAB : List Str := ["sifter", "arguments", "count"]
theorem scAB : FnScope nAB ["sifter", "arguments"] (defScope sApply) := ⟨rfl, rfl, rfl, by decide +kernel, rfl, by decide +kernel, by decide +kernel⟩
theorem tabs_put {T : List (Addr × Str)} {H : Hp} {a : Addr} {o : HO} {C dx : Addr} {fs : List (Str × V)} (t : Tabs T H) (ha : H a = some (.ins C dx fs)) : Tabs T (upd H a o) := fun p hp => by
  obtain ⟨ps, h1, h2, h3⟩ := t p hp
  refine ⟨ps, ?_, h2, fun pos cv hc => ?_⟩
  · rw [upd_ne (ne_of h1 ha (by intro z; cases z))]
    exact h1
  · obtain ⟨c, e1, e2⟩ := h3 pos cv hc
    refine ⟨c, e1, ?_⟩
    rw [upd_ne (ne_of e2 ha (codeO_no (.inr ⟨_, _, _, rfl⟩)))]
    exact e2
/-- misplaced, told without what an operation may change -/
def spMisS (S : Addr) : Sp := fun vs H Q _ => ∃ (a la ls lv : Addr) (s : Sifter), vs = [.ref a, .ref la] ∧ SifAt S H a ls lv s ∧ Good s ∧ ∀ (H' : Hp) (o : Addr), Same H H' → H o = none → H' o = some (.lst [.int (Kp409.misplaced s s.sieves : Nat)]) → Q (.ref o) H'
theorem ok_misplaced_s {f S fS : Addr} {fd fdS : FuncData} {k : Nat} (D : Df K mg "misplaced" sMisplaced ["sifter", "arguments"] f fd) (T : Own mg) (Z : ClassesT K mg f1 f2 f3 f4 f5 fm fh fd1 fd2 fd3 fd4 fd5 fd6 fd7) (Y : SifT K mg S fS fdS) : FnOk P w K mg base (L2.CX P w) (k + 5) f fd ["sifter", "arguments"] (spMisS S) := by
  have GM : FnOk P w K mg base CX0 (k + 4) fm fd6 ["sizes", "positions"] spMis := ok_misplaced_amount Z T
  refine D.F.okX scMI (fun vs H Q E h => ?_) (fun cdv A outer s H vs Q E hr h => ?_)
  · obtain ⟨a, la, ls, lv, s, rfl, _⟩ := h
    rfl
  · refine ⟨_, pss_one (ps_ret (pe_lst (pa_cons (pe_call GM hr rfl Z.ma.g Z.ma.F.kp Z.ma.b .nil pass0 (pa_cons (pe_fld (pv 0) rfl) (pa_cons (pe_fld (pv 0) rfl) pa_nil))) pa_nil))), ?_⟩
    obtain ⟨a, la, ls, lv, s, rfl, hs, hg, q⟩ := h
    obtain ⟨dx, ha⟩ := hs.obj
    exact ⟨_, rfl, a, S, dx, _, _, rfl, ha, Y.cl, Y.nZ, sF_sizes ls lv, _, rfl, a, S, dx, _, _, rfl, ha, Y.cl, Y.nV, sF_sieves ls lv, ls, lv, s, s.sieves, rfl, hs.sz, hg.few, hs.sv, hg.pos, fun H1 s1 => ⟨small _ (by show 1 ≤ 100000; decide), fun o no => q _ o (s1.trans (same_new no)) (s1.free no) upd_same⟩⟩
theorem ok_apply {f fC C fi fM S fS : Addr} {fd fdC fdi fdM fdS : FuncData} {k : Nat} (D : Df K mg "apply_best_sieves" sApply ["sifter", "arguments"] f fd) (T : Own mg) (B : RefT K mg R fR fdR) (X : ErrT K mg R "OutsideLimits" "OutsideLimits.__init__" sOutsideLimits C fi fdi)
    (Z : ClassesT K mg f1 f2 f3 f4 f5 fm fh fd1 fd2 fd3 fd4 fd5 fd6 fd7) (Q1 : PosT K mg fP fL fB fE fA fm fh c fdP fdL fdB fdE fdA) (TB : TabB base mg c PT) (A1 : Df K mg "check_count" sCheckCount ["sifter", "count"] fC fdC)
    (M : Df K mg "misplaced" sMisplaced ["sifter", "arguments"] fM fdM) (Y : SifT K mg S fS fdS) : FnOk P w K mg base (L2.CX P w) (k + 10) f fd ["sifter", "arguments"] (spOpT K R S (TT PT) 11) := by
  have GC : FnOk P w K mg base (L2.CX P w) (k + 4) fC fdC ["sifter", "count"] (spCheckCount K R S) := ok_check_count A1 T B X Y
  have GB : FnOk P w K mg base CX0 (k + 8) fB fdB ["sizes", "count"] (spBestOf Kp409.misplaced PT) := ok_best_positions T Q1 TB (meas_def T Z)
  have GM : FnOk P w K mg base (L2.CX P w) (k + 5) fM fdM ["sifter", "arguments"] (spMisS S) := ok_misplaced_s M T Z Y
  refine D.F.okX scAB (fun vs H Q E h => ?_) (fun cdv A outer s H vs Q E hr h => ?_)
  · obtain ⟨a, la, ls, lv, s, l, rfl, _⟩ := h
    rfl
  · refine ⟨_, pss_cons (ps_set (i := 2) scAB.nd rfl (.inl rfl) (pe_ix ix_list (pv 1) pe_int (fun _ _ => rfl)))
      (pss_cons (ps_expr (pe_call GC (hr.mono (by omega)) rfl A1.g A1.F.kp A1.b .nil (passes_call (takes_of rfl rfl rfl rfl) (fun _ _ _ _ h => h)) (pa_cons (pv 0) (pa_cons (pv 2) pa_nil))))
      (pss_cons (ps_fld (pv 0) (pe_call GB (hr.mono (by omega)) rfl Q1.bp.g Q1.bp.F.kp Q1.bp.b .nil pass0 (pa_cons (pe_fld (pv 0) rfl) (pa_cons (pv 2) pa_nil))) rfl)
      (pss_one (ps_ret (pe_call GM (hr.mono (by omega)) rfl M.g M.F.kp M.b .nil (passes_call (takes_of rfl rfl rfl rfl) (fun _ _ _ _ h => h)) (pa_cons (pv 0) (pa_cons (pe_lst pa_nil) pa_nil))))))), ?_⟩
    obtain ⟨a, la, ls, lv, s, l, rfl, hs, hg, hla, n1, n2, hask, hT, hE, hQ⟩ := h
    obtain ⟨n, rfl⟩ := asked_one (.inr (.inl rfl)) hask
    obtain ⟨dx, ha⟩ := hs.obj
    have la0 : atI (nats [n]) 0 = some (.int n) := rfl
    have few := hg.few
    refine ⟨_, rfl, la, _, 0, _, rfl, rfl, SqL.of hla, la0, ?_⟩
    refine ⟨_, rfl, _, rfl, a, ls, lv, s, n, rfl, hs, fun bad => (hE (-22) (due_apply_no bad) (by decide)).at_ ⟨ExtN.refl H, hT⟩, fun good => ?_⟩
    have ne := lists_ne (n := s.sizes.length) (k := n) (by omega)
    refine ⟨_, rfl, a, S, dx, _, _, rfl, ha, Y.cl, Y.nZ, sF_sizes ls lv, _, rfl, ls, s, n, rfl, hT, hs.sz, hg.few, by omega, ne, fun H1 p l st np hp hl => ?_⟩
    have pl := (mem_positionLists.mp (lowest_mem hl))
    have d1 := due_apply good hl
    obtain ⟨vs, hls, hz⟩ := id hs.sz
    have a1 := st.ins ha
    refine ⟨_, rfl, a, S, dx, _, rfl, a1, Y.cl, Y.nV, (by show 2 < 1000; decide), ?_⟩
    rw [sF_putV]
    have sif := put_sieves (l := l) hs ha (fun e n => st.ext _ _ e n) hp (ne_of_none hls np)
    have keep : ∀ b u, H b = some u → (∀ ps, u ≠ .tbl ps) → b ≠ a → (upd H1 a (.ins S dx (sF ls p))) b = some u := fun b u e n n1 => by
      rw [upd_ne n1]
      exact st.ext _ _ e n
    have t2 : Tabs (TT PT) (upd H1 a (.ins S dx (sF ls p))) := tabs_put st.tabs a1
    generalize upd H1 a (.ins S dx (sF ls p)) = H2 at sif keep t2
    refine ⟨_, rfl, Nat.zero_le _, fun e ne => ?_⟩
    have s3 : Same H2 (upd H2 e (.lst [])) := same_new ne
    have gd : Good { s with sieves := l } := ⟨hg.few, hg.low, pl.2⟩
    have no_ : ∀ {o : Addr}, (upd H2 e (.lst [])) o = none → FreshT H o a ls lv := fun {o} n b u e0 nt n1 _ _ => (ne_of_none (s3 _ _ (keep b u e0 nt n1)) n).symm
    refine ⟨a, e, ls, p, _, rfl, sif.same s3, gd, fun H' o s4 no ho => ?_⟩
    refine hQ H' o ls p _ _ d1 ⟨fun b u e0 nt n1 _ _ => s4 _ _ (s3 _ _ (keep b u e0 nt n1)), (t2.ext s3).ext s4⟩ (.inl rfl) (.inr np) ((sif.same s3).same s4) gd (no_ no) ho
/-! ### sieves_needed -/
/-- that so many sieves are enough -/
def enough (s : Sifter) (limit k : Nat) : Bool := match bestSieves s k with
  | none => false
  | some l => decide (Kp409.misplaced s l ≤ limit)
theorem due_needed {s : Sifter} {m : Nat} : due s 12 [m] = (some s, match (List.range (max 1 s.sizes.length)).find? (enough s m) with | none => [-33] | some k => [(k : Int)]) := by
  rw [due_of (x := .sievesNeeded m) (by rfl)]
  have k1 : (Kp409.step (some s) (.sievesNeeded m)).1 = some s := rfl
  have k2 : (Kp409.step (some s) (.sievesNeeded m)).2 = (match (List.range (max 1 s.sizes.length)).find? (enough s m) with | none => Kp409.single (-33) | some k => Kp409.single (k : Int)) := rfl
  rw [k1, k2]
  cases (List.range (max 1 s.sizes.length)).find? (enough s m) with
  | none => rfl
  | some k => rfl
theorem needed_yes {s : Sifter} {m k : Nat} (hk : k < max 1 s.sizes.length) (hb : ∀ j, j < k → enough s m j = false) (he : enough s m k = true) : due s 12 [m] = (some s, [(k : Int)]) := by
  have z : (List.range (max 1 s.sizes.length)).find? (enough s m) = some k := List.find?_range_eq_some.mpr ⟨he, List.mem_range.mpr hk, fun j hj => by rw [hb j hj]; rfl⟩
  rw [due_needed, z]
theorem needed_no {s : Sifter} {m : Nat} (hb : ∀ j, j < max 1 s.sizes.length → enough s m j = false) : due s 12 [m] = (some s, [-33]) := by
  have z : (List.range (max 1 s.sizes.length)).find? (enough s m) = none := List.find?_eq_none.mpr fun j hj => by
    rw [hb j (List.mem_range.mp hj)]
    exact Bool.false_ne_true
  rw [due_needed, z]
abbrev nSN : List Str := ["sifter", "arguments", "limit", "count"]
theorem scSN : FnScope nSN ["sifter", "arguments"] (defScope sNeeded) := ⟨rfl, rfl, rfl, by decide +kernel, rfl, by decide +kernel, by decide +kernel⟩
theorem ok_needed {f C fi S fS : Addr} {fd fdi fdS : FuncData} {k : Nat} (D : Df K mg "sieves_needed" sNeeded ["sifter", "arguments"] f fd) (T : Own mg) (B : RefT K mg R fR fdR) (X : ErrT K mg R "NeverEnough" "NeverEnough.__init__" sNeverEnough C fi fdi)
    (Z : ClassesT K mg f1 f2 f3 f4 f5 fm fh fd1 fd2 fd3 fd4 fd5 fd6 fd7) (Q1 : PosT K mg fP fL fB fE fA fm fh c fdP fdL fdB fdE fdA) (TB : TabB base mg c PT) (Y : SifT K mg S fS fdS) :
    FnOk P w K mg base (L2.CX P w) (k + 10) f fd ["sifter", "arguments"] (spOpT K R S (TT PT) 12) := by
  have GM : FnOk P w K mg base CX0 (k + 4) fm fd6 ["sizes", "positions"] spMis := ok_misplaced_amount Z T
  have GA : FnOk P w K mg base CX0 (k + 9) fA fdA ["sizes", "count"] (spBestAmount PT) := ok_best_amount T Q1 TB (meas_def T Z) Z.ma GM
  have G : FnOk P w K mg base CX0 (k + 2) fi fdi ["self"] (spCoded K (-33)) := ok_NeverEnough T B X
  refine D.F.okX scSN (fun vs H Q E h => ?_) (fun cdv A outer s H vs Q E hr h => ?_)
  · obtain ⟨a, la, ls, lv, s, l, rfl, _⟩ := h
    rfl
  · refine ⟨_, pss_cons (ps_set (i := 2) scSN.nd rfl (.inl rfl) (pe_ix ix_list (pv 1) pe_int (fun _ _ => rfl)))
      (pss_cons (ps_for (passes_of rfl) rfl (pi_range1 rfl T.range (pa_cons (pe_callB (call_max2 rfl) (by rfl) T.max (by decide +kernel) (pa_cons pe_int (pa_cons (pe_callB call_len_seq (by rfl) T.len PySem.boot_len (pa_cons (pe_fld (pv 0) rfl) pa_nil)) pa_nil))) pa_nil)) (pg_name (i := 3) scSN.nd rfl (.inl rfl))
        (pss_one (ps_if (pt_cmpR op_le (pe_call GA (hr.mono (by omega)) rfl Q1.ba.g Q1.ba.F.kp Q1.ba.b .nil pass0 (pa_cons (pe_fld (pv 0) rfl) (pa_cons (pv 3) pa_nil))) (pv 2) (nomark _))
          (pss_one (ps_ret (pe_lst (pa_cons (pv 3) pa_nil)))) pss_nil)))
      (pss_one (ps_raise rfl (takes_of rfl rfl rfl rfl) (pmk_own0 X.ex X.iC X.tI G (hr.mono (by omega)) X.b pass0 (by rfl) X.g)))), ?_⟩
    obtain ⟨a, la, ls, lv, s, l, rfl, hs, hg, hla, n1, n2, hask, hT, hE, hQ⟩ := h
    obtain ⟨m, rfl⟩ := asked_one (.inr (.inr (.inl rfl))) hask
    obtain ⟨dx, ha⟩ := hs.obj
    obtain ⟨vs, hls, hz⟩ := id hs.sz
    have la0 : atI (nats [m]) 0 = some (.int m) := rfl
    have few := hg.few
    refine ⟨_, rfl, la, _, 0, _, rfl, rfl, SqL.of hla, la0, ?_⟩
    refine ⟨_, rfl, a, S, dx, _, _, rfl, ha, Y.cl, Y.nZ, sF_sizes ls lv, ls, _, rfl, .inl (SqL.of hls), _, _, rfl, ((max 1 s.sizes.length : Nat) : Int), ?_, by omega, by omega, ?_⟩
    · rw [hz.len]
      have e : (if (s.sizes.length : Int) > 1 then (s.sizes.length : Int) else 1) = ((max 1 s.sizes.length : Nat) : Int) := by
        split <;> omega
      rw [e]
    refine for_range (lo := 0) (n := max 1 s.sizes.length)
      (fun i σ H' => ∃ v3 : Option V, σ = [some (.ref a), some (.ref la), some (.int m), v3] ∧ Still (TT PT) H H' ∧ ∀ j, j < i → enough s m j = false)
      ⟨none, rfl, ⟨ExtN.refl H, hT⟩, fun j hj => absurd hj (Nat.not_lt_zero _)⟩ ?_ ?_
    · rintro i σ H1 hi ⟨v3, rfl, st, hb⟩
      have ne := lists_ne (n := s.sizes.length) hi
      refine ⟨_, rfl, a, S, dx, _, _, rfl, st.ins ha, Y.cl, Y.nZ, sF_sizes ls lv, _, rfl, ls, s, i, ?_, st.tabs, st.sz hs.sz, hg.few, by omega, ne, fun H2 l st2 hl => ?_⟩
      · show [V.ref ls, V.int ((0 : Int) + (i : Int))] ++ [] = [V.ref ls, V.int (i : Int)]
        rw [Int.zero_add]
        rfl
      have st' := st.trans st2
      have en : enough s m i = decide (Kp409.misplaced s l ≤ m) := by
        unfold enough
        rw [hl]
      refine ⟨_, rfl, _, _, rfl, rfl, _, rfl, ?_⟩
      by_cases c : Kp409.misplaced s l ≤ m
      · refine ifT (decide_eq_true (show (Kp409.misplaced s l : Int) ≤ (m : Int) by omega)) ?_
        have d1 := needed_yes hi hb (by rw [en]; exact decide_eq_true c)
        refine ⟨_, rfl, small _ (by show 1 ≤ 100000; decide), fun o no => ?_⟩
        rw [Int.zero_add]
        have st3 := st'.then (same_new (o := .lst [V.int (i : Int)]) no)
        exact hQ _ o ls lv s _ d1 (KeptT.of st3) (.inl rfl) (.inl rfl) (hs.still st3) hg (freshT_new st' no) upd_same
      · refine ifF (decide_eq_false (show ¬ (Kp409.misplaced s l : Int) ≤ (m : Int) by omega)) ?_
        refine ⟨_, rfl, st', fun j hj => ?_⟩
        rcases Nat.lt_or_ge j i with z | z
        · exact hb j z
        · have e : j = i := by omega
          rw [e, en]
          exact decide_eq_false c
    · rintro σ H1 ⟨v3, rfl, st, hb⟩
      exact raise_NeverEnough X (σ := [some (.ref a), some (.ref la), some (.int m), v3]) ((hE (-33) (needed_no hb) (by decide)).at_ st)
end
end Sv

namespace Sv
open PySem PySem.Spec PyProof.Rows L2
open LamX (Tabs ExtN TabB)
open Kp409 (Sifter SizeFraction)
abbrev sOperate : Stmt := top 55
abbrev sAnswer : Stmt := top 62
abbrev sAnswers : Stmt := top 60
section
variable {P : Program} {w : World} {K : PySem.W.Frag} {mg : Str → Option Value} {base : Heap} {R fR : Addr} {fdR : FuncData}
/-! ### Sifter.__init__ -/
def spSifInit (S : Addr) : Sp := fun vs H Q _ => ∃ a dx, vs = [.ref a] ∧ H a = some (.ins S dx []) ∧
  ∀ (H' : Hp) (ls lv : Addr), SifAt S H' a ls lv ⟨[], []⟩ → H ls = none → H lv = none → (∀ b u, H b = some u → b ≠ a → H' b = some u) → Q .non H'
theorem scSI : FnScope ["self"] ["self"] (defScope sSifterInit) := ⟨rfl, rfl, rfl, by decide +kernel, rfl, by decide +kernel, by decide +kernel⟩
theorem ok_sifter_init {S fS : Addr} {fdS : FuncData} {k : Nat} (Y : SifT K mg S fS fdS) : FnOk P w K mg base CX0 (k + 1) fS fdS ["self"] (spSifInit S) := by
  refine Y.F.ok scSI (fun vs H Q E h => ?_) (fun cdv A outer s H vs Q E hr h => ?_)
  · obtain ⟨a, dx, rfl, _⟩ := h
    rfl
  · refine ⟨_, pss_cons (ps_fld (pv 0) (pe_lst pa_nil) rfl) (pss_one (ps_fld (pv 0) (pe_lst pa_nil) rfl)), ?_⟩
    obtain ⟨a, dx, rfl, ha, q⟩ := h
    refine ⟨Nat.zero_le _, fun ls nls => ?_⟩
    have s1 : Same H (upd H ls (.lst [])) := same_new nls
    have l1 : (upd H ls (.lst [])) ls = some (.lst []) := upd_same
    generalize upd H ls (.lst []) = H1 at s1 l1
    have a1 := s1 _ _ ha
    have als : a ≠ ls := ne_of_none ha nls
    refine ⟨_, rfl, a, S, dx, _, rfl, a1, Y.cl, Y.nZ, (by show 0 < 1000; decide), ?_⟩
    rw [show putF "sizes" (.ref ls) [] = [(("sizes" : Str), V.ref ls)] from rfl]
    have a2 : (upd H1 a (.ins S dx [(("sizes" : Str), V.ref ls)])) a = some (.ins S dx [(("sizes" : Str), V.ref ls)]) := upd_same
    have l2 : (upd H1 a (.ins S dx [(("sizes" : Str), V.ref ls)])) ls = some (.lst []) := by
      rw [upd_ne als.symm]
      exact l1
    have k2 : ∀ b u, H b = some u → b ≠ a → (upd H1 a (.ins S dx [(("sizes" : Str), V.ref ls)])) b = some u := fun b u e n => by
      rw [upd_ne n]
      exact s1 _ _ e
    have f2 : ∀ b, (upd H1 a (.ins S dx [(("sizes" : Str), V.ref ls)])) b = none → H b = none := fun b e => by
      by_cases n : b = a
      · rw [n, a2] at e
        cases e
      · rw [upd_ne n] at e
        exact s1.free e
    generalize upd H1 a (.ins S dx [(("sizes" : Str), V.ref ls)]) = H2 at a2 l2 k2 f2
    refine ⟨Nat.zero_le _, fun lv nlv => ?_⟩
    have s3 : Same H2 (upd H2 lv (.lst [])) := same_new nlv
    have v3 : (upd H2 lv (.lst [])) lv = some (.lst []) := upd_same
    have f3 := f2 _ nlv
    generalize upd H2 lv (.lst []) = H3 at s3 v3
    have a3 := s3 _ _ a2
    refine ⟨_, rfl, a, S, dx, _, rfl, a3, Y.cl, Y.nV, (by show 1 < 1000; decide), ?_⟩
    have ep : putF "sieves" (.ref lv) [(("sizes" : Str), V.ref ls)] = sF ls lv := by
      have e : ¬ (("sizes" : Str) = ("sieves" : Str)) := by decide +kernel
      simp [sF, putF, e]
    rw [ep]
    have alv : a ≠ lv := ne_of_none ha f3
    refine q _ ls lv ⟨⟨dx, upd_same⟩, ⟨[], ?_, All2.nil⟩, ?_, ne_of_none l2 nlv⟩ nls f3 fun b u e n => ?_
    · rw [upd_ne als.symm]
      exact s3 _ _ l2
    · rw [upd_ne alv.symm]
      exact v3
    · rw [upd_ne n]
      exact s3 _ _ (k2 _ _ e n)

/-! ### operate -/
def spOperate (K : PySem.W.Frag) (R S : Addr) (U : List (Addr × Str)) : Sp := fun vs H Q E => ∃ (sv : V) (p : Int) (la : Addr) (l : List Nat), vs = [sv, .int p, .ref la] ∧ H la = some (.lst (nats l)) ∧ askedR (p, l) = true ∧ p ≠ 0 ∧
  ((sv = .non ∧ Raised K R (-11) H E) ∨ ∃ a, sv = .ref a ∧ (∃ dx fs, H a = some (.ins S dx fs)) ∧ spOpT K R S U p [.ref a, .ref la] H Q E)
abbrev nOP : List Str := ["sifter", "number", "arguments", "operation"]
theorem scOP : FnScope nOP ["sifter", "number", "arguments"] (defScope sOperate) := ⟨rfl, rfl, rfl, by decide +kernel, rfl, by decide +kernel, by decide +kernel⟩
/-- the table of the operations: each number's def, which keeps its promise -/
structure TabT (P : Program) (w : World) (K : PySem.W.Frag) (mg : Str → Option Value) (base : Heap) (R S : Addr) (U : List (Addr × Str)) (k : Nat) (d : Addr) (tab : List (Int × Addr)) : Prop where
  g : mg "OPERATIONS" = some (.ref d)
  kt : KTab K d tab
  all : ∀ p : Int, 0 ≤ p → p ≤ 20 → p ≠ 0 → ∃ f, tab.lookup p = some f ∧ Def1 P w K mg base k f (spOpT K R S U p)
theorem ok_operate {f C fC S dT : Addr} {fd fdC : FuncData} {tab : List (Int × Addr)} {U : List (Addr × Str)} {k : Nat} (D : Df K mg "operate" sOperate ["sifter", "number", "arguments"] f fd) (T : Own mg) (B : RefT K mg R fR fdR) (X : ErrT K mg R "NoSifter" "NoSifter.__init__" sNoSifter C fC fdC)
    (O : TabT P w K mg base R S U (k + 10) dT tab) : FnOk P w K mg base (L2.CX P w) (k + 11) f fd ["sifter", "number", "arguments"] (spOperate K R S U) := by
  have G : FnOk P w K mg base CX0 (k + 2) fC fdC ["self"] (spCoded K (-11)) := ok_NoSifter T B X
  refine D.F.okX scOP (fun vs H Q E h => ?_) (fun cdv A outer s H vs Q E hr h => ?_)
  · obtain ⟨sv, p, la, l, rfl, _⟩ := h
    rfl
  · refine ⟨_, pss_cons (ps_if (pt_cmpR op_isN (pv 0) pe_non (nomark _)) (pss_one (ps_raise rfl (takes_of rfl rfl rfl rfl) (pmk_own0 X.ex X.iC X.tI G (hr.mono (by omega)) X.b pass0 (by rfl) X.g))) pss_nil)
      (pss_cons (ps_set (i := 3) scOP.nd rfl (.inl rfl) (pe_ix ix_tab (pe_glob (v := .ref dT) rfl O.g rfl) (pv 1) (fun _ _ => rfl)))
      (pss_one (ps_ret (pe_callD (i := 3) (S := fun f sp => ∃ p, 0 ≤ p ∧ p ≤ 20 ∧ p ≠ 0 ∧ tab.lookup p = some f ∧ sp = spOpT K R S U p) (fun f sp ⟨p, h1, h2, h3, h4, h5⟩ => by
          obtain ⟨g, e, d⟩ := O.all p h1 h2 h3
          rw [h4] at e
          cases e
          rw [h5]
          exact d) hr rfl (.inl rfl) (passes_call (takes_of rfl rfl rfl rfl) (fun _ _ _ _ h => h)) (pa_cons (pv 0) (pa_cons (pv 2) pa_nil)))))), ?_⟩
    obtain ⟨sv, p, la, l, rfl, hla, hask, p0, h⟩ := h
    rcases h with ⟨rfl, hE⟩ | ⟨a, rfl, _, hop⟩
    · refine ⟨_, rfl, rfl, _, rfl, ?_⟩
      refine ifT (decide_eq_true rfl) ?_
      exact raise_NoSifter X hE
    · refine ⟨_, rfl, rfl, _, rfl, ?_⟩
      refine ifF (decide_eq_false (fun z => nomatch z)) ?_
      obtain ⟨lo, hi⟩ := asked_number hask
      obtain ⟨g, e, d⟩ := O.all p lo hi p0
      exact ⟨_, rfl, dT, tab, p, g, rfl, rfl, O.kt, e, g, _, rfl, ⟨p, lo, hi, p0, e, rfl⟩, _, rfl, _, rfl, hop⟩

/-! ### answer -/
/-- what is answered, an error or not, and the sifter behind it -/
def spAnswer (K : PySem.W.Frag) (S : Addr) (U : List (Addr × Str)) : Sp := fun vs H Q _ => ∃ (sv : V) (p : Int) (la : Addr) (l : List Nat), vs = [sv, .int p, .ref la] ∧ H la = some (.lst (nats l)) ∧ askedR (p, l) = true ∧ p ≠ 0 ∧
  ((sv = .non ∧ ∀ H' o, Same H H' → H o = none → H' o = some (.lst [.int (-11)]) → Q (.ref o) H') ∨
    ∃ (a ls lv : Addr) (s : Sifter), sv = .ref a ∧ SifAt S H a ls lv s ∧ Good s ∧ la ≠ ls ∧ la ≠ lv ∧ Tabs U H ∧
      ∀ (H' : Hp) (o ls' lv' : Addr) (s' : Sifter) (ns : List Int), due s p l = (some s', ns) → KeptT U H H' a ls lv → Mine H ls' ls → Mine H lv' lv → SifAt S H' a ls' lv' s' → Good s' → FreshT H o a ls lv → H' o = some (.lst (ns.map V.int)) → Q (.ref o) H')
abbrev nAN : List Str := ["sifter", "number", "arguments", "refusal"]
theorem scAN : FnScope nAN ["sifter", "number", "arguments"] (defScope sAnswer) := ⟨rfl, rfl, rfl, by decide +kernel, rfl, by decide +kernel, by decide +kernel⟩
theorem ok_answer {f fO C fC S dT : Addr} {fd fdO fdC : FuncData} {tab : List (Int × Addr)} {U : List (Addr × Str)} {k : Nat} (D : Df K mg "answer" sAnswer ["sifter", "number", "arguments"] f fd) (T : Own mg) (B : RefT K mg R fR fdR) (X : ErrT K mg R "NoSifter" "NoSifter.__init__" sNoSifter C fC fdC)
    (O : TabT P w K mg base R S U (k + 10) dT tab) (A1 : Df K mg "operate" sOperate ["sifter", "number", "arguments"] fO fdO) : FnOk P w K mg base CX0 (k + 12) f fd ["sifter", "number", "arguments"] (spAnswer K S U) := by
  have G : FnOk P w K mg base (L2.CX P w) (k + 11) fO fdO ["sifter", "number", "arguments"] (spOperate K R S U) := ok_operate A1 T B X O
  refine D.F.ok scAN (fun vs H Q E h => ?_) (fun cdv A outer s H vs Q E hr h => ?_)
  · obtain ⟨sv, p, la, l, rfl, _⟩ := h
    rfl
  · refine ⟨_, pss_one (ps_try_as (i := 3) (c := .ref R) (tb := fun W => tRet (tCallS (spOperate K R S U) (WE W) (tCons (tVar 0) (tCons (tVar 1) (tCons (tVar 2) tNil))))) (ts := fun a cls d => tRet (tLst (tCons (tCaught K a cls d (tVar 3)) tNil))) (Wout := fun _ _ _ _ => False)
        rfl rfl scAN.nd rfl rfl ⟨rfl, by decide, Or.inl B.g⟩ takes0
        (fun W pn xe tk _ => pss_one (ps_ret (by exact (pe_callS G hr rfl A1.g A1.F.kp A1.b (fun σ => passAt tk σ) (by exact (pa_cons (pv 0) (pa_cons (pv 1) (pa_cons (pv 2) pa_nil))))))))
        (fun a oe cls d pn hz hf => pss_one (ps_ret (pe_lst (pa_cons (by exact (pe_caught hz hf (pv 3))) pa_nil))))), ?_⟩
    obtain ⟨sv, p, la, l, rfl, hla, hask, p0, h⟩ := h
    -- what the suite does with an error of the code c
    have suite : ∀ (c : Int), (∀ H' o, Same H H' → H o = none → H' o = some (.lst [.int c]) → Q (.ref o) H') → Raised K R c H (WE (wAs K (.ref R) 3 (fun a cls d => tRet (tLst (tCons (tCaught K a cls d (tVar 3)) tNil))) (fun _ _ _ _ => False) { nx := fun _ H' => Q .non H', rt := Q }) (L2.start nAN [sv, .int p, .ref la])) := by
      intro c hc C d H1 hC htk s1 nd
      refine ⟨true, htk, fun _ a na => ?_, fun q => Bool.noConfusion q⟩
      refine ⟨_, rfl, rfl, C, d, _, rfl, hC, rfl, upd_same, small _ (by show 1 ≤ 100000; decide), fun o no => ?_⟩
      exact hc _ o ((s1.trans (same_new nd)).trans (same_new no)) ((s1.trans (same_new nd)).free no) upd_same
    have suiteT : ∀ (c : Int), (∀ H' o, Still U H H' → (∀ b u, H b = some u → (∀ ps, u ≠ .tbl ps) → o ≠ b) → H' o = some (.lst [.int c]) → Q (.ref o) H') → RaisedT K R U c H (WE (wAs K (.ref R) 3 (fun a cls d => tRet (tLst (tCons (tCaught K a cls d (tVar 3)) tNil))) (fun _ _ _ _ => False) { nx := fun _ H' => Q .non H', rt := Q }) (L2.start nAN [sv, .int p, .ref la])) := by
      intro c hc C d H1 hC htk s1 nd
      refine ⟨true, htk, fun _ a na => ?_, fun q => Bool.noConfusion q⟩
      have s2 := s1.then (same_new (o := .xd [("code", .int c)]) nd)
      refine ⟨_, rfl, rfl, C, d, _, rfl, hC, rfl, upd_same, small _ (by show 1 ≤ 100000; decide), fun o no => ?_⟩
      exact hc _ o (s2.then (same_new no)) (fun b u e n => (ne_of_none (s2.ext b u e n) no).symm) upd_same
    rcases h with ⟨rfl, hN⟩ | ⟨a, ls, lv, s, rfl, hs, hg, n1, n2, hT, hQ⟩
    · refine ⟨_, rfl, _, rfl, _, rfl, .non, p, la, l, rfl, hla, hask, p0, .inl ⟨rfl, suite (-11) hN⟩⟩
    · refine ⟨_, rfl, _, rfl, _, rfl, .ref a, p, la, l, rfl, hla, hask, p0, .inr ⟨a, rfl, ?_, a, la, ls, lv, s, l, rfl, hs, hg, hla, n1, n2, hask, hT, fun c hc _ => ?_, hQ⟩⟩
      · obtain ⟨dx, e⟩ := hs.obj
        exact ⟨dx, _, e⟩
      · refine suiteT c fun H' o s1 no ho => hQ H' o ls lv s [c] hc (KeptT.of s1) (.inl rfl) (.inl rfl) (hs.still s1) hg (fun b u e n _ _ _ => no b u e n) ho
end
end Sv

namespace Sv
open PySem PySem.Spec PyProof.Rows L2
open LamX (Tabs ExtN TabB)
open Kp409 (Sifter SizeFraction)
section
variable {P : Program} {w : World} {K : PySem.W.Frag} {mg : Str → Option Value} {base : Heap} {R fR : Addr} {fdR : FuncData}
/-! ### answers -/
def spAns (K : PySem.W.Frag) (U : List (Addr × Str)) : Sp := fun vs H Q _ => ∃ (a : Addr) (ns : List Int) (rs : List CallR'), vs = [.ref a] ∧ Tabs U H ∧ SqL K H a (ns.map V.int) ∧ ns.length ≤ 900 ∧ Handed ns rs ∧
  ∀ (H' : Hp) (o : Addr), H' o = some (.lst ((PyKp409.answers ns).map V.int)) → Q (.ref o) H'
/-- at x stood nothing, or a table -/
def NT (H : Hp) (x : Addr) : Prop := ∀ u, H x = some u → ∃ ps, u = .tbl ps
theorem NT.ne {H : Hp} {x b : Addr} {u : HO} (h : NT H x) (e : H b = some u) (n : ∀ ps, u ≠ .tbl ps) : b ≠ x := fun z => by
  rw [z] at e
  obtain ⟨ps, w⟩ := h u e
  exact n ps w
theorem tabs_lst {T : List (Addr × Str)} {H : Hp} {a : Addr} {o : HO} {xs : List V} (t : Tabs T H) (ha : H a = some (.lst xs)) : Tabs T (upd H a o) := fun p hp => by
  obtain ⟨ps, h1, h2, h3⟩ := t p hp
  refine ⟨ps, ?_, h2, fun pos cv hc => ?_⟩
  · rw [upd_ne (ne_of h1 ha (by intro z; cases z))]
    exact h1
  · obtain ⟨c, e1, e2⟩ := h3 pos cv hc
    refine ⟨c, e1, ?_⟩
    rw [upd_ne (ne_of e2 ha (codeO_no (.inl ⟨_, rfl⟩)))]
    exact e2
/-- the sifter that the object holds, if any: nothing of it stood in H0 -/
def StAt (S : Addr) (H0 H : Hp) (sv : V) (st : Kp409.State) : Prop := match st with
  | none => sv = .non
  | some s => ∃ a ls lv, sv = .ref a ∧ SifAt S H a ls lv s ∧ Good s ∧ NT H0 a ∧ NT H0 ls ∧ NT H0 lv
theorem good_nil : Good ⟨[], []⟩ := ⟨Nat.zero_le _, (by intro y hy; cases hy), ⟨(by intro y hy; cases hy), (by intro y hy; cases hy), .nil⟩⟩
abbrev nAW : List Str := ["calls", "answered", "sifter", "number", "arguments", "result"]
theorem scAW : FnScope nAW ["calls"] (defScope sAnswers) := ⟨rfl, rfl, rfl, by decide +kernel, rfl, by decide +kernel, by decide +kernel⟩
theorem ok_answers {f fA fS fP fO C fC S dT : Addr} {fd fdA fdS fdP fdO fdC : FuncData} {tab : List (Int × Addr)} {U : List (Addr × Str)} {k t : Nat} (D : Df K mg "answers" sAnswers ["calls"] f fd) (T : Own mg) (B : RefT K mg R fR fdR) (X : ErrT K mg R "NoSifter" "NoSifter.__init__" sNoSifter C fC fdC)
    (Y : SifT K mg S fS fdS) (mC : mg "CREATE" = some (.int 0 t)) (O : TabT P w K mg base R S U (k + 10) dT tab) (A1 : Df K mg "operate" sOperate ["sifter", "number", "arguments"] fO fdO) (A2 : Df K mg "answer" sAnswer ["sifter", "number", "arguments"] fA fdA)
    (A3 : Df K mg "split_calls" sSplit ["calls"] fP fdP) : FnOk P w K mg base CX0 (k + 13) f fd ["calls"] (spAns K U) := by
  have GS : FnOk P w K mg base CX0 (k + 1) fS fdS ["self"] (spSifInit S) := ok_sifter_init Y
  have GP : FnOk P w K mg base CX0 (k + 1) fP fdP ["calls"] (spSplit K) := ok_split A3 T
  have GA : FnOk P w K mg base CX0 (k + 12) fA fdA ["sifter", "number", "arguments"] (spAnswer K S U) := ok_answer A2 T B X O A1
  refine D.F.ok scAW (fun vs H Q E h => ?_) (fun cdv A outer s H vs Q E hr h => ?_)
  · obtain ⟨a, ns, rs, rfl, _⟩ := h
    rfl
  · refine ⟨_, pss_cons (ps_set (i := 1) scAW.nd rfl (.inl rfl) (pe_lst pa_nil))
      (pss_cons (ps_set (i := 2) scAW.nd rfl (.inl rfl) pe_non)
      (pss_cons (ps_for PassesOwn.never rfl (pi_list (pe_call GP (hr.mono (by omega)) rfl A3.g A3.F.kp A3.b .nil pass0 (pa_cons (pv 0) pa_nil))) (pg_tup (by rfl) (pgs_cons (pg_name (i := 3) scAW.nd rfl (.inl rfl)) (pgs_cons (pg_name (i := 4) scAW.nd rfl (.inl rfl)) pgs_nil)))
        (pss_cons (ps_if (pt_cmpR op_eq (pv 3) (pe_glob (v := .int 0) rfl mC ⟨_, rfl⟩) (nomark _))
            (pss_cons (ps_set (i := 2) scAW.nd rfl (.inl rfl) (pe_make0 Y.made GS (hr.mono (by omega)) rfl Y.g Y.b .nil pass0)) (pss_one (ps_set (i := 5) scAW.nd rfl (.inl rfl) (pe_lst (pa_cons pe_int pa_nil)))))
            (pss_one (ps_set (i := 5) scAW.nd rfl (.inl rfl) (pe_call GA hr rfl A2.g A2.F.kp A2.b .nil pass0 (pa_cons (pv 2) (pa_cons (pv 3) (pa_cons (pv 4) pa_nil)))))))
        (pss_cons (ps_expr (pe_bm PySem.F.plainAttrs_list PySem.F.slot_list_append PySem.F.type_list_append mt_append (pv 1) (pa_cons (pe_callB call_len_seq (by rfl) T.len PySem.boot_len (pa_cons (pv 5) pa_nil)) pa_nil)))
        (pss_one (ps_expr (pe_bm PySem.F.plainAttrs_list PySem.F.slot_list_extend PySem.F.type_list_extend mt_extend (pv 1) (pa_cons (pv 5) pa_nil)))))))
      (pss_one (ps_ret (pv 1))))), ?_⟩
    obtain ⟨a, ns, rs, rfl, hT, hS, big, hd, q⟩ := h
    have short : (PyFlat.told (outs none rs)).length ≤ 10000000 := by
      have z := hd.short
      rw [hd.due] at z
      exact z
    rw [hd.due] at q
    -- answered = []; sifter = None
    refine ⟨Nat.zero_le _, fun ao nao => ?_⟩
    have s1 : Same H (upd H ao (.lst [])) := same_new nao
    have o1 : (upd H ao (.lst [])) ao = some (.lst []) := upd_same
    generalize upd H ao (.lst []) = H1 at s1 o1
    -- split_calls(calls)
    refine ⟨_, rfl, a, rs, rfl, by rw [← hd.enc]; exact s1.seq hS, by rw [← hd.enc]; exact big, fun H2 fl ts s2 nfl hfl hts => ?_⟩
    have o2 := s2 _ _ o1
    have t2 : Tabs U H2 := (hT.ext s1).ext s2
    have flo : fl ≠ ao := (ne_of_none o1 nfl).symm
    refine ⟨fl, rfl, ⟨_, SqL.of hfl⟩, for_list (K := K) (a := fl) (xs := ts)
      (fun i σ H' => ∃ (sv : V) (w3 w4 w5 : Option V), σ = [some (.ref a), some (.ref ao), some sv, w3, w4, w5] ∧ (∀ b u, H2 b = some u → (∀ ps, u ≠ .tbl ps) → b ≠ ao → H' b = some u) ∧ H' ao = some (.lst ((PyFlat.told (outs none (rs.take i))).map V.int)) ∧ Tabs U H' ∧ StAt S H2 H' sv (runSt none (rs.take i)))
      ⟨.non, none, none, none, rfl, fun b u e _ _ => e, o2, t2, rfl⟩ (fun i σ H' _ ⟨_, _, _, _, _, z, _, _, _⟩ => SqL.of (z _ _ hfl (by intro ps z; cases z) flo)) ?_ ?_⟩
    · rintro i x σ H3 hx ⟨sv, w3, w4, w5, rfl, k3, o3, t3, st3⟩
      obtain ⟨⟨p, l⟩, hr', tt, la, rfl, nla, n0, htt, hla⟩ := hts.some_of hx
      have hask := hd.each _ (List.mem_of_getElem? hr')
      have tto : tt ≠ ao := ne_of htt o2 (by intro z; cases z)
      have lao : la ≠ ao := (ne_of_none o1 n0).symm
      have tt3 := k3 _ _ htt (by intro ps z; cases z) tto
      have la3 := k3 _ _ hla (by intro ps z; cases z) lao
      have stp := runSt_snoc none (rs.take i) (p, l)
      have otp := outs_snoc none (rs.take i) (p, l)
      have room := told_room (st := none) (rs := rs) (i + 1)
      rw [take_more hr', otp, told_snoc] at room
      -- what is left of a turn: answered.append(len(result)); answered.extend(result)
      have go : ∀ (H4 : Hp) (o : Addr) (sv' : V) (w3 w4 : Option V), (∀ b u, H2 b = some u → (∀ ps, u ≠ .tbl ps) → b ≠ ao → H4 b = some u) → Tabs U H4 → H4 ao = some (.lst ((PyFlat.told (outs none (rs.take i))).map V.int)) → o ≠ ao →
          H4 o = some (.lst ((Kp409Neutral.step (runSt none (rs.take i)) (rowOf (p, l))).2.map V.int)) → StAt S H2 H4 sv' (Kp409Neutral.step (runSt none (rs.take i)) (rowOf (p, l))).1 →
          tSeq (tDrop (tBM K "list" rAppend (tVar 1) (tCons (tCB (fun xs H Q => ∃ p ys, xs = [V.ref p] ∧ (SqL K H p ys ∨ SqT K H p ys) ∧ Q (.int ys.length) H) (tCons (tVar 5) tNil)) tNil))) (tDrop (tBM K "list" rExtend (tVar 1) (tCons (tVar 5) tNil)))
            { nx := fun σ H' => ∃ (sv : V) (w3 w4 w5 : Option V), σ = [some (.ref a), some (.ref ao), some sv, w3, w4, w5] ∧ (∀ b u, H2 b = some u → (∀ ps, u ≠ .tbl ps) → b ≠ ao → H' b = some u) ∧ H' ao = some (.lst ((PyFlat.told (outs none (rs.take (i + 1)))).map V.int)) ∧ Tabs U H' ∧ StAt S H2 H' sv (runSt none (rs.take (i + 1))), rt := Q }
            [some (.ref a), some (.ref ao), some sv', w3, w4, some (.ref o)] H4 := by
        intro H4 o sv' w3 w4 k4 t4 o4 oo ho st4
        generalize hres : (Kp409Neutral.step (runSt none (rs.take i)) (rowOf (p, l))).2 = res at *
        rw [List.length_append, List.length_cons] at room
        refine ⟨_, rfl, .inl ⟨rfl, _, SqL.of o4⟩, _, rfl, o, _, rfl, .inl (SqL.of ho), ao, _, _, rfl, rfl, o4, ltLine (by rw [List.length_map]; omega), ?_⟩
        rw [List.length_map]
        have kp : ∀ b u, H4 b = some u → b ≠ ao → (upd H4 ao (.lst ((PyFlat.told (outs none (rs.take i))).map V.int ++ [V.int (res.length : Int)]))) b = some u := fun b u e n => by
          rw [upd_ne n]
          exact e
        have o5 : (upd H4 ao (.lst ((PyFlat.told (outs none (rs.take i))).map V.int ++ [V.int (res.length : Int)]))) ao = some (.lst ((PyFlat.told (outs none (rs.take i))).map V.int ++ [V.int (res.length : Int)])) := upd_same
        have t5 : Tabs U (upd H4 ao (.lst ((PyFlat.told (outs none (rs.take i))).map V.int ++ [V.int (res.length : Int)]))) := tabs_lst t4 o4
        generalize upd H4 ao (.lst ((PyFlat.told (outs none (rs.take i))).map V.int ++ [V.int (res.length : Int)])) = H5 at kp o5 t5
        refine ⟨_, rfl, .inl ⟨rfl, _, SqL.of o5⟩, _, rfl, ao, o, _, _, rfl, rfl, o5, kp _ _ ho oo, Nat.le_of_lt (ltLine (by simp only [List.length_append, List.length_map, List.length_singleton]; omega)), ?_⟩
        have kp6 : ∀ b u, H4 b = some u → b ≠ ao → (upd H5 ao (.lst ((PyFlat.told (outs none (rs.take i))).map V.int ++ [V.int (res.length : Int)] ++ res.map V.int))) b = some u := fun b u e n => by
          rw [upd_ne n]
          exact kp _ _ e n
        refine ⟨sv', _, _, _, rfl, fun b u e nt n => kp6 _ _ (k4 _ _ e nt n) n, ?_, tabs_lst t5 o5, ?_⟩
        · rw [upd_same, take_more hr', otp, told_snoc]
          simp
        · rw [take_more hr', stp]
          revert st4
          cases (Kp409Neutral.step (runSt none (rs.take i)) (rowOf (p, l))).1 with
          | none => exact fun z => z
          | some s' =>
            rintro ⟨a', ls, lv, ev, ⟨⟨dx, ea⟩, ⟨vs, el, ez⟩, ev', ne⟩, gd, n1, n2, n3⟩
            have na : ∀ {x : Addr}, NT H2 x → x ≠ ao := fun {x} n => (n.ne o2 (by intro ps z; cases z)).symm
            refine ⟨a', ls, lv, ev, ⟨⟨dx, kp6 _ _ ea (na n1)⟩, ⟨vs, kp6 _ _ el (na n2), ez.imp fun v x ⟨t', e1, e2⟩ => ⟨t', e1, kp6 _ _ e2 ?_⟩⟩, kp6 _ _ ev' (na n3), ne⟩, gd, n1, n2, n3⟩
            exact ne_of e2 o4 (by intro z; cases z)
      refine ⟨tt, _, rfl, SqT.of tt3, rfl, _, _, rfl, _, _, rfl, rfl, ?_⟩
      refine ⟨_, rfl, rfl, _, rfl, ?_⟩
      by_cases c : p = 0
      · subst c
        obtain rfl := asked_create hask
        refine ifT (decide_eq_true rfl) ?_
        -- sifter = Sifter(); result = [0]
        intro x dx nx ndx ne
        refine ⟨x, dx, rfl, upd_same, fun H4 ls lv hs4 nls nlv k4 => ⟨rfl, small _ (by show 1 ≤ 100000; decide), fun o no => ?_⟩⟩
        have keep : ∀ b u, H3 b = some u → H4 b = some u := fun b u e => by
          have n1 : b ≠ x := ne_of_none e nx
          have n2 : b ≠ dx := ne_of_none e ndx
          refine k4 b u ?_ n1
          rw [upd_ne n1, upd_ne n2]
          exact e
        have s5 : Same H4 (upd H4 o (.lst [V.int 0])) := same_new no
        have back : ∀ y, H3 y = none → NT H2 y := fun y e u z => by
          by_cases w : ∃ ps, u = .tbl ps
          · exact w
          · have n : y ≠ ao := fun n => by
              rw [n, o3] at e
              cases e
            rw [k3 y u z (fun ps v => w ⟨ps, v⟩) n] at e
            cases e
        have lsf : ∀ y, upd (upd H3 dx (.own x)) x (.ins S dx []) y = none → NT H2 y := fun y e => by
          by_cases m1 : y = x
          · rw [m1, upd_same] at e
            cases e
          · rw [upd_ne m1] at e
            by_cases m2 : y = dx
            · rw [m2, upd_same] at e
              cases e
            · rw [upd_ne m2] at e
              exact back y e
        have dc := due_create (runSt none (rs.take i))
        refine go _ o (.ref x) _ _ (fun b u e nt n => s5 _ _ (keep _ _ (k3 _ _ e nt n))) ((t3.ext keep).ext s5) (s5 _ _ (keep _ _ o3)) ?_ ?_ ?_
        · intro z
          rw [z, keep _ _ o3] at no
          cases no
        · rw [dc]
          exact upd_same
        · rw [dc]
          exact ⟨x, ls, lv, rfl, hs4.same s5, good_nil, back _ nx, lsf _ nls, lsf _ nlv⟩
      · refine ifF (decide_eq_false (by intro z; injection z with z; exact c z)) ?_
        refine ⟨_, rfl, _, rfl, _, rfl, sv, p, la, l, rfl, la3, hask, c, ?_⟩
        revert st3 go
        generalize hst : runSt none (rs.take i) = st
        cases st with
        | none =>
          intro st3 go
          refine .inl ⟨st3, fun H4 o s4 no ho => ?_⟩
          have dn := due_none hask c
          refine go _ o sv _ _ (fun b u e nt n => s4 _ _ (k3 _ _ e nt n)) (t3.ext s4) (s4 _ _ o3) ?_ ?_ ?_
          · exact (ne_of_none o3 no).symm
          · rw [dn]
            exact ho
          · rw [dn]
            exact st3
        | some s =>
          rintro ⟨a', ls, lv, rfl, hs, hg, m1, m2, m3⟩ go
          have nla1 : la ≠ ls := NT.ne m2 hla (by intro ps z; cases z)
          have nla2 : la ≠ lv := NT.ne m3 hla (by intro ps z; cases z)
          refine .inr ⟨a', ls, lv, s, rfl, hs, hg, nla1, nla2, t3, fun H4 o ls' lv' s' ns' hdue hk mm1 mm2 hs' hg' fr ho => ?_⟩
          have notH : ∀ {y : Addr} {u : HO}, H2 y = some u → (∀ ps, u ≠ .tbl ps) → y ≠ a' ∧ y ≠ ls ∧ y ≠ lv := fun {y u} e n => ⟨m1.ne e n, m2.ne e n, m3.ne e n⟩
          have hstep : Kp409Neutral.step (some s) (rowOf (p, l)) = (some s', ns') := hdue
          have ao3 := notH o2 (by intro ps z; cases z)
          have new2 : ∀ y, H3 y = none → NT H2 y := fun y e u z => by
            by_cases w : ∃ ps, u = .tbl ps
            · exact w
            · have n : y ≠ ao := fun n => by
                rw [n, o3] at e
                cases e
              rw [k3 y u z (fun ps v => w ⟨ps, v⟩) n] at e
              cases e
          have mine : ∀ {x y : Addr}, Mine H3 x y → NT H2 y → NT H2 x := fun {x y} m n => by
            rcases m with q | q
            · rw [q]
              exact n
            · exact new2 _ q
          refine go _ o (.ref a') _ _ (fun b u e nt n => hk.ext _ _ (k3 _ _ e nt n) nt (notH e nt).1 (notH e nt).2.1 (notH e nt).2.2) hk.tabs (hk.ext _ _ o3 (by intro ps z; cases z) ao3.1 ao3.2.1 ao3.2.2) (fr _ _ o3 (by intro ps z; cases z) ao3.1 ao3.2.1 ao3.2.2) ?_ ?_
          · rw [hstep]
            exact ho
          · rw [hstep]
            exact ⟨a', ls', lv', rfl, hs', hg', m1, mine mm1 m2, mine mm2 m3⟩
    · rintro σ H3 ⟨sv, w3, w4, w5, rfl, k3, o3, t3, st3⟩
      rw [hts.len, List.take_length] at o3
      exact ⟨_, rfl, q H3 ao o3⟩
end
end Sv

/-! The end of a Spec row whose program has a table of code objects that grows. -/
namespace Sv
open PySem PySem.Spec PyProof.Rows L2
open LamX (Tabs ExtN TabB)
open PySem.W (WData Codec OpenSpec WellAll)
open PySem.W (ReadsW ReadsAllW)
/-- what is tracked at the start: the arguments' objects, and the table, empty -/
def argT (H0 : Hp) (PT : Addr) : Hp := fun b => if b = PT then some (.tbl #[]) else H0 b
theorem spec_callT {P : Program} {w : World} {K : PySem.W.Frag} {mg mb : Str → Option Value} {CX : CXT} {k : Nat} {fa c PT : Addr} {fd : FuncData} {ps : List Str} {sp : Sp} {s₁ : Shared} {vals : List Value} {ds : List WData} {R : PySem.W.WRecords} {cl : Str → Option Addr} {d0 : WData}
    (KX : K.In s₁.heap) (gNs : s₁.heap.Ns mainGlobals mg) (nsB : s₁.heap.Ns builtinsNs mb) (bootB : ∀ x : Str, x ≠ "__name__" → mb x = bootBuiltins x) (noLim : s₁.heap.NoLimit) (noGen : s₁.gens = #[])
    (gT : s₁.heap.get? PT = some { cls := .none, data := .fields #[] }) (nT : K.lookup PT = none) (CD : PySem.W.CodeHd s₁.heap c PT)
    (modB : ∃ (bm : Addr) (ob : Obj), mg "__builtins__" = some (.ref bm) ∧ bm ≠ builtinsNs ∧ s₁.heap.get? bm = some ob ∧ ob.cls = .type "module" ∧ ob.dict = some builtinsNs ∧ ob.data = .plain)
    (wellA : WellAll w.params s₁.heap vals ds) (plainA : plWs ds = true) (lightA : ∀ d ∈ ds, d.weight ≤ 1048576) (rm : Room k callerA)
    (F : ∀ base : Heap, K.In base → base.Ns mainGlobals mg → TabB base mg c PT → FnOk P w K mg base CX k fa fd ps sp) (bindA : ∀ (s : Shared) (us : List Value), us.length = ps.length → BindsTo s fd ⟨us, []⟩ (ps.zip us)) (sameN : ds.length = ps.length)
    (hsp : ∀ (H0 H : Hp) (xs : List V), Same H0 H → H PT = some (.tbl #[]) → DwAll K H0 xs ds → sp xs H (fun v H' => Dw K H' v d0) fun _ _ _ => False)
    (endX : ∀ H e s', CX [] H s₁ (fun _ _ _ => False) e s' → False) :
    codeAny (model P w) callerA (.call (.ref fa) ⟨vals, []⟩) (fun r s' => ∃ u as, r = .ok (.ret u) ∧ ReadsW R cl s'.heap u d0 as ∧ OldK s₁.heap s'.heap ∧ s'.os = s₁.os ∧ AllBare s'.gens) s₁ := by
  obtain ⟨A, fitA, ar⟩ := area_all ds vals wellA plainA lightA
  have only0 : OnlyF (argH K s₁.heap A) := argH_only ar
  have hS := dw_all KX ar ds vals wellA plainA fitA
  have hV := vals_toV fitA
  have is0 : ∀ {b : Addr} {u : HO}, argH K s₁.heap A b = some u → K.lookup b = none ∧ ∃ (vs : List Value) (cls : Value), s₁.heap.get? b = some { cls := cls, data := .seq vs.toArray } := fun {b u} q => by
    obtain ⟨n, vs, _, _, ⟨e, _⟩ | ⟨e, _⟩⟩ := argH_is ar q
    · exact ⟨n, vs, _, e⟩
    · exact ⟨n, vs, _, e⟩
  have ok0 : HOk P w (argH K s₁.heap A) s₁.heap := argH_ok ar
  generalize argH K s₁.heap A = H0 at only0 hS is0 ok0
  have n0 : H0 PT = none := by
    cases q : H0 PT with
    | none => rfl
    | some u =>
      obtain ⟨_, vs, cls, e⟩ := is0 q
      rw [gT] at e
      have z : Data.fields #[] = Data.seq vs.toArray _ := congrArg Obj.data (Option.some.inj e)
      cases z
  have atT : argT H0 PT PT = some (.tbl #[]) := if_pos rfl
  have atN : ∀ {b : Addr}, b ≠ PT → argT H0 PT b = H0 b := fun {b} n => if_neg n
  have sm : Same H0 (argT H0 PT) := fun b u e => by
    rw [atN (fun z => by rw [z, n0] at e; cases e)]
    exact e
  have hok : HOk P w (argT H0 PT) s₁.heap := fun b u q => by
    by_cases z : b = PT
    · subst z
      rw [atT] at q
      cases q
      exact gT
    · rw [atN z] at q
      exact (ok0 b u q).stay (fun d v _ e => e) (fun d e => sm _ _ e) fun d xs e => sm _ _ e
  have knd : ∀ {b : Addr} {u : HO}, argT H0 PT b = some u → K.lookup b = none ∧ ((b = PT ∧ s₁.heap.get? b = some { cls := .none, data := .fields #[] }) ∨ ∃ (vs : List Value) (cls : Value), s₁.heap.get? b = some { cls := cls, data := .seq vs.toArray }) := fun {b u} q => by
    by_cases z : b = PT
    · rw [z]
      exact ⟨nT, .inl ⟨rfl, gT⟩⟩
    · rw [atN z] at q
      obtain ⟨h1, h2⟩ := is0 q
      exact ⟨h1, .inr h2⟩
  -- an object that is neither a sequence nor an empty record is not tracked
  have free : ∀ {b : Addr} {o : Obj}, s₁.heap.get? b = some o → (∀ vs n, o.data ≠ .seq vs n) → o.data ≠ .fields #[] → argT H0 PT b = none := fun {b o} e h1 h2 => by
    cases q : argT H0 PT b with
    | none => rfl
    | some u =>
      rcases (knd q).2 with ⟨_, g⟩ | ⟨vs, cls, g⟩
      · rw [e] at g
        cases g
        exact (h2 rfl).elim
      · rw [e] at g
        cases g
        exact (h1 _ _ rfl).elim
  have base_of : ∀ {b : Addr} {o : Obj}, s₁.heap.get? b = some o → argT H0 PT b = none → (hidT s₁.heap (argT H0 PT)).get? b = some o := fun e n => hidT_get e n
  have nsK : ∀ {b : Addr} {m : Str → Option Value}, s₁.heap.Ns b m → (hidT s₁.heap (argT H0 PT)).Ns b m := fun {b m} ⟨o, es, ep, e, d, r⟩ => ⟨o, es, ep, base_of e (free e (fun vs n z => by rw [d] at z; cases z) (fun z => by rw [d] at z; cases z)), d, r⟩
  have nK : ∀ b o, K.lookup b = some o → argT H0 PT b = none := fun b o e => by
    cases q : argT H0 PT b with
    | none => rfl
    | some u =>
      rw [(knd q).1] at e
      cases e
  have hKb : K.In (hidT s₁.heap (argT H0 PT)) := fun b o e => base_of (KX b o e) (nK b o e)
  have hM : Mod K mg (hidT s₁.heap (argT H0 PT)) := ⟨hKb, nsK gNs, ⟨mb, nsK nsB, bootB⟩, let ⟨mc, h1, h2⟩ := noLim; ⟨mc, nsK h1, h2⟩⟩
  have TB : TabB (hidT s₁.heap (argT H0 PT)) mg c PT := by
    refine ⟨?_, ?_, fun z => ?_⟩
    · obtain ⟨o, us, file, tf, flags, tg, inF, text, tt, e1, r1, r2, r3, r4, r5, r6, r7, r8, hne⟩ := CD
      refine ⟨o, us, file, tf, flags, tg, inF, text, tt, base_of e1 (free e1 (fun vs n z => ?_) fun z => ?_), r1, r2, r3, r4, r5, r6, r7, r8, hne⟩
      · rw [r2] at z
        cases z
      · rw [r2] at z
        cases z
        simp at r3
    · obtain ⟨bm, ob, b1, b2, b3, b4, b5, b6⟩ := modB
      have nG : bm ≠ mainGlobals := fun q => by
        obtain ⟨o, es, ep, e, hd, _⟩ := gNs
        rw [q, e] at b3
        cases b3
        rw [hd] at b6
        cases b6
      have nP : bm ≠ PT := fun q => by
        rw [q, gT] at b3
        cases b3
        cases b6
      refine ⟨bm, ob, b1, b2, nG, nP, base_of b3 (free b3 (fun vs n z => ?_) fun z => ?_), b4, b5, b6⟩
      · rw [b6] at z
        cases z
      · rw [b6] at z
        cases z
    · obtain ⟨o, es, ep, e, hd, _⟩ := gNs
      rw [z, gT] at e
      cases e
      cases hd
  have e0 : Env0 P w K mg (hidT s₁.heap (argT H0 PT)) callerA [] s₁ (argT H0 PT) := ⟨rfl, hM, fun b o e => of_hidT e, Nat.le_of_eq (hidT_size _ _), trivial, fun b nsB => absurd (show b ∈ ([] : List Addr) from nsB) (by simp), hok, .of_eq noGen⟩
  have hl : vals.length = ps.length := by
    rw [wellAll_len wellA]
    exact sameN
  refine codeAny_mono ((F _ hKb (nsK gNs) TB).run callerA [] s₁ (argT H0 PT) ⟨vals, []⟩ vals (vals.map toV) _ _ rm e0 (bindA s₁ vals hl) hV (hsp H0 _ _ sm atT hS)) fun r s' x => ?_
  cases r with
  | error e => exact (endX _ e s' x).elim
  | ok fl =>
    cases fl with
    | next => exact False.elim x
    | brk => exact False.elim x
    | cont => exact False.elim x
    | ret u =>
      obtain ⟨v, H', os, plainG, kept0, hok', r', q⟩ := x
      have kept : ∀ b o, b ≠ PT → s₁.heap.get? b = some o → s'.heap.get? b = some o := fun b o nb e => by
        cases q2 : argT H0 PT b with
        | none => exact kept0.keep b o e q2 (by intro z; exact absurd (show b ∈ ([] : List Addr) from z) (by simp)) (by simp)
        | some u2 =>
          rw [atN nb] at q2
          rcases only0 b with z | ⟨ob, u3, z⟩
          · rw [q2] at z
            cases z
          · have z1 := sm _ _ z
            have z2 := kept0.frzs b ob _ z1
            obtain ⟨e1, _⟩ := hok b _ z1
            obtain ⟨e2, _⟩ := hok' b _ z2
            rw [e] at e1
            cases e1
            exact e2
      obtain ⟨more, zm⟩ := kept0.tbls PT #[] atT
      have grown : s'.heap.get? PT = some { cls := .none, data := .fields (#[] ++ more) } := hok' PT _ zm
      have KX' : K.In s'.heap := fun b o e => kept b o (fun z => by rw [z, nT] at e; cases e) (KX b o e)
      obtain ⟨as, readP⟩ := Dw.reads (R := R) (cl := cl) hok' KX' d0 v u q r'
      refine ⟨u, as, rfl, readP, ⟨fun b o e => ?_, fun b o e => ?_⟩, os, plainG⟩
      · by_cases z : b = PT
        · rw [z] at e ⊢
          rw [gT] at e
          cases e
          exact .inr (.inl ⟨(CD.tab gT).isCodeTable, rfl, #[], more, rfl, grown⟩)
        · exact .inl (kept b o z e)
      · by_cases z : b = PT
        · rw [z]
          exact ⟨_, grown⟩
        · exact ⟨o, kept b o z e⟩
/-- the goal that the head leaves, where one def's table may grow -/
theorem walk_specT {r : OpenSpec} {k : Nat} {q : Program} {loose : List Str} {XP : (Str → Option Value) → Heap → Prop} {YP : World → Heap → Prop} {d : DefRec} {K : Params → PySem.W.Frag} {CX : CXT} {ps : List Str} {sp : PySem.W.Frag → Addr → Sp} {x : Str}
    (hwell : r.wellSaid = true) (hdf : d.params.defaults = []) (sameN : r.args.length = ps.length) (rm : Room k callerA) (hrec : ((recsOf q).any fun e => e.name == x) = true)
    (hY : ∀ (w : World) (h : Heap), YP w h → (K w.params).In h)
    (F : ∀ (w : World) (mg : Str → Option Value) (fa : Addr) (h : Heap), YP w h → (K w.params).In h → h.Ns mainGlobals mg → mg d.name = some (.ref fa) →
      ∃ (fd fl : FuncData) (f c PT : Addr) (e1 e2 : Value) (d1 d2 : Option Addr) (s1 s2 : Array (Option Value)) (vs : Array Value), mg x = some (.ref f) ∧ (K w.params).lookup f = some ⟨e1, d1, .func fl, s1⟩ ∧ fl.code = .ref c ∧ (K w.params).lookup c = some ⟨e2, d2, .fields vs, s2⟩ ∧ vs[11]? = some (.ref PT) ∧ (K w.params).lookup PT = none ∧ PySem.W.codeHdIn (K w.params) c PT = true ∧
        (∀ (s : Shared) (us : List Value), us.length = ps.length → BindsTo s fd ⟨us, []⟩ (ps.zip us)) ∧
        ∀ base : Heap, (K w.params).In base → base.Ns mainGlobals mg → TabB base mg c PT → FnOk r.prog w (K w.params) mg base CX k fa fd ps (sp (K w.params) PT))
    (hsp : ∀ (K : PySem.W.Frag) (PT : Addr) (H0 H : Hp) (xs : List V) (a : Codec.denoteAll r.args), Same H0 H → H PT = some (.tbl #[]) → Codec.withinAll r.args a = true → Codec.app r.args r.asked a = true → DwAll K H0 xs (Codec.encAll r.args a) →
      sp K PT xs H (fun v H' => Dw K H' v (r.ret.enc (Codec.app r.args r.f a))) fun _ _ _ => False)
    (endX : ∀ (H : Hp) (s : Shared) (e : Value) (s' : Shared), CX [] H s (fun _ _ _ => False) e s' → False) :
    PySem.W.WalkOS q loose XP YP r d [] (fun f vs => PySem.call f vs) := by
  intro w s₀ s₁ mg mb G Y fa o pm cd doc dV kV ho hd codeP defP hmg noGen args vals as askP layP readP wellA lowP
  obtain ⟨a, e1, e2⟩ := PySem.W.os_pre_some askP
  obtain ⟨e3, inP⟩ := Codec.encAll_of_decAll r.args args a e1
  subst e3
  have KX := hY w _ Y
  obtain ⟨fd, fl, f, c, PT, v1, v2, d1, d2, sl1, sl2, vs, k1, k2, k3, k4, k5, nT, hh, nsB, hF⟩ := F w mg fa _ Y KX G.T.g hmg
  have hT : PySem.W.CodeHd s₁.heap c PT ∧ s₁.heap.get? PT = some { cls := .none, data := .fields #[] } := by
    obtain ⟨dR, hm, nameL⟩ := List.any_eq_true.mp hrec
    have nameE : dR.name = x := beq_iff_eq.mp nameL
    obtain ⟨a', o', fd', c', P', h1, h2, h3, h4, h5, h6⟩ := G.T.tab dR hm
    rw [nameE, k1] at h1
    cases h1
    have g1 := KX _ _ k2
    rw [g1] at h2
    cases h2
    cases h3
    rw [k3] at h4
    cases h4
    obtain ⟨⟨oc, vc, q1, q2, q3, q4⟩, hP⟩ := h6
    have g2 := KX _ _ k4
    rw [g2] at q1
    cases q1
    cases q3
    rw [k5] at q4
    cases q4
    exact ⟨PySem.W.codeHd_of_K KX hh, hP⟩
  refine PySem.W.enter_call (codeAny_mono (spec_callT (R := []) (cl := classAt s₀.heap) (d0 := r.ret.enc (Codec.app r.args r.f a)) KX G.T.g G.T.b G.T.builtins G.T.nolimit noGen hT.2 nT hT.1 G.T.bmain wellA (pl_encAll _ _) (layable_weight layP) rm hF nsB (by rw [encAll_len]; exact sameN)
    (fun H0 H xs sm hO hS => hsp (K w.params) PT H0 H xs a sm hO inP e2 hS) fun H e s' => endX H s₁ e s') fun r' s' hq => ?_)
  obtain ⟨u, as', rfl, h1, h2, h3, h4⟩ := hq
  exact ⟨.inl ⟨u, _, as', rfl, fun _ => rfl, h1, (OpenSpec.post_iff hwell inP _ _).mpr rfl, fun z => Bool.noConfusion (show false = true from z)⟩, h2, h3, h4⟩
end Sv

/-! What the top has written, put together. -/
namespace Sv
open PySem PySem.Spec PyProof.Rows L2
open LamX (Tabs ExtN TabB)
/-- where a def of the top stands -/
def DfK (K : PySem.W.Frag) (x : Str) (st : Stmt) (f : Addr) : Prop := ∃ (oc : Value) (od : Option Addr) (kV dc pm : Value) (an : Option Addr) (cd ct : Value) (sl : Array (Option Value)),
  PySem.W.nsIn K mainGlobals x = some (some (.ref f)) ∧ K.lookup f = some ⟨oc, od, .func (PySem.W.fnOf x x (defArgs st) (defBody st) (defScope st) .none kV dc pm an cd ct), sl⟩ ∧ PySem.W.codeIn K cd x = true ∧ PySem.W.keepIn K (.ref f) = true
/-- a method of a class, told by its qualified name -/
def MtK (K : PySem.W.Frag) (qual : Str) (st : Stmt) (f : Addr) : Prop := ∃ (oc : Value) (od : Option Addr) (kV dc pm : Value) (an : Option Addr) (cd ct : Value) (sl : Array (Option Value)),
  K.lookup f = some ⟨oc, od, .func (PySem.W.fnOf "__init__" qual (defArgs st) (defBody st) (defScope st) .none kV dc pm an cd ct), sl⟩ ∧ PySem.W.codeIn K cd qual = true ∧ PySem.W.keepIn K (.ref f) = true
/-- the def whose lambda's code object is kept in a table -/
def LowK (K : PySem.W.Frag) (f c PT : Addr) : Prop := ∃ (oc : Value) (od : Option Addr) (kV dc pm : Value) (an : Option Addr) (ct e2 : Value) (d2 : Option Addr) (vs : Array Value) (sl s2 : Array (Option Value)),
  PySem.W.nsIn K mainGlobals "lowest_positions" = some (some (.ref f)) ∧ K.lookup f = some ⟨oc, od, .func (PySem.W.fnOf "lowest_positions" "lowest_positions" (defArgs sLowestPos) (defBody sLowestPos) (defScope sLowestPos) .none kV dc pm an (.ref c) ct), sl⟩ ∧
  PySem.W.codeIn K (.ref c) "lowest_positions" = true ∧ PySem.W.keepIn K (.ref f) = true ∧ K.lookup c = some ⟨e2, d2, .fields vs, s2⟩ ∧ vs[11]? = some (.ref PT) ∧ K.lookup PT = none ∧ PySem.W.codeHdIn K c PT = true
/-- an own error's class -/
structure ErrK (K : PySem.W.Frag) (R : Addr) (x qual : Str) (st : Stmt) (C f : Addr) : Prop where
  g : PySem.W.nsIn K mainGlobals x = some (some (.ref C))
  cls : ∃ nm q N bs bm sn sub ab col dd k0 k1 k2 k3 k5, K.lookup C = some (excClassObj nm q C N bs bm true sn sub ab col dd k0 k1 k2 k3 k5 "Exception.__new__") ∧ PySem.W.excTail eTail bm = true
  ov : PySem.W.excOver K C eTail = true
  tk : PySem.W.takerIn K C "code" = some none
  sa : PySem.W.findIn K (.ref C) "__setattr__" = some (some (.builtin "object.__setattr__"))
  exC : PySem.W.subIn K (.ref C) (.type "BaseException") = some true
  tyC : PySem.W.typeIn K (.ref C) = some (.type "type")
  kC : PySem.W.keepIn K (.ref C) = true
  ga : PySem.W.findIn K (.ref C) "__getattribute__" = some (some (.builtin "BaseException.__getattribute__"))
  gg : PySem.W.findIn K (.ref C) "__getattr__" = some none
  hd : PySem.W.hasDictIn K C = true
  no : PySem.W.findIn K (.ref C) "code" = some none
  iC : PySem.W.findIn K (.ref C) "__init__" = some (some (.ref f))
  tI : PySem.W.typeIn K (.ref f) = some (.type "function")
  sub : PySem.W.subIn K (.ref C) (.ref R) = some true
  m : MtK K qual st f
section
variable {P : Program} {w : World} {K : PySem.W.Frag} {mg : Str → Option Value} {h : Heap}
theorem dfk_mk {x : Str} {st : Stmt} {f : Addr} {oc : Value} {od : Option Addr} {kV dc pm : Value} {an : Option Addr} {cd ct : Value} {sl : Array (Option Value)} (g : PySem.W.nsIn K mainGlobals x = some (some (.ref f)))
    (l : K.lookup f = some ⟨oc, od, .func (PySem.W.fnOf x x (defArgs st) (defBody st) (defScope st) .none kV dc pm an cd ct), sl⟩) (c : PySem.W.codeIn K cd x = true) (k : PySem.W.keepIn K (.ref f) = true) : DfK K x st f := ⟨oc, od, kV, dc, pm, an, cd, ct, sl, g, l, c, k⟩
theorem mtk_mk {qual : Str} {st : Stmt} {f : Addr} {oc : Value} {od : Option Addr} {kV dc pm : Value} {an : Option Addr} {cd ct : Value} {sl : Array (Option Value)}
    (l : K.lookup f = some ⟨oc, od, .func (PySem.W.fnOf "__init__" qual (defArgs st) (defBody st) (defScope st) .none kV dc pm an cd ct), sl⟩) (c : PySem.W.codeIn K cd qual = true) (k : PySem.W.keepIn K (.ref f) = true) : MtK K qual st f := ⟨oc, od, kV, dc, pm, an, cd, ct, sl, l, c, k⟩
theorem lowk_mk {f c PT : Addr} {oc : Value} {od : Option Addr} {kV dc pm : Value} {an : Option Addr} {ct e2 : Value} {d2 : Option Addr} {vs : Array Value} {sl s2 : Array (Option Value)} (g : PySem.W.nsIn K mainGlobals "lowest_positions" = some (some (.ref f)))
    (l : K.lookup f = some ⟨oc, od, .func (PySem.W.fnOf "lowest_positions" "lowest_positions" (defArgs sLowestPos) (defBody sLowestPos) (defScope sLowestPos) .none kV dc pm an (.ref c) ct), sl⟩) (hc : PySem.W.codeIn K (.ref c) "lowest_positions" = true) (k : PySem.W.keepIn K (.ref f) = true)
    (l2 : K.lookup c = some ⟨e2, d2, .fields vs, s2⟩) (v : vs[11]? = some (.ref PT)) (n : K.lookup PT = none) (hh : PySem.W.codeHdIn K c PT = true) : LowK K f c PT := ⟨oc, od, kV, dc, pm, an, ct, e2, d2, vs, sl, s2, g, l, hc, k, l2, v, n, hh⟩
theorem errk_mk {R : Addr} {x qual : Str} {st : Stmt} {C f : Addr} {nm q : Str} {N bs : _} {bm : List Value} {sn sub ab col dd k0 k1 k2 k3 k5 : _} (g : PySem.W.nsIn K mainGlobals x = some (some (.ref C))) (l : K.lookup C = some (excClassObj nm q C N bs bm true sn sub ab col dd k0 k1 k2 k3 k5 "Exception.__new__")) (t : PySem.W.excTail eTail bm = true)
    (ov : PySem.W.excOver K C eTail = true) (tk : PySem.W.takerIn K C "code" = some none) (sa : PySem.W.findIn K (.ref C) "__setattr__" = some (some (.builtin "object.__setattr__"))) (exC : PySem.W.subIn K (.ref C) (.type "BaseException") = some true) (tyC : PySem.W.typeIn K (.ref C) = some (.type "type"))
    (kC : PySem.W.keepIn K (.ref C) = true) (ga : PySem.W.findIn K (.ref C) "__getattribute__" = some (some (.builtin "BaseException.__getattribute__"))) (gg : PySem.W.findIn K (.ref C) "__getattr__" = some none) (hd : PySem.W.hasDictIn K C = true) (no : PySem.W.findIn K (.ref C) "code" = some none)
    (iC : PySem.W.findIn K (.ref C) "__init__" = some (some (.ref f))) (tI : PySem.W.typeIn K (.ref f) = some (.type "function")) (sb : PySem.W.subIn K (.ref C) (.ref R) = some true) (m : MtK K qual st f) : ErrK K R x qual st C f :=
  ⟨g, ⟨_, _, _, _, _, _, _, _, _, _, _, _, _, _, _, l, t⟩, ov, tk, sa, exC, tyC, kC, ga, gg, hd, no, iC, tI, sb, m⟩
theorem ktab_mk {d : Addr} {tab : List (Int × Addr)} {es : Array DictEntry} {n : Nat} (l : K.lookup d = some ⟨.type "dict", none, .dict es n, #[]⟩) (t : tabOf es.toList = some tab) : KTab K d tab := ⟨es, n, l, t⟩
theorem df_of {x : Str} {st : Stmt} {f : Addr} {ps : List Str} (X : K.In h) (G : h.Ns mainGlobals mg) (d : DfK K x st f)
    (hb : ∀ (kV doc pm : Value) (an : Option Addr) (cdv ct : Value) (us : List Value), us.length = ps.length → bindArgs (PySem.W.fnOf x x (defArgs st) (defBody st) (defScope st) .none kV doc pm an cdv ct) ⟨us, []⟩ = pure (ps.zip us)) : ∃ fd, Df K mg x st ps f fd := by
  obtain ⟨oc, od, kV, dc, pm, an, cd, ct, sl, g, l, c, k⟩ := d
  have F := fun_mk (st := st) l c k
  exact ⟨_, F, PySem.W.mg_of X G g, F.binds hb⟩
theorem mt_of {qual : Str} {st : Stmt} {f : Addr} (d : MtK K qual st f) : ∃ fd, Fun K "__init__" qual st f fd := by
  obtain ⟨oc, od, kV, dc, pm, an, cd, ct, sl, l, c, k⟩ := d
  exact ⟨_, fun_mk (st := st) l c k⟩
theorem exm_sub {C R : Addr} (b : PySem.W.subIn K (.ref R) (.type "BaseException") = some true) (i : PySem.W.isClsIn K R = true) (t : PySem.W.typeIn K (.ref R) = some (.type "type")) (s : PySem.W.subIn K (.ref C) (.ref R) = some true) : PySem.W.exmOne K (.ref C) (.ref R) = some true := by
  have e1 : (PySem.W.subIn K (.ref R) (.type "BaseException") == some true) = true := by
    rw [b]
    rfl
  have e2 : ((PySem.W.clsIn K R).isSome && PySem.W.typeIn K (.ref R) == some (.type "type")) = true := by
    have i' : (PySem.W.clsIn K R).isSome = true := i
    rw [i', t]
    rfl
  unfold PySem.W.exmOne PySem.W.kitCls
  rw [if_pos e1]
  dsimp only
  rw [if_pos e2]
  exact s
theorem err_of {R : Addr} {x qual : Str} {st : Stmt} {C f : Addr} (X : K.In h) (G : h.Ns mainGlobals mg) (b : PySem.W.subIn K (.ref R) (.type "BaseException") = some true) (i : PySem.W.isClsIn K R = true) (t : PySem.W.typeIn K (.ref R) = some (.type "type")) (e : ErrK K R x qual st C f)
    (hb : ∀ (kV doc pm : Value) (an : Option Addr) (cdv ct : Value) (us : List Value), us.length = 1 → bindArgs (PySem.W.fnOf "__init__" qual (defArgs st) (defBody st) (defScope st) .none kV doc pm an cdv ct) ⟨us, []⟩ = pure ((["self"] : List Str).zip us)) : ∃ fd, ErrT K mg R x qual st C f fd := by
  obtain ⟨fd, F⟩ := mt_of e.m
  exact ⟨fd, PySem.W.mg_of X G e.g, ⟨e.cls, e.ov, e.tk, e.sa, e.exC, e.tyC, e.kC, e.ga, e.gg, e.hd, e.no⟩, e.iC, e.tI, exm_sub b i t e.sub, F, F.binds (ps := ["self"]) hb⟩

theorem all_mk {fa R fR S fS fl c PT dT a_total_amounts a_class_totals a_class_amounts a_class_number a_goes_to_flour a_misplaced_amount a_heaviest_weight a_greatest_divisor a_lowest_terms a_are_positions a_position_lists a_best_positions a_most_even_positions a_best_amount a_check_amounts a_check_size a_check_positions a_check_count a_operate a_answers a_split_calls a_answer a_add_size a_remove_last_size a_set_size a_get_sizes a_set_sieves a_get_sieves a_get_classes a_misplaced a_purity a_best_sieves a_apply_best_sieves a_sieves_needed a_lower_bound a_add_sieve a_remove_sieve a_gain_of_sieve a_most_even_sieves a_evaluate_sieves a_destination a_yields C_NoSifter i_NoSifter C_NotThere i_NotThere C_OutsideLimits i_OutsideLimits C_TooManySizes i_TooManySizes C_NothingThere i_NothingThere C_AlreadyThere i_AlreadyThere C_NeverEnough i_NeverEnough : Addr} {z1 z2 z3 : Nat} (X : K.In h) (G : h.Ns mainGlobals mg) (hfa : mg "answers" = some (.ref fa))
    (n_len : PySem.W.nsIn K mainGlobals "len" = some none)
    (n_sum : PySem.W.nsIn K mainGlobals "sum" = some none)
    (n_range : PySem.W.nsIn K mainGlobals "range" = some none)
    (n_min : PySem.W.nsIn K mainGlobals "min" = some none)
    (n_max : PySem.W.nsIn K mainGlobals "max" = some none)
    (n_list : PySem.W.nsIn K mainGlobals "list" = some none)
    (n_sorted : PySem.W.nsIn K mainGlobals "sorted" = some none)
    (n_exc : PySem.W.nsIn K mainGlobals "Exception" = some none)
    (d_total_amounts : DfK K "total_amounts" sTotalAmounts a_total_amounts)
    (d_class_totals : DfK K "class_totals" sClassTotals a_class_totals)
    (d_class_amounts : DfK K "class_amounts" sClassAmounts a_class_amounts)
    (d_class_number : DfK K "class_number" sClassNumber a_class_number)
    (d_goes_to_flour : DfK K "goes_to_flour" sGoesToFlour a_goes_to_flour)
    (d_misplaced_amount : DfK K "misplaced_amount" sMisplacedAmount a_misplaced_amount)
    (d_heaviest_weight : DfK K "heaviest_weight" sHeaviest a_heaviest_weight)
    (d_greatest_divisor : DfK K "greatest_divisor" sGcd a_greatest_divisor)
    (d_lowest_terms : DfK K "lowest_terms" sLowest a_lowest_terms)
    (d_are_positions : DfK K "are_positions" sArePositions a_are_positions)
    (d_position_lists : DfK K "position_lists" sPositionLists a_position_lists)
    (d_best_positions : DfK K "best_positions" sBestPos a_best_positions)
    (d_most_even_positions : DfK K "most_even_positions" sMostEven a_most_even_positions)
    (d_best_amount : DfK K "best_amount" sBestAmount a_best_amount)
    (d_check_amounts : DfK K "check_amounts" sCheckAmounts a_check_amounts)
    (d_check_size : DfK K "check_size" sCheckSize a_check_size)
    (d_check_positions : DfK K "check_positions" sCheckPositions a_check_positions)
    (d_check_count : DfK K "check_count" sCheckCount a_check_count)
    (d_operate : DfK K "operate" sOperate a_operate)
    (d_answers : DfK K "answers" sAnswers a_answers)
    (d_split_calls : DfK K "split_calls" sSplit a_split_calls)
    (d_answer : DfK K "answer" sAnswer a_answer)
    (d_add_size : DfK K "add_size" sAddSize a_add_size)
    (d_remove_last_size : DfK K "remove_last_size" sRemoveLast a_remove_last_size)
    (d_set_size : DfK K "set_size" sSetSize a_set_size)
    (d_get_sizes : DfK K "get_sizes" sGetSizes a_get_sizes)
    (d_set_sieves : DfK K "set_sieves" sSetSieves a_set_sieves)
    (d_get_sieves : DfK K "get_sieves" sGetSieves a_get_sieves)
    (d_get_classes : DfK K "get_classes" sGetClasses a_get_classes)
    (d_misplaced : DfK K "misplaced" sMisplaced a_misplaced)
    (d_purity : DfK K "purity" sPurity a_purity)
    (d_best_sieves : DfK K "best_sieves" sBest a_best_sieves)
    (d_apply_best_sieves : DfK K "apply_best_sieves" sApply a_apply_best_sieves)
    (d_sieves_needed : DfK K "sieves_needed" sNeeded a_sieves_needed)
    (d_lower_bound : DfK K "lower_bound" sLowerBound a_lower_bound)
    (d_add_sieve : DfK K "add_sieve" sAddSieve a_add_sieve)
    (d_remove_sieve : DfK K "remove_sieve" sRemoveSieve a_remove_sieve)
    (d_gain_of_sieve : DfK K "gain_of_sieve" sGain a_gain_of_sieve)
    (d_most_even_sieves : DfK K "most_even_sieves" sEven a_most_even_sieves)
    (d_evaluate_sieves : DfK K "evaluate_sieves" sEvaluate a_evaluate_sieves)
    (d_destination : DfK K "destination" sDestination a_destination)
    (d_yields : DfK K "yields" sYields a_yields)
    (d_low : LowK K fl c PT)
    (r_g : PySem.W.nsIn K mainGlobals "Refusal" = some (some (.ref R))) (r_rd : PySem.W.readsIn K R (.type "type") = true) (r_ga : PySem.W.specialIn K (.ref R) "__getattribute__" = some (some (.builtin "type.__getattribute__")))
    (r_at : PySem.W.findCls K (.ref R) (.type "type") "__init__" = some (.val (.ref fR))) (r_m : MtK K "Refusal.__init__" sRefusalInit fR) (r_b : PySem.W.subIn K (.ref R) (.type "BaseException") = some true) (r_i : PySem.W.isClsIn K R = true) (r_t : PySem.W.typeIn K (.ref R) = some (.type "type")) (r_eI : PySem.W.findCls K (.type "Exception") (.type "type") "__init__" = some (.val (.builtin "Exception.__init__")))
    (e_NoSifter : ErrK K R "NoSifter" "NoSifter.__init__" sNoSifter C_NoSifter i_NoSifter)
    (e_NotThere : ErrK K R "NotThere" "NotThere.__init__" sNotThere C_NotThere i_NotThere)
    (e_OutsideLimits : ErrK K R "OutsideLimits" "OutsideLimits.__init__" sOutsideLimits C_OutsideLimits i_OutsideLimits)
    (e_TooManySizes : ErrK K R "TooManySizes" "TooManySizes.__init__" sTooManySizes C_TooManySizes i_TooManySizes)
    (e_NothingThere : ErrK K R "NothingThere" "NothingThere.__init__" sNothingThere C_NothingThere i_NothingThere)
    (e_AlreadyThere : ErrK K R "AlreadyThere" "AlreadyThere.__init__" sAlreadyThere C_AlreadyThere i_AlreadyThere)
    (e_NeverEnough : ErrK K R "NeverEnough" "NeverEnough.__init__" sNeverEnough C_NeverEnough i_NeverEnough)
    (s_g : PySem.W.nsIn K mainGlobals "Sifter" = some (some (.ref S))) (s_pg : PySem.W.plainGet K S Str.empty = true) (s_hd : PySem.W.hasDictIn K S = true) (s_po : PySem.W.plainOver K S = true) (s_sa : PySem.W.findIn K (.ref S) "__setattr__" = some (some (.builtin "object.__setattr__")))
    (s_nZ : PySem.W.findIn K (.ref S) "sizes" = some none) (s_nV : PySem.W.findIn K (.ref S) "sieves" = some none) (s_mk : PySem.W.makesIn K S = true) (s_in : PySem.W.findIn K (.ref S) "__init__" = some (some (.ref fS))) (s_fn : PySem.W.isFn K (.ref fS) = true) (s_kp : PySem.W.keepIn K (.ref S) = true) (s_m : MtK K "Sifter.__init__" sSifterInit fS)
    (c_A : PySem.W.nsIn K mainGlobals "MOST_AMOUNT" = some (some (.int 99 z1))) (c_S : PySem.W.nsIn K mainGlobals "MOST_SIZES" = some (some (.int 10 z2))) (c_C : PySem.W.nsIn K mainGlobals "CREATE" = some (some (.int 0 z3)))
    (t_g : PySem.W.nsIn K mainGlobals "OPERATIONS" = some (some (.ref dT))) (t_k : KTab K dT [(1, a_add_size), (2, a_remove_last_size), (3, a_set_size), (4, a_get_sizes), (5, a_set_sieves), (6, a_get_sieves), (7, a_get_classes), (8, a_misplaced), (9, a_purity), (10, a_best_sieves), (11, a_apply_best_sieves), (12, a_sieves_needed), (13, a_lower_bound), (14, a_add_sieve), (15, a_remove_sieve), (16, a_gain_of_sieve), (17, a_most_even_sieves), (18, a_evaluate_sieves), (19, a_destination), (20, a_yields)])
    : ∃ (fd fl' : FuncData) (f c' PT' : Addr) (e1 e2 : Value) (d1 d2 : Option Addr) (s1 s2 : Array (Option Value)) (vs : Array Value), mg "lowest_positions" = some (.ref f) ∧ K.lookup f = some ⟨e1, d1, .func fl', s1⟩ ∧ fl'.code = .ref c' ∧ K.lookup c' = some ⟨e2, d2, .fields vs, s2⟩ ∧ vs[11]? = some (.ref PT') ∧ K.lookup PT' = none ∧ PySem.W.codeHdIn K c' PT' = true ∧
        (∀ (s : Shared) (us : List Value), us.length = (["calls"] : List Str).length → BindsTo s fd ⟨us, []⟩ ((["calls"] : List Str).zip us)) ∧
        ∀ base : Heap, K.In base → base.Ns mainGlobals mg → TabB base mg c' PT' → FnOk P w K mg base CX0 15 fa fd ["calls"] (spAns K (TT PT')) := by
  obtain ⟨x_total_amounts, D_total_amounts⟩ := df_of (ps := ["parts"]) X G d_total_amounts fun _ _ _ _ _ _ us hl => match us, hl with | [_], _ => rfl
  obtain ⟨x_class_totals, D_class_totals⟩ := df_of (ps := ["sizes", "positions"]) X G d_class_totals fun _ _ _ _ _ _ us hl => match us, hl with | [_, _], _ => rfl
  obtain ⟨x_class_amounts, D_class_amounts⟩ := df_of (ps := ["sizes", "positions"]) X G d_class_amounts fun _ _ _ _ _ _ us hl => match us, hl with | [_, _], _ => rfl
  obtain ⟨x_class_number, D_class_number⟩ := df_of (ps := ["positions", "size"]) X G d_class_number fun _ _ _ _ _ _ us hl => match us, hl with | [_, _], _ => rfl
  obtain ⟨x_goes_to_flour, D_goes_to_flour⟩ := df_of (ps := ["amounts"]) X G d_goes_to_flour fun _ _ _ _ _ _ us hl => match us, hl with | [_], _ => rfl
  obtain ⟨x_misplaced_amount, D_misplaced_amount⟩ := df_of (ps := ["sizes", "positions"]) X G d_misplaced_amount fun _ _ _ _ _ _ us hl => match us, hl with | [_, _], _ => rfl
  obtain ⟨x_heaviest_weight, D_heaviest_weight⟩ := df_of (ps := ["sizes", "positions"]) X G d_heaviest_weight fun _ _ _ _ _ _ us hl => match us, hl with | [_, _], _ => rfl
  obtain ⟨x_greatest_divisor, D_greatest_divisor⟩ := df_of (ps := ["first", "second"]) X G d_greatest_divisor fun _ _ _ _ _ _ us hl => match us, hl with | [_, _], _ => rfl
  obtain ⟨x_lowest_terms, D_lowest_terms⟩ := df_of (ps := ["numerator", "denominator"]) X G d_lowest_terms fun _ _ _ _ _ _ us hl => match us, hl with | [_, _], _ => rfl
  obtain ⟨x_are_positions, D_are_positions⟩ := df_of (ps := ["numbers", "size_count"]) X G d_are_positions fun _ _ _ _ _ _ us hl => match us, hl with | [_, _], _ => rfl
  obtain ⟨x_position_lists, D_position_lists⟩ := df_of (ps := ["size_count", "count"]) X G d_position_lists fun _ _ _ _ _ _ us hl => match us, hl with | [_, _], _ => rfl
  obtain ⟨x_best_positions, D_best_positions⟩ := df_of (ps := ["sizes", "count"]) X G d_best_positions fun _ _ _ _ _ _ us hl => match us, hl with | [_, _], _ => rfl
  obtain ⟨x_most_even_positions, D_most_even_positions⟩ := df_of (ps := ["sizes", "count"]) X G d_most_even_positions fun _ _ _ _ _ _ us hl => match us, hl with | [_, _], _ => rfl
  obtain ⟨x_best_amount, D_best_amount⟩ := df_of (ps := ["sizes", "count"]) X G d_best_amount fun _ _ _ _ _ _ us hl => match us, hl with | [_, _], _ => rfl
  obtain ⟨x_check_amounts, D_check_amounts⟩ := df_of (ps := ["flour", "bran"]) X G d_check_amounts fun _ _ _ _ _ _ us hl => match us, hl with | [_, _], _ => rfl
  obtain ⟨x_check_size, D_check_size⟩ := df_of (ps := ["sifter", "size"]) X G d_check_size fun _ _ _ _ _ _ us hl => match us, hl with | [_, _], _ => rfl
  obtain ⟨x_check_positions, D_check_positions⟩ := df_of (ps := ["sifter", "positions"]) X G d_check_positions fun _ _ _ _ _ _ us hl => match us, hl with | [_, _], _ => rfl
  obtain ⟨x_check_count, D_check_count⟩ := df_of (ps := ["sifter", "count"]) X G d_check_count fun _ _ _ _ _ _ us hl => match us, hl with | [_, _], _ => rfl
  obtain ⟨x_operate, D_operate⟩ := df_of (ps := ["sifter", "number", "arguments"]) X G d_operate fun _ _ _ _ _ _ us hl => match us, hl with | [_, _, _], _ => rfl
  obtain ⟨x_answers, D_answers⟩ := df_of (ps := ["calls"]) X G d_answers fun _ _ _ _ _ _ us hl => match us, hl with | [_], _ => rfl
  obtain ⟨x_split_calls, D_split_calls⟩ := df_of (ps := ["calls"]) X G d_split_calls fun _ _ _ _ _ _ us hl => match us, hl with | [_], _ => rfl
  obtain ⟨x_answer, D_answer⟩ := df_of (ps := ["sifter", "number", "arguments"]) X G d_answer fun _ _ _ _ _ _ us hl => match us, hl with | [_, _, _], _ => rfl
  obtain ⟨x_add_size, D_add_size⟩ := df_of (ps := ["sifter", "arguments"]) X G d_add_size fun _ _ _ _ _ _ us hl => match us, hl with | [_, _], _ => rfl
  obtain ⟨x_remove_last_size, D_remove_last_size⟩ := df_of (ps := ["sifter", "arguments"]) X G d_remove_last_size fun _ _ _ _ _ _ us hl => match us, hl with | [_, _], _ => rfl
  obtain ⟨x_set_size, D_set_size⟩ := df_of (ps := ["sifter", "arguments"]) X G d_set_size fun _ _ _ _ _ _ us hl => match us, hl with | [_, _], _ => rfl
  obtain ⟨x_get_sizes, D_get_sizes⟩ := df_of (ps := ["sifter", "arguments"]) X G d_get_sizes fun _ _ _ _ _ _ us hl => match us, hl with | [_, _], _ => rfl
  obtain ⟨x_set_sieves, D_set_sieves⟩ := df_of (ps := ["sifter", "arguments"]) X G d_set_sieves fun _ _ _ _ _ _ us hl => match us, hl with | [_, _], _ => rfl
  obtain ⟨x_get_sieves, D_get_sieves⟩ := df_of (ps := ["sifter", "arguments"]) X G d_get_sieves fun _ _ _ _ _ _ us hl => match us, hl with | [_, _], _ => rfl
  obtain ⟨x_get_classes, D_get_classes⟩ := df_of (ps := ["sifter", "arguments"]) X G d_get_classes fun _ _ _ _ _ _ us hl => match us, hl with | [_, _], _ => rfl
  obtain ⟨x_misplaced, D_misplaced⟩ := df_of (ps := ["sifter", "arguments"]) X G d_misplaced fun _ _ _ _ _ _ us hl => match us, hl with | [_, _], _ => rfl
  obtain ⟨x_purity, D_purity⟩ := df_of (ps := ["sifter", "arguments"]) X G d_purity fun _ _ _ _ _ _ us hl => match us, hl with | [_, _], _ => rfl
  obtain ⟨x_best_sieves, D_best_sieves⟩ := df_of (ps := ["sifter", "arguments"]) X G d_best_sieves fun _ _ _ _ _ _ us hl => match us, hl with | [_, _], _ => rfl
  obtain ⟨x_apply_best_sieves, D_apply_best_sieves⟩ := df_of (ps := ["sifter", "arguments"]) X G d_apply_best_sieves fun _ _ _ _ _ _ us hl => match us, hl with | [_, _], _ => rfl
  obtain ⟨x_sieves_needed, D_sieves_needed⟩ := df_of (ps := ["sifter", "arguments"]) X G d_sieves_needed fun _ _ _ _ _ _ us hl => match us, hl with | [_, _], _ => rfl
  obtain ⟨x_lower_bound, D_lower_bound⟩ := df_of (ps := ["sifter", "arguments"]) X G d_lower_bound fun _ _ _ _ _ _ us hl => match us, hl with | [_, _], _ => rfl
  obtain ⟨x_add_sieve, D_add_sieve⟩ := df_of (ps := ["sifter", "arguments"]) X G d_add_sieve fun _ _ _ _ _ _ us hl => match us, hl with | [_, _], _ => rfl
  obtain ⟨x_remove_sieve, D_remove_sieve⟩ := df_of (ps := ["sifter", "arguments"]) X G d_remove_sieve fun _ _ _ _ _ _ us hl => match us, hl with | [_, _], _ => rfl
  obtain ⟨x_gain_of_sieve, D_gain_of_sieve⟩ := df_of (ps := ["sifter", "arguments"]) X G d_gain_of_sieve fun _ _ _ _ _ _ us hl => match us, hl with | [_, _], _ => rfl
  obtain ⟨x_most_even_sieves, D_most_even_sieves⟩ := df_of (ps := ["sifter", "arguments"]) X G d_most_even_sieves fun _ _ _ _ _ _ us hl => match us, hl with | [_, _], _ => rfl
  obtain ⟨x_evaluate_sieves, D_evaluate_sieves⟩ := df_of (ps := ["sifter", "arguments"]) X G d_evaluate_sieves fun _ _ _ _ _ _ us hl => match us, hl with | [_, _], _ => rfl
  obtain ⟨x_destination, D_destination⟩ := df_of (ps := ["sifter", "arguments"]) X G d_destination fun _ _ _ _ _ _ us hl => match us, hl with | [_, _], _ => rfl
  obtain ⟨x_yields, D_yields⟩ := df_of (ps := ["sifter", "arguments"]) X G d_yields fun _ _ _ _ _ _ us hl => match us, hl with | [_, _], _ => rfl
  have bl := D_answers.g.symm.trans hfa
  cases bl
  obtain ⟨oc, od, kV, dc, pm, an, ct, e2, d2, vs, sl, s2, l_g, l_l, l_c, l_k, l_2, l_v, l_n, l_h⟩ := d_low
  have FL := fun_mk (st := sLowestPos) l_l l_c l_k
  have bL := FL.binds (ps := ["sizes", "count", "measure"]) fun _ _ _ _ _ _ us hl => match us, hl with | [_, _, _], _ => rfl
  have DL : Df K mg "lowest_positions" sLowestPos ["sizes", "count", "measure"] fl _ := ⟨FL, PySem.W.mg_of X G l_g, bL⟩
  have T : Own mg := ⟨PySem.W.mg_none_of X G n_len, PySem.W.mg_none_of X G n_sum, PySem.W.mg_none_of X G n_range, PySem.W.mg_none_of X G n_min, PySem.W.mg_none_of X G n_max, PySem.W.mg_none_of X G n_list, PySem.W.mg_none_of X G n_sorted, PySem.W.mg_none_of X G n_exc⟩
  obtain ⟨x_R, FR⟩ := mt_of r_m
  obtain ⟨x_S, FS⟩ := mt_of s_m
  have bR := FR.binds (ps := ["self", "code"]) fun _ _ _ _ _ _ us hl => match us, hl with | [_, _], _ => rfl
  have bS := FS.binds (ps := ["self"]) fun _ _ _ _ _ _ us hl => match us, hl with | [_], _ => rfl
  have B : RefT K mg R fR _ := ⟨PySem.W.mg_of X G r_g, ⟨r_rd, r_ga⟩, ⟨r_at, rfl⟩, FR, bR, r_eI⟩
  have Y : SifT K mg S fS _ := ⟨PySem.W.mg_of X G s_g, ⟨s_pg, s_hd, s_po, s_sa⟩, s_nZ, s_nV, ⟨s_mk, s_in, s_fn, s_kp⟩, FS, bS⟩
  obtain ⟨y_NoSifter, E_NoSifter⟩ := err_of X G r_b r_i r_t e_NoSifter fun _ _ _ _ _ _ us hl => match us, hl with | [_], _ => rfl
  obtain ⟨y_NotThere, E_NotThere⟩ := err_of X G r_b r_i r_t e_NotThere fun _ _ _ _ _ _ us hl => match us, hl with | [_], _ => rfl
  obtain ⟨y_OutsideLimits, E_OutsideLimits⟩ := err_of X G r_b r_i r_t e_OutsideLimits fun _ _ _ _ _ _ us hl => match us, hl with | [_], _ => rfl
  obtain ⟨y_TooManySizes, E_TooManySizes⟩ := err_of X G r_b r_i r_t e_TooManySizes fun _ _ _ _ _ _ us hl => match us, hl with | [_], _ => rfl
  obtain ⟨y_NothingThere, E_NothingThere⟩ := err_of X G r_b r_i r_t e_NothingThere fun _ _ _ _ _ _ us hl => match us, hl with | [_], _ => rfl
  obtain ⟨y_AlreadyThere, E_AlreadyThere⟩ := err_of X G r_b r_i r_t e_AlreadyThere fun _ _ _ _ _ _ us hl => match us, hl with | [_], _ => rfl
  obtain ⟨y_NeverEnough, E_NeverEnough⟩ := err_of X G r_b r_i r_t e_NeverEnough fun _ _ _ _ _ _ us hl => match us, hl with | [_], _ => rfl
  have mA := PySem.W.mg_of X G c_A
  have mS := PySem.W.mg_of X G c_S
  have mC := PySem.W.mg_of X G c_C
  have Z : ClassesT K mg a_total_amounts a_class_totals a_class_amounts a_class_number a_goes_to_flour a_misplaced_amount a_heaviest_weight _ _ _ _ _ _ _ := ⟨D_total_amounts, D_class_totals, D_class_amounts, D_class_number, D_goes_to_flour, D_misplaced_amount, D_heaviest_weight⟩
  have Q1 : PosT K mg a_position_lists fl a_best_positions a_most_even_positions a_best_amount a_misplaced_amount a_heaviest_weight c _ _ _ _ _ := ⟨D_position_lists, DL, D_best_positions, D_most_even_positions, D_best_amount, D_misplaced_amount.g, D_heaviest_weight.g, rfl⟩
  refine ⟨x_answers, _, fl, c, PT, _, _, _, _, _, _, vs, PySem.W.mg_of X G l_g, l_l, rfl, l_2, l_v, l_n, l_h, ?_, fun base hK hN TB => ?_⟩
  · obtain ⟨oc, od, kV, dc, pm, an, cdv, ct, osl, e, lk, hin⟩ := D_answers.F.ex
    subst e
    exact fun s us hu => match us, hu with | [_], _ => .of_eq rfl
  have strict : ∀ {k j : Nat} {f : Addr} {fd : FuncData} {p : Int} {ps : List Str}, FnOk P w K mg base (L2.CX P w) j f fd ps (spOp K R S p) → j ≤ k → PySem.W.keepIn K (.ref f) = true → Binds K fd ps [] → Def1 P w K mg base k f (spOpT K R S (TT PT) p) := fun F hj hk hb => ⟨_, _, (F.mono hj).imp (fun _ _ _ _ q => spOp_of q), hk, hb⟩
  have wide : ∀ {k j : Nat} {f : Addr} {fd : FuncData} {p : Int} {ps : List Str}, FnOk P w K mg base (L2.CX P w) j f fd ps (spOpT K R S (TT PT) p) → j ≤ k → PySem.W.keepIn K (.ref f) = true → Binds K fd ps [] → Def1 P w K mg base k f (spOpT K R S (TT PT) p) := fun F hj hk hb => ⟨_, _, F.mono hj, hk, hb⟩
  have O : TabT P w K mg base R S (TT PT) (2 + 10) dT [(1, a_add_size), (2, a_remove_last_size), (3, a_set_size), (4, a_get_sizes), (5, a_set_sieves), (6, a_get_sieves), (7, a_get_classes), (8, a_misplaced), (9, a_purity), (10, a_best_sieves), (11, a_apply_best_sieves), (12, a_sieves_needed), (13, a_lower_bound), (14, a_add_sieve), (15, a_remove_sieve), (16, a_gain_of_sieve), (17, a_most_even_sieves), (18, a_evaluate_sieves), (19, a_destination), (20, a_yields)] := by
    refine ⟨PySem.W.mg_of X G t_g, t_k, fun p lo hi p0 => ?_⟩
    have c20 : p = 1 ∨ p = 2 ∨ p = 3 ∨ p = 4 ∨ p = 5 ∨ p = 6 ∨ p = 7 ∨ p = 8 ∨ p = 9 ∨ p = 10 ∨ p = 11 ∨ p = 12 ∨ p = 13 ∨ p = 14 ∨ p = 15 ∨ p = 16 ∨ p = 17 ∨ p = 18 ∨ p = 19 ∨ p = 20 := by omega
    rcases c20 with rfl | rfl | rfl | rfl | rfl | rfl | rfl | rfl | rfl | rfl | rfl | rfl | rfl | rfl | rfl | rfl | rfl | rfl | rfl | rfl
    · exact ⟨_, rfl, strict (ok_add_size (k := 0) D_add_size T B E_OutsideLimits E_TooManySizes mA mS D_check_amounts Y) (by omega) D_add_size.F.kp D_add_size.b⟩
    · exact ⟨_, rfl, strict (ok_remove_last (k := 0) D_remove_last_size T B E_NothingThere Y) (by omega) D_remove_last_size.F.kp D_remove_last_size.b⟩
    · exact ⟨_, rfl, strict (ok_set_size (k := 0) D_set_size T B E_OutsideLimits E_NotThere mA D_check_amounts D_check_size Y) (by omega) D_set_size.F.kp D_set_size.b⟩
    · exact ⟨_, rfl, strict (ok_get_sizes (k := 0) D_get_sizes T Y) (by omega) D_get_sizes.F.kp D_get_sizes.b⟩
    · exact ⟨_, rfl, strict (ok_set_sieves (k := 0) D_set_sieves T B E_OutsideLimits Z D_are_positions D_check_positions D_misplaced Y) (by omega) D_set_sieves.F.kp D_set_sieves.b⟩
    · exact ⟨_, rfl, strict (ok_get_sieves (k := 0) D_get_sieves T Y) (by omega) D_get_sieves.F.kp D_get_sieves.b⟩
    · exact ⟨_, rfl, strict (ok_get_classes (k := 0) D_get_classes T Z Y) (by omega) D_get_classes.F.kp D_get_classes.b⟩
    · exact ⟨_, rfl, strict (ok_misplaced (k := 0) D_misplaced T Z Y) (by omega) D_misplaced.F.kp D_misplaced.b⟩
    · exact ⟨_, rfl, strict (ok_purity (k := 0) D_purity T B E_NothingThere Z D_lowest_terms D_greatest_divisor Y) (by omega) D_purity.F.kp D_purity.b⟩
    · exact ⟨_, rfl, wide (ok_best (k := 0) D_best_sieves T B E_OutsideLimits Z Q1 TB D_check_count Y) (by omega) D_best_sieves.F.kp D_best_sieves.b⟩
    · exact ⟨_, rfl, wide (ok_apply (k := 0) D_apply_best_sieves T B E_OutsideLimits Z Q1 TB D_check_count D_misplaced Y) (by omega) D_apply_best_sieves.F.kp D_apply_best_sieves.b⟩
    · exact ⟨_, rfl, wide (ok_needed (k := 0) D_sieves_needed T B E_NeverEnough Z Q1 TB Y) (by omega) D_sieves_needed.F.kp D_sieves_needed.b⟩
    · exact ⟨_, rfl, strict (ok_lower_bound (k := 0) D_lower_bound T Y) (by omega) D_lower_bound.F.kp D_lower_bound.b⟩
    · exact ⟨_, rfl, strict (ok_add_sieve (k := 0) D_add_sieve T B E_OutsideLimits E_AlreadyThere Z D_are_positions D_check_positions D_misplaced Y) (by omega) D_add_sieve.F.kp D_add_sieve.b⟩
    · exact ⟨_, rfl, strict (ok_remove_sieve (k := 0) D_remove_sieve T B E_NotThere Z D_misplaced Y) (by omega) D_remove_sieve.F.kp D_remove_sieve.b⟩
    · exact ⟨_, rfl, wide (ok_gain (k := 0) D_gain_of_sieve T B E_OutsideLimits Z Q1 TB D_check_count Y) (by omega) D_gain_of_sieve.F.kp D_gain_of_sieve.b⟩
    · exact ⟨_, rfl, wide (ok_even (k := 0) D_most_even_sieves T B E_OutsideLimits Z Q1 TB D_check_count Y) (by omega) D_most_even_sieves.F.kp D_most_even_sieves.b⟩
    · exact ⟨_, rfl, strict (ok_evaluate (k := 0) D_evaluate_sieves T B E_OutsideLimits Z D_are_positions D_check_positions Y) (by omega) D_evaluate_sieves.F.kp D_evaluate_sieves.b⟩
    · exact ⟨_, rfl, strict (ok_destination (k := 0) D_destination T B E_NotThere Z D_check_size Y) (by omega) D_destination.F.kp D_destination.b⟩
    · exact ⟨_, rfl, strict (ok_yields (k := 0) D_yields T Z Y) (by omega) D_yields.F.kp D_yields.b⟩
  exact ok_answers (k := 2) D_answers T B E_NoSifter Y mC O D_operate D_answer D_split_calls
end
theorem fin_ask {K : PySem.W.Frag} {PT : Addr} {H0 H : Hp} {xs : List V} {a : List Int} (sm : Same H0 H) (hT : H PT = some (.tbl #[])) (big : a.length ≤ 900) (hask : PyKp409.answers_asked a = true) (hx : DwAll K H0 xs [.list (a.map PySem.W.WData.int)]) {Q : VK} {E : XK}
    (q : ∀ (H' : Hp) (o : Addr), H' o = some (.lst ((PyKp409.answers a).map V.int)) → Q (.ref o) H') : spAns K (TT PT) xs H Q E := by
  obtain ⟨rs, hd⟩ := handed_asked hask
  cases hx with
  | cons h1 h2 =>
    cases h2
    cases h1 with
    | lst hs ha =>
      have e := ints_dw a _ ha
      subst e
      refine ⟨_, a, rs, rfl, fun p hp => ?_, sm.seq hs, big, hd, q⟩
      rw [List.mem_singleton.mp hp]
      exact LamX.TabS.nil hT
end Sv

open PySem PySem.W PyProof.Rows
set_option maxRecDepth 100000 in
set_option maxHeartbeats 8000000 in
theorem PySem.Challenge.cw_sievecuts_s01_answers_holds : PySem.Challenge.rw_sievecuts_s01_answers.Holds := by
  w_on; k_headS; (case hw => exact ⟨[.list [.int 0, .int 0, .int 0]], by decide +kernel, by decide +kernel⟩)
  k_fillS
  refine Sv.walk_specT (r := PySem.Challenge.rw_sievecuts_s01_answers) (k := 15) (CX := L2.CX0) (ps := ["calls"]) (sp := fun K PT => Sv.spAns K (Sv.TT PT)) (x := "lowest_positions") (by decide +kernel) rfl rfl ⟨rfl, by decide, by decide⟩ (by decide +kernel) (fun w h Y => PySem.W.kIn_of Y) ?F ?S (fun _ _ _ _ z => z)
  case F =>
    intro w mg fa h Y KX G hmg
    refine' Sv.all_mk KX G hmg ?n_len ?n_sum ?n_range ?n_min ?n_max ?n_list ?n_sorted ?n_exc ?d_total_amounts ?d_class_totals ?d_class_amounts ?d_class_number ?d_goes_to_flour ?d_misplaced_amount ?d_heaviest_weight ?d_greatest_divisor ?d_lowest_terms ?d_are_positions ?d_position_lists ?d_best_positions ?d_most_even_positions ?d_best_amount ?d_check_amounts ?d_check_size ?d_check_positions ?d_check_count ?d_operate ?d_answers ?d_split_calls ?d_answer ?d_add_size ?d_remove_last_size ?d_set_size ?d_get_sizes ?d_set_sieves ?d_get_sieves ?d_get_classes ?d_misplaced ?d_purity ?d_best_sieves ?d_apply_best_sieves ?d_sieves_needed ?d_lower_bound ?d_add_sieve ?d_remove_sieve ?d_gain_of_sieve ?d_most_even_sieves ?d_evaluate_sieves ?d_destination ?d_yields ?d_low ?r_g ?r_rd ?r_ga ?r_at ?r_m ?r_b ?r_i ?r_t ?r_eI ?e_NoSifter ?e_NotThere ?e_OutsideLimits ?e_TooManySizes ?e_NothingThere ?e_AlreadyThere ?e_NeverEnough ?s_g ?s_pg ?s_hd ?s_po ?s_sa ?s_nZ ?s_nV ?s_mk ?s_in ?s_fn ?s_kp ?s_m ?c_A ?c_S ?c_C ?t_g ?t_k
    (case n_len => k_is)
    (case n_sum => k_is)
    (case n_range => k_is)
    (case n_min => k_is)
    (case n_max => k_is)
    (case n_list => k_is)
    (case n_sorted => k_is)
    (case n_exc => k_is)
    (case d_total_amounts => refine' Sv.dfk_mk ?p1 ?p2 ?p3 ?p4; (case p1 => k_is); (case p2 => k_is); (case p3 => k_is); (case p4 => k_is))
    (case d_class_totals => refine' Sv.dfk_mk ?p1 ?p2 ?p3 ?p4; (case p1 => k_is); (case p2 => k_is); (case p3 => k_is); (case p4 => k_is))
    (case d_class_amounts => refine' Sv.dfk_mk ?p1 ?p2 ?p3 ?p4; (case p1 => k_is); (case p2 => k_is); (case p3 => k_is); (case p4 => k_is))
    (case d_class_number => refine' Sv.dfk_mk ?p1 ?p2 ?p3 ?p4; (case p1 => k_is); (case p2 => k_is); (case p3 => k_is); (case p4 => k_is))
    (case d_goes_to_flour => refine' Sv.dfk_mk ?p1 ?p2 ?p3 ?p4; (case p1 => k_is); (case p2 => k_is); (case p3 => k_is); (case p4 => k_is))
    (case d_misplaced_amount => refine' Sv.dfk_mk ?p1 ?p2 ?p3 ?p4; (case p1 => k_is); (case p2 => k_is); (case p3 => k_is); (case p4 => k_is))
    (case d_heaviest_weight => refine' Sv.dfk_mk ?p1 ?p2 ?p3 ?p4; (case p1 => k_is); (case p2 => k_is); (case p3 => k_is); (case p4 => k_is))
    (case d_greatest_divisor => refine' Sv.dfk_mk ?p1 ?p2 ?p3 ?p4; (case p1 => k_is); (case p2 => k_is); (case p3 => k_is); (case p4 => k_is))
    (case d_lowest_terms => refine' Sv.dfk_mk ?p1 ?p2 ?p3 ?p4; (case p1 => k_is); (case p2 => k_is); (case p3 => k_is); (case p4 => k_is))
    (case d_are_positions => refine' Sv.dfk_mk ?p1 ?p2 ?p3 ?p4; (case p1 => k_is); (case p2 => k_is); (case p3 => k_is); (case p4 => k_is))
    (case d_position_lists => refine' Sv.dfk_mk ?p1 ?p2 ?p3 ?p4; (case p1 => k_is); (case p2 => k_is); (case p3 => k_is); (case p4 => k_is))
    (case d_best_positions => refine' Sv.dfk_mk ?p1 ?p2 ?p3 ?p4; (case p1 => k_is); (case p2 => k_is); (case p3 => k_is); (case p4 => k_is))
    (case d_most_even_positions => refine' Sv.dfk_mk ?p1 ?p2 ?p3 ?p4; (case p1 => k_is); (case p2 => k_is); (case p3 => k_is); (case p4 => k_is))
    (case d_best_amount => refine' Sv.dfk_mk ?p1 ?p2 ?p3 ?p4; (case p1 => k_is); (case p2 => k_is); (case p3 => k_is); (case p4 => k_is))
    (case d_check_amounts => refine' Sv.dfk_mk ?p1 ?p2 ?p3 ?p4; (case p1 => k_is); (case p2 => k_is); (case p3 => k_is); (case p4 => k_is))
    (case d_check_size => refine' Sv.dfk_mk ?p1 ?p2 ?p3 ?p4; (case p1 => k_is); (case p2 => k_is); (case p3 => k_is); (case p4 => k_is))
    (case d_check_positions => refine' Sv.dfk_mk ?p1 ?p2 ?p3 ?p4; (case p1 => k_is); (case p2 => k_is); (case p3 => k_is); (case p4 => k_is))
    (case d_check_count => refine' Sv.dfk_mk ?p1 ?p2 ?p3 ?p4; (case p1 => k_is); (case p2 => k_is); (case p3 => k_is); (case p4 => k_is))
    (case d_operate => refine' Sv.dfk_mk ?p1 ?p2 ?p3 ?p4; (case p1 => k_is); (case p2 => k_is); (case p3 => k_is); (case p4 => k_is))
    (case d_answers => refine' Sv.dfk_mk ?p1 ?p2 ?p3 ?p4; (case p1 => k_is); (case p2 => k_is); (case p3 => k_is); (case p4 => k_is))
    (case d_split_calls => refine' Sv.dfk_mk ?p1 ?p2 ?p3 ?p4; (case p1 => k_is); (case p2 => k_is); (case p3 => k_is); (case p4 => k_is))
    (case d_answer => refine' Sv.dfk_mk ?p1 ?p2 ?p3 ?p4; (case p1 => k_is); (case p2 => k_is); (case p3 => k_is); (case p4 => k_is))
    (case d_add_size => refine' Sv.dfk_mk ?p1 ?p2 ?p3 ?p4; (case p1 => k_is); (case p2 => k_is); (case p3 => k_is); (case p4 => k_is))
    (case d_remove_last_size => refine' Sv.dfk_mk ?p1 ?p2 ?p3 ?p4; (case p1 => k_is); (case p2 => k_is); (case p3 => k_is); (case p4 => k_is))
    (case d_set_size => refine' Sv.dfk_mk ?p1 ?p2 ?p3 ?p4; (case p1 => k_is); (case p2 => k_is); (case p3 => k_is); (case p4 => k_is))
    (case d_get_sizes => refine' Sv.dfk_mk ?p1 ?p2 ?p3 ?p4; (case p1 => k_is); (case p2 => k_is); (case p3 => k_is); (case p4 => k_is))
    (case d_set_sieves => refine' Sv.dfk_mk ?p1 ?p2 ?p3 ?p4; (case p1 => k_is); (case p2 => k_is); (case p3 => k_is); (case p4 => k_is))
    (case d_get_sieves => refine' Sv.dfk_mk ?p1 ?p2 ?p3 ?p4; (case p1 => k_is); (case p2 => k_is); (case p3 => k_is); (case p4 => k_is))
    (case d_get_classes => refine' Sv.dfk_mk ?p1 ?p2 ?p3 ?p4; (case p1 => k_is); (case p2 => k_is); (case p3 => k_is); (case p4 => k_is))
    (case d_misplaced => refine' Sv.dfk_mk ?p1 ?p2 ?p3 ?p4; (case p1 => k_is); (case p2 => k_is); (case p3 => k_is); (case p4 => k_is))
    (case d_purity => refine' Sv.dfk_mk ?p1 ?p2 ?p3 ?p4; (case p1 => k_is); (case p2 => k_is); (case p3 => k_is); (case p4 => k_is))
    (case d_best_sieves => refine' Sv.dfk_mk ?p1 ?p2 ?p3 ?p4; (case p1 => k_is); (case p2 => k_is); (case p3 => k_is); (case p4 => k_is))
    (case d_apply_best_sieves => refine' Sv.dfk_mk ?p1 ?p2 ?p3 ?p4; (case p1 => k_is); (case p2 => k_is); (case p3 => k_is); (case p4 => k_is))
    (case d_sieves_needed => refine' Sv.dfk_mk ?p1 ?p2 ?p3 ?p4; (case p1 => k_is); (case p2 => k_is); (case p3 => k_is); (case p4 => k_is))
    (case d_lower_bound => refine' Sv.dfk_mk ?p1 ?p2 ?p3 ?p4; (case p1 => k_is); (case p2 => k_is); (case p3 => k_is); (case p4 => k_is))
    (case d_add_sieve => refine' Sv.dfk_mk ?p1 ?p2 ?p3 ?p4; (case p1 => k_is); (case p2 => k_is); (case p3 => k_is); (case p4 => k_is))
    (case d_remove_sieve => refine' Sv.dfk_mk ?p1 ?p2 ?p3 ?p4; (case p1 => k_is); (case p2 => k_is); (case p3 => k_is); (case p4 => k_is))
    (case d_gain_of_sieve => refine' Sv.dfk_mk ?p1 ?p2 ?p3 ?p4; (case p1 => k_is); (case p2 => k_is); (case p3 => k_is); (case p4 => k_is))
    (case d_most_even_sieves => refine' Sv.dfk_mk ?p1 ?p2 ?p3 ?p4; (case p1 => k_is); (case p2 => k_is); (case p3 => k_is); (case p4 => k_is))
    (case d_evaluate_sieves => refine' Sv.dfk_mk ?p1 ?p2 ?p3 ?p4; (case p1 => k_is); (case p2 => k_is); (case p3 => k_is); (case p4 => k_is))
    (case d_destination => refine' Sv.dfk_mk ?p1 ?p2 ?p3 ?p4; (case p1 => k_is); (case p2 => k_is); (case p3 => k_is); (case p4 => k_is))
    (case d_yields => refine' Sv.dfk_mk ?p1 ?p2 ?p3 ?p4; (case p1 => k_is); (case p2 => k_is); (case p3 => k_is); (case p4 => k_is))
    (case d_low => refine' Sv.lowk_mk ?p1 ?p2 ?p3 ?p4 ?p5 ?p6 ?p7 ?p8; (case p1 => k_is); (case p2 => k_is); (case p3 => k_is); (case p4 => k_is); (case p5 => k_is); (case p6 => rfl); (case p7 => kernel_rfl); (case p8 => kernel_rfl))
    (case r_g => k_is)
    (case r_rd => k_is)
    (case r_ga => k_is)
    (case r_at => k_is)
    (case r_m => (refine' Sv.mtk_mk ?p1 ?p2 ?p3; (case p1 => k_is); (case p2 => k_is); (case p3 => k_is)))
    (case r_b => k_is); (case r_i => k_is); (case r_t => k_is); (case r_eI => k_is)
    (case e_NoSifter => refine' Sv.errk_mk ?g ?l ?t ?ov ?tk ?sa ?exC ?tyC ?kC ?ga ?gg ?hd ?no ?iC ?tI ?sub ?m; (case g => k_is); (case l => k_is); (case t => rfl); (case ov => kx_is); (case tk => k_is); (case sa => k_is); (case exC => k_is); (case tyC => k_is); (case kC => k_is); (case ga => k_is); (case gg => k_is); (case hd => k_is); (case no => k_is); (case iC => k_is); (case tI => k_is); (case sub => k_is); (case m => (refine' Sv.mtk_mk ?p1 ?p2 ?p3; (case p1 => k_is); (case p2 => k_is); (case p3 => k_is))))
    (case e_NotThere => refine' Sv.errk_mk ?g ?l ?t ?ov ?tk ?sa ?exC ?tyC ?kC ?ga ?gg ?hd ?no ?iC ?tI ?sub ?m; (case g => k_is); (case l => k_is); (case t => rfl); (case ov => kx_is); (case tk => k_is); (case sa => k_is); (case exC => k_is); (case tyC => k_is); (case kC => k_is); (case ga => k_is); (case gg => k_is); (case hd => k_is); (case no => k_is); (case iC => k_is); (case tI => k_is); (case sub => k_is); (case m => (refine' Sv.mtk_mk ?p1 ?p2 ?p3; (case p1 => k_is); (case p2 => k_is); (case p3 => k_is))))
    (case e_OutsideLimits => refine' Sv.errk_mk ?g ?l ?t ?ov ?tk ?sa ?exC ?tyC ?kC ?ga ?gg ?hd ?no ?iC ?tI ?sub ?m; (case g => k_is); (case l => k_is); (case t => rfl); (case ov => kx_is); (case tk => k_is); (case sa => k_is); (case exC => k_is); (case tyC => k_is); (case kC => k_is); (case ga => k_is); (case gg => k_is); (case hd => k_is); (case no => k_is); (case iC => k_is); (case tI => k_is); (case sub => k_is); (case m => (refine' Sv.mtk_mk ?p1 ?p2 ?p3; (case p1 => k_is); (case p2 => k_is); (case p3 => k_is))))
    (case e_TooManySizes => refine' Sv.errk_mk ?g ?l ?t ?ov ?tk ?sa ?exC ?tyC ?kC ?ga ?gg ?hd ?no ?iC ?tI ?sub ?m; (case g => k_is); (case l => k_is); (case t => rfl); (case ov => kx_is); (case tk => k_is); (case sa => k_is); (case exC => k_is); (case tyC => k_is); (case kC => k_is); (case ga => k_is); (case gg => k_is); (case hd => k_is); (case no => k_is); (case iC => k_is); (case tI => k_is); (case sub => k_is); (case m => (refine' Sv.mtk_mk ?p1 ?p2 ?p3; (case p1 => k_is); (case p2 => k_is); (case p3 => k_is))))
    (case e_NothingThere => refine' Sv.errk_mk ?g ?l ?t ?ov ?tk ?sa ?exC ?tyC ?kC ?ga ?gg ?hd ?no ?iC ?tI ?sub ?m; (case g => k_is); (case l => k_is); (case t => rfl); (case ov => kx_is); (case tk => k_is); (case sa => k_is); (case exC => k_is); (case tyC => k_is); (case kC => k_is); (case ga => k_is); (case gg => k_is); (case hd => k_is); (case no => k_is); (case iC => k_is); (case tI => k_is); (case sub => k_is); (case m => (refine' Sv.mtk_mk ?p1 ?p2 ?p3; (case p1 => k_is); (case p2 => k_is); (case p3 => k_is))))
    (case e_AlreadyThere => refine' Sv.errk_mk ?g ?l ?t ?ov ?tk ?sa ?exC ?tyC ?kC ?ga ?gg ?hd ?no ?iC ?tI ?sub ?m; (case g => k_is); (case l => k_is); (case t => rfl); (case ov => kx_is); (case tk => k_is); (case sa => k_is); (case exC => k_is); (case tyC => k_is); (case kC => k_is); (case ga => k_is); (case gg => k_is); (case hd => k_is); (case no => k_is); (case iC => k_is); (case tI => k_is); (case sub => k_is); (case m => (refine' Sv.mtk_mk ?p1 ?p2 ?p3; (case p1 => k_is); (case p2 => k_is); (case p3 => k_is))))
    (case e_NeverEnough => refine' Sv.errk_mk ?g ?l ?t ?ov ?tk ?sa ?exC ?tyC ?kC ?ga ?gg ?hd ?no ?iC ?tI ?sub ?m; (case g => k_is); (case l => k_is); (case t => rfl); (case ov => kx_is); (case tk => k_is); (case sa => k_is); (case exC => k_is); (case tyC => k_is); (case kC => k_is); (case ga => k_is); (case gg => k_is); (case hd => k_is); (case no => k_is); (case iC => k_is); (case tI => k_is); (case sub => k_is); (case m => (refine' Sv.mtk_mk ?p1 ?p2 ?p3; (case p1 => k_is); (case p2 => k_is); (case p3 => k_is))))
    (case s_g => k_is)
    (case s_pg => k_is)
    (case s_hd => k_is)
    (case s_po => k_is)
    (case s_sa => k_is)
    (case s_nZ => k_is)
    (case s_nV => k_is)
    (case s_mk => k_is)
    (case s_in => k_is)
    (case s_fn => k_is)
    (case s_kp => k_is)
    (case s_m => (refine' Sv.mtk_mk ?p1 ?p2 ?p3; (case p1 => k_is); (case p2 => k_is); (case p3 => k_is)))
    (case c_A => k_is)
    (case c_S => k_is)
    (case c_C => k_is)
    (case t_g => k_is)
    (case t_k => refine' Sv.ktab_mk ?p1 ?p2; (case p1 => k_is); (case p2 => kernel_rfl))
  case S =>
    intro K PT H0 H xs a sm hT hwi hask hx
    have q : ((Codec.inLen 0 900 a.1 && a.1.all (Codec.inInt 0 4294967295)) && true) = true := hwi
    rw [Bool.and_eq_true, Bool.and_eq_true] at q
    exact Sv.fin_ask (a := a.1) sm hT (Codec.inNat_iff.mp q.1.1).2 hask hx fun H' o ho => .lst (L2.SqL.of ho) (L2.dw_ints _)
