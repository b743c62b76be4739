import PyProof.Rows.All
import Wide.All
import OpenK.AllK
import Wide.FinOn
import PyProof.EqAt
import PyProof.EqKinds
import PyProof.TupleCall
import HandS.Base
import HandS.Call
import HandS.List
import HandS.Comp
import HandS.Ends
import HandS.Words
import HandS.WordsList
import HandS.Conv
import HandS.Evl
import HandS.Iter
import HandS.More
import HandS.Set
import HandS.Strs
import HandS.SetFor
import HandS.SortKw
import KE.DataMinMax
import Open.SpecLaws
import KE.OsGo
import HandS.ForSpec
import PySem.Challenge.RW_denseparts_s01_answers
/-! How a list of calls is read: one call at a time, from the left. -/
namespace Dp
open Gq06 (Graph Call)
/-- the flat list u is the call c, its numbers within the document's bounds -/
inductive IsCall : List Int → Call → Prop
  | node : IsCall [0] .node
  | edge (x y : Nat) (hx : x ≤ 4294967295) (hy : y ≤ 4294967295) : IsCall [1, (x : Int), (y : Int)] (.edge x y)
  | cut (n : Nat) (hn : n ≤ 4294967295) : IsCall [2, (n : Int)] (.cut n)
  | densest : IsCall [3] .densest
  | density (l : List Nat) (hl : l.length ≤ 20) (hb : ∀ x ∈ l, x ≤ 4294967295) : IsCall (4 :: (l.length : Int) :: l.map Int.ofNat) (.density l)
  | core (k : Nat) (hk : k ≤ 4294967295) : IsCall [5, (k : Int)] (.core k)
  | cores : IsCall [6] .cores
  | peel : IsCall [7] .peel
  | turned : IsCall [8] .turned
  | forests : IsCall [9] .forests
  | tight (k : Nat) (hk : k ≤ 4294967295) : IsCall [10, (k : Int)] (.tight k)
  | edges : IsCall [11] .edges
inductive Reads : List Int → List Call → Prop
  | nil : Reads [] []
  | cons {u t : List Int} {c : Call} {cs : List Call} (h : IsCall u c) (r : Reads t cs) : Reads (u ++ t) (c :: cs)
/-- the answers of calls from a graph on, flat -/
def play : Graph → List Call → List Int
  | _, [] => []
  | g, c :: cs => (((Gq06.step g c).2.length : Nat) : Int) :: (Gq06.step g c).2 ++ play (Gq06.step g c).1 cs
/-- the graph behind some calls -/
def after : Graph → List Call → Graph
  | g, [] => g
  | g, c :: cs => after (Gq06.step g c).1 cs

theorem ofNat_toNat_map : ∀ {l : List Int}, (∀ x ∈ l, 0 ≤ x) → (l.map Int.toNat).map Int.ofNat = l
  | [], _ => rfl
  | a :: l, h => by
    have h1 : (0 : Int) ≤ a := h a (by simp)
    have ih := ofNat_toNat_map (l := l) fun x hx => h x (by simp [hx])
    simp only [List.map_cons, ih]
    congr 1
    exact Int.toNat_of_nonneg h1

/-- what one raw call is, given that its numbers lie within the bounds -/
theorem call_is {p : Int} {r : List Int} {c : List (List Int)} {t : List Int} (h : PyFlat.call PyGq06.shape (p :: r) = some (c, t)) (hb : PyInside.call PyGq06.bound c = true) :
    ∃ u d, p :: r = u ++ t ∧ u ≠ [] ∧ IsCall u d ∧ Gq06Neutral.callOf ((PyGq06.whole c).headD []) = some d := by
  have wi : ∀ {z : Int}, PyInside.within 0 4294967295 z = true → 0 ≤ z ∧ z ≤ 4294967295 := fun {z} q => by
    unfold PyInside.within at q
    simpa using q
  have na : ∀ {z : Int}, 0 ≤ z ∧ z ≤ 4294967295 → Gq06Neutral.nat z = true := fun {z} q => by
    unfold Gq06Neutral.nat
    simp only [Bool.and_eq_true, decide_eq_true_eq]
    exact ⟨q.1, by have : (2 : Int) ^ 32 = 4294967296 := by decide
                   omega⟩
  have zero : ∀ q : Int, q = 0 ∨ q = 3 ∨ q = 6 ∨ q = 7 ∨ q = 8 ∨ q = 9 ∨ q = 11 → PyGq06.shape q = some (0, 0) := fun q hq => by
    rcases hq with rfl | rfl | rfl | rfl | rfl | rfl | rfl <;> rfl
  simp only [PyFlat.call] at h
  by_cases hz : p = 0 ∨ p = 3 ∨ p = 6 ∨ p = 7 ∨ p = 8 ∨ p = 9 ∨ p = 11
  · rw [zero p hz] at h
    simp only [Nat.not_lt_zero, if_false, List.drop_zero, PyFlat.rows, List.take_zero, Option.some.injEq, Prod.mk.injEq] at h
    obtain ⟨rfl, rfl⟩ := h
    rcases hz with rfl | rfl | rfl | rfl | rfl | rfl | rfl
    · exact ⟨[0], _, rfl, by simp, .node, rfl⟩
    · exact ⟨[3], _, rfl, by simp, .densest, rfl⟩
    · exact ⟨[6], _, rfl, by simp, .cores, rfl⟩
    · exact ⟨[7], _, rfl, by simp, .peel, rfl⟩
    · exact ⟨[8], _, rfl, by simp, .turned, rfl⟩
    · exact ⟨[9], _, rfl, by simp, .forests, rfl⟩
    · exact ⟨[11], _, rfl, by simp, .edges, rfl⟩
  · by_cases h1 : p = 1
    · subst h1
      simp only [show PyGq06.shape 1 = some (2, 0) from rfl] at h
      match r, h with
      | [], h => simp at h
      | [_], h => simp at h
      | x :: y :: r, h =>
        simp only [List.length_cons, PyFlat.rows, List.drop_succ_cons, List.drop_zero, List.take_succ_cons, List.take_zero] at h
        rw [if_neg (by omega)] at h
        simp only [Option.some.injEq, Prod.mk.injEq] at h
        obtain ⟨rfl, rfl⟩ := h
        have hb' : ((PyInside.within 0 4294967295 x && (PyInside.within 0 4294967295 y && true)) && true) = true := hb
        simp only [Bool.and_true, Bool.and_eq_true] at hb'
        have hx := wi hb'.1
        have hy := wi hb'.2
        refine ⟨[1, x, y], .edge x.toNat y.toNat, rfl, by simp, ?_, ?_⟩
        · have q := IsCall.edge x.toNat y.toNat (by omega) (by omega)
          rw [Int.toNat_of_nonneg hx.1, Int.toNat_of_nonneg hy.1] at q
          exact q
        · show Gq06Neutral.callOf [1, x, y] = _
          unfold Gq06Neutral.callOf
          have e : [1, x, y].all Gq06Neutral.nat = true := by
            simp only [List.all_cons, List.all_nil, na hx, na hy, na (z := 1) (by omega)]; rfl
          rw [e]
          rfl
    · have one : ∀ q : Int, q = 2 ∨ q = 5 ∨ q = 10 → PyGq06.shape q = some (1, 0) := fun q hq => by
        rcases hq with rfl | rfl | rfl <;> rfl
      by_cases h2 : p = 2 ∨ p = 5 ∨ p = 10
      · rw [one p h2] at h
        match r, h with
        | [], h => simp at h
        | x :: r, h =>
          simp only [List.length_cons, PyFlat.rows, List.drop_succ_cons, List.drop_zero, List.take_succ_cons, List.take_zero] at h
          rw [if_neg (by omega)] at h
          simp only [Option.some.injEq, Prod.mk.injEq] at h
          obtain ⟨rfl, rfl⟩ := h
          have hb' : ((PyInside.within 0 4294967295 x && true) && true) = true := by
            rcases h2 with rfl | rfl | rfl <;> exact hb
          simp only [Bool.and_true] at hb'
          have hx := wi hb'
          have ex : ((x.toNat : Nat) : Int) = x := Int.toNat_of_nonneg hx.1
          have al : ∀ q : Int, 0 ≤ q ∧ q ≤ 4294967295 → [q, x].all Gq06Neutral.nat = true := fun q hq => by
            simp only [List.all_cons, List.all_nil, na hx, na hq]; rfl
          rcases h2 with rfl | rfl | rfl
          · refine ⟨[2, x], .cut x.toNat, rfl, by simp, ?_, ?_⟩
            · have q := IsCall.cut x.toNat (by omega)
              rw [ex] at q; exact q
            · show Gq06Neutral.callOf [2, x] = _
              unfold Gq06Neutral.callOf
              rw [al 2 (by omega)]; rfl
          · refine ⟨[5, x], .core x.toNat, rfl, by simp, ?_, ?_⟩
            · have q := IsCall.core x.toNat (by omega)
              rw [ex] at q; exact q
            · show Gq06Neutral.callOf [5, x] = _
              unfold Gq06Neutral.callOf
              rw [al 5 (by omega)]; rfl
          · refine ⟨[10, x], .tight x.toNat, rfl, by simp, ?_, ?_⟩
            · have q := IsCall.tight x.toNat (by omega)
              rw [ex] at q; exact q
            · show Gq06Neutral.callOf [10, x] = _
              unfold Gq06Neutral.callOf
              rw [al 10 (by omega)]; rfl
      · by_cases h4 : p = 4
        · subst h4
          simp only [show PyGq06.shape 4 = some (0, 1) from rfl, Nat.not_lt_zero, if_false, List.drop_zero, List.take_zero] at h
          match r, h with
          | [], h => simp [PyFlat.rows, PyFlat.row] at h
          | n :: r, h =>
            simp only [PyFlat.rows, PyFlat.row] at h
            by_cases hn : 0 ≤ n ∧ n.toNat ≤ r.length
            · rw [if_pos hn] at h
              simp only [Option.some.injEq, Prod.mk.injEq] at h
              obtain ⟨rfl, rfl⟩ := h
              generalize hl : r.take n.toNat = l at hb ⊢
              have hlen : l.length = n.toNat := by rw [← hl, List.length_take]; omega
              have hb' : (true && (decide (0 ≤ l.length) && decide (l.length ≤ 20) && l.all (PyInside.within 0 4294967295) && true)) = true := hb
              simp only [Bool.true_and, Bool.and_true, Bool.and_eq_true, decide_eq_true_eq] at hb'
              obtain ⟨⟨_, h20⟩, hall⟩ := hb'
              have hall' : ∀ x ∈ l, 0 ≤ x ∧ x ≤ 4294967295 := fun x hx => wi (List.all_eq_true.mp hall x hx)
              have em := ofNat_toNat_map fun x hx => (hall' x hx).1
              refine ⟨4 :: n :: l, .density (l.map Int.toNat), ?_, by simp, ?_, ?_⟩
              · rw [← hl]; simp [List.take_append_drop]
              · have q := IsCall.density (l.map Int.toNat) (by simpa using h20) (fun x hx => by
                  obtain ⟨z, hz, rfl⟩ := List.mem_map.mp hx
                  have := hall' z hz
                  omega)
                rw [em, List.length_map, hlen, Int.toNat_of_nonneg hn.1] at q
                exact q
              · show Gq06Neutral.callOf (4 :: l) = _
                unfold Gq06Neutral.callOf
                have e : (4 :: l).all Gq06Neutral.nat = true := by
                  rw [List.all_cons, na (z := 4) (by omega), Bool.true_and]
                  exact List.all_eq_true.mpr fun x hx => na (hall' x hx)
                rw [e]
                rfl
            · rw [if_neg hn] at h
              simp at h
        · exfalso
          have e : PyGq06.shape p = none := by
            unfold PyGq06.shape
            simp only [not_or] at hz h2
            rw [if_neg hz.1, if_neg h1, if_neg h2.1, if_neg hz.2.1, if_neg h4, if_neg h2.2.1, if_neg hz.2.2.1, if_neg hz.2.2.2.1, if_neg hz.2.2.2.2.1, if_neg hz.2.2.2.2.2.1, if_neg h2.2.2, if_neg hz.2.2.2.2.2.2]
          rw [e] at h
          simp at h

theorem reads_of : ∀ (f : Nat) (l : List Int) (raw : List (List (List Int))), PyFlat.calls PyGq06.shape f l = some raw → PyInside.calls PyGq06.bound raw = true →
    ∃ cs, Reads l cs ∧ cs.length = raw.length ∧ ∀ g, PyFlat.told (PyFlat.played (fun s c => Gq06Neutral.step s (c.headD [])) g (raw.map PyGq06.whole)) = play g cs
  | f, [], raw, h, _ => by
    have e : raw = [] := by cases f <;> simpa [PyFlat.calls] using h.symm
    subst e
    exact ⟨[], .nil, rfl, fun _ => rfl⟩
  | 0, _ :: _, _, h, _ => by simp [PyFlat.calls] at h
  | f + 1, p :: r, raw, h, hb => by
    unfold PyFlat.calls at h
    cases e : PyFlat.call PyGq06.shape (p :: r) with
    | none => rw [e] at h; simp at h
    | some q =>
      obtain ⟨c, t⟩ := q
      rw [e] at h
      simp only at h
      cases e2 : PyFlat.calls PyGq06.shape f t with
      | none => rw [e2] at h; simp at h
      | some raw2 =>
        rw [e2] at h
        simp only [Option.some.injEq] at h
        subst h
        have hb' : (PyInside.call PyGq06.bound c && raw2.all (PyInside.call PyGq06.bound)) = true := hb
        rw [Bool.and_eq_true] at hb'
        obtain ⟨u, d, eu, _, hu, hc⟩ := call_is e hb'.1
        obtain ⟨cs, hr, hlen, hp⟩ := reads_of f t raw2 e2 hb'.2
        refine ⟨d :: cs, eu ▸ .cons hu hr, by simp [hlen], fun g => ?_⟩
        have es : Gq06Neutral.step g ((PyGq06.whole c).headD []) = Gq06.step g d := by
          unfold Gq06Neutral.step
          rw [hc]
        show PyFlat.told ((Gq06Neutral.step g ((PyGq06.whole c).headD [])).2 :: PyFlat.played _ (Gq06Neutral.step g ((PyGq06.whole c).headD [])).1 (raw2.map PyGq06.whole)) = play g (d :: cs)
        rw [es]
        show ((((Gq06.step g d).2.length : Nat) : Int) :: (Gq06.step g d).2) ++ PyFlat.told (PyFlat.played _ (Gq06.step g d).1 (raw2.map PyGq06.whole)) = _
        rw [hp (Gq06.step g d).1]
        rfl
/-- **What is asked, read**: 1 to 40 calls, and the answers are theirs from the empty graph on. -/
theorem asked_reads {l : List Int} (h : PyGq06.answers_asked l = true) : ∃ cs, Reads l cs ∧ cs.length ≤ 40 ∧ PyGq06.answers l = play Gq06.init cs ∧ (PyGq06.answers l).length ≤ 10000000 := by
  unfold PyGq06.answers_asked at h
  cases e : PyFlat.calls PyGq06.shape l.length l with
  | none => rw [e] at h; simp at h
  | some raw =>
    rw [e] at h
    simp only [Bool.and_eq_true] at h
    obtain ⟨⟨⟨⟨_, h40⟩, hin⟩, _⟩, hsh⟩ := h
    obtain ⟨cs, hr, hl, hp⟩ := reads_of _ _ _ e hin
    refine ⟨cs, hr, ?_, ?_, of_decide_eq_true hsh⟩
    · rw [hl]; exact of_decide_eq_true h40
    · unfold PyGq06.answers PyGq06.calls
      rw [e]
      exact hp Gq06.init
end Dp

/-! The mathematics of nodes, parts, densest, core and fractions, in plain Lean. -/
set_option linter.all false
namespace Dp
open Gq06
/-! ### nodes -/
theorem nodes_zero (es : List (Nat × Nat)) : nodes ⟨0, es⟩ = [] := rfl
def upto (n : Nat) : List Nat := (List.range n).map fun i => i + 1
theorem nodes_upto (g : Graph) : nodes g = upto g.many := rfl
theorem upto_succ (n : Nat) : upto (n + 1) = upto n ++ [n + 1] := by
  unfold upto
  rw [List.range_succ, List.map_append]
  rfl
theorem mem_upto {n x : Nat} : x ∈ upto n ↔ 1 ≤ x ∧ x ≤ n := by
  unfold upto
  simp only [List.mem_map, List.mem_range]
  constructor
  · rintro ⟨i, hi, rfl⟩; omega
  · intro h; exact ⟨x - 1, by omega, by omega⟩
theorem upto_length (n : Nat) : (upto n).length = n := by simp [upto]
theorem upto_sorted : ∀ n : Nat, (upto n).Pairwise (· < ·)
  | 0 => List.Pairwise.nil
  | n + 1 => by
    rw [upto_succ]
    refine List.pairwise_append.mpr ⟨upto_sorted n, by simp, fun a ha b hb => ?_⟩
    have := (mem_upto.mp ha).2
    have : b = n + 1 := by simpa using hb
    omega
/-- two rising lists of the same members are one -/
theorem eq_of_rising {l m : List Nat} (hl : l.Pairwise (· < ·)) (hm : m.Pairwise (· < ·)) (h : ∀ x, x ∈ l ↔ x ∈ m) : l = m := by
  have nl : l.Nodup := hl.imp fun h => Nat.ne_of_lt h
  have nm : m.Nodup := hm.imp fun h => Nat.ne_of_lt h
  exact List.Perm.eq_of_pairwise (le := (· < ·)) (fun a b _ _ h1 h2 => absurd (Nat.lt_trans h1 h2) (Nat.lt_irrefl _)) hl hm ((List.perm_ext_iff_of_nodup nl nm).mpr h)
/-! ### parts -/
theorem mem_subsets : ∀ {l s : List Nat}, s ∈ subsets l ↔ s.Sublist l
  | [], s => by simp [subsets]
  | x :: l, s => by
    have ih := fun t => mem_subsets (l := l) (s := t)
    simp only [subsets, List.mem_append, List.mem_map, ih]
    constructor
    · rintro (h | ⟨t, h, rfl⟩)
      · exact h.cons _
      · exact h.cons_cons _
    · intro h
      cases h with
      | cons _ h => exact .inl h
      | cons_cons _ h => exact .inr ⟨_, h, rfl⟩
theorem mem_parts {g : Graph} {s : List Nat} : s ∈ parts g ↔ s ≠ [] ∧ s.Sublist (upto g.many) := by
  unfold parts
  rw [List.mem_filter, mem_subsets, nodes_upto]
  cases s <;> simp
/-- the program's list of all parts -/
def allParts : Nat → List (List Nat)
  | 0 => []
  | n + 1 => (allParts n ++ [[n + 1]]) ++ (allParts n).map fun p => p ++ [n + 1]
theorem mem_allParts : ∀ {n : Nat} {s : List Nat}, s ∈ allParts n ↔ s ≠ [] ∧ s.Sublist (upto n)
  | 0, s => by
    simp only [allParts, List.not_mem_nil, upto, List.range_zero, List.map_nil, List.sublist_nil, false_iff]
    rintro ⟨h1, h2⟩; exact h1 h2
  | n + 1, s => by
    have ih := fun t => mem_allParts (n := n) (s := t)
    simp only [allParts, List.mem_append, List.mem_map, ih, List.mem_singleton]
    rw [upto_succ, List.sublist_append_iff]
    constructor
    · rintro ((⟨h1, h2⟩ | rfl) | ⟨t, ⟨h1, h2⟩, rfl⟩)
      · exact ⟨h1, s, [], by simp, h2, by simp⟩
      · exact ⟨by simp, [], [n + 1], by simp, by simp, by simp⟩
      · exact ⟨by simp, t, [n + 1], rfl, h2, by simp⟩
    · rintro ⟨h1, a, b, rfl, h2, h3⟩
      have hb : b = [] ∨ b = [n + 1] := by
        cases h3 with
        | cons _ h => exact .inl (List.sublist_nil.mp h)
        | cons_cons _ h => exact .inr (by rw [List.sublist_nil.mp h])
      rcases hb with rfl | rfl
      · rw [List.append_nil] at h1 ⊢
        exact .inl (.inl ⟨h1, h2⟩)
      · by_cases ha : a = []
        · subst ha; exact .inl (.inr rfl)
        · exact .inr ⟨a, ⟨ha, h2⟩, rfl⟩
theorem allParts_mem {g : Graph} {s : List Nat} : s ∈ allParts g.many ↔ s ∈ parts g := by rw [mem_allParts, mem_parts]
theorem allParts_length : ∀ n : Nat, (allParts n).length = 2 ^ n - 1
  | 0 => rfl
  | n + 1 => by
    have ih := allParts_length n
    have h1 : 1 ≤ 2 ^ n := Nat.one_le_two_pow
    have h2 : 2 ^ (n + 1) = 2 ^ n * 2 := Nat.pow_succ ..
    simp only [allParts, List.length_append, List.length_map, List.length_singleton, ih]
    omega
theorem part_le {n : Nat} {s : List Nat} (h : s ∈ allParts n) : 1 ≤ s.length ∧ s.length ≤ n := by
  obtain ⟨h1, h2⟩ := mem_allParts.mp h
  have := h2.length_le
  rw [upto_length] at this
  exact ⟨List.length_pos_iff.mpr h1, this⟩
theorem part_rises {n : Nat} {s : List Nat} (h : s.Sublist (upto n)) : s.Pairwise (· < ·) := (upto_sorted n).sublist h
/-! ### edges -/
abbrev win (g : Graph) (s : List Nat) : Nat := (inside g s).length
theorem win_le (g : Graph) (s : List Nat) : win g s ≤ g.edges.length := List.length_filter_le _ _
theorem inside_congr {g : Graph} {s t : List Nat} (h : ∀ x, x ∈ s ↔ x ∈ t) : inside g s = inside g t := by
  unfold inside
  congr 1
  funext e
  have c : ∀ x, s.contains x = t.contains x := fun x => by
    rw [Bool.eq_iff_iff, List.contains_iff_mem, List.contains_iff_mem]
    exact h x
  rw [c, c]
/-- how many edges a node has to some -/
def degTo (g : Graph) (x : Nat) (s : List Nat) : Nat := (g.edges.filter fun e => (e.1 == x && s.contains e.2) || (e.2 == x && s.contains e.1)).length
theorem degTo_eq {g : Graph} {x : Nat} {s : List Nat} (h : x ∈ s) : degTo g x s = degreeIn g s x := by
  unfold degTo degreeIn inside
  rw [List.filter_filter]
  congr 2
  funext e
  have hx : s.contains x = true := List.contains_iff_mem.mpr h
  by_cases h1 : e.1 = x
  · have b1 : (e.1 == x) = true := beq_iff_eq.mpr h1
    by_cases h2 : e.2 = x
    · have b2 : (e.2 == x) = true := beq_iff_eq.mpr h2
      simp [h1, h2]
    · have b2 : (e.2 == x) = false := beq_eq_false_iff_ne.mpr h2
      simp [b1, b2, h1, h]
  · have b1 : (e.1 == x) = false := beq_eq_false_iff_ne.mpr h1
    by_cases h2 : e.2 = x
    · have b2 : (e.2 == x) = true := beq_iff_eq.mpr h2
      simp [b1, b2, h2, h]
    · have b2 : (e.2 == x) = false := beq_eq_false_iff_ne.mpr h2
      simp [b1, b2]
/-! ### the core -/
def coreStep (g : Graph) (k : Nat) (s : List Nat) : List Nat := s.filter fun x => decide (k ≤ degreeIn g s x)
theorem coreFrom_succ (g : Graph) (k n : Nat) (s : List Nat) : coreFrom g k (n + 1) s = coreFrom g k n (coreStep g k s) := rfl
theorem coreStep_le (g : Graph) (k : Nat) (s : List Nat) : (coreStep g k s).length ≤ s.length := List.length_filter_le _ _
theorem coreStep_sub (g : Graph) (k : Nat) (s : List Nat) : (coreStep g k s).Sublist s := List.filter_sublist
theorem coreStep_fix {g : Graph} {k : Nat} {s : List Nat} (h : ¬ (coreStep g k s).length < s.length) : coreStep g k s = s :=
  (coreStep_sub g k s).eq_of_length (Nat.le_antisymm (coreStep_le g k s) (Nat.not_lt.mp h))
theorem coreFrom_fix {g : Graph} {k : Nat} {s : List Nat} (h : coreStep g k s = s) : ∀ n, coreFrom g k n s = s
  | 0 => rfl
  | n + 1 => by rw [coreFrom_succ, h, coreFrom_fix h n]
/-- what the loop keeps: from here as many turns as are enough give the core -/
structure CoreInv (g : Graph) (k : Nat) (s : List Nat) : Prop where
  sub : s.Sublist (upto g.many)
  on : ∃ n, s.length ≤ n ∧ coreFrom g k n s = core g k
theorem CoreInv.start (g : Graph) (k : Nat) : CoreInv g k (upto g.many) := ⟨List.Sublist.refl _, g.many, by rw [upto_length]; exact Nat.le_refl _, rfl⟩
theorem CoreInv.turn {g : Graph} {k : Nat} {s : List Nat} (I : CoreInv g k s) (h : (coreStep g k s).length < s.length) : CoreInv g k (coreStep g k s) := by
  obtain ⟨n, hn, e⟩ := I.on
  refine ⟨(coreStep_sub g k s).trans I.sub, ?_⟩
  cases n with
  | zero => omega
  | succ n => exact ⟨n, by omega, by rw [← coreFrom_succ]; exact e⟩
theorem CoreInv.done {g : Graph} {k : Nat} {s : List Nat} (I : CoreInv g k s) (h : ¬ (coreStep g k s).length < s.length) : s = core g k := by
  obtain ⟨n, _, e⟩ := I.on
  rw [← e, coreFrom_fix (coreStep_fix h)]
theorem core_sub (g : Graph) (k : Nat) : (core g k).Sublist (upto g.many) := by
  have : ∀ n s, (coreFrom g k n s).Sublist s := by
    intro n
    induction n with
    | zero => intro s; exact List.Sublist.refl _
    | succ n ih => intro s; rw [coreFrom_succ]; exact (ih _).trans (coreStep_sub g k s)
  exact this _ _
/-! ### fractions -/
theorem fraction_eq {a b : Nat} (hb : 0 < b) : fraction ((a : Rat) / (b : Rat)) = [((a / a.gcd b : Nat) : Int), ((b / a.gcd b : Nat) : Int)] := by
  have e : ((a : Rat) / (b : Rat)) = Rat.divInt (a : Int) (b : Int) := by
    rw [Rat.divInt_eq_div]; rfl
  unfold fraction
  rw [e, Rat.num_divInt, Rat.den_divInt]
  have hb0 : (b : Int) ≠ 0 := by omega
  rw [if_neg hb0]
  have hs : (b : Int).sign = 1 := Int.sign_eq_one_of_pos (by omega)
  have hg : (b : Int).gcd (a : Int) = a.gcd b := by rw [Int.gcd_comm]; rfl
  rw [hs, hg, Int.one_mul, Int.natAbs_natCast, Int.natCast_ediv, Int.natCast_ediv]
/-- Euclid's turns, as the loop does them -/
structure Eu (a b d r : Nat) : Prop where
  pos : 0 < d
  g : r.gcd d = a.gcd b
theorem Eu.start {a b : Nat} (hb : 0 < b) : Eu a b b a := ⟨hb, rfl⟩
theorem Eu.turn {a b d r : Nat} (E : Eu a b d r) (hr : 0 < r) : Eu a b r (d % r) := ⟨hr, by rw [← E.g, Nat.gcd_rec r d]⟩
theorem Eu.done {a b d : Nat} (E : Eu a b d 0) : d = a.gcd b := by
  have := E.g
  rwa [Nat.gcd_zero_left] at this
/-! ### the densest part -/
structure Den (g : Graph) (ps : List (List Nat)) (most size : Nat) (mem : List Nat) : Prop where
  pos : 0 < size
  at_ : (most = 0 ∧ size = 1) ∨ ∃ p ∈ ps, most = win g p ∧ size = p.length
  ge : ∀ q ∈ ps, win g q * size ≤ most * q.length
  mem : ∀ x, x ∈ mem ↔ ∃ q ∈ ps, x ∈ q ∧ win g q * size = most * q.length
theorem Den.start (g : Graph) : Den g [] 0 1 [] := ⟨by decide, .inl ⟨rfl, rfl⟩, by simp, by simp⟩
theorem cross_le {a b c d e f : Nat} (hd : 0 < d) (h1 : a * d ≤ c * b) (h2 : c * f ≤ e * d) : a * f ≤ e * b := by
  have h3 : (a * f) * d ≤ (e * b) * d := by
    calc (a * f) * d = (a * d) * f := by ac_rfl
      _ ≤ (c * b) * f := Nat.mul_le_mul_right _ h1
      _ = (c * f) * b := by ac_rfl
      _ ≤ (e * d) * b := Nat.mul_le_mul_right _ h2
      _ = (e * b) * d := by ac_rfl
  exact Nat.le_of_mul_le_mul_right h3 hd
theorem cross_lt {a b c d e f : Nat} (hb : 0 < b) (hd : 0 < d) (h1 : a * d ≤ c * b) (h2 : c * f < e * d) : a * f < e * b := by
  have h3 : (a * f) * d < (e * b) * d := by
    calc (a * f) * d = (a * d) * f := by ac_rfl
      _ ≤ (c * b) * f := Nat.mul_le_mul_right _ h1
      _ = (c * f) * b := by ac_rfl
      _ < (e * d) * b := Nat.mul_lt_mul_of_pos_right h2 hb
      _ = (e * b) * d := by ac_rfl
  exact Nat.lt_of_mul_lt_mul_right h3
theorem Den.more {g : Graph} {ps : List (List Nat)} {most size : Nat} {mem : List Nat} (D : Den g ps most size mem) (hps : ∀ q ∈ ps, 0 < q.length) {p : List Nat} (hp : 0 < p.length) (h : most * p.length < win g p * size) :
    Den g (ps ++ [p]) (win g p) p.length p := by
  refine ⟨hp, .inr ⟨p, by simp, rfl, rfl⟩, fun q hq => ?_, fun x => ?_⟩
  · rcases List.mem_append.mp hq with hq | hq
    · exact Nat.le_of_lt (cross_lt (hps q hq) D.pos (D.ge q hq) h)
    · rw [List.mem_singleton.mp hq]; exact Nat.le_refl _
  · constructor
    · intro hx; exact ⟨p, by simp, hx, rfl⟩
    · rintro ⟨q, hq, hx, e⟩
      rcases List.mem_append.mp hq with hq | hq
      · exact absurd e (Nat.ne_of_lt (cross_lt (hps q hq) D.pos (D.ge q hq) h))
      · rw [← List.mem_singleton.mp hq]; exact hx
theorem Den.same {g : Graph} {ps : List (List Nat)} {most size : Nat} {mem : List Nat} (D : Den g ps most size mem) {p : List Nat} (h : win g p * size = most * p.length) :
    Den g (ps ++ [p]) most size (mem ++ p) := by
  refine ⟨D.pos, ?_, fun q hq => ?_, fun x => ?_⟩
  · rcases D.at_ with e | ⟨q, hq, e⟩
    · exact .inl e
    · exact .inr ⟨q, by simp [hq], e⟩
  · rcases List.mem_append.mp hq with hq | hq
    · exact D.ge q hq
    · rw [List.mem_singleton.mp hq]; exact Nat.le_of_eq h
  · rw [List.mem_append, D.mem]
    constructor
    · rintro (⟨q, hq, hx, e⟩ | hx)
      · exact ⟨q, by simp [hq], hx, e⟩
      · exact ⟨p, by simp, hx, h⟩
    · rintro ⟨q, hq, hx, e⟩
      rcases List.mem_append.mp hq with hq | hq
      · exact .inl ⟨q, hq, hx, e⟩
      · rw [List.mem_singleton.mp hq] at hx; exact .inr hx
theorem Den.less {g : Graph} {ps : List (List Nat)} {most size : Nat} {mem : List Nat} (D : Den g ps most size mem) {p : List Nat} (h : win g p * size < most * p.length) :
    Den g (ps ++ [p]) most size mem := by
  refine ⟨D.pos, ?_, fun q hq => ?_, fun x => ?_⟩
  · rcases D.at_ with e | ⟨q, hq, e⟩
    · exact .inl e
    · exact .inr ⟨q, by simp [hq], e⟩
  · rcases List.mem_append.mp hq with hq | hq
    · exact D.ge q hq
    · rw [List.mem_singleton.mp hq]; exact Nat.le_of_lt h
  · rw [D.mem]
    constructor
    · rintro ⟨q, hq, hx, e⟩; exact ⟨q, by simp [hq], hx, e⟩
    · rintro ⟨q, hq, hx, e⟩
      rcases List.mem_append.mp hq with hq | hq
      · exact ⟨q, hq, hx, e⟩
      · rw [List.mem_singleton.mp hq] at e; omega
theorem mem_densest {g : Graph} {x : Nat} : x ∈ densest g ↔ ∃ s ∈ parts g, x ∈ s ∧ ∀ t ∈ parts g, win g t * s.length ≤ win g s * t.length := by
  unfold densest
  simp only [List.mem_filter, List.any_eq_true, List.all_eq_true, List.contains_iff_mem]
  constructor
  · rintro ⟨_, s, ⟨hs, h⟩, hx⟩
    exact ⟨s, hs, hx, fun t ht => of_decide_eq_true (h t ht)⟩
  · rintro ⟨s, hs, hx, h⟩
    refine ⟨?_, s, ⟨hs, fun t ht => decide_eq_true (h t ht)⟩, hx⟩
    rw [nodes_upto]
    exact (mem_parts.mp hs).2.subset hx
theorem densest_rises (g : Graph) : (densest g).Pairwise (· < ·) := (upto_sorted g.many).sublist List.filter_sublist
theorem densest_sub (g : Graph) : (densest g).Sublist (upto g.many) := List.filter_sublist
theorem Den.mem_iff {g : Graph} {most size : Nat} {mem : List Nat} (D : Den g (allParts g.many) most size mem) (h1 : 1 ≤ g.many) (x : Nat) : x ∈ mem ↔ x ∈ densest g := by
  rw [D.mem, mem_densest]
  have reach : ∃ p ∈ allParts g.many, win g p * size = most * p.length := by
    rcases D.at_ with ⟨rfl, rfl⟩ | ⟨p, hp, e1, e2⟩
    · have hp : [1] ∈ allParts g.many := mem_allParts.mpr ⟨by simp, List.singleton_sublist.mpr (mem_upto.mpr ⟨by omega, h1⟩)⟩
      have := D.ge _ hp
      exact ⟨[1], hp, by omega⟩
    · exact ⟨p, hp, by rw [e1, e2]⟩
  obtain ⟨p, hp, ep⟩ := reach
  constructor
  · rintro ⟨q, hq, hx, e⟩
    refine ⟨q, allParts_mem.mp hq, hx, fun t ht => ?_⟩
    exact cross_le D.pos (D.ge t (allParts_mem.mpr ht)) (Nat.le_of_eq e.symm)
  · rintro ⟨q, hq, hx, h⟩
    refine ⟨q, allParts_mem.mpr hq, hx, Nat.le_antisymm (D.ge q (allParts_mem.mpr hq)) ?_⟩
    have hpp := (part_le hp).1
    have h3 := h p (allParts_mem.mp hp)
    -- most / size = win p / |p| ≤ win q / |q|
    have e4 : most * p.length ≤ win g p * size := Nat.le_of_eq ep.symm
    exact cross_le (a := most) (b := size) (c := win g p) (d := p.length) (e := win g q) (f := q.length) (by omega) e4 h3
theorem densest_ne {g : Graph} (h1 : 1 ≤ g.many) {most size : Nat} {mem : List Nat} (D : Den g (allParts g.many) most size mem) : 0 < (densest g).length := by
  have : ∃ x, x ∈ densest g := by
    have hp : ∃ p ∈ allParts g.many, win g p * size = most * p.length := by
      rcases D.at_ with ⟨rfl, rfl⟩ | ⟨p, hp, e1, e2⟩
      · have hp : [1] ∈ allParts g.many := mem_allParts.mpr ⟨by simp, List.singleton_sublist.mpr (mem_upto.mpr ⟨by omega, h1⟩)⟩
        have := D.ge _ hp
        exact ⟨[1], hp, by omega⟩
      · exact ⟨p, hp, by rw [e1, e2]⟩
    obtain ⟨p, hp, e⟩ := hp
    cases p with
    | nil => exact absurd (part_le hp).1 (by simp)
    | cons x r => exact ⟨x, (D.mem_iff h1 x).mp ((D.mem x).mpr ⟨_, hp, by simp, e⟩)⟩
  obtain ⟨x, hx⟩ := this
  exact List.length_pos_of_mem hx
end Dp

set_option linter.all false
/-! Cores, turned edges and forests: what the specification says, said otherwise. -/
namespace Dp
open Gq06
/-! ### cores -/
theorem degreeIn_le (g : Graph) (s : List Nat) (x : Nat) : degreeIn g s x ≤ g.edges.length :=
  Nat.le_trans (List.length_filter_le _ _) (List.length_filter_le _ _)
theorem degreeIn_mono {g : Graph} {s t : List Nat} (h : ∀ x ∈ s, x ∈ t) (x : Nat) : degreeIn g s x ≤ degreeIn g t x := by
  unfold degreeIn inside
  rw [List.filter_filter, List.filter_filter, ← List.countP_eq_length_filter, ← List.countP_eq_length_filter]
  refine List.countP_mono_left fun e _ he => ?_
  simp only [Bool.and_eq_true, List.contains_iff_mem] at he ⊢
  exact ⟨he.1, h _ he.2.1, h _ he.2.2⟩
theorem coreFrom_fixed (g : Graph) (k : Nat) : ∀ (n : Nat) (s : List Nat), s.length ≤ n → coreStep g k (coreFrom g k n s) = coreFrom g k n s
  | 0, s, h => by
    have : s = [] := List.length_eq_zero_iff.mp (by omega)
    subst this
    rfl
  | n + 1, s, h => by
    by_cases c : (coreStep g k s).length < s.length
    · exact coreFrom_fixed g k n (coreStep g k s) (by omega)
    · have e := coreStep_fix c
      rw [coreFrom_fix e]
      exact e
theorem core_fixed (g : Graph) (k : Nat) : coreStep g k (core g k) = core g k := coreFrom_fixed g k g.many (upto g.many) (by rw [upto_length]; exact Nat.le_refl _)
theorem core_deg {g : Graph} {k x : Nat} (h : x ∈ core g k) : k ≤ degreeIn g (core g k) x := by
  have h1 : x ∈ coreStep g k (core g k) := by rw [core_fixed]; exact h
  exact of_decide_eq_true (List.mem_filter.mp h1).2
theorem core_max {g : Graph} {k : Nat} {s : List Nat} (hd : ∀ x ∈ s, k ≤ degreeIn g s x) : ∀ (n : Nat) (t : List Nat), (∀ x ∈ s, x ∈ t) → ∀ x ∈ s, x ∈ coreFrom g k n t
  | 0, t, h => h
  | n + 1, t, h => core_max hd n (coreStep g k t) fun x hx => List.mem_filter.mpr ⟨h x hx, decide_eq_true (Nat.le_trans (hd x hx) (degreeIn_mono h x))⟩
theorem core_mem_upto {g : Graph} {k x : Nat} (h : x ∈ core g k) : x ∈ upto g.many := (core_sub g k).subset h
theorem core_mono {g : Graph} {k k' x : Nat} (hk : k ≤ k') (h : x ∈ core g k') : x ∈ core g k :=
  core_max (s := core g k') (fun y hy => Nat.le_trans hk (core_deg hy)) g.many (upto g.many) (fun y hy => core_mem_upto hy) x h
theorem core_zero (g : Graph) : core g 0 = upto g.many := by
  refine coreFrom_fix ?_ g.many
  exact List.filter_eq_self.mpr fun x _ => decide_eq_true (Nat.zero_le _)
theorem foldl_max_ge : ∀ (l : List Nat) (a : Nat), a ≤ l.foldl max a
  | [], a => Nat.le_refl _
  | x :: l, a => Nat.le_trans (Nat.le_max_left a x) (foldl_max_ge l (max a x))
theorem foldl_max_mem : ∀ (l : List Nat) (a x : Nat), x ∈ l → x ≤ l.foldl max a
  | y :: l, a, x, h => by
    rcases List.mem_cons.mp h with rfl | h
    · exact Nat.le_trans (Nat.le_max_right a x) (foldl_max_ge l _)
    · exact foldl_max_mem l _ x h
theorem foldl_max_in : ∀ (l : List Nat) (a : Nat), l.foldl max a = a ∨ l.foldl max a ∈ l
  | [], a => .inl rfl
  | x :: l, a => by
    rcases foldl_max_in l (max a x) with h | h
    · show l.foldl max (max a x) = a ∨ l.foldl max (max a x) ∈ x :: l
      rw [h]
      by_cases c : a ≤ x
      · rw [Nat.max_eq_right c]; exact .inr (by simp)
      · rw [Nat.max_eq_left (by omega)]; exact .inl rfl
    · exact .inr (List.mem_cons_of_mem _ h)
/-- **a node is in the core k just if its core is k or more** -/
theorem mem_core_iff {g : Graph} {x k : Nat} (hx : x ∈ upto g.many) : x ∈ core g k ↔ k ≤ coreOf g x := by
  have inl : ∀ j, j ∈ ((List.range (g.edges.length + 1)).filter fun k => (core g k).contains x) ↔ j ≤ g.edges.length ∧ x ∈ core g j := fun j => by
    rw [List.mem_filter, List.mem_range, List.contains_iff_mem]
    exact ⟨fun ⟨a, b⟩ => ⟨by omega, b⟩, fun ⟨a, b⟩ => ⟨by omega, b⟩⟩
  have top : x ∈ core g (coreOf g x) := by
    rcases foldl_max_in ((List.range (g.edges.length + 1)).filter fun k => (core g k).contains x) 0 with h | h
    · have e : coreOf g x = 0 := h
      rw [e, core_zero]; exact hx
    · exact ((inl _).mp h).2
  constructor
  · intro h
    have hk : k ≤ g.edges.length := Nat.le_trans (core_deg h) (degreeIn_le g _ x)
    exact foldl_max_mem _ 0 k ((inl k).mpr ⟨hk, h⟩)
  · intro h
    exact core_mono h top
theorem coreOf_le (g : Graph) {x : Nat} (hx : x ∈ upto g.many) : coreOf g x ≤ g.edges.length :=
  Nat.le_trans (core_deg ((mem_core_iff hx).mpr (Nat.le_refl _))) (degreeIn_le g _ x)
/-! ### how many lead to whom the most do -/
theorem foldr_max_le {l : List Nat} {k : Nat} : l.foldr max 0 ≤ k ↔ ∀ x ∈ l, x ≤ k := by
  induction l with
  | nil => simp
  | cons a l ih => simp only [List.foldr_cons, Nat.max_le, ih, List.mem_cons, forall_eq_or_imp]
theorem up_le {a b k : Nat} (hb : 0 < b) : up a b ≤ k ↔ a ≤ k * b := by
  unfold up
  rw [if_neg (by omega), Nat.div_le_iff_le_mul_add_pred hb]
  have : b * k = k * b := Nat.mul_comm ..
  omega
/-- **fewest**: most g is at most k just if no part has more than k edges for each node -/
theorem most_le {g : Graph} {k : Nat} : most g ≤ k ↔ ∀ s ∈ parts g, win g s ≤ k * s.length := by
  unfold most
  rw [foldr_max_le]
  constructor
  · intro h s hs
    exact (up_le (part_le (allParts_mem.mpr hs)).1).mp (h _ (List.mem_map.mpr ⟨s, hs, rfl⟩))
  · intro h x hx
    obtain ⟨s, hs, rfl⟩ := List.mem_map.mp hx
    exact (up_le (part_le (allParts_mem.mpr hs)).1).mpr (h s hs)
theorem forests_le {g : Graph} {k : Nat} : forests g ≤ k ↔ ∀ s ∈ parts g, 2 ≤ s.length → win g s ≤ k * (s.length - 1) := by
  unfold forests
  rw [foldr_max_le]
  constructor
  · intro h s hs h2
    exact (up_le (by omega)).mp (h _ (List.mem_map.mpr ⟨s, List.mem_filter.mpr ⟨hs, decide_eq_true h2⟩, rfl⟩))
  · intro h x hx
    obtain ⟨s, hs, rfl⟩ := List.mem_map.mp hx
    obtain ⟨hs, h2⟩ := List.mem_filter.mp hs
    have h2 := of_decide_eq_true h2
    exact (up_le (by omega)).mpr (h s hs h2)
end Dp

set_option linter.all false
/-! Edges turned (after Hakimi): what canTurn says, by parts, is that there is a way. -/
namespace Dp
open Gq06
def sm (c : Nat → Nat) (s : List Nat) : Nat := (s.map c).foldr (fun a n => a + n) 0
theorem sm_nil (c : Nat → Nat) : sm c [] = 0 := rfl
theorem sm_cons (c : Nat → Nat) (x : Nat) (s : List Nat) : sm c (x :: s) = c x + sm c s := rfl
theorem sm_split (c : Nat → Nat) (p q : Nat → Bool) : ∀ N : List Nat, sm c (N.filter fun x => p x || q x) + sm c (N.filter fun x => p x && q x) = sm c (N.filter p) + sm c (N.filter q)
  | [] => rfl
  | x :: N => by
    have ih := sm_split c p q N
    cases hp : p x <;> cases hq : q x <;> simp [List.filter_cons, hp, hq, sm_cons] <;> omega
theorem len_split (p q : Nat → Bool) : ∀ N : List Nat, (N.filter fun x => p x || q x).length + (N.filter fun x => p x && q x).length = (N.filter p).length + (N.filter q).length
  | [] => rfl
  | x :: N => by
    have ih := len_split p q N
    cases hp : p x <;> cases hq : q x <;> simp [List.filter_cons, hp, hq] <;> omega
/-- edges both of whose ends have the property -/
def ins (l : List (Nat × Nat)) (p : Nat → Bool) : Nat := (l.filter fun e => p e.1 && p e.2).length
theorem ins_nil (p : Nat → Bool) : ins [] p = 0 := rfl
theorem ins_cons (e : Nat × Nat) (l : List (Nat × Nat)) (p : Nat → Bool) : ins (e :: l) p = (if (p e.1 && p e.2) = true then 1 else 0) + ins l p := by
  unfold ins
  rw [List.filter_cons]
  split
  · rw [List.length_cons]; omega
  · omega
theorem ins_super (p q : Nat → Bool) : ∀ l : List (Nat × Nat), ins l p + ins l q ≤ ins l (fun x => p x || q x) + ins l (fun x => p x && q x)
  | [] => Nat.le_refl _
  | e :: l => by
    have ih := ins_super p q l
    simp only [ins_cons]
    cases p e.1 <;> cases p e.2 <;> cases q e.1 <;> cases q e.2 <;> simp <;> omega
def bump (got : Nat → Nat) (c : Nat) : Nat → Nat := fun x => if x = c then got x + 1 else got x
theorem sm_bump (got : Nat → Nat) (a : Nat) : ∀ {s : List Nat}, s.Nodup → sm (bump got a) s = sm got s + if a ∈ s then 1 else 0
  | [], _ => rfl
  | x :: s, h => by
    have hx : x ∉ s := (List.nodup_cons.mp h).1
    have ih := sm_bump got a (List.nodup_cons.mp h).2
    rw [sm_cons, sm_cons, ih]
    by_cases e : x = a
    · subst e
      rw [show bump got x x = got x + 1 from if_pos rfl, if_neg hx, if_pos (by simp)]
      omega
    · rw [show bump got a x = got x from if_neg e]
      have : (a ∈ x :: s) ↔ a ∈ s := by
        rw [List.mem_cons]
        exact ⟨fun h => h.elim (fun z => absurd z.symm e) id, .inr⟩
      simp only [this]
      omega
/-- what is asked of a set of nodes -/
def Fits (n k : Nat) (got : Nat → Nat) (l : List (Nat × Nat)) (p : Nat → Bool) : Prop := ins l p + sm got ((upto n).filter p) ≤ k * ((upto n).filter p).length
def Within (n : Nat) (l : List (Nat × Nat)) : Prop := ∀ e ∈ l, e.1 ∈ upto n ∧ e.2 ∈ upto n
theorem upto_nodup (n : Nat) : (upto n).Nodup := (upto_sorted n).imp fun h => Nat.ne_of_lt h
theorem sublist_filter {n : Nat} {s : List Nat} (h : s.Sublist (upto n)) : s = (upto n).filter fun x => s.contains x := by
  refine eq_of_rising (part_rises h) ((upto_sorted n).sublist List.filter_sublist) fun x => ?_
  rw [List.mem_filter, List.contains_iff_mem]
  exact ⟨fun hx => ⟨h.subset hx, hx⟩, fun hx => hx.2⟩
theorem fits_empty {n k : Nat} {got : Nat → Nat} {l : List (Nat × Nat)} {p : Nat → Bool} (hl : Within n l) (h : (upto n).filter p = []) : Fits n k got l p := by
  have no : ∀ x ∈ upto n, p x = false := fun x hx => by
    cases hp : p x with
    | false => rfl
    | true =>
      have : x ∈ (upto n).filter p := List.mem_filter.mpr ⟨hx, hp⟩
      rw [h] at this
      cases this
  have e0 : ins l p = 0 := by
    unfold ins
    rw [List.length_eq_zero_iff, List.filter_eq_nil_iff]
    intro e he
    rw [no _ (hl e he).1]
    simp
  unfold Fits
  rw [h, e0]
  simp [sm_nil]
theorem canTurn_iff {g : Graph} {k : Nat} {got : Nat → Nat} {l : List (Nat × Nat)} (hl : Within g.many l) : canTurn g k got l = true ↔ ∀ p : Nat → Bool, Fits g.many k got l p := by
  have same : ∀ {s : List Nat} {p : Nat → Bool}, (∀ x ∈ upto g.many, s.contains x = p x) → (l.filter fun e => s.contains e.1 && s.contains e.2).length = ins l p := fun {s p} h => by
    unfold ins
    congr 1
    refine List.filter_congr fun e he => ?_
    rw [h _ (hl e he).1, h _ (hl e he).2]
  unfold canTurn
  rw [List.all_eq_true]
  constructor
  · intro h p
    by_cases hp : (upto g.many).filter p = []
    · exact fits_empty hl hp
    · have hs : (upto g.many).filter p ∈ parts g := mem_parts.mpr ⟨hp, List.filter_sublist⟩
      have q := of_decide_eq_true (h _ hs)
      rw [same (p := p) fun x hx => by
        rw [Bool.eq_iff_iff, List.contains_iff_mem, List.mem_filter]
        exact ⟨fun z => z.2, fun z => ⟨hx, z⟩⟩] at q
      exact q
  · intro h s hs
    have e := sublist_filter (mem_parts.mp hs).2
    have q := h fun x => s.contains x
    unfold Fits at q
    rw [← e] at q
    exact decide_eq_true q
theorem fits_cons {n k : Nat} {got : Nat → Nat} {a b : Nat} {l : List (Nat × Nat)} {p : Nat → Bool} : Fits n k got ((a, b) :: l) p ↔ ((if (p a && p b) = true then 1 else 0) + ins l p) + sm got ((upto n).filter p) ≤ k * ((upto n).filter p).length := by
  unfold Fits
  rw [ins_cons]
theorem fits_bump {n k : Nat} {got : Nat → Nat} {a : Nat} {l : List (Nat × Nat)} {p : Nat → Bool} (ha : a ∈ upto n) : Fits n k (bump got a) l p ↔ ins l p + (sm got ((upto n).filter p) + if p a = true then 1 else 0) ≤ k * ((upto n).filter p).length := by
  unfold Fits
  have e : (a ∈ (upto n).filter p) ↔ p a = true := by
    rw [List.mem_filter]
    exact ⟨fun z => z.2, fun z => ⟨ha, z⟩⟩
  have hn : ((upto n).filter p).Nodup := (upto_nodup n).sublist List.filter_sublist
  rw [sm_bump got a hn]
  simp only [e]
/-- one edge at least can be turned to one of its ends, and the others still can -/
theorem fits_either {n k : Nat} {got : Nat → Nat} {a b : Nat} {l : List (Nat × Nat)} (ha : a ∈ upto n) (hb : b ∈ upto n) (hl : Within n l) (h : ∀ p, Fits n k got ((a, b) :: l) p) : (∀ p, Fits n k (bump got a) l p) ∨ ∀ p, Fits n k (bump got b) l p := by
  refine Classical.byContradiction fun no => ?_
  rw [not_or, Classical.not_forall, Classical.not_forall] at no
  obtain ⟨⟨p, hp⟩, q, hq⟩ := no
  rw [fits_bump ha] at hp
  rw [fits_bump hb] at hq
  have fp := fits_cons.mp (h p)
  have fq := fits_cons.mp (h q)
  have fu := fits_cons.mp (h fun x => p x || q x)
  have fi := fits_cons.mp (h fun x => p x && q x)
  have sp := ins_super p q l
  have s1 := sm_split got p q (upto n)
  have s2 := len_split p q (upto n)
  have s3 : k * ((upto n).filter fun x => p x || q x).length + k * ((upto n).filter fun x => p x && q x).length = k * ((upto n).filter p).length + k * ((upto n).filter q).length := by
    rw [← Nat.mul_add, ← Nat.mul_add, s2]
  cases pa : p a <;> cases pb : p b <;> cases qa : q a <;> cases qb : q b <;> simp [pa, pb, qa, qb] at hp hq fp fq fu fi <;> omega
theorem fits_back {n k : Nat} {got : Nat → Nat} {a b : Nat} {l : List (Nat × Nat)} (ha : a ∈ upto n) (h : ∀ p, Fits n k (bump got a) l p) : ∀ p, Fits n k got ((a, b) :: l) p := fun p => by
  have q := (fits_bump ha).mp (h p)
  refine fits_cons.mpr ?_
  cases pa : p a <;> cases pb : p b <;> simp [pa, pb] at q ⊢ <;> omega
theorem fits_back2 {n k : Nat} {got : Nat → Nat} {a b : Nat} {l : List (Nat × Nat)} (hb : b ∈ upto n) (h : ∀ p, Fits n k (bump got b) l p) : ∀ p, Fits n k got ((a, b) :: l) p := fun p => by
  have q := (fits_bump hb).mp (h p)
  refine fits_cons.mpr ?_
  cases pa : p a <;> cases pb : p b <;> simp [pa, pb] at q ⊢ <;> omega
/-- there is a way: edge by edge to one of its ends, at most k to each node in the end -/
def Way (n k : Nat) : (Nat → Nat) → List (Nat × Nat) → Prop
  | got, [] => ∀ x ∈ upto n, got x ≤ k
  | got, e :: l => Way n k (bump got e.1) l ∨ Way n k (bump got e.2) l
theorem fits_nil {n k : Nat} {got : Nat → Nat} : (∀ p, Fits n k got [] p) ↔ ∀ x ∈ upto n, got x ≤ k := by
  constructor
  · intro h x hx
    have q := h fun y => y == x
    have e : (upto n).filter (fun y => y == x) = [x] := by
      refine eq_of_rising ((upto_sorted n).sublist List.filter_sublist) (by simp) fun y => ?_
      rw [List.mem_filter, beq_iff_eq, List.mem_singleton]
      exact ⟨fun z => z.2, fun z => ⟨z ▸ hx, z⟩⟩
    unfold Fits at q
    rw [e, ins_nil] at q
    simp [sm_cons, sm_nil] at q
    exact q
  · intro h p
    unfold Fits
    rw [ins_nil, Nat.zero_add]
    have : ∀ s : List Nat, (∀ x ∈ s, got x ≤ k) → sm got s ≤ k * s.length := by
      intro s
      induction s with
      | nil => intro _; simp [sm_nil]
      | cons y s ih =>
        intro hs
        have h1 := hs y (by simp)
        have h2 := ih fun x hx => hs x (by simp [hx])
        rw [sm_cons, List.length_cons, Nat.mul_succ]
        omega
    exact this _ fun x hx => h x (List.mem_filter.mp hx).1
/-- **Hakimi**: just where the parts allow it, there is a way -/
theorem hakimi {n k : Nat} : ∀ (l : List (Nat × Nat)) (got : Nat → Nat), Within n l → ((∀ p, Fits n k got l p) ↔ Way n k got l)
  | [], got, _ => fits_nil
  | (a, b) :: l, got, hl => by
    have ha := (hl (a, b) (by simp)).1
    have hb := (hl (a, b) (by simp)).2
    have hl' : Within n l := fun e he => hl e (by simp [he])
    constructor
    · intro h
      rcases fits_either ha hb hl' h with h | h
      · exact .inl ((hakimi l _ hl').mp h)
      · exact .inr ((hakimi l _ hl').mp h)
    · rintro (h | h)
      · exact fits_back ha ((hakimi l _ hl').mpr h)
      · exact fits_back2 hb ((hakimi l _ hl').mpr h)
theorem canTurn_way {g : Graph} {k : Nat} {got : Nat → Nat} {l : List (Nat × Nat)} (hl : Within g.many l) : canTurn g k got l = true ↔ Way g.many k got l := (canTurn_iff hl).trans (hakimi l got hl)
/-- most g is the least k for which there is a way -/
theorem most_way {g : Graph} {k : Nat} (hl : Within g.many g.edges) : most g ≤ k ↔ Way g.many k (fun _ => 0) g.edges := by
  rw [← canTurn_way hl, most_le]
  unfold canTurn
  rw [List.all_eq_true]
  have z : ∀ s : List Nat, (s.map fun _ => 0).foldr (fun a n => a + n) 0 = 0 := fun s => by
    induction s with
    | nil => rfl
    | cons x s ih => simp [ih]
  constructor
  · intro h s hs
    refine decide_eq_true ?_
    rw [z s]
    exact h s hs
  · intro h s hs
    have q := of_decide_eq_true (h s hs)
    rw [z s] at q
    exact q
/-- at each edge of turned there is still a way behind it -/
theorem turn_way {g : Graph} {k : Nat} {e : Nat × Nat} {l : List (Nat × Nat)} {got : Nat → Nat} (hl : Within g.many (e :: l)) (h : Way g.many k got (e :: l)) :
    turnFrom g k (e :: l) got = (if canTurn g k (bump got (min e.1 e.2)) l = true then true :: turnFrom g k l (bump got (min e.1 e.2)) else false :: turnFrom g k l (bump got (max e.1 e.2))) ∧
    (canTurn g k (bump got (min e.1 e.2)) l = true ∨ Way g.many k (bump got (max e.1 e.2)) l) := by
  refine ⟨rfl, ?_⟩
  have hl' : Within g.many l := fun d hd => hl d (by simp [hd])
  rw [canTurn_way hl']
  obtain ⟨a, b⟩ := e
  rcases Nat.le_total a b with c | c
  · rw [show min a b = a by omega, show max a b = b by omega]; exact h
  · rw [show min a b = b by omega, show max a b = a by omega]; exact h.symm
end Dp

set_option linter.all false
/-! Peeled: which node goes next. -/
namespace Dp
open Gq06
/-- one turn of the specification's search -/
def pick (f : Nat → Nat) (b : Option (Nat × Nat)) (x : Nat) : Option (Nat × Nat) := match b with
  | none => some (x, f x)
  | some y => if f x < y.2 then some (x, f x) else some y
theorem pick_front {f : Nat → Nat} {m : Nat} : ∀ (l : List Nat) (b : Option (Nat × Nat)), (∀ z ∈ l, m < f z) → (b = none ∨ ∃ z, b = some z ∧ m < z.2) → (l.foldl (pick f) b = none ∨ ∃ z, l.foldl (pick f) b = some z ∧ m < z.2)
  | [], b, _, hb => hb
  | x :: l, b, h, hb => by
    refine pick_front l (pick f b x) (fun z hz => h z (by simp [hz])) (.inr ?_)
    rcases hb with rfl | ⟨z, rfl, hz⟩
    · exact ⟨_, rfl, h x (by simp)⟩
    · unfold pick
      dsimp only
      split
      · exact ⟨_, rfl, h x (by simp)⟩
      · exact ⟨_, rfl, hz⟩
theorem pick_back {f : Nat → Nat} {y : Nat × Nat} : ∀ (l : List Nat), (∀ z ∈ l, y.2 ≤ f z) → l.foldl (pick f) (some y) = some y
  | [], _ => rfl
  | x :: l, h => by
    have h1 : ¬ f x < y.2 := by
      have := h x (by simp)
      omega
    show l.foldl (pick f) (if f x < y.2 then some (x, f x) else some y) = some y
    rw [if_neg h1]
    exact pick_back l fun z hz => h z (by simp [hz])
/-- **who goes**: the one with the fewest, of several the lowest -/
theorem pick_is {f : Nat → Nat} {s : List Nat} (hs : s.Pairwise (· < ·)) {y : Nat} (hy : y ∈ s) (h : ∀ z ∈ s, f y < f z ∨ (f y = f z ∧ y ≤ z)) : s.foldl (pick f) none = some (y, f y) := by
  obtain ⟨a, b, rfl⟩ := List.append_of_mem hy
  rw [List.foldl_append, List.foldl_cons]
  have hs2 := List.pairwise_append.mp hs
  have ha : ∀ z ∈ a, f y < f z := fun z hz => by
    have h1 := hs2.2.2 z hz y (by simp)
    rcases h z (by simp [hz]) with h2 | h2 <;> omega
  have hb : ∀ z ∈ b, f y ≤ f z := fun z hz => by
    rcases h z (by simp [hz]) with h2 | h2 <;> omega
  have e : pick f (a.foldl (pick f) none) y = some (y, f y) := by
    rcases pick_front (m := f y) a none ha (.inl rfl) with h1 | ⟨z, h1, h2⟩
    · rw [h1]; rfl
    · rw [h1]; exact if_pos h2
  rw [e]
  exact pick_back b hb
theorem peelFrom_succ (g : Graph) (n : Nat) (s : List Nat) : peelFrom g (n + 1) s = match s.foldl (pick (degreeIn g s)) none with
    | none => []
    | some y => y :: peelFrom g n (s.filter fun x => x != y.1) := rfl
theorem peel_turn {g : Graph} {n : Nat} {s : List Nat} (hs : s.Pairwise (· < ·)) {y : Nat} (hy : y ∈ s) (h : ∀ z ∈ s, degreeIn g s y < degreeIn g s z ∨ (degreeIn g s y = degreeIn g s z ∧ y ≤ z)) :
    peelFrom g (n + 1) s = (y, degreeIn g s y) :: peelFrom g n (s.filter fun x => x != y) := by
  rw [peelFrom_succ, pick_is hs hy h]
theorem peel_nil (g : Graph) (n : Nat) : peelFrom g n [] = [] := by cases n <;> rfl
/-- a node's edges to the others are its edges to the others without itself -/
theorem degTo_without {g : Graph} (hd : ∀ d ∈ g.edges, d.1 ≠ d.2) (x : Nat) (s : List Nat) : degTo g x (s.filter fun y => y != x) = degTo g x s := by
  unfold degTo
  congr 1
  refine List.filter_congr fun d hd' => ?_
  have hne := hd d hd'
  have c : ∀ y, y ≠ x → (s.filter fun y => y != x).contains y = s.contains y := fun y hy => by
    rw [Bool.eq_iff_iff, List.contains_iff_mem, List.contains_iff_mem, List.mem_filter]
    exact ⟨fun z => z.1, fun z => ⟨z, by simpa using hy⟩⟩
  by_cases h1 : d.1 = x
  · have h2 : d.2 ≠ x := fun e => hne (h1.trans e.symm)
    rw [c d.2 h2, show (d.2 == x) = false from beq_eq_false_iff_ne.mpr h2]
    simp
  · by_cases h2 : d.2 = x
    · rw [c d.1 h1, show (d.1 == x) = false from beq_eq_false_iff_ne.mpr h1]
      simp
    · rw [show (d.1 == x) = false from beq_eq_false_iff_ne.mpr h1, show (d.2 == x) = false from beq_eq_false_iff_ne.mpr h2]
      simp
end Dp

set_option linter.all false
/-! What the program's loops of the second stage keep, in plain Lean. -/
namespace Dp
open Gq06
/-! ### the greatest of what the parts need -/
def wider (n : Nat) : List (List Nat) := (allParts n).filter fun s => decide (1 < s.length)
def needs (g : Graph) : List Nat := (allParts g.many).map fun s => up (win g s) s.length
def needsF (g : Graph) : List Nat := (wider g.many).map fun s => up (win g s) (s.length - 1)
theorem most_ge {g : Graph} : ∀ x ∈ needs g, x ≤ most g := fun x hx => by
  obtain ⟨s, hs, rfl⟩ := List.mem_map.mp hx
  exact (foldr_max_le.mp (Nat.le_refl (most g))) _ (List.mem_map.mpr ⟨s, allParts_mem.mp hs, rfl⟩)
theorem most_is {g : Graph} {m : Nat} (hm : m ∈ needs g) (h : ∀ x ∈ needs g, x ≤ m) : m = most g :=
  Nat.le_antisymm (most_ge m hm) (foldr_max_le.mpr fun x hx => by
    obtain ⟨s, hs, rfl⟩ := List.mem_map.mp hx
    exact h _ (List.mem_map.mpr ⟨s, allParts_mem.mpr hs, rfl⟩))
theorem most_none {g : Graph} (h : needs g = []) : most g = 0 :=
  Nat.le_antisymm (foldr_max_le.mpr fun x hx => by
    obtain ⟨s, hs, rfl⟩ := List.mem_map.mp hx
    have : up (win g s) s.length ∈ needs g := List.mem_map.mpr ⟨s, allParts_mem.mpr hs, rfl⟩
    rw [h] at this
    cases this) (Nat.zero_le _)
theorem mem_wider {g : Graph} {s : List Nat} : s ∈ wider g.many ↔ s ∈ parts g ∧ 2 ≤ s.length := by
  unfold wider
  rw [List.mem_filter, allParts_mem, decide_eq_true_eq]
  rfl
theorem forests_ge {g : Graph} : ∀ x ∈ needsF g, x ≤ forests g := fun x hx => by
  obtain ⟨s, hs, rfl⟩ := List.mem_map.mp hx
  obtain ⟨h1, h2⟩ := mem_wider.mp hs
  exact (foldr_max_le.mp (Nat.le_refl (forests g))) _ (List.mem_map.mpr ⟨s, List.mem_filter.mpr ⟨h1, decide_eq_true h2⟩, rfl⟩)
theorem forests_is {g : Graph} {m : Nat} (hm : m ∈ needsF g) (h : ∀ x ∈ needsF g, x ≤ m) : m = forests g :=
  Nat.le_antisymm (forests_ge m hm) (foldr_max_le.mpr fun x hx => by
    obtain ⟨s, hs, rfl⟩ := List.mem_map.mp hx
    obtain ⟨h1, h2⟩ := List.mem_filter.mp hs
    exact h _ (List.mem_map.mpr ⟨s, mem_wider.mpr ⟨h1, of_decide_eq_true h2⟩, rfl⟩))
theorem forests_none {g : Graph} (h : needsF g = []) : forests g = 0 :=
  Nat.le_antisymm (foldr_max_le.mpr fun x hx => by
    obtain ⟨s, hs, rfl⟩ := List.mem_map.mp hx
    obtain ⟨h1, h2⟩ := List.mem_filter.mp hs
    have : up (win g s) (s.length - 1) ∈ needsF g := List.mem_map.mpr ⟨s, mem_wider.mpr ⟨h1, of_decide_eq_true h2⟩, rfl⟩
    rw [h] at this
    cases this) (Nat.zero_le _)
theorem up_int {a b : Nat} (hb : 0 < b) : ((a : Int) + (b : Int) - 1) / (b : Int) = ((up a b : Nat) : Int) := by
  unfold up
  rw [if_neg (by omega), Int.natCast_ediv]
  congr 1
  omega
/-! ### tight -/
def isTight (g : Graph) (k : Nat) (s : List Nat) : Bool := decide (k * (s.length - 1) ≤ win g s)
theorem mem_tightIn {g : Graph} {k x : Nat} : x ∈ tightIn g k ↔ ∃ s ∈ wider g.many, isTight g k s = true ∧ x ∈ s := by
  unfold tightIn isTight
  simp only [List.mem_filter, List.any_eq_true, List.contains_iff_mem, Bool.and_eq_true, decide_eq_true_eq]
  constructor
  · rintro ⟨_, s, hs, hx, h2, h3⟩
    exact ⟨s, mem_wider.mpr ⟨hs, h2⟩, h3, hx⟩
  · rintro ⟨s, hs, h3, hx⟩
    obtain ⟨h1, h2⟩ := mem_wider.mp hs
    refine ⟨?_, s, h1, hx, h2, h3⟩
    rw [nodes_upto]
    exact (mem_parts.mp h1).2.subset hx
theorem tight_sub (g : Graph) (k : Nat) : (tightIn g k).Sublist (upto g.many) := List.filter_sublist
theorem tight_rises (g : Graph) (k : Nat) : (tightIn g k).Pairwise (· < ·) := (upto_sorted g.many).sublist (tight_sub g k)
/-! ### cores -/
def coresTo (g : Graph) (k : Nat) : List Nat := (upto g.many).map fun x => min (coreOf g x) k
theorem coresTo_zero (g : Graph) : coresTo g 0 = List.replicate g.many 0 := by
  unfold coresTo
  rw [List.eq_replicate_iff]
  refine ⟨by rw [List.length_map, upto_length], fun b hb => ?_⟩
  obtain ⟨x, _, rfl⟩ := List.mem_map.mp hb
  exact Nat.min_zero _
theorem coresTo_done {g : Graph} {k : Nat} (h : core g (k + 1) = []) : coresTo g k = (nodes g).map (coreOf g) := by
  rw [nodes_upto]
  refine List.map_congr_left fun x hx => ?_
  have h1 : ¬ k + 1 ≤ coreOf g x := fun c => by
    have := (mem_core_iff hx).mpr c
    rw [h] at this
    cases this
  omega
theorem core_k_le {g : Graph} {k x : Nat} (h : x ∈ core g k) : k ≤ g.edges.length := Nat.le_trans (core_deg h) (degreeIn_le g _ x)
/-- some of the nodes of the core k + 1 are set -/
theorem coresTo_set {g : Graph} {k : Nat} {l : List Nat} (hl : l.length = g.many) (hall : ∀ j, j < g.many → l[j]? = some (if j + 1 ∈ core g (k + 1) then k + 1 else min (coreOf g (j + 1)) k)) : l = coresTo g (k + 1) := by
  apply List.ext_getElem?
  intro j
  unfold coresTo
  rw [List.getElem?_map]
  by_cases hj : j < g.many
  · rw [hall j hj]
    have e : (upto g.many)[j]? = some (j + 1) := by
      unfold upto
      rw [List.getElem?_map, List.getElem?_range hj]
      rfl
    rw [e, Option.map_some]
    have hm : j + 1 ∈ upto g.many := mem_upto.mpr ⟨by omega, by omega⟩
    by_cases c : j + 1 ∈ core g (k + 1)
    · rw [if_pos c]
      have := (mem_core_iff hm).mp c
      rw [Nat.min_eq_right this]
    · rw [if_neg c]
      have : ¬ k + 1 ≤ coreOf g (j + 1) := fun z => c ((mem_core_iff hm).mpr z)
      congr 1
      omega
  · rw [List.getElem?_eq_none (by omega), List.getElem?_eq_none (by rw [upto_length]; omega)]
    rfl
/-! ### peeled -/
def First (g : Graph) (s : List Nat) (y : Nat) : Prop := y ∈ s ∧ ∀ z ∈ s, degTo g y s < degTo g z s ∨ (degTo g y s = degTo g z s ∧ y ≤ z)
theorem first_of {g : Graph} {s : List Nat} (hs : s.Pairwise (· < ·)) {j y : Nat} (hj : s[j]? = some y) (hm : ∀ z ∈ s, degTo g y s ≤ degTo g z s) (hf : ∀ m z, m < j → s[m]? = some z → degTo g z s ≠ degTo g y s) : First g s y := by
  refine ⟨List.mem_of_getElem? hj, fun z hz => ?_⟩
  obtain ⟨m, hml, rfl⟩ := List.getElem_of_mem hz
  have h1 := hm s[m] hz
  by_cases e : degTo g y s = degTo g s[m] s
  · refine .inr ⟨e, ?_⟩
    obtain ⟨hjl, rfl⟩ := List.getElem?_eq_some_iff.mp hj
    by_cases c : m < j
    · exact absurd e.symm (hf m s[m] c (List.getElem?_eq_getElem hml))
    · by_cases c2 : m = j
      · subst c2; exact Nat.le_refl _
      · exact Nat.le_of_lt (List.pairwise_iff_getElem.mp hs j m hjl hml (by omega))
  · exact .inl (by omega)
structure Peeling (g : Graph) (dn : List (Nat × Nat)) (s : List Nat) : Prop where
  up : s.Pairwise (· < ·)
  sub : s.Sublist (upto g.many)
  all : peel g = dn ++ peelFrom g s.length s
  len : dn.length + s.length = g.many
theorem Peeling.start (g : Graph) : Peeling g [] (upto g.many) := ⟨upto_sorted _, List.Sublist.refl _, by rw [upto_length]; rfl, by rw [upto_length]; simp⟩
theorem filter_ne_self : ∀ {s : List Nat} {y : Nat}, y ∉ s → (s.filter fun x => x != y) = s := fun {s y} h => List.filter_eq_self.mpr fun x hx => by
  have : x ≠ y := fun e => h (e ▸ hx)
  simpa using this
theorem erase_ne : ∀ {s : List Nat} (_ : s.Nodup) {j y : Nat} (_ : s[j]? = some y), s.eraseIdx j = s.filter fun x => x != y
  | [], _, j, y, hj => by simp at hj
  | x :: s, hs, 0, y, hj => by
    have e : x = y := Option.some.inj hj
    subst e
    rw [List.filter_cons, if_neg (by simp), filter_ne_self (List.nodup_cons.mp hs).1]
    rfl
  | x :: s, hs, j + 1, y, hj => by
    have hj' : s[j]? = some y := hj
    have hne : x ≠ y := fun e => (List.nodup_cons.mp hs).1 (e ▸ List.mem_of_getElem? hj')
    rw [List.filter_cons, if_pos (by simpa using hne), ← erase_ne (List.nodup_cons.mp hs).2 hj']
    rfl
theorem filter_ne_len {s : List Nat} (hs : s.Nodup) {y : Nat} (hy : y ∈ s) : (s.filter fun x => x != y).length + 1 = s.length := by
  obtain ⟨j, hj, rfl⟩ := List.getElem_of_mem hy
  rw [← erase_ne hs (List.getElem?_eq_getElem hj), List.length_eraseIdx_of_lt hj]
  omega
theorem Peeling.turn {g : Graph} {dn : List (Nat × Nat)} {s : List Nat} (P : Peeling g dn s) {y : Nat} (F : First g s y) : Peeling g (dn ++ [(y, degTo g y s)]) (s.filter fun x => x != y) := by
  have nd : s.Nodup := P.up.imp fun h => Nat.ne_of_lt h
  have hl := filter_ne_len nd F.1
  refine ⟨P.up.sublist List.filter_sublist, List.filter_sublist.trans P.sub, ?_, ?_⟩
  · rw [P.all, ← hl, peel_turn P.up F.1 fun z hz => ?_, degTo_eq F.1, List.append_assoc]
    · rfl
    · have := F.2 z hz
      rw [degTo_eq F.1, degTo_eq hz] at this
      exact this
  · have := P.len
    rw [List.length_append, List.length_singleton]
    omega
theorem Peeling.done {g : Graph} {dn : List (Nat × Nat)} (P : Peeling g dn []) : peel g = dn ∧ dn.length = g.many := by
  have h1 := P.all
  have h2 := P.len
  rw [peel_nil, List.append_nil] at h1
  exact ⟨h1, by simpa using h2⟩
/-! ### turned -/
def roomOf (k : Nat) (got : Nat → Nat) (l : List (Nat × Nat)) (s : List Nat) : Int := ((k * s.length : Nat) : Int) - ((l.filter fun e => s.contains e.1 && s.contains e.2).length : Nat) - ((sm got s : Nat) : Int)
theorem sm_zero (s : List Nat) : sm (fun _ => 0) s = 0 := by
  induction s with
  | nil => rfl
  | cons x s ih => rw [sm_cons, ih]
theorem room_start (g : Graph) (k : Nat) (s : List Nat) : roomOf k (fun _ => 0) g.edges s = ((k : Nat) : Int) * ((s.length : Nat) : Int) - ((win g s : Nat) : Int) := by
  unfold roomOf
  rw [sm_zero, Int.natCast_mul]
  show _ - ((win g s : Nat) : Int) - 0 = _
  omega
theorem room_turn {k : Nat} {got : Nat → Nat} {x y c d : Nat} {l : List (Nat × Nat)} {s : List Nat} (hs : s.Nodup) (h : (c = x ∧ d = y) ∨ (c = y ∧ d = x)) : roomOf k (bump got c) l s = roomOf k got ((x, y) :: l) s - if (s.contains c && !s.contains d) = true then 1 else 0 := by
  unfold roomOf
  rw [sm_bump got c hs, List.filter_cons]
  have hc : (c ∈ s) ↔ s.contains c = true := List.contains_iff_mem.symm
  simp only [hc]
  rcases h with ⟨rfl, rfl⟩ | ⟨rfl, rfl⟩ <;> cases h1 : s.contains c <;> cases h2 : s.contains d <;> simp [h1, h2] <;> omega
theorem canTurn_room {g : Graph} {k : Nat} {got : Nat → Nat} {l : List (Nat × Nat)} : canTurn g k got l = true ↔ ∀ s ∈ allParts g.many, 0 ≤ roomOf k got l s := by
  unfold canTurn
  rw [List.all_eq_true]
  constructor
  · intro h s hs
    have := of_decide_eq_true (h s (allParts_mem.mp hs))
    unfold roomOf sm
    omega
  · intro h s hs
    have := h s (allParts_mem.mpr hs)
    unfold roomOf sm at this
    exact decide_eq_true (by omega)
def led (g : Graph) (k : Nat) (l : List (Nat × Nat)) (got : Nat → Nat) : List Nat := (l.zip (turnFrom g k l got)).map fun x => if x.2 = true then min x.1.1 x.1.2 else max x.1.1 x.1.2
theorem led_nil (g : Graph) (k : Nat) (got : Nat → Nat) : led g k [] got = [] := rfl
theorem led_low {g : Graph} {k : Nat} {e : Nat × Nat} {l : List (Nat × Nat)} {got : Nat → Nat} (h : canTurn g k (bump got (min e.1 e.2)) l = true) : led g k (e :: l) got = min e.1 e.2 :: led g k l (bump got (min e.1 e.2)) := by
  have e1 : turnFrom g k (e :: l) got = true :: turnFrom g k l (bump got (min e.1 e.2)) := if_pos h
  unfold led
  rw [e1]
  rfl
theorem led_high {g : Graph} {k : Nat} {e : Nat × Nat} {l : List (Nat × Nat)} {got : Nat → Nat} (h : ¬ canTurn g k (bump got (min e.1 e.2)) l = true) : led g k (e :: l) got = max e.1 e.2 :: led g k l (bump got (max e.1 e.2)) := by
  have e1 : turnFrom g k (e :: l) got = false :: turnFrom g k l (bump got (max e.1 e.2)) := if_neg h
  unfold led
  rw [e1]
  rfl
theorem part_nodup {n : Nat} {s : List Nat} (h : s ∈ allParts n) : s.Nodup := (upto_nodup n).sublist (mem_allParts.mp h).2
theorem min_max (x y : Nat) : (min x y = x ∧ max x y = y) ∨ (min x y = y ∧ max x y = x) := by omega
/-- the search's question is whether the others can be turned then -/
theorem ask_low {g : Graph} {k : Nat} {got : Nat → Nat} {x y : Nat} {l : List (Nat × Nat)} (h : canTurn g k got ((x, y) :: l) = true) :
    (∃ s ∈ allParts g.many, (s.contains (min x y) && !s.contains (max x y)) = true ∧ roomOf k got ((x, y) :: l) s = 0) ↔ ¬ canTurn g k (bump got (min x y)) l = true := by
  have h0 := canTurn_room.mp h
  rw [canTurn_room]
  constructor
  · rintro ⟨s, hs, hsep, hz⟩ hall
    have h1 := hall s hs
    rw [room_turn (part_nodup hs) (min_max x y), if_pos hsep, hz] at h1
    omega
  · intro hn
    refine Classical.byContradiction fun no => hn fun s hs => ?_
    rw [room_turn (part_nodup hs) (min_max x y)]
    have h1 := h0 s hs
    by_cases c : (s.contains (min x y) && !s.contains (max x y)) = true
    · rw [if_pos c]
      have : roomOf k got ((x, y) :: l) s ≠ 0 := fun z => no ⟨s, hs, c, z⟩
      omega
    · rw [if_neg c]
      omega
theorem other_way {g : Graph} {k : Nat} {got : Nat → Nat} {x y : Nat} {l : List (Nat × Nat)} (hw : Within g.many ((x, y) :: l)) (h : canTurn g k got ((x, y) :: l) = true) (hn : ¬ canTurn g k (bump got (min x y)) l = true) : canTurn g k (bump got (max x y)) l = true := by
  have hl : Within g.many l := fun e he => hw e (by simp [he])
  have h1 := (turn_way hw ((canTurn_way hw).mp h)).2
  rcases h1 with h1 | h1
  · exact absurd h1 hn
  · exact (canTurn_way hl).mpr h1
theorem turned_start {g : Graph} (hw : Within g.many g.edges) : canTurn g (most g) (fun _ => 0) g.edges = true := (canTurn_way hw).mpr ((most_way hw).mp (Nat.le_refl _))
end Dp

set_option Elab.async false
set_option linter.all false
set_option maxRecDepth 100000
/-! The graph as it lies in the heap; what a def of the program may be called by. -/
namespace Dp
open PySem PySem.Spec PyProof.Rows L2 Evl
open Gq06 (Graph)
abbrev nI (s : List Nat) : List V := s.map fun (n : Nat) => V.int (n : Int)
abbrev iI (s : List Int) : List V := s.map V.int
def gF (n : Nat) (e : Addr) : List (Str × V) := [("node_count", .int n), ("ends", .ref e)]
theorem lk_here {k : Str} {v : V} {r : List (Str × V)} : List.lookup k ((k, v) :: r) = some v := by
  have e : (k == k) = true := beq_self_eq_true k
  simp only [List.lookup, e]
theorem lk_past {k g : Str} {v : V} {r : List (Str × V)} (h : (k == g) = false) : List.lookup k ((g, v) :: r) = List.lookup k r := by
  simp only [List.lookup, h]
theorem gF_n (n : Nat) (e : Addr) : (gF n e).lookup ("node_count" : Str) = some (.int n) := lk_here
theorem gF_e (n : Nat) (e : Addr) : (gF n e).lookup ("ends" : Str) = some (.ref e) := (lk_past (by decide +kernel)).trans lk_here
structure GAt (C : Addr) (H : Hp) (a e : Addr) (g : Graph) : Prop where
  ob : ∃ dx, H a = some (.ins C dx (gF g.many e))
  ls : ∃ ts : List Addr, H e = some (.lst (ts.map V.ref)) ∧ ts.length = g.edges.length ∧ ∀ (i : Nat) (t : Addr) (d : Nat × Nat), ts[i]? = some t → g.edges[i]? = some d → H t = some (.tup [.int ((d.1 : Nat) : Int), .int ((d.2 : Nat) : Int)])
theorem GAt.same {C : Addr} {H H' : Hp} {a e : Addr} {g : Graph} (h : GAt C H a e g) (s : Ex H H') : GAt C H' a e g := by
  obtain ⟨dx, h1⟩ := h.ob
  obtain ⟨ts, h2, h3, h4⟩ := h.ls
  exact ⟨⟨dx, s _ _ h1⟩, ts, s _ _ h2, h3, fun i t d x y => s _ _ (h4 i t d x y)⟩
/-- a graph as the calls can make it -/
structure GOk (g : Graph) : Prop where
  nodes : g.many ≤ 10
  edges : g.edges.length ≤ 20
  ends : ∀ d ∈ g.edges, (1 ≤ d.1 ∧ d.1 ≤ g.many) ∧ (1 ≤ d.2 ∧ d.2 ≤ g.many) ∧ d.1 ≠ d.2
/-! ### numbers in lists -/
theorem flat_nI (s : List Nat) : (nI s).all flatV = true := List.all_eq_true.mpr fun v hv => by
  obtain ⟨n, _, rfl⟩ := List.mem_map.mp hv
  rfl
theorem inV_nI (x : Nat) : ∀ s : List Nat, inV (.int (x : Int)) (nI s) = s.contains x
  | [] => rfl
  | y :: s => by
    have ih := inV_nI x s
    show (eqV (.int (y : Int)) (.int (x : Int)) || inV (.int (x : Int)) (nI s)) = (x == y || s.contains x)
    rw [ih]
    congr 1
    show ((y : Int) == (x : Int)) = (x == y)
    rw [Bool.eq_iff_iff, beq_iff_eq, beq_iff_eq]
    omega
theorem nI_get {s : List Nat} {i : Nat} {v : V} (h : (nI s)[i]? = some v) : ∃ n, s[i]? = some n ∧ v = .int (n : Int) := by
  rw [List.getElem?_map] at h
  cases e : s[i]? with
  | none => rw [e] at h; cases h
  | some n => rw [e] at h; exact ⟨n, rfl, (Option.some.inj h).symm⟩
theorem nI_append (s t : List Nat) : nI (s ++ t) = nI s ++ nI t := List.map_append ..
theorem take_more {α : Type} : ∀ {l : List α} {i : Nat} {x : α}, l[i]? = some x → l.take (i + 1) = l.take i ++ [x]
  | [], i, x, h => by simp at h
  | a :: l, 0, x, h => by
    have e : a = x := Option.some.inj h
    subst e
    rfl
  | a :: l, i + 1, x, h => by
    have ih := take_more (l := l) (i := i) (x := x) h
    show a :: l.take (i + 1) = a :: l.take i ++ [x]
    rw [ih]
    rfl
theorem if_t {c : Bool} {A B : Prop} (hc : c = true) (h : A) : if c = true then A else B := by
  rw [if_pos hc]
  exact h
theorem if_f {c : Bool} {A B : Prop} (hc : c = false) (h : B) : if c = true then A else B := by
  rw [hc, if_neg Bool.false_ne_true]
  exact h
theorem if_b {c : Bool} {A B : Prop} (h1 : c = true → A) (h2 : c = false → B) : if c = true then A else B := by
  cases c with
  | true => exact if_t rfl (h1 rfl)
  | false => exact if_f rfl (h2 rfl)
/-! ### what may be called -/
section
variable (P : Program) (w : World) (K : PySem.W.Frag) (mg : Str → Option Value) (base : Heap)
/-- the def st of the text stands under its name -/
def Fn (name : Str) (st : Stmt) (ps : List Str) : Prop := ∃ f fd, mg name = some (.ref f) ∧ Fun K name name st f fd ∧ Binds K fd ps []
/-- what stands under the name keeps the promise, with k rooms -/
def Can (name : Str) (k : Nat) (ps : List Str) (sp : Sp) : Prop := ∃ f fd, mg name = some (.ref f) ∧ PySem.W.keepIn K (.ref f) = true ∧ Binds K fd ps [] ∧ FnOk P w K mg base CX0 k f fd ps sp
end
section
variable {X : Cx} {k : Nat} {x : Str} {ps : List Str} {sp : Sp} {e : Expr} {es : List Expr} {t : TA} {p pos : Pos}
theorem pe_can (c : Can X.prog X.w X.K X.mg X.base x k ps sp) (hr : Room k X.A) (ha : PA X (e :: es) t) (hg : Gl X x := by rfl) (hdb : (x == ("__debug__" : Str)) = false := by decide)
    (he : starEach (e :: es) X.env = (false, eval e X.env) :: starEach es X.env := by rfl) (hpl : (backTo pos (starEach es X.env)).any (·.1) = false := by rfl) : PE X (.Call (.Name x p) (e :: es) [] pos) (tCall sp [] E0 t) := by
  obtain ⟨f, fd, h1, h2, h3, h4⟩ := c
  exact pe_call h4 hr hg h1 h2 h3 .nil pass0 ha hdb he hpl
end
theorem Can.mk {P : Program} {w : World} {K : PySem.W.Frag} {mg : Str → Option Value} {base : Heap} {name : Str} {st : Stmt} {ps N : List Str} {k : Nat} {sp : Sp} (F : Fn K mg name st ps) (S : FnScope N ps (defScope st)) (len : ∀ vs H Q E, sp vs H Q E → vs.length = ps.length)
    (hbody : ∀ (f : Addr) (cdv : Value) (A : Around) (outer : List Env) (s : Shared) (H : Hp) (vs : List V) (Q : VK) (E : XK), Room k (A.deeper (envOfC name (defScope st) s.heap.objs.size f cdv)) → sp vs H Q E →
      ∃ t, PSs (cxOf CX0 P w K mg base N name (defScope st) f cdv A outer s H E).nox (defBody st) t ∧ t { nx := fun _ H' => Q .non H', rt := Q } (start N vs) H) : Can P w K mg base name (k + 1) ps sp := by
  obtain ⟨f, fd, h1, h2, h3⟩ := F
  exact ⟨f, fd, h1, h2.kp, h3, h2.ok S len (hbody f)⟩
/-! ### readings of the graph -/
section
variable {K : PySem.W.Frag} {C : Addr} {H : Hp} {σ : L2.St} {D : Ends} {tu tz : TS} {ta : TE} {a e : Addr} {g : Graph}
theorem ev_fld {f : Str} {dx : Addr} {fs : List (Str × V)} {v : V} (h : Ev ta σ H (.ref a)) (ho : H a = some (.ins C dx fs)) (c : Cls K C) (n : NoAttr K C f) (l : fs.lookup f = some v) : Ev (tFld K ta f) σ H v := fun H1 x Q q =>
  h H1 x _ fun H2 y => ⟨a, C, dx, fs, v, rfl, y _ _ (x _ _ ho), c, n, l, q H2 y⟩
theorem ev_count (h : Ev ta σ H (.ref a)) (G : GAt C H a e g) (c : Cls K C) (n : NoAttr K C "node_count") : Ev (tFld K ta "node_count") σ H (.int (g.many : Nat)) := by
  obtain ⟨dx, h1⟩ := G.ob
  exact ev_fld h h1 c n (gF_n _ _)
theorem ev_ends (h : Ev ta σ H (.ref a)) (G : GAt C H a e g) (c : Cls K C) (n : NoAttr K C "ends") : Ev (tFld K ta "ends") σ H (.ref e) := by
  obtain ⟨dx, h1⟩ := G.ob
  exact ev_fld h h1 c n (gF_e _ _)
theorem ends_get {ts : List Addr} {es : List (Nat × Nat)} (hl : ts.length = es.length) {i : Nat} {x : V} (h : (ts.map V.ref)[i]? = some x) : ∃ t d, ts[i]? = some t ∧ es[i]? = some d ∧ x = .ref t := by
  rw [List.getElem?_map] at h
  cases e : ts[i]? with
  | none => rw [e] at h; cases h
  | some t =>
    rw [e] at h
    have hi : i < es.length := by rw [← hl]; exact (List.getElem?_eq_some_iff.mp e).1
    exact ⟨t, es[i], rfl, List.getElem?_eq_getElem hi, (Option.some.inj h).symm⟩
/-- for x, y in graph.ends (the graph stays as it is) -/
theorem q_ends {j k : Nat} (h : Ev ta σ H (.ref a)) (G : GAt C H a e g) (c : Cls K C) (n : NoAttr K C "ends") (Pv : Nat → L2.St → Prop) (h0 : Pv 0 σ)
    (hs : ∀ i d σ' H', Ex H H' → g.edges[i]? = some d → Pv i σ' → tu { D with nx := fun σ2 H2 => Pv (i + 1) σ2 ∧ Ex H H2, ct := fun σ2 H2 => Pv (i + 1) σ2 ∧ Ex H H2, bk := tz D } ((σ'.set j (some (.int (d.1 : Nat)))).set k (some (.int (d.2 : Nat)))) H')
    (hd : ∀ σ' H', Ex H H' → Pv g.edges.length σ' → tz D σ' H') : tSeq (tFor (iList K (tFld K ta "ends")) (gTup K 2 (gCons (gName j) (gCons (gName k) gNil))) tu) tz D σ H := by
  obtain ⟨ts, h2, h3, h4⟩ := G.ls
  refine q_forL (xs := ts.map V.ref) (ev_ends h G c n) (sq_of h2) (fun i σ' H' => Pv i σ' ∧ Ex H H') (fun H1 x => ⟨h0, x⟩) (fun i σ' H' _ p => sq_of (p.2 _ _ h2)) ?_ ?_
  · rintro i x σ' H' hi ⟨p, y⟩
    obtain ⟨t, d, ht, hd, rfl⟩ := ends_get h3 hi
    exact ⟨t, _, rfl, st_of (y _ _ (h4 i t d ht hd)), rfl, _, _, rfl, _, _, rfl, rfl, hs i d σ' H' y hd p⟩
  · rintro σ' H' ⟨p, y⟩
    rw [List.length_map, h3] at p
    exact hd σ' H' y p
theorem count_more {α : Type} {p : α → Bool} {l : List α} {i : Nat} {d : α} (h : l[i]? = some d) : ((l.take (i + 1)).filter p).length = ((l.take i).filter p).length + if p d = true then 1 else 0 := by
  rw [take_more h, List.filter_append, List.length_append]
  cases e : p d <;> simp [List.filter, e]
theorem dec_int (a b : Nat) : decide (V.int (a : Int) = V.int (b : Int)) = (a == b) := by
  by_cases h : a = b
  · subst h; simp
  · have h2 : ¬ V.int (a : Int) = V.int (b : Int) := fun e => by
      injection e with e
      omega
    rw [decide_eq_false h2]
    exact (beq_eq_false_iff_ne.mpr h).symm
theorem et_inL {tb : TE} {p : Addr} {s : List Nat} {x : Nat} (ha : Ev ta σ H (.int (x : Int))) (hb : Ev tb σ H (.ref p)) (h : SqL K H p (nI s)) : EvT (tTest (tOp (rIn K false) ta tb)) σ H (s.contains x) :=
  et_is (et_test (ev_op ha hb (rv_isL h rfl (flat_nI s)))) (inV_nI x s)
theorem et_eqN {tb : TE} {x y : Nat} (ha : Ev ta σ H (.int (x : Int))) (hb : Ev tb σ H (.int (y : Int))) : EvT (tTest (tOp rEq ta tb)) σ H (x == y) :=
  et_is (et_test (ev_op ha hb (rv_eq rfl))) (dec_int x y)
end
end Dp

set_option Elab.async false
set_option linter.all false
set_option maxRecDepth 100000
/-! The program's defs by their places in the text, and what its top has written. -/
namespace Dp
open PySem PySem.Spec PyProof.Rows L2 Evl
def top (i : Nat) : Stmt := PySem.Challenge.pw_denseparts_s01_answers.main.body.getD i (.Pass ⟨0, 0, 0, 0⟩)
abbrev sInit : Stmt := inClass (top 21) 0
abbrev sAnswers : Stmt := top 22
abbrev sLen : Stmt := top 23
abbrev sAnswer : Stmt := top 24
abbrev sAddN : Stmt := top 25
abbrev sAddE : Stmt := top 26
abbrev sCut : Stmt := top 27
abbrev sTDst : Stmt := top 28
abbrev sTDty : Stmt := top 29
abbrev sTPeel : Stmt := top 30
abbrev sTTurn : Stmt := top 31
abbrev sTTight : Stmt := top 32
abbrev sTEdges : Stmt := top 33
abbrev sCnt : Stmt := top 34
abbrev sIsN : Stmt := top 35
abbrev sIsP : Stmt := top 36
abbrev sAllN : Stmt := top 37
abbrev sAllP : Stmt := top 38
abbrev sWid : Stmt := top 39
abbrev sEW : Stmt := top 40
abbrev sET : Stmt := top 41
abbrev sLow : Stmt := top 42
abbrev sUp : Stmt := top 43
abbrev sDst : Stmt := top 44
abbrev sCore : Stmt := top 45
abbrev sHav : Stmt := top 46
abbrev sCores : Stmt := top 47
abbrev sFst : Stmt := top 48
abbrev sMost : Stmt := top 49
abbrev sTurn : Stmt := top 50
abbrev sPar : Stmt := top 51
abbrev sFor : Stmt := top 52
abbrev sTight : Stmt := top 53
/-- what the top has written of the class, the constants, and the names that are Python's own -/
structure Txt (K : PySem.W.Frag) (mg : Str → Option Value) (C : Addr) : Prop where
  cl : Cls K C
  nN : NoAttr K C "node_count"
  nE : NoAttr K C "ends"
  gC : mg "Graph" = some (.ref C)
  len : mg "len" = none
  range : mg "range" = none
  list : mg "list" = none
  set : mg "set" = none
  sorted : mg "sorted" = none
  max : mg "max" = none
  min : mg "min" = none
  any : mg "any" = none
  enum : mg "enumerate" = none
  c0 : ∃ t, mg "NODE" = some (.int 0 t)
  c1 : ∃ t, mg "EDGE" = some (.int 1 t)
  c2 : ∃ t, mg "CUT" = some (.int 2 t)
  c3 : ∃ t, mg "DENSEST" = some (.int 3 t)
  c4 : ∃ t, mg "DENSITY" = some (.int 4 t)
  c5 : ∃ t, mg "CORE" = some (.int 5 t)
  c6 : ∃ t, mg "CORES" = some (.int 6 t)
  c7 : ∃ t, mg "PEEL" = some (.int 7 t)
  c8 : ∃ t, mg "TURNED" = some (.int 8 t)
  c9 : ∃ t, mg "FORESTS" = some (.int 9 t)
  ct : ∃ t, mg "TIGHT" = some (.int 10 t)
  ce : ∃ t, mg "EDGES" = some (.int 11 t)
  c10 : ∃ t, mg "MOST_NODES" = some (.int 10 t)
  c20 : ∃ t, mg "MOST_EDGES" = some (.int 20 t)
  m1 : ∃ t, mg "WRONG_NODES" = some (.int (-1) t)
  mK : ∃ t, mg "WRONG_K" = some (.int (-1) t)
  m2 : ∃ t, mg "NO_SUCH_EDGE" = some (.int (-2) t)
  m3 : ∃ t, mg "NO_NODES" = some (.int (-3) t)
  m5 : ∃ t, mg "FULL" = some (.int (-5) t)
theorem pe_con0 {X : Cx} {x : Str} {i : Int} {pos : Pos} (h : ∃ t, X.mg x = some (.int i t)) (hg : Gl X x := by rfl) (hd : (x == ("__debug__" : Str)) = false := by decide) : PE X (.Name x pos) (tC (.int i)) := by
  obtain ⟨t, h⟩ := h
  exact pe_glob hg h ⟨t, rfl⟩ hd
end Dp

set_option Elab.async false
set_option linter.all false
set_option maxRecDepth 100000
set_option maxHeartbeats 2000000
namespace Dp
open PySem PySem.Spec PyProof.Rows L2 Evl
open Gq06 (Graph)
section
variable {P : Program} {w : World} {K : PySem.W.Frag} {mg : Str → Option Value} {base : Heap} {C : Addr}
/-! ### edges_within -/
def spEW (C : Addr) (K : PySem.W.Frag) : Sp := fun vs H Q _ => ∃ (a e p : Addr) (g : Graph) (s : List Nat), vs = [.ref a, .ref p] ∧ GAt C H a e g ∧ SqL K H p (nI s) ∧ RetV (.int (win g s : Nat)) H Q
theorem scEW : FnScope ["graph", "part", "count", "x", "y"] ["graph", "part"] (defScope sEW) := ⟨rfl, rfl, rfl, by decide +kernel, rfl, by decide +kernel, by decide +kernel⟩
theorem can_EW (F : Fn K mg "edges_within" sEW ["graph", "part"]) (T : Txt K mg C) : Can P w K mg base "edges_within" 1 ["graph", "part"] (spEW C K) := by
  refine Can.mk F scEW (fun vs H Q E h => ?_) fun f cdv A outer s0 H vs Q E hr h => ?_
  · obtain ⟨a, e, p, g, s, rfl, _⟩ := h
    rfl
  · refine ⟨_, pss_cons (ps_set (i := 2) scEW.nd rfl (Or.inl rfl) pe_int)
      (pss_cons (ps_for PassesOwn.never rfl (pi_list (pe_fld (pv 0) rfl))
        (pg_tup rfl (pgs_cons (pg_name (i := 3) scEW.nd rfl (Or.inl rfl)) (pgs_cons (pg_name (i := 4) scEW.nd rfl (Or.inl rfl)) pgs_nil)))
        (pss_one (ps_if (pw_and (pt_cmpR op_in_seq (pv 3) (pv 1) rfl) (pw_and1 (pt_cmpR op_in_seq (pv 4) (pv 1) rfl))).pt
          (pss_one (ps_aug (i := 2) scEW.nd rfl (Or.inl rfl) pe_int ip_add)) pss_nil)))
      (pss_one (ps_ret (pv 2)))), ?_⟩
    obtain ⟨a, e, p, g, s, rfl, G, S, q⟩ := h
    refine q_asg ev_c fun H1 x1 => ?_
    refine q_ends (ev_var rfl) (G.same x1) T.cl T.nE (fun i σ => ∃ u v : Option V, σ = [some (.ref a), some (.ref p), some (.int (((g.edges.take i).filter fun d => s.contains d.1 && s.contains d.2).length : Nat)), u, v]) ⟨none, none, rfl⟩ ?_ ?_
    · rintro i d _ H2 x2 hd ⟨u, v, rfl⟩
      have S2 : SqL K H2 p (nI s) := ex_l (x1.trans x2) S
      refine s_when (et_and (et_inL (ev_var rfl) (ev_var rfl) S2) fun _ => et_inL (ev_var rfl) (ev_var rfl) S2) (fun c H3 x3 => ?_) (fun c H3 x3 => ?_)
      · refine s_aug rfl ev_c fun H4 x4 => ⟨⟨some (.int (d.1 : Nat)), some (.int (d.2 : Nat)), ?_⟩, (x2.trans x3).trans x4⟩
        rw [count_more hd, if_pos c]
        rfl
      · refine ⟨⟨some (.int (d.1 : Nat)), some (.int (d.2 : Nat)), ?_⟩, x2.trans x3⟩
        rw [count_more hd, if_neg (by rw [c]; decide)]
        rfl
    · rintro _ H2 x2 ⟨u, v, rfl⟩
      refine s_ret (ev_var rfl) fun H3 x3 => ?_
      rw [List.take_length]
      exact q _ ((x1.trans x2).trans x3)
end
end Dp

set_option Elab.async false
set_option linter.all false
set_option maxRecDepth 100000
set_option maxHeartbeats 2000000
namespace Dp
open PySem PySem.Spec PyProof.Rows L2 Evl
open Gq06 (Graph)
/-! ### mirrors -/
def partUp (g : Graph) : Nat → List Nat → Bool
  | _, [] => true
  | b, x :: l => decide (b < x) && Gq06.isNode g x && partUp g x l
def isPart (g : Graph) (l : List Nat) : Bool := partUp g 0 l && decide (0 < l.length)
theorem partUp_eq (g : Graph) : ∀ (b : Nat) (l : List Nat), partUp g b l = (l.all (Gq06.isNode g) && (match l with | [] => true | x :: _ => decide (b < x)) && Gq06.rises l)
  | b, [] => rfl
  | b, [x] => by
    simp only [partUp, List.all_cons, List.all_nil, Gq06.rises, Bool.and_true]
    exact Bool.and_comm _ _
  | b, x :: y :: l => by
    have ih := partUp_eq g x (y :: l)
    show (decide (b < x) && Gq06.isNode g x && partUp g x (y :: l)) = _
    rw [ih]
    simp only [List.all_cons, Gq06.rises]
    cases Gq06.isNode g x <;> cases Gq06.isNode g y <;> cases decide (b < x) <;> cases decide (x < y) <;> cases l.all (Gq06.isNode g) <;> simp
theorem isPart_iff {g : Graph} {l : List Nat} : (Gq06.rises l = false ∨ l.all (Gq06.isNode g) = false ∨ l.isEmpty = true) ↔ isPart g l = false := by
  unfold isPart
  rw [partUp_eq]
  cases l with
  | nil => simp
  | cons x l =>
    cases hr : Gq06.rises (x :: l) with
    | false => simp
    | true =>
      cases ha : (x :: l).all (Gq06.isNode g) with
      | false => simp
      | true =>
        have hx : Gq06.isNode g x = true := by
          rw [List.all_cons, Bool.and_eq_true] at ha
          exact ha.1
        have : 0 < x := by
          unfold Gq06.isNode at hx
          rw [Bool.and_eq_true, decide_eq_true_eq] at hx
          omega
        simp [this]
theorem given_filter (p : Nat → Bool) (s : List Nat) : given s.length (fun i => p (s.getD i 0)) (fun i => V.int ((s.getD i 0 : Nat) : Int)) = nI (s.filter p) := by
  have e : s = (List.range s.length).map fun i => s.getD i 0 := by
    apply List.ext_getElem?
    intro i
    rw [List.getElem?_map]
    by_cases h : i < s.length
    · rw [List.getElem?_range h, List.getElem?_eq_getElem h]
      simp [List.getD, h]
    · rw [List.getElem?_eq_none (by omega), List.getElem?_eq_none (by simpa using h)]
      rfl
  show ((List.range s.length).filter _).map _ = (s.filter p).map _
  conv => rhs; rw [e, List.filter_map, List.map_map]
  rfl
theorem rg_upto (n : Nat) : rgV 1 ((n : Int) + 1) = nI (upto n) := by
  unfold rgV nI upto
  rw [show (((n : Int) + 1) - 1).toNat = n by omega, List.map_map]
  apply List.map_congr_left
  intro i _
  show V.int (1 + (i : Int)) = V.int ((i + 1 : Nat) : Int)
  congr 1
  omega
section
variable {P : Program} {w : World} {K : PySem.W.Frag} {mg : Str → Option Value} {base : Heap} {C : Addr}
theorem el_rg2 {σ : L2.St} {H : Hp} {ta tb : TE} {i j : Int} (ha : Ev ta σ H (.int i)) (hb : Ev tb σ H (.int j)) (ok : RgOk i j) : EvL (tLstRg (tRg2 ta tb)) σ H (rgV i j) := fun H1 e1 Q q =>
  ha H1 e1 _ fun H2 e2 => hb H2 (e1.trans e2) _ fun H3 e3 => ⟨i, j, rfl, rfl, ok, fun p hp => q p _ (fresh_back (e2.trans e3) hp) ((e2.trans e3).trans (Ex.new hp)) upd_same⟩
/-! ### edges_to -/
def spET (C : Addr) (K : PySem.W.Frag) : Sp := fun vs H Q _ => ∃ (a e p : Addr) (g : Graph) (n : Nat) (s : List Nat), vs = [.ref a, .int (n : Nat), .ref p] ∧ GAt C H a e g ∧ SqL K H p (nI s) ∧ RetV (.int (degTo g n s : Nat)) H Q
theorem scET : FnScope ["graph", "node", "part", "count", "x", "y"] ["graph", "node", "part"] (defScope sET) := ⟨rfl, rfl, rfl, by decide +kernel, rfl, by decide +kernel, by decide +kernel⟩
theorem can_ET (F : Fn K mg "edges_to" sET ["graph", "node", "part"]) (T : Txt K mg C) : Can P w K mg base "edges_to" 1 ["graph", "node", "part"] (spET C K) := by
  refine Can.mk F scET (fun vs H Q E h => ?_) fun f cdv A outer s0 H vs Q E hr h => ?_
  · obtain ⟨a, e, p, g, n, s, rfl, _⟩ := h
    rfl
  · refine ⟨_, pss_cons (ps_set (i := 3) scET.nd rfl (Or.inl rfl) pe_int)
      (pss_cons (ps_for PassesOwn.never rfl (pi_list (pe_fld (pv 0) rfl))
        (pg_tup rfl (pgs_cons (pg_name (i := 4) scET.nd rfl (Or.inl rfl)) (pgs_cons (pg_name (i := 5) scET.nd rfl (Or.inl rfl)) pgs_nil)))
        (pss_one (ps_if (pw_or (pw_and (pt_cmpR op_eq (pv 4) (pv 1) (nomark _)) (pw_and1 (pt_cmpR op_in_seq (pv 5) (pv 2) rfl))).pt
            (pw_or1 (pw_and (pt_cmpR op_eq (pv 5) (pv 1) (nomark _)) (pw_and1 (pt_cmpR op_in_seq (pv 4) (pv 2) rfl))).pt)).pt
          (pss_one (ps_aug (i := 3) scET.nd rfl (Or.inl rfl) pe_int ip_add)) pss_nil)))
      (pss_one (ps_ret (pv 3)))), ?_⟩
    obtain ⟨a, e, p, g, n, s, rfl, G, S, q⟩ := h
    refine q_asg ev_c fun H1 x1 => ?_
    refine q_ends (ev_var rfl) (G.same x1) T.cl T.nE (fun i σ => ∃ u v : Option V, σ = [some (.ref a), some (.int (n : Nat)), some (.ref p), some (.int (((g.edges.take i).filter fun d => (d.1 == n && s.contains d.2) || (d.2 == n && s.contains d.1)).length : Nat)), u, v]) ⟨none, none, rfl⟩ ?_ ?_
    · rintro i d _ H2 x2 hd ⟨u, v, rfl⟩
      have S2 : SqL K H2 p (nI s) := ex_l (x1.trans x2) S
      refine s_when (et_or (et_and (et_eqN (ev_var rfl) (ev_var rfl)) fun _ => et_inL (ev_var rfl) (ev_var rfl) S2) fun _ => et_and (et_eqN (ev_var rfl) (ev_var rfl)) fun _ => et_inL (ev_var rfl) (ev_var rfl) S2) (fun c H3 x3 => ?_) (fun c H3 x3 => ?_)
      · refine s_aug rfl ev_c fun H4 x4 => ⟨⟨some (.int (d.1 : Nat)), some (.int (d.2 : Nat)), ?_⟩, (x2.trans x3).trans x4⟩
        rw [count_more hd, if_pos c]
        rfl
      · refine ⟨⟨some (.int (d.1 : Nat)), some (.int (d.2 : Nat)), ?_⟩, x2.trans x3⟩
        rw [count_more hd, if_neg (by rw [c]; decide)]
        rfl
    · rintro _ H2 x2 ⟨u, v, rfl⟩
      refine s_ret (ev_var rfl) fun H3 x3 => ?_
      rw [List.take_length]
      exact q _ ((x1.trans x2).trans x3)
/-! ### is_node -/
def spIsN (C : Addr) : Sp := fun vs H Q _ => ∃ (a e : Addr) (g : Graph) (n : Nat), vs = [.ref a, .int (n : Nat)] ∧ GAt C H a e g ∧ RetV (.bl (Gq06.isNode g n)) H Q
theorem scIsN : FnScope ["graph", "x"] ["graph", "x"] (defScope sIsN) := ⟨rfl, rfl, rfl, by decide +kernel, rfl, by decide +kernel, by decide +kernel⟩
theorem dec_le (a b : Nat) : decide ((a : Int) ≤ (b : Int)) = decide (a ≤ b) := by
  by_cases h : a ≤ b
  · rw [decide_eq_true h, decide_eq_true (by omega)]
  · rw [decide_eq_false h, decide_eq_false (by omega)]
theorem dec_lt (a b : Nat) : decide ((a : Int) < (b : Int)) = decide (a < b) := by
  by_cases h : a < b
  · rw [decide_eq_true h, decide_eq_true (by omega)]
  · rw [decide_eq_false h, decide_eq_false (by omega)]
theorem can_IsN (F : Fn K mg "is_node" sIsN ["graph", "x"]) (T : Txt K mg C) : Can P w K mg base "is_node" 1 ["graph", "x"] (spIsN C) := by
  refine Can.mk F scIsN (fun vs H Q E h => ?_) fun f cdv A outer s0 H vs Q E hr h => ?_
  · obtain ⟨a, e, g, n, rfl, _⟩ := h
    rfl
  · refine ⟨_, pss_one (ps_ret (pe_and (pe_cmpR op_le pe_int (pv 1) (nomark _)) (pe_one (pe_cmpR op_le (pv 1) (pe_fld (pv 0) rfl) (nomark _))))), ?_⟩
    obtain ⟨a, e, g, n, rfl, G, q⟩ := h
    refine s_ret (ev_andV (ev_op ev_c (ev_var rfl) rv_I0) fun _ => ev_op (ev_var rfl) (ev_count (ev_var rfl) G T.cl T.nN) rv_I0) fun H1 x1 => ?_
    have e1 : (decide ((1 : Int) ≤ (n : Int)) && decide ((n : Int) ≤ (g.many : Int))) = Gq06.isNode g n := by
      show _ = (decide (1 ≤ n) && decide (n ≤ g.many))
      rw [dec_le, ← dec_le 1 n]
      rfl
    rw [e1]
    exact q H1 x1
theorem sv_IsN {H : Hp} {a e : Addr} {g : Graph} {n : Nat} (G : GAt C H a e g) : SpV (spIsN C) [.ref a, .int (n : Nat)] H (.bl (Gq06.isNode g n)) := fun H1 x Q q E => ⟨a, e, g, n, rfl, G.same x, q⟩
/-! ### is_part -/
def spIsP (C : Addr) (K : PySem.W.Frag) : Sp := fun vs H Q _ => ∃ (a e p : Addr) (g : Graph) (l : List Nat), vs = [.ref a, .ref p] ∧ GAt C H a e g ∧ SqL K H p (nI l) ∧ RetV (.bl (isPart g l)) H Q
theorem scIsP : FnScope ["graph", "nodes", "before", "node"] ["graph", "nodes"] (defScope sIsP) := ⟨rfl, rfl, rfl, by decide +kernel, rfl, by decide +kernel, by decide +kernel⟩
theorem can_IsP (F : Fn K mg "is_part" sIsP ["graph", "nodes"]) (T : Txt K mg C) (cN : Can P w K mg base "is_node" 1 ["graph", "x"] (spIsN C)) : Can P w K mg base "is_part" 2 ["graph", "nodes"] (spIsP C K) := by
  refine Can.mk F scIsP (fun vs H Q E h => ?_) fun f cdv A outer s0 H vs Q E hr h => ?_
  · obtain ⟨a, e, p, g, l, rfl, _⟩ := h
    rfl
  · refine ⟨_, pss_cons (ps_set (i := 2) scIsP.nd rfl (Or.inl rfl) pe_int)
      (pss_cons (ps_for PassesOwn.never rfl (pi_list (pv 1)) (pg_name (i := 3) scIsP.nd rfl (Or.inl rfl))
        (pss_cons (ps_if (pw_or (pt_cmpR op_le (pv 3) (pv 2) (nomark _)) (pw_or1 (pt_not (pt_val (pe_can cN hr (pa_cons (pv 0) (pa_cons (pv 3) pa_nil)))  (by intro _; rfl))))).pt (pss_one (ps_ret pe_bl)) pss_nil)
          (pss_one (ps_set (i := 2) scIsP.nd rfl (Or.inl rfl) (pv 3)))))
      (pss_one (ps_ret (pe_cmpR op_gt (pe_callB call_len_seq (by rfl) T.len PySem.boot_len (pa_cons (pv 1) pa_nil)) pe_int (nomark _))))), ?_⟩
    obtain ⟨a, e, p, g, l, rfl, G, S, q⟩ := h
    refine q_asg ev_c fun H1 x1 => ?_
    refine q_forLn (a := p) (xs := nI l) (ev_var rfl) (ex_l x1 S) (fun i σ H' => Ex H H' ∧ ∃ (b : Nat) (u : Option V), σ = [some (.ref a), some (.ref p), some (.int (b : Nat)), u] ∧ partUp g 0 l = partUp g b (l.drop i))
      (fun H2 x2 => ⟨x1.trans x2, 0, none, rfl, rfl⟩) (fun i σ' H' _ z => ex_l z.1 S) ?_ ?_
    · rintro i y _ H2 hi ⟨x2, b, u, rfl, eb⟩
      obtain ⟨n, hn, rfl⟩ := nI_get hi
      have ed : l.drop i = n :: l.drop (i + 1) := by
        obtain ⟨h1, h2⟩ := List.getElem?_eq_some_iff.mp hn
        rw [List.drop_eq_getElem_cons h1, h2]
      rw [ed] at eb
      have e2 : partUp g 0 l = (!(decide (n ≤ b) || !Gq06.isNode g n) && partUp g n (l.drop (i + 1))) := by
        rw [eb]
        show (decide (b < n) && Gq06.isNode g n && partUp g n (l.drop (i + 1))) = _
        have e3 : decide (b < n) = !decide (n ≤ b) := by
          by_cases h : n ≤ b
          · rw [decide_eq_true h, decide_eq_false (by omega)]; rfl
          · rw [decide_eq_false h, decide_eq_true (by omega)]; rfl
        rw [e3, Bool.not_or, Bool.not_not]
      refine q_when (b := decide (n ≤ b) || !Gq06.isNode g n) (et_or (et_is (et_test (ev_op (ev_var rfl) (ev_var rfl) rv_I0)) (dec_le n b)) fun _ => et_not (et_B (ev_call (ea_cons (ev_var rfl) (ea_cons (ev_var rfl) ea_nil)) (sv_IsN (G.same x2))))) (fun c H3 x3 => ?_) (fun c H3 x3 => ?_)
      · refine s_ret ev_c fun H4 x4 => ?_
        rw [c] at e2
        have e5 : isPart g l = false := by
          unfold isPart
          rw [e2]
          rfl
        have q' := q H4 ((x2.trans x3).trans x4)
        rw [e5] at q'
        exact q'
      · refine s_asg (ev_var rfl) fun H4 x4 => ⟨(x2.trans x3).trans x4, n, some (.int (n : Nat)), rfl, ?_⟩
        rw [e2, c]
        rfl
    · rintro _ H2 ⟨x2, b, u, rfl, eb⟩
      have e2 : partUp g 0 l = true := by
        rw [eb, List.length_map, List.drop_length]
        rfl
      refine s_ret (ev_op (ev_len (ev_var rfl) (ex_l x2 S)) ev_c rv_I0) fun H3 x3 => ?_
      have e5 : isPart g l = decide ((0 : Int) < ((nI l).length : Nat)) := by
        unfold isPart
        rw [e2, Bool.true_and, List.length_map]
        exact (dec_lt 0 l.length).symm
      have q' := q H3 (x2.trans x3)
      rw [e5] at q'
      exact q'
theorem sv_IsP {H : Hp} {a e p : Addr} {g : Graph} {l : List Nat} (G : GAt C H a e g) (S : SqL K H p (nI l)) : SpV (spIsP C K) [.ref a, .ref p] H (.bl (isPart g l)) := fun H1 x Q q E => ⟨a, e, p, g, l, rfl, G.same x, ex_l x S, q⟩
theorem sv_EW {H : Hp} {a e p : Addr} {g : Graph} {s : List Nat} (G : GAt C H a e g) (S : SqL K H p (nI s)) : SpV (spEW C K) [.ref a, .ref p] H (.int (win g s : Nat)) := fun H1 x Q q E => ⟨a, e, p, g, s, rfl, G.same x, ex_l x S, q⟩
theorem sv_ET {H : Hp} {a e p : Addr} {g : Graph} {n : Nat} {s : List Nat} (G : GAt C H a e g) (S : SqL K H p (nI s)) : SpV (spET C K) [.ref a, .int (n : Nat), .ref p] H (.int (degTo g n s : Nat)) := fun H1 x Q q E => ⟨a, e, p, g, n, s, rfl, G.same x, ex_l x S, q⟩
/-! ### all_nodes -/
def spAllN (C : Addr) : Sp := fun vs H Q _ => ∃ (a e : Addr) (g : Graph), vs = [.ref a] ∧ GAt C H a e g ∧ g.many ≤ 1000 ∧ RetL (nI (upto g.many)) H Q
theorem scAllN : FnScope ["graph"] ["graph"] (defScope sAllN) := ⟨rfl, rfl, rfl, by decide +kernel, rfl, by decide +kernel, by decide +kernel⟩
theorem can_AllN (F : Fn K mg "all_nodes" sAllN ["graph"]) (T : Txt K mg C) : Can P w K mg base "all_nodes" 1 ["graph"] (spAllN C) := by
  refine Can.mk F scAllN (fun vs H Q E h => ?_) fun f cdv A outer s0 H vs Q E hr h => ?_
  · obtain ⟨a, e, g, rfl, _⟩ := h
    rfl
  · refine ⟨_, pss_one (ps_ret (pe_listRg rfl (by rfl) T.list (prg_2 (by rfl) T.range pe_int (pe_op op_add (pe_fld (pv 0) rfl) pe_int)))), ?_⟩
    obtain ⟨a, e, g, rfl, G, hm, q⟩ := h
    refine s_retL (xs := nI (upto g.many)) ?_ q
    rw [← rg_upto]
    exact el_rg2 ev_c (ev_op (ev_count (ev_var rfl) G T.cl T.nN) ev_c rv_I0) (RgOk.of_le (by omega) (by omega) (by omega) (by omega))
theorem sl_AllN {H : Hp} {a e : Addr} {g : Graph} (G : GAt C H a e g) (hm : g.many ≤ 1000) : SpL (spAllN C) [.ref a] H (nI (upto g.many)) := fun H1 x Q q E => ⟨a, e, g, rfl, G.same x, hm, q⟩
/-! ### lowest_terms -/
def spLow : Sp := fun vs H Q _ => ∃ a b : Nat, vs = [.int (a : Nat), .int (b : Nat)] ∧ 0 < b ∧ b ≤ 1000 ∧ RetL (nI [a / a.gcd b, b / a.gcd b]) H Q
theorem scLow : FnScope ["above", "below", "divisor", "rest", "smaller"] ["above", "below"] (defScope sLow) := ⟨rfl, rfl, rfl, by decide +kernel, rfl, by decide +kernel, by decide +kernel⟩
theorem can_Low (F : Fn K mg "lowest_terms" sLow ["above", "below"]) (T : Txt K mg C) : Can P w K mg base "lowest_terms" 1 ["above", "below"] spLow := by
  refine Can.mk F scLow (fun vs H Q E h => ?_) fun f cdv A outer s0 H vs Q E hr h => ?_
  · obtain ⟨a, b, rfl, _⟩ := h
    rfl
  · refine ⟨_, pss_cons (ps_set (i := 2) scLow.nd rfl (Or.inl rfl) (pv 1)) (pss_cons (ps_set (i := 3) scLow.nd rfl (Or.inl rfl) (pv 0))
      (pss_cons (ps_while PassesOwn.never (pt_cmpR op_gt (pv 3) pe_int (nomark _))
        (pss_cons (ps_set (i := 4) scLow.nd rfl (Or.inl rfl) (pe_op op_mod (pv 2) (pv 3))) (pss_cons (ps_set (i := 2) scLow.nd rfl (Or.inl rfl) (pv 3)) (pss_one (ps_set (i := 3) scLow.nd rfl (Or.inl rfl) (pv 4))))))
      (pss_one (ps_ret (pe_lst (pa_cons (pe_op op_fdiv (pv 0) (pv 2)) (pa_cons (pe_op op_fdiv (pv 1) (pv 2)) pa_nil))))))), ?_⟩
    obtain ⟨a, b, rfl, hb, hb2, q⟩ := h
    refine q_asg (ev_var rfl) fun H1 x1 => q_asg (ev_var rfl) fun H2 x2 => ?_
    refine q_while (fun m σ H' => Ex H H' ∧ ∃ (d r : Nat) (u : Option V), σ = [some (.int (a : Nat)), some (.int (b : Nat)), some (.int (d : Nat)), some (.int (r : Nat)), u] ∧ m = r ∧ Eu a b d r) a ⟨x1.trans x2, b, a, none, rfl, rfl, Eu.start hb⟩ ?_
    rintro m _ H3 ⟨x3, d, r, u, rfl, rfl, I⟩
    refine ⟨decide (0 < m), et_is (et_test (ev_op (ev_var rfl) ev_c rv_I0)) (dec_lt 0 m), fun c H4 x4 => ?_, fun c H4 x4 => ?_⟩
    · have hm : 0 < m := of_decide_eq_true c
      refine ⟨fun σ2 H5 => Ex H H5 ∧ ∃ u : Option V, σ2 = [some (.int (a : Nat)), some (.int (b : Nat)), some (.int (m : Nat)), some (.int ((d % m : Nat) : Int)), u], fun σ2 H5 ⟨x5, u, e5⟩ => ⟨d % m, Nat.mod_lt _ hm, x5, m, d % m, u, e5, rfl, I.turn hm⟩, ?_⟩
      refine q_asg (ev_op (ev_var rfl) (ev_var rfl) (rv_I (show (0 : Int) < (m : Int) by omega))) fun H5 x5 => q_asg (ev_var rfl) fun H6 x6 => s_asg (ev_var rfl) fun H7 x7 => ⟨(((x3.trans x4).trans x5).trans x6).trans x7, some (.int ((d : Int) % (m : Int))), ?_⟩
      rw [Int.natCast_emod]
      rfl
    · have hm : m = 0 := by
        have := of_decide_eq_false c
        omega
      subst hm
      have ed := I.done
      have hd : d ≤ b := by
        rw [ed]
        exact Nat.gcd_le_right _ hb
      have hd0 := I.pos
      have c1 : CDiv (a : Int) (d : Int) := ⟨by omega, by omega⟩
      have c2 : CDiv (b : Int) (d : Int) := ⟨by omega, by omega⟩
      refine s_retL (xs := nI [a / a.gcd b, b / a.gcd b]) ?_ (fun p H5 hp x5 h5 => q p H5 (fresh_back (x3.trans x4) hp) ((x3.trans x4).trans x5) h5)
      rw [← ed]
      refine el_lst (vs := [.int ((a : Int) / (d : Int)), .int ((b : Int) / (d : Int))]) (ea_cons (ev_op (ev_var rfl) (ev_var rfl) (rv_I c1)) (ea_cons (ev_op (ev_var rfl) (ev_var rfl) (rv_I c2)) ea_nil)) (by show 2 ≤ 100000; decide)
theorem sl_Low {H : Hp} {a b : Nat} (hb : 0 < b) (hb2 : b ≤ 1000) : SpL spLow [.int (a : Nat), .int (b : Nat)] H (nI [a / a.gcd b, b / a.gcd b]) := fun H1 x Q q E => ⟨a, b, rfl, hb, hb2, q⟩
end
end Dp

set_option Elab.async false
set_option linter.all false
set_option maxRecDepth 100000
set_option maxHeartbeats 2000000
namespace Dp
open PySem PySem.Spec PyProof.Rows L2 Evl
open Gq06 (Graph)
section
variable {P : Program} {w : World} {K : PySem.W.Frag} {mg : Str → Option Value} {base : Heap} {C : Addr}
/-! ### having_edges -/
def spHav (C : Addr) (K : PySem.W.Frag) : Sp := fun vs H Q _ => ∃ (a e p : Addr) (g : Graph) (s : List Nat) (k : Nat), vs = [.ref a, .ref p, .int (k : Nat)] ∧ GAt C H a e g ∧ SqL K H p (nI s) ∧ s.length ≤ 1000 ∧ RetL (nI (coreStep g k s)) H Q
abbrev nHav : List Str := ["graph", "left", "k", "node"]
theorem scHav : FnScope nHav ["graph", "left", "k"] (defScope sHav) := ⟨rfl, rfl, rfl, by decide +kernel, rfl, by decide +kernel, by decide +kernel⟩
theorem can_Hav (F : Fn K mg "having_edges" sHav ["graph", "left", "k"]) (T : Txt K mg C) (cT : Can P w K mg base "edges_to" 1 ["graph", "node", "part"] (spET C K)) : Can P w K mg base "having_edges" 2 ["graph", "left", "k"] (spHav C K) := by
  refine Can.mk F scHav (fun vs H Q E h => ?_) fun f cdv A outer s0 H vs Q E hr h => ?_
  · obtain ⟨a, e, p, g, s, k, rfl, _⟩ := h
    rfl
  · refine ⟨_, pss_one (ps_ret (pe_lc (own := [("node", 3)]) (g := gName 3) (by rfl) scHav.nd (pi_list (pv 1)) (blkOk_by (own := [("node", 3)]) (N := nHav) (sc := defScope sHav) (by decide +kernel)) (fun _ _ _ _ _ => pg_name (i := 3) scHav.nd rfl (Or.inl rfl))
      (fun _ _ _ _ _ => pts_one (pt_cmpR op_ge (pe_can cT hr (pa_cons (pv 0) (pa_cons (pv 3) (pa_cons (pv 1) pa_nil)))) (pv 2) (nomark _))) (fun _ _ _ _ _ => pv 3))), ?_⟩
    obtain ⟨a, e, p, g, s, k, rfl, G, S, hs, q⟩ := h
    refine s_retL (xs := nI (coreStep g k s)) ?_ q
    have eg : given (nI s).length (fun i => decide (k ≤ Gq06.degreeIn g s (s.getD i 0))) (fun i => V.int ((s.getD i 0 : Nat) : Int)) = nI (coreStep g k s) := by
      rw [List.length_map]
      exact given_filter (fun x => decide (k ≤ Gq06.degreeIn g s x)) s
    rw [← eg]
    refine el_lcL (a := p) (xs := nI s) _ _ (ev_var rfl) S (by rw [List.length_map]; omega) (fun x => rfl) (fun i x H1 x1 hi => ?_) (fun i x H1 x1 hi _ => ?_)
    · obtain ⟨n, hn, rfl⟩ := nI_get hi
      have en : s.getD i 0 = n := by simp [List.getD, hn]
      have hin : n ∈ s := List.mem_of_getElem? hn
      show EvT _ _ H1 (decide (k ≤ Gq06.degreeIn g s (s.getD i 0)))
      rw [en, ← degTo_eq hin]
      exact et_is (et_test (ev_op (ev_call (ea_cons (ev_var rfl) (ea_cons (ev_var rfl) (ea_cons (ev_var rfl) ea_nil))) (sv_ET (G.same x1) (ex_l x1 S))) (ev_var rfl) rv_I0)) (dec_le k _)
    · obtain ⟨n, hn, rfl⟩ := nI_get hi
      have en : s.getD i 0 = n := by simp [List.getD, hn]
      show Ev _ _ H1 (V.int ((s.getD i 0 : Nat) : Int))
      rw [en]
      exact ev_var rfl
theorem sl_Hav {H : Hp} {a e p : Addr} {g : Graph} {s : List Nat} {k : Nat} (G : GAt C H a e g) (S : SqL K H p (nI s)) (hs : s.length ≤ 1000) : SpL (spHav C K) [.ref a, .ref p, .int (k : Nat)] H (nI (coreStep g k s)) := fun H1 x Q q E => ⟨a, e, p, g, s, k, rfl, G.same x, ex_l x S, hs, q⟩
/-! ### core_members -/
def spCore (C : Addr) : Sp := fun vs H Q _ => ∃ (a e : Addr) (g : Graph) (k : Nat), vs = [.ref a, .int (k : Nat)] ∧ GAt C H a e g ∧ GOk g ∧ RetL (nI (Gq06.core g k)) H Q
theorem scCore : FnScope ["graph", "k", "left", "staying"] ["graph", "k"] (defScope sCore) := ⟨rfl, rfl, rfl, by decide +kernel, rfl, by decide +kernel, by decide +kernel⟩
theorem can_Core (F : Fn K mg "core_members" sCore ["graph", "k"]) (T : Txt K mg C) (cA : Can P w K mg base "all_nodes" 1 ["graph"] (spAllN C)) (cH : Can P w K mg base "having_edges" 2 ["graph", "left", "k"] (spHav C K)) : Can P w K mg base "core_members" 3 ["graph", "k"] (spCore C) := by
  refine Can.mk F scCore (fun vs H Q E h => ?_) fun f cdv A outer s0 H vs Q E hr h => ?_
  · obtain ⟨a, e, g, k, rfl, _⟩ := h
    rfl
  · refine ⟨_, pss_cons (ps_set (i := 2) scCore.nd rfl (Or.inl rfl) (pe_can cA (hr.mono (by decide)) (pa_cons (pv 0) pa_nil)))
      (pss_cons (ps_set (i := 3) scCore.nd rfl (Or.inl rfl) (pe_can cH hr (pa_cons (pv 0) (pa_cons (pv 2) (pa_cons (pv 1) pa_nil)))))
      (pss_cons (ps_while PassesOwn.never (pt_cmpR op_lt (pe_callB call_len_seq (by rfl) T.len PySem.boot_len (pa_cons (pv 3) pa_nil)) (pe_callB call_len_seq (by rfl) T.len PySem.boot_len (pa_cons (pv 2) pa_nil)) (nomark _))
        (pss_cons (ps_set (i := 2) scCore.nd rfl (Or.inl rfl) (pv 3)) (pss_one (ps_set (i := 3) scCore.nd rfl (Or.inl rfl) (pe_can cH hr (pa_cons (pv 0) (pa_cons (pv 2) (pa_cons (pv 1) pa_nil))))))))
      (pss_one (ps_ret (pv 2))))), ?_⟩
    obtain ⟨a, e, g, k, rfl, G, O, q⟩ := h
    have h10 := O.nodes
    refine q_asgL (el_call (ea_cons (ev_var rfl) ea_nil) (sl_AllN G (by omega))) fun p H1 np x1 h1 => ?_
    refine q_asgL (xs := nI (coreStep g k (upto g.many))) (el_call (ea_cons (ev_var rfl) (ea_cons (ev_var rfl) (ea_cons (ev_var rfl) ea_nil))) (sl_Hav (G.same x1) (sq_of h1) (by rw [upto_length]; omega))) fun p2 H2 np2 x2 h2 => ?_
    refine q_while (fun m σ H' => Ex H H' ∧ ∃ (p p2 : Addr) (s : List Nat), σ = [some (.ref a), some (.int (k : Nat)), some (.ref p), some (.ref p2)] ∧ m = s.length ∧ H p = none ∧ H p2 = none ∧ H' p = some (.lst (nI s)) ∧ H' p2 = some (.lst (nI (coreStep g k s))) ∧ CoreInv g k s)
      (upto g.many).length ⟨x1.trans x2, p, p2, upto g.many, rfl, rfl, np, fresh_back x1 np2, x2 _ _ h1, h2, CoreInv.start g k⟩ ?_
    rintro m _ H3 ⟨x3, p, p2, s, rfl, rfl, np, np2, h1, h2, I⟩
    have hl : s.length ≤ 10 := by
      have := I.sub.length_le
      rw [upto_length] at this
      omega
    refine ⟨decide ((coreStep g k s).length < s.length), et_is (et_test (ev_op (ev_len (ev_var rfl) (sq_of h2)) (ev_len (ev_var rfl) (sq_of h1)) rv_I0)) (by rw [List.length_map, List.length_map]; exact dec_lt _ _), fun c H4 x4 => ?_, fun c H4 x4 => ?_⟩
    · have c := of_decide_eq_true c
      refine ⟨_, fun σ2 H5 h => ⟨(coreStep g k s).length, c, h⟩, ?_⟩
      refine q_asg (ev_var rfl) fun H5 x5 => ?_
      refine s_asgL (xs := nI (coreStep g k (coreStep g k s))) (el_call (ea_cons (ev_var rfl) (ea_cons (ev_var rfl) (ea_cons (ev_var rfl) ea_nil))) (sl_Hav (G.same ((x3.trans x4).trans x5)) (sq_of (x5 _ _ (x4 _ _ h2))) (by omega))) fun p3 H6 np3 x6 h6 => ?_
      exact ⟨((x3.trans x4).trans x5).trans x6, p2, p3, coreStep g k s, rfl, rfl, np2, fresh_back ((x3.trans x4).trans x5) np3, x6 _ _ (x5 _ _ (x4 _ _ h2)), h6, I.turn c⟩
    · have c := of_decide_eq_false c
      refine s_ret (ev_var rfl) fun H5 x5 => ?_
      have e5 := I.done c
      rw [e5] at h1
      exact q p H5 np ((x3.trans x4).trans x5) (x5 _ _ (x4 _ _ h1))
theorem sl_Core {H : Hp} {a e : Addr} {g : Graph} {k : Nat} (G : GAt C H a e g) (O : GOk g) : SpL (spCore C) [.ref a, .int (k : Nat)] H (nI (Gq06.core g k)) := fun H1 x Q q E => ⟨a, e, g, k, rfl, G.same x, O, q⟩
end
end Dp

set_option Elab.async false
set_option linter.all false
set_option maxRecDepth 100000
set_option maxHeartbeats 2000000
namespace Dp
open PySem PySem.Spec PyProof.Rows L2 Evl
open Gq06 (Graph)
/-- a list of lists of numbers -/
def RowsAt (H : Hp) (p : Addr) (ps : List (List Nat)) : Prop := ∃ rs : List Addr, H p = some (.lst (rs.map V.ref)) ∧ rs.length = ps.length ∧ ∀ (i : Nat) (r : Addr) (s : List Nat), rs[i]? = some r → ps[i]? = some s → H r = some (.lst (nI s))
theorem RowsAt.same {H H' : Hp} {p : Addr} {ps : List (List Nat)} (h : RowsAt H p ps) (x : Ex H H') : RowsAt H' p ps := by
  obtain ⟨rs, h1, h2, h3⟩ := h
  exact ⟨rs, x _ _ h1, h2, fun i r s a b => x _ _ (h3 i r s a b)⟩
theorem rows_get {rs : List Addr} {ps : List (List Nat)} (hl : rs.length = ps.length) {i : Nat} {x : V} (h : (rs.map V.ref)[i]? = some x) : ∃ r s, rs[i]? = some r ∧ ps[i]? = some s ∧ x = .ref r := by
  rw [List.getElem?_map] at h
  cases e : rs[i]? with
  | none => rw [e] at h; cases h
  | some t =>
    rw [e] at h
    have hi : i < ps.length := by rw [← hl]; exact (List.getElem?_eq_some_iff.mp e).1
    exact ⟨t, ps[i], rfl, List.getElem?_eq_getElem hi, (Option.some.inj h).symm⟩
theorem upto_get {n i : Nat} {x : Nat} (h : (upto n)[i]? = some x) : x = i + 1 ∧ i < n := by
  unfold upto at h
  rw [List.getElem?_map] at h
  by_cases hi : i < n
  · rw [List.getElem?_range hi] at h
    exact ⟨(Option.some.inj h).symm, hi⟩
  · rw [List.getElem?_eq_none (by simpa using hi)] at h
    cases h
theorem parts_len {n : Nat} (h : n ≤ 10) : (allParts n).length ≤ 1023 := by
  rw [allParts_length]
  have : 2 ^ n ≤ 2 ^ 10 := Nat.pow_le_pow_right (by decide) h
  omega
section
variable {P : Program} {w : World} {K : PySem.W.Frag} {mg : Str → Option Value} {base : Heap} {C : Addr}
/-! ### all_parts -/
def spAllP (C : Addr) : Sp := fun vs H Q _ => ∃ (a e : Addr) (g : Graph), vs = [.ref a] ∧ GAt C H a e g ∧ GOk g ∧ ∀ p H', H p = none → Ex H H' → RowsAt H' p (allParts g.many) → Q (.ref p) H'
abbrev nAllP : List Str := ["graph", "parts", "node", "with_node", "part"]
theorem scAllP : FnScope nAllP ["graph"] (defScope sAllP) := ⟨rfl, rfl, rfl, by decide +kernel, rfl, by decide +kernel, by decide +kernel⟩
theorem can_AllP (F : Fn K mg "all_parts" sAllP ["graph"]) (T : Txt K mg C) (cA : Can P w K mg base "all_nodes" 1 ["graph"] (spAllN C)) : Can P w K mg base "all_parts" 2 ["graph"] (spAllP C) := by
  refine Can.mk F scAllP (fun vs H Q E h => ?_) fun f cdv A outer s0 H vs Q E hr h => ?_
  · obtain ⟨a, e, g, rfl, _⟩ := h
    rfl
  · refine ⟨_, pss_cons (ps_set (i := 1) scAllP.nd rfl (Or.inl rfl) (pe_lst pa_nil))
      (pss_cons (ps_for PassesOwn.never rfl (pi_list (pe_can cA hr (pa_cons (pv 0) pa_nil))) (pg_name (i := 2) scAllP.nd rfl (Or.inr rfl))
        (pss_cons (ps_setLc (i := 3) (own := [("part", 4)]) (g := gName 4) (tt := tYes) (by rfl) scAllP.nd rfl rfl (sw_true rfl rfl rfl (by decide +kernel)) (pi_list (pv 1)) (blkOk_by (own := [("part", 4)]) (N := nAllP) (sc := defScope sAllP) (by decide +kernel))
            (fun _ _ _ _ _ => pg_name (i := 4) scAllP.nd rfl (Or.inl rfl)) (fun _ _ _ _ _ => pts_nil) (fun _ _ _ _ _ => pe_op op_cat (pv 4) (pe_lst (pa_cons (pv 2) pa_nil))))
        (pss_one (ps_set (i := 1) scAllP.nd rfl (Or.inl rfl) (pe_op op_cat (pe_op op_cat (pv 1) (pe_lst (pa_cons (pe_lst (pa_cons (pv 2) pa_nil)) pa_nil))) (pv 3))))))
      (pss_one (ps_ret (pv 1)))), ?_⟩
    obtain ⟨a, e, g, rfl, G, O, q⟩ := h
    have h10 := O.nodes
    refine q_asgL (xs := []) (el_lst ea_nil (by show 0 ≤ 100000; decide)) fun p0 H1 np0 x1 h1 => ?_
    refine q_forNLn (xs := nI (upto g.many)) (el_call (ea_cons (ev_var rfl) ea_nil) (sl_AllN (G.same x1) (by omega)))
      (fun pn i σ H' => Ex H H' ∧ H' pn = some (.lst (nI (upto g.many))) ∧ ∃ (p : Addr) (u v : Option V), σ = [some (.ref a), some (.ref p), u, v, none] ∧ RowsAt H' p (allParts i) ∧ H p = none)
      (fun pn H2 _ x2 h2 => ⟨x1.trans x2, h2, p0, none, none, rfl, ⟨[], x2 _ _ h1, rfl, fun i r s a => by simp at a⟩, np0⟩) (fun pn i σ' H' _ z => sq_of z.2.1) ?_ ?_
    · rintro pn i y _ H2 hi ⟨x2, hpn, p, u, v, rfl, ⟨rs, hp, hl, hr⟩, np⟩
      obtain ⟨n, hn, rfl⟩ := nI_get hi
      obtain ⟨rfl, hin⟩ := upto_get hn
      have hlen := parts_len (n := i) (by omega)
      refine ⟨_, rfl, p, rfl, ⟨_, sq_of hp⟩, fun D nD => ?_⟩
      refine lc_list (K := K) (a := p) (xs := rs.map V.ref) (fun j H' => Ex H2 H' ∧ ∃ ws : List Addr, H' D = some (.lst (ws.map V.ref)) ∧ ws.length = j ∧ ∀ (m : Nat) (r : Addr) (s : List Nat), ws[m]? = some r → (allParts i)[m]? = some s → H' r = some (.lst (nI (s ++ [i + 1]))))
        ⟨Ex.new nD, [], upd_same, rfl, fun m r s a => by simp at a⟩ (fun j H' _ z => sq_of (z.1 _ _ hp)) ?_ ?_
      · rintro j z H3 hj ⟨x3, ws, hD, hwl, hw⟩
        obtain ⟨r, s, hr1, hs1, rfl⟩ := rows_get hl hj
        have hjl : j < rs.length := (List.getElem?_eq_some_iff.mp hr1).1
        have hrs := x3 _ _ (hr j r s hr1 hs1)
        have hsl : s.length ≤ 10 := by
          have := (part_le (List.mem_of_getElem? hs1)).2
          omega
        refine ⟨rfl, ?_⟩
        refine ⟨_, rfl, _, rfl, (by show 1 ≤ sizeLine; decide), fun p5 n5 => ?_⟩
        have x5 : Ex H3 (upd H3 p5 (.lst [V.int ((i + 1 : Nat) : Int)])) := Ex.new n5
        refine ⟨r, p5, nI s, _, rfl, rfl, x5 _ _ hrs, upd_same, sz_of (by rw [List.length_map]; show s.length + 1 ≤ 100000; omega), fun p6 n6 => ?_⟩
        have x6 := Ex.new (o := .lst (nI s ++ [V.int ((i + 1 : Nat) : Int)])) n6
        have x36 := x5.trans x6
        refine ⟨_, x36 _ _ hD, sz_lt (by rw [List.length_map]; omega), ?_⟩
        have nD6 : ∀ b o, H3 b = some o → b ≠ D → (upd (upd (upd H3 p5 (.lst [V.int ((i + 1 : Nat) : Int)])) p6 (.lst (nI s ++ [V.int ((i + 1 : Nat) : Int)]))) D (.lst (ws.map V.ref ++ [.ref p6]))) b = some o := fun b o hb hne => by
          rw [upd_ne hne]
          exact x36 _ _ hb
        have d6 : p6 ≠ D := fun e6 => by
          rw [e6, x5 _ _ hD] at n6
          cases n6
        refine ⟨fun b o hb => nD6 b o (x3 b o hb) (fun e => by rw [e, nD] at hb; cases hb), ws ++ [p6], by rw [upd_same, List.map_append]; rfl, by rw [List.length_append, hwl]; rfl, fun m r' s' hm hs' => ?_⟩
        by_cases hmj : m < j
        · rw [List.getElem?_append_left (by omega)] at hm
          have h3 := hw m r' s' hm hs'
          refine nD6 _ _ h3 fun e => ?_
          rw [e, hD] at h3
          have h4 := Option.some.inj h3
          injection h4 with h4
          -- a list of references is no list of numbers, unless it is empty; this one has j items and the other one at least one number
          cases hws : ws with
          | nil => rw [hws] at hm; simp at hm
          | cons b r2 =>
            rw [hws] at h4
            cases hs3 : s' ++ [i + 1] with
            | nil => simp at hs3
            | cons c r3 => rw [hs3] at h4; cases h4
        · have hmj2 : m = j := by
            have := (List.getElem?_eq_some_iff.mp hm).1
            rw [List.length_append, hwl] at this
            have h1 : ([p6] : List Addr).length = 1 := rfl
            omega
          subst hmj2
          rw [List.getElem?_append_right (by omega), hwl, Nat.sub_self] at hm
          have e6 : p6 = r' := Option.some.inj hm
          subst e6
          rw [hs1] at hs'
          have e7 := Option.some.inj hs'
          subst e7
          rw [upd_ne d6, upd_same, nI_append]
          rfl
      · rintro H3 ⟨x3, ws, hD, hwl, hw⟩
        rw [List.length_map] at hwl
        refine ⟨_, rfl, _, rfl, (by show 1 ≤ sizeLine; decide), fun p5 n5 => ?_⟩
        have x5 := Ex.new (o := .lst [V.int ((i + 1 : Nat) : Int)]) n5
        refine ⟨(by show 1 ≤ sizeLine; decide), fun p6 n6 => ?_⟩
        have x6 := Ex.new (o := .lst [V.ref p5]) n6
        refine ⟨p, p6, rs.map V.ref, _, rfl, rfl, x6 _ _ (x5 _ _ (x3 _ _ hp)), upd_same, sz_of (by rw [List.length_map, hl]; show (allParts i).length + 1 ≤ 100000; omega), fun p7 n7 => ?_⟩
        have x7 := Ex.new (o := .lst (rs.map V.ref ++ [V.ref p5])) n7
        refine ⟨_, rfl, p7, D, _, ws.map V.ref, rfl, rfl, upd_same, x7 _ _ (x6 _ _ (x5 _ _ hD)), sz_of (by rw [List.length_append, List.length_map, List.length_map, hwl, hl]; show (allParts i).length + 1 + (allParts i).length ≤ 100000; omega), fun p8 n8 => ?_⟩
        have x8 := Ex.new (o := .lst (rs.map V.ref ++ [V.ref p5] ++ ws.map V.ref)) n8
        have x58 := ((x5.trans x6).trans x7).trans x8
        have x38 := x3.trans x58
        refine ⟨x2.trans x38, x38 _ _ hpn, p8, some (.int ((i + 1 : Nat) : Int)), some (.ref D), rfl, ⟨rs ++ [p5] ++ ws, ?_, ?_, ?_⟩, ?_⟩
        · rw [upd_same, List.map_append, List.map_append]
          rfl
        · show (rs ++ [p5] ++ ws).length = ((allParts i ++ [[i + 1]]) ++ (allParts i).map fun p => p ++ [i + 1]).length
          simp only [List.length_append, List.length_map, List.length_singleton, hl, hwl]
        · intro m r s hm hs
          have hs : ((allParts i ++ [[i + 1]]) ++ (allParts i).map fun p => p ++ [i + 1])[m]? = some s := hs
          by_cases c1 : m < rs.length
          · rw [List.append_assoc, List.getElem?_append_left c1] at hm
            rw [List.append_assoc, List.getElem?_append_left (by omega)] at hs
            exact x38 _ _ (hr m r s hm hs)
          · by_cases c2 : m = rs.length
            · rw [List.append_assoc, List.getElem?_append_right (by omega), c2, Nat.sub_self] at hm
              rw [List.append_assoc, List.getElem?_append_right (by omega), c2, hl, Nat.sub_self] at hs
              have e1 : p5 = r := Option.some.inj hm
              have e2 : [i + 1] = s := Option.some.inj hs
              subst e1 e2
              exact ((x6.trans x7).trans x8) _ _ upd_same
            · rw [List.getElem?_append_right (by rw [List.length_append, List.length_singleton]; omega), List.length_append, List.length_singleton] at hm
              rw [List.getElem?_append_right (by rw [List.length_append, List.length_singleton]; omega), List.length_append, List.length_singleton, List.getElem?_map] at hs
              cases e3 : (allParts i)[m - ((allParts i).length + 1)]? with
              | none => rw [e3] at hs; cases hs
              | some s' =>
                rw [e3] at hs
                have e4 : s' ++ [i + 1] = s := Option.some.inj hs
                subst e4
                rw [hl] at hm
                exact x58 _ _ (hw _ r s' hm e3)
        · exact fresh_back (x2.trans (x3.trans ((x5.trans x6).trans x7))) n8
    · rintro pn _ H2 ⟨x2, hpn, p, u, v, rfl, R, np⟩
      rw [List.length_map, upto_length] at R
      exact s_ret (ev_var rfl) fun H3 x3 => q p H3 np (x2.trans x3) (R.same x3)
end
end Dp

set_option Elab.async false
set_option linter.all false
set_option maxRecDepth 100000
set_option maxHeartbeats 4000000
/-! set(xs) of a list of whole numbers, of any length, whose different members are few; and what sorted makes of it. -/
namespace Dp
open PySem PySem.Spec PyProof.Rows L2
section
variable {P : Program} {w : World} {A : Around} {E : Value → Shared → Prop}
/-- a new set's object -/
abbrev newSet (w : World) : Obj := { cls := .type "set", dict := none, data := .set #[] 0 (.fresh 0 0 (!w.params.followText "set-order")) }
/-- a set has no more members than a list that holds them all -/
theorem setR_le {h : Heap} {a : Addr} {S : Int → Bool} {n : Nat} (R : SetR w h a S n) (Dl : List Int) (hS : ∀ k, S k = true → k ∈ Dl) : n ≤ Dl.length := by
  obtain ⟨_, es, _, _, _, _, _, _, nd, hm, _, _, hn, _⟩ := R
  have q := List.Nodup.length_le_of_subset nd fun k hk => hS k ((hm k).mpr hk)
  rw [List.length_map, Array.length_toList, hn] at q
  exact q
theorem fill_set {J : Addr} {fp wr : List Addr} {G : Array GenState → Array GenState → Prop} {n : Nat} {Pv : Nat → Value → Prop} {St : Nat → Shared → Prop} {R : Result → Shared → Prop}
    (W : WalksS P w A.in1 J fp wr G n Pv St) (Z : Addr) (nZ : Z ∉ fp) (ns Dl : List Int) (en : n = ns.length) (hD : ∀ k ∈ ns, k ∈ Dl) (hb : Dl.length + 1 < scanBound) (val : ∀ i v, Pv i v → ∃ k t, ns[i]? = some k ∧ v = .int k t) (m : Nat) :
    ∀ (i : Nat) (s : Shared), m = n - i → i ≤ n → St i s → (∃ c, SetR w s.heap Z (fun j => decide (j ∈ ns.take i)) c) →
      (∀ s' c, Moved (Z :: wr) G s s' → SetR w s'.heap Z (fun j => decide (j ∈ ns)) c → R (.ok (.ret .none)) s') → codeAny (model P w) A (.builtin "set.update.loop" ⟨[.ref Z, .ref J], []⟩) R s := by
  have nW : Z ∉ wr := fun h => nZ (W.sub _ h)
  have up : ∀ b ∈ wr, b ∈ Z :: wr := fun b h => List.mem_cons_of_mem _ h
  induction m with
  | zero =>
    rintro i s em le st ⟨c, hS⟩ goal
    have ei : i = ns.length := by omega
    have ej : i = n := by omega
    refine codeAny_builtin (F.entry_set_update_loop) ?_
    rw [(Around.under_plainId F.plain_set_update_loop _)]
    refine (wpAny_bind (m := pyNext (.ref J)) (W.done s _ _ (ej ▸ st) fun s' mv => ?_))
    rw [ei, List.take_length] at hS
    exact wpAny_pure (goal s' c (mv.mono up) (hS.at fun o q => mv.heap Z o nW q))
  | succ m ih =>
    rintro i s em le st ⟨c, hS⟩ goal
    have lt : i < n := by omega
    have few : c ≤ Dl.length := setR_le hS Dl fun k hk => hD k (List.mem_of_mem_take (of_decide_eq_true hk))
    refine codeAny_builtin (F.entry_set_update_loop) ?_
    rw [(Around.under_plainId F.plain_set_update_loop _)]
    refine (wpAny_bind (m := pyNext (.ref J)) (W.item i s _ _ lt st fun v s' pv' st' mv => ?_))
    obtain ⟨z, t, hz, rfl⟩ := val i v pv'
    have hS' := hS.at (h' := s'.heap) fun o q => mv.heap Z o nW q
    show wpAny _ A.in1 (holding [Value.int z t] (setAdd Z (.int z t)) >>= _) _ _ s'
    refine (wpAny_bind (wpAny_holding ?_))
    unfold setAdd
    refine (wpAny_holding (wpAny_bind ((intKind P w).pyHash (k := z) (intKind_is _ _ _ _) ?_)))
    refine setR_add_hashed (s := { s' with toks := s'.toks + 1 }) hS' (Nat.lt_of_le_of_lt (Nat.succ_le_succ few) hb) fun h' sb new => ?_
    have new' := new.congr (S' := fun j => decide (j ∈ ns.take (i + 1))) fun j => by
      rw [List.take_add_one, hz]
      simp [List.mem_append]
    refine wpAny_pure ⟨plainId_quiet F.plain_set_update_loop _, ih (i + 1) _ (by omega) lt (W.frame _ s' _ _ st' (Nat.le_succ _) fun b hb' o q => ?_) ⟨_, new'⟩ fun s2 c2 mv2 hS2 => ?_⟩
    · rw [sb.2 b fun q' => nZ (q' ▸ hb')]
      exact q
    · refine goal s2 c2 (Moved.trans W.gtrans ((mv.mono up).then_heap (Nat.le_succ _) fun b o hb' q => ?_) mv2) hS2
      rw [sb.2 b fun q' => hb' (q' ▸ List.mem_cons_self)]
      exact q
theorem set_of_list {s : Shared} {l : Addr} {items : Array Value} (ns Dl : List Int) {Q : Value → Shared → Prop} (calm : A.handled = none) (hl : s.heap.IsList l items) (it : IntsAre items.toList ns) (hD : ∀ k ∈ ns, k ∈ Dl) (hb : Dl.length + 1 < scanBound)
    (h : ∀ (h' : Heap) (tk c : Nat), SetR w h' s.heap.objs.size (fun j => decide (j ∈ ns)) c → (∀ b o, s.heap.get? b = some o → h'.get? b = some o) → Q (.ref s.heap.objs.size) { s with heap := h', toks := tk }) :
    wpAny (model P w) A (call (.type "set") [.ref l]) Q E s := by
  have size : items.size = ns.length := (Array.length_toList (xs := items)).symm.trans (IntsAre.length it)
  obtain ⟨c, tl, mro1⟩ := F.called_set.mro
  have made1 := F.called_set.made
  have sub1 := F.called_set.sub
  refine (wpAny_call (codeAny_of_tree ?_))
  show wpAny _ _ (callAny (.type "set") _) _ _ _
  refine wpAny_pure ⟨(Code.quiet_builtin _ (by decide +kernel)), (codeAny_builtin PySem.F.entry_type_call ?_)⟩
  rw [(Around.under_plain (weight_type_call_type "set" [.ref l] []) rfl)]
  have f1 := F.called_set.notType
  have f2 := F.called_set.canCreate
  have f3 := F.typeCall_set_1 (.ref l)
  repeat (any_goals (first | assumption | wp_step))
  refine codeAny_mono (code_set_led1 (.ref l) (E := E) (Q₁ := fun obj s1 => obj = .ref s.heap.objs.size ∧ s1 = { s with heap := s.heap.push (newSet w) }) ⟨rfl, rfl⟩) fun r s1 hr => ?_
  cases r with
  | error x => exact hr
  | ok fl =>
    cases fl with
    | ret obj =>
      obtain ⟨rfl, rfl⟩ := hr
      have at1 : (s.heap.push (newSet w)).get? s.heap.objs.size = some (newSet w) := Heap.get?_push_size _ rfl
      have ty1 : Shared.TypeIs { s with heap := s.heap.push (newSet w) } (.ref s.heap.objs.size) "set" := ⟨_, at1, rfl⟩
      have g1 := F.called_set.init.lookup
      have g2 := F.called_set.init.bind (.ref s.heap.objs.size)
      repeat (any_goals (first | assumption | wp_step))
      refine codeAny_mono (codeAny_call_builtin (R := wants (fun r s2 => r = .none ∧ ∃ h' tk c, s2 = { s with heap := h', toks := tk } ∧ SetR w h' s.heap.objs.size (fun j => decide (j ∈ ns)) c ∧ (∀ b o, s.heap.get? b = some o → h'.get? b = some o)) E) F.called_set.init.plain F.entry_set_init (check_set_init_1 ty1 ?_)) fun r2 s2 hr2 => ?_
      · obtain ⟨⟨oc, od, oa, os⟩, at2, ec, nl, ea⟩ := hl
        simp only at ec ea
        subst ec
        subst ea
        have at3 : (s.heap.push (newSet w)).get? l = some { cls := .type "list", dict := od, data := .seq items nl, slots := os } := Heap.get?_push_of_some _ at2
        have k1 := F.sub_list_set
        have k2 := F.sub_list_frozenset
        have k3 : (Value.type "list" == Value.type "dict") = false := by decide
        have hl1 : (s.heap.push (newSet w)).IsList l items := ⟨_, at3, rfl, nl, rfl⟩
        unfold Builtin.«set.__init__» noKeywords Builtin.Frozenset.updateFrom
        generalize hy : pyIter = PI
        wp_walk
        subst hy
        refine wpAny_pyIter_list hl1 (wpAny_bind (wpAny_runValue ?_))
        have lS : l < s.heap.objs.size := Heap.lt_size at2
        have calm3 : A.in1.in1.in1.handled = none := by simp [calm]
        have ps : (s.heap.push (newSet w)).objs.size = s.heap.objs.size + 1 := Heap.size_push ..
        have ne1 : l ≠ (s.heap.push (newSet w)).objs.size := ps ▸ Nat.ne_of_lt (Nat.lt_succ_of_lt lS)
        have ne2 : s.heap.objs.size ∉ [(s.heap.push (newSet w)).objs.size, l] := by
          rw [ps]
          simp only [List.mem_cons, List.not_mem_nil, or_false, not_or]
          exact ⟨Nat.ne_of_lt (Nat.lt_succ_self _), Nat.ne_of_gt lS⟩
        have val : ∀ (i : Nat) (v : Value), items[i]? = some v → ∃ k t, ns[i]? = some k ∧ v = .int k t := fun i v hv => by
          have hi : i < ns.length := size ▸ (Array.getElem?_eq_some_iff.mp hv).1
          obtain ⟨t, q⟩ := IntsAre.int_at it i v (by rw [Array.getElem?_toList]; exact hv)
          refine ⟨ns[i], t, List.getElem?_eq_getElem hi, q.trans ?_⟩
          simp [List.getD, hi]
        refine fill_set ((Walks.list calm3 _ l ne1 items).toS) s.heap.objs.size ne2 ns Dl size hD hb val (items.size - 0) 0 _ rfl (Nat.zero_le _) ⟨⟨_, Heap.get?_push_size _ rfl, rfl, rfl⟩, hl1.push _⟩ ?a0 ?a1
        case a0 => exact ⟨0, setR_new_at (ns := ns) (Heap.get?_push_of_some _ at1)⟩
        case a1 =>
          intro s' c' mv new
          obtain ⟨h', g', d', tk', o'⟩ := s'
          have q1 : g' = s.gens := mv.gens
          have q2 : d' = s.drawn := mv.drawn
          have q3 : o' = s.os := mv.os
          subst q1
          subst q2
          subst q3
          show wpAny _ _ _ _ _ _
          refine wpAny_pure ?_
          show wpAny _ _ (ret Value.none) _ _ _
          refine wpAny_pure ⟨rfl, h', tk', c', rfl, new, fun b o q => ?_⟩
          have lt : b < s.heap.objs.size := Heap.lt_size q
          refine mv.heap b o ?_ (Heap.get?_push_of_some _ (Heap.get?_push_of_some _ q))
          rw [ps]
          simp only [List.mem_cons, List.not_mem_nil, or_false, not_or]
          exact ⟨Nat.ne_of_lt lt, Nat.ne_of_lt (Nat.lt_succ_of_lt lt)⟩
      · cases r2 with
        | error x => exact hr2
        | ok fl2 =>
          cases fl2 with
          | ret r =>
            obtain ⟨rfl, h', tk, c', rfl, new, kp⟩ := hr2
            repeat (any_goals (first | assumption | wp_step))
            exact h _ _ _ new kp
          | _ => exact hr2.elim
    | _ => exact hr.elim
end
section
variable {X : Cx}
/-- set(xs): the members of xs, all of them among Dl -/
def rSetL (K : PySem.W.Frag) (w : World) : List V → Hp → VK → Prop := fun vs H Q => ∃ (l : Addr) (ns Dl : List Int), vs = [.ref l] ∧ SqL K H l (iI ns) ∧ (∀ k ∈ ns, k ∈ Dl) ∧ Dl.length < 64 ∧
  ∀ p c, H p = none → c < 64 → Q (.ref p) (upd H p (SetO w p (fun j => decide (j ∈ ns)) c))
theorem cr_setL (hc : X.calm = true) : CallR X (.type "set") (rSetL X.K X.w) := by
  intro pins s σ H xs us Q I r h
  obtain ⟨l, ns, Dl, rfl, hs, hD, h64, q⟩ := h
  obtain ⟨u, rfl, ru⟩ := vals1 r
  cases ru
  obtain ⟨its, rv, pl, hz⟩ := I.list hs
  refine set_of_list ns Dl (I.ok.hd hc) pl.isList (by simpa using intsAre_of rv) hD (by unfold scanBound; omega) fun h' tk c new kp => ?_
  have le : c ≤ Dl.length := setR_le new Dl fun k hk => hD k (of_decide_eq_true hk)
  exact ⟨.ref s.heap.objs.size, upd H s.heap.objs.size (SetO X.w s.heap.objs.size (fun j => decide (j ∈ ns)) c), I.laid kp (Nat.le_refl _) (setO_new new), rfl, q _ _ (I.hok.fresh (Nat.le_refl _)) (by omega)⟩
end
end Dp

set_option Elab.async false
set_option linter.all false
set_option maxRecDepth 100000
set_option maxHeartbeats 2000000
namespace Dp
open PySem PySem.Spec PyProof.Rows L2 Evl
open Gq06 (Graph)
section
variable {P : Program} {w : World} {K : PySem.W.Frag} {mg : Str → Option Value} {base : Heap} {C : Addr}
/-- sorted(set(xs)), xs numbers of nodes -/
theorem el_sortedSet {σ : L2.St} {H : Hp} {ta : TE} {l : Addr} {m r : List Nat} (ha : Ev ta σ H (.ref l)) (hl : SqL K H l (nI m)) (hr : r.Pairwise (· < ·)) (h64 : r.length < 64) (hm : ∀ x, x ∈ m ↔ x ∈ r) :
    EvL (tCB (rSortedSet w) (tCons (tCB (rSetL K w) (tCons ta tNil)) tNil)) σ H (nI r) := fun H1 x1 Q q => by
  refine ha H1 x1 _ fun H2 x2 => ?_
  have em : nI m = iI (m.map Int.ofNat) := by
    show m.map _ = (m.map Int.ofNat).map V.int
    rw [List.map_map]
    rfl
  refine ⟨l, m.map Int.ofNat, r.map Int.ofNat, rfl, em ▸ ex_l (x1.trans x2) hl, fun k hk => ?_, by rw [List.length_map]; exact h64, fun p c np hc => ?_⟩
  · obtain ⟨n, hn, rfl⟩ := List.mem_map.mp hk
    exact List.mem_map.mpr ⟨n, (hm n).mp hn, rfl⟩
  · refine ⟨p, _, c, rfl, upd_same, hc, fun ns p2 hp hk _ n2 => ?_⟩
    have en : ns = r.map Int.ofNat := by
      have hp2 : (r.map Int.ofNat).Pairwise (· < ·) := List.pairwise_map.mpr (hr.imp fun h => Int.ofNat_lt.mpr h)
      refine List.Perm.eq_of_pairwise (le := (· < ·)) (fun a b _ _ h1 h2 => absurd (Int.lt_trans h1 h2) (Int.lt_irrefl _)) hp hp2 ?_
      refine (List.perm_ext_iff_of_nodup (hp.imp fun h => Int.ne_of_lt h) (hp2.imp fun h => Int.ne_of_lt h)).mpr fun k => ?_
      rw [hk, decide_eq_true_eq, List.mem_map, List.mem_map]
      exact ⟨fun ⟨n, h1, h2⟩ => ⟨n, (hm n).mp h1, h2⟩, fun ⟨n, h1, h2⟩ => ⟨n, (hm n).mpr h1, h2⟩⟩
    have er : ns.map V.int = nI r := by
      rw [en, List.map_map]
      rfl
    rw [er]
    have x3 := Ex.new (o := SetO w p (fun j => decide (j ∈ m.map Int.ofNat)) c) np
    exact q p2 _ (fresh_back (x2.trans x3) n2) ((x2.trans x3).trans (Ex.new n2)) upd_same
/-! ### densest_part -/
def spDst (C : Addr) : Sp := fun vs H Q _ => ∃ (a e : Addr) (g : Graph), vs = [.ref a] ∧ GAt C H a e g ∧ GOk g ∧ 1 ≤ g.many ∧ RetL (nI (Gq06.densest g)) H Q
theorem scDst : FnScope ["graph", "most", "size", "members", "part", "within", "gain"] ["graph"] (defScope sDst) := ⟨rfl, rfl, rfl, by decide +kernel, rfl, by decide +kernel, by decide +kernel⟩
theorem can_Dst (F : Fn K mg "densest_part" sDst ["graph"]) (T : Txt K mg C) (cP : Can P w K mg base "all_parts" 2 ["graph"] (spAllP C)) (cW : Can P w K mg base "edges_within" 1 ["graph", "part"] (spEW C K)) : Can P w K mg base "densest_part" 3 ["graph"] (spDst C) := by
  refine Can.mk F scDst (fun vs H Q E h => ?_) fun f cdv A outer s0 H vs Q E hr h => ?_
  · obtain ⟨a, e, g, rfl, _⟩ := h
    rfl
  · refine ⟨_, pss_cons (ps_set (i := 1) scDst.nd rfl (Or.inl rfl) pe_int) (pss_cons (ps_set (i := 2) scDst.nd rfl (Or.inl rfl) pe_int) (pss_cons (ps_set (i := 3) scDst.nd rfl (Or.inl rfl) (pe_lst pa_nil))
      (pss_cons (ps_for PassesOwn.never rfl (pi_list (pe_can cP hr (pa_cons (pv 0) pa_nil))) (pg_name (i := 4) scDst.nd rfl (Or.inl rfl))
        (pss_cons (ps_set (i := 5) scDst.nd rfl (Or.inl rfl) (pe_can cW (hr.mono (by decide)) (pa_cons (pv 0) (pa_cons (pv 4) pa_nil))))
        (pss_cons (ps_set (i := 6) scDst.nd rfl (Or.inl rfl) (pe_op op_sub (pe_op op_mul (pv 5) (pv 2)) (pe_op op_mul (pv 1) (pe_callB call_len_seq (by rfl) T.len PySem.boot_len (pa_cons (pv 4) pa_nil)))))
        (pss_one (ps_if (pt_cmpR op_gt (pv 6) pe_int (nomark _))
          (pss_cons (ps_set (i := 1) scDst.nd rfl (Or.inl rfl) (pv 5)) (pss_cons (ps_set (i := 2) scDst.nd rfl (Or.inl rfl) (pe_callB call_len_seq (by rfl) T.len PySem.boot_len (pa_cons (pv 4) pa_nil))) (pss_one (ps_set (i := 3) scDst.nd rfl (Or.inl rfl) (pv 4)))))
          (pss_one (ps_if (pt_cmpR op_eq (pv 6) pe_int (nomark _)) (pss_one (ps_set (i := 3) scDst.nd rfl (Or.inl rfl) (pe_op op_cat (pv 3) (pv 4)))) pss_nil)))))))
      (pss_one (ps_ret (pe_callB (cr_sortedSet (by rfl)) (by rfl) T.sorted PyProof.Rows.boot_sorted (pa_cons (pe_callTy (cr_setL (by rfl)) (by rfl) T.set PyProof.Rows.boot_set (pa_cons (pv 3) pa_nil)) pa_nil))))))), ?_⟩
    obtain ⟨a, e, g, rfl, G, O, h1, q⟩ := h
    have h10 := O.nodes
    have h20 := O.edges
    refine q_asg ev_c fun H1 x1 => q_asg ev_c fun H2 x2 => q_asgL (xs := []) (el_lst ea_nil (by show 0 ≤ 100000; decide)) fun p0 H3 np0 x3 h3 => ?_
    have x03 := (x1.trans x2).trans x3
    refine ⟨_, rfl, a, e, g, rfl, G.same x03, O, fun pp H4 npp x4 ⟨rs, hp, hl, hr⟩ => ⟨pp, rfl, ⟨_, sq_of hp⟩, ?_⟩⟩
    refine for_list (K := K) (a := pp) (xs := rs.map V.ref) (fun i σ H' => Ex H4 H' ∧ ∃ (most size : Nat) (m : Addr) (mem : List Nat) (u v y : Option V), σ = [some (.ref a), some (.int (most : Nat)), some (.int (size : Nat)), some (.ref m), u, v, y] ∧
        H' m = some (.lst (nI mem)) ∧ mem.length ≤ 10 * i ∧ size ≤ 10 ∧ most ≤ 20 ∧ Den g ((allParts g.many).take i) most size mem)
      ⟨Ex.refl _, 0, 1, p0, [], none, none, none, rfl, x4 _ _ h3, by simp, by omega, by omega, Den.start g⟩ (fun i σ H' _ z => sq_of (z.1 _ _ hp)) ?_ ?_
    · rintro i z _ H5 hi ⟨x5, most, size, m, mem, u, v, y, rfl, hm, hml, hs10, hm20, D⟩
      obtain ⟨r, s, hr1, hs1, rfl⟩ := rows_get hl hi
      have hrs := x5 _ _ (hr i r s hr1 hs1)
      have hsl := part_le (List.mem_of_getElem? hs1)
      have G5 := G.same ((x03.trans x4).trans x5)
      have step := take_more hs1
      have hps : ∀ t ∈ (allParts g.many).take i, 0 < t.length := fun t ht => (part_le (List.mem_of_mem_take ht)).1
      have hw20 : win g s ≤ 20 := Nat.le_trans (win_le g s) h20
      have hil : i < 1023 := by
        have h2 := (List.getElem?_eq_some_iff.mp hs1).1
        have := parts_len h10
        omega
      refine q_asg (ev_call (ea_cons (ev_var rfl) (ea_cons (ev_var rfl) ea_nil)) (sv_EW G5 (sq_of hrs))) fun H6 x6 => ?_
      have hrs6 := x6 _ _ hrs
      have c1 : CMul ((win g s : Nat) : Int) (size : Int) := .inl ⟨by omega, by omega⟩
      have c2 : CMul (most : Int) (((nI s).length : Nat) : Int) := .inl ⟨by omega, by omega⟩
      refine q_asg (v := .int (((win g s : Nat) : Int) * (size : Int) - (most : Int) * (((nI s).length : Nat) : Int))) (ev_op (ev_op (ev_var rfl) (ev_var rfl) (rv_I c1)) (ev_op (ev_var rfl) (ev_len (ev_var rfl) (sq_of hrs6)) (rv_I c2)) rv_I0) fun H7 x7 => ?_
      have hrs7 := x7 _ _ hrs6
      have hm7 := x7 _ _ (x6 _ _ hm)
      have x47 := (x5.trans x6).trans x7
      rw [List.length_map]
      have eg : (((win g s : Nat) : Int) * (size : Int) - (most : Int) * (s.length : Int)) = ((win g s * size : Nat) : Int) - ((most * s.length : Nat) : Int) := by
        rw [Int.natCast_mul, Int.natCast_mul]
      rw [eg]
      refine s_if (b := decide (most * s.length < win g s * size)) (et_is (et_test (ev_op (ev_var rfl) ev_c rv_I0)) ?_) (fun c H8 x8 => ?_) (fun c H8 x8 => ?_)
      · by_cases h : most * s.length < win g s * size
        · rw [decide_eq_true h, decide_eq_true (by omega)]
        · rw [decide_eq_false h, decide_eq_false (by omega)]
      · have c := of_decide_eq_true c
        refine q_asg (ev_var rfl) fun H9 x9 => q_asg (ev_len (ev_var rfl) (sq_of (x9 _ _ (x8 _ _ hrs7)))) fun H10 x10 => s_asg (ev_var rfl) fun H11 x11 => ?_
        have xs := ((x8.trans x9).trans x10).trans x11
        refine ⟨x47.trans xs, win g s, s.length, r, s, some (.ref r), some (.int (win g s : Nat)), some (.int (((win g s * size : Nat) : Int) - ((most * s.length : Nat) : Int))), ?_, xs _ _ hrs7, by omega, by omega, hw20, ?_⟩
        · rw [List.length_map]
          rfl
        · rw [step]
          exact D.more hps hsl.1 c
      · have c := of_decide_eq_false c
        refine s_when (b := decide (win g s * size = most * s.length)) (et_is (et_test (ev_op (ev_var rfl) ev_c (rv_eq rfl))) ?_) (fun d H9 x9 => ?_) (fun d H9 x9 => ?_)
        · by_cases h : win g s * size = most * s.length
          · rw [decide_eq_true h, decide_eq_true]
            congr 1
            omega
          · rw [decide_eq_false h, decide_eq_false]
            intro h2
            injection h2 with h2
            omega
        · have d := of_decide_eq_true d
          have hm9 := x9 _ _ (x8 _ _ hm7)
          refine ⟨_, rfl, _, rfl, m, r, nI mem, nI s, rfl, rfl, hm9, x9 _ _ (x8 _ _ hrs7), sz_of (by rw [List.length_map, List.length_map]; omega), fun p2 n2 => ?_⟩
          refine ⟨((x47.trans x8).trans x9).trans (Ex.new n2), most, size, p2, mem ++ s, some (.ref r), some (.int (win g s : Nat)), some (.int (((win g s * size : Nat) : Int) - ((most * s.length : Nat) : Int))), rfl, by rw [upd_same, nI_append], by rw [List.length_append]; omega, hs10, hm20, ?_⟩
          rw [step]
          exact D.same d
        · have d := of_decide_eq_false d
          refine ⟨(x47.trans x8).trans x9, most, size, m, mem, some (.ref r), some (.int (win g s : Nat)), some (.int (((win g s * size : Nat) : Int) - ((most * s.length : Nat) : Int))), rfl, x9 _ _ (x8 _ _ hm7), by omega, hs10, hm20, ?_⟩
          rw [step]
          exact D.less (by omega)
    · rintro _ H5 ⟨x5, most, size, m, mem, u, v, y, rfl, hm, hml, hs10, hm20, D⟩
      rw [List.length_map, hl, List.take_length] at D
      have x05 := (x03.trans x4).trans x5
      have hd10 : (Gq06.densest g).length ≤ 10 := by
        have := (densest_sub g).length_le
        rw [upto_length] at this
        omega
      exact s_retL (el_sortedSet (ev_var rfl) (sq_of hm) (densest_rises g) (by omega) (D.mem_iff h1)) fun p H6 np x6 h6 => q p H6 (fresh_back x05 np) (x05.trans x6) h6
theorem sl_Dst {H : Hp} {a e : Addr} {g : Graph} (G : GAt C H a e g) (O : GOk g) (h1 : 1 ≤ g.many) : SpL (spDst C) [.ref a] H (nI (Gq06.densest g)) := fun H1 x Q q E => ⟨a, e, g, rfl, G.same x, O, h1, q⟩
end
end Dp

set_option Elab.async false
set_option linter.all false
set_option maxRecDepth 100000
set_option maxHeartbeats 4000000
/-! Rules of the language that the second stage wants: max(.., default=d), xs[i] -= e, a comprehension over enumerate, lists of lists as values. -/
namespace Dp
open PySem PySem.Spec PyProof.Rows L2 Evl
open Gq06 (Graph)
section
variable {X : Cx}
/-- max(xs, default=d) of whole numbers -/
def rMaxDef (K : PySem.W.Frag) : List V → List V → Hp → VK → Prop := fun vs zs H Q => ∃ (a : Addr) (ns : List Int) (d : Int), vs = [.ref a] ∧ zs = [.int d] ∧ SqL K H a (iI ns) ∧ (ns = [] → Q (.int d) H) ∧ ∀ m, m ∈ ns → (∀ y, y ∈ ns → y ≤ m) → Q (.int m) H
theorem cr_maxDef (hc : X.calm = true) : CallRK X (.builtin "max") [Str.ofString "default"] (rMaxDef X.K) := by
  intro pins s σ H xs zs us ws Q I r1 r2 h
  obtain ⟨a, ns, d, rfl, rfl, hs, q0, q⟩ := h
  obtain ⟨its, rv, hl, _⟩ := I.list hs
  rw [Vals.ref1 r1]
  obtain ⟨u, rfl, t, rfl⟩ := vals1 r2
  show wpAny _ _ (call (.builtin "max") [.ref a] [(Str.ofString "default", .int d t)]) _ _ s
  have it := rv.ints
  have size : its.toArray.size = ns.length := by
    rw [List.size_toArray]
    exact IntsAre.length it
  have val : ∀ (i : Nat) (v : Value), its.toArray[i]? = some v → ∃ t, v = .int (ns.getD i 0) t := fun i v hv => IntsAre.int_at it i v (by simpa using hv)
  refine call_max_walkD (PySem.W.iter_listW (A := X.A.in1) (I.ok.hd hc) hl.isList fun s₂ e W st hfp hw hk => ?_)
  refine ⟨_, _, _, _, _, _, _, s.heap, (fun i j => decide (ns.getD i 0 > ns.getD j 0)), rfl, W, st, hfp, hw, hk, fun hz s' m => ?_, fun hp => ⟨fun i j vi vj s Q E _ hi hj hq => CmpOf.ints_gt (P := fun i v => its.toArray[i]? = some v) (fun i => ns.getD i 0) val i j vi vj s Q E hi hj hq, fun v s' hP m => ?_⟩⟩
  · obtain ⟨h', tk, rfl, hk'⟩ := PySem.W.moved_old e rfl m
    exact ⟨.int d, H, I.kept hk', ⟨_, rfl⟩, q0 (List.eq_nil_of_length_eq_zero (by omega))⟩
  · obtain ⟨h', tk, rfl, hk'⟩ := PySem.W.moved_old e rfl m
    obtain ⟨t2, rfl⟩ := val _ v hP
    obtain ⟨h1, h2⟩ := argBest_gt (fun i => ns.getD i 0) (its.toArray.size - 1)
    refine ⟨.int _, H, I.kept hk', ⟨_, rfl⟩, q _ (PySem.getD_mem (by omega)) fun y hy => ?_⟩
    obtain ⟨j, hj, rfl⟩ := List.getElem_of_mem hy
    have := h2 j (by omega)
    simpa [List.getD, hj] using this
/-- xs[i], i a number from 0: what xs[i] -= e reads -/
def rGetN (K : PySem.W.Frag) : V → V → Hp → VK → Prop := fun x y H Q => ∃ (p : Addr) (xs : List V) (i : Nat) (v : V), x = .ref p ∧ y = .int (i : Nat) ∧ SqL K H p xs ∧ xs[i]? = some v ∧ Q v H
theorem get_list : PGet X (rGetN X.K) := by
  intro pins s σ H o i ov iv Q I ro ri h
  obtain ⟨p, xs, k, v, rfl, rfl, hq, he, q⟩ := h
  cases ro
  obtain ⟨t, rfl⟩ := ri
  obtain ⟨its, r, pl, hz⟩ := I.list hq
  obtain ⟨w, ew, rw'⟩ := r.get he
  have hl := r.length
  have hn := line63
  have hk := (List.getElem?_eq_some_iff.mp he).1
  exact wpAny_getItem_list pl.isList (by omega) (by omega) (by simpa using ew) ⟨v, H, I, rw', q⟩
end
/-! ### a comprehension over enumerate -/
theorem lc_enum {K : PySem.W.Frag} {a : Addr} {xs : List V} {g : TG} {tt : TT} {te : TE} {vs : List Nat} {σ : L2.St} {H1 : Hp} {D : Addr} {Qd : Hp → Prop} (Pv : Nat → Hp → Prop) (h0 : Pv 0 (upd H1 D (.lst []))) (hl : ∀ i H, i ≤ xs.length → Pv i H → SqL K H a xs)
    (hs : ∀ i x H T, xs[i]? = some x → Pv i H → H T = none → g (.ref T) (wipe σ vs) (upd H T (.tup [.int (i : Nat), x])) fun σ2 H2 => wipe σ2 vs = wipe σ vs ∧ tt σ2 H2 fun b H3 =>
      if b = true then te σ2 H3 fun y H4 => ∃ acc, H4 D = some (.lst acc) ∧ acc.length < sizeLine ∧ Pv (i + 1) (upd H4 D (.lst (acc ++ [y]))) else Pv (i + 1) H3) (hd : ∀ H, Pv xs.length H → Qd H) :
    ∃ W : Nat → Nat → Hp → Prop, (∃ m, W 0 m (upd H1 D (.lst []))) ∧ ∀ i m H, W i m H →
      ((Ite K a).stop i H ∧ Qd H) ∨ ((Ite K a).go i H ∧ ∃ Nx : Hp → Prop, (∀ H', Nx H' → ∃ m', m' < m ∧ W (i + 1) m' H') ∧ ∀ x H', (Ite K a).yld i H x H' → g x (wipe σ vs) H' fun σ2 H2 => wipe σ2 vs = wipe σ vs ∧ tt σ2 H2 fun b H3 =>
        if b = true then te σ2 H3 fun y H4 => ∃ acc, H4 D = some (.lst acc) ∧ acc.length < sizeLine ∧ Nx (upd H4 D (.lst (acc ++ [y]))) else Nx H3) := by
  refine ⟨fun i m H => m = xs.length - i ∧ i ≤ xs.length ∧ Pv i H, ⟨xs.length, by simp, Nat.zero_le _, h0⟩, ?_⟩
  rintro i m H ⟨rfl, hi, p⟩
  have q := hl i H hi p
  by_cases hlt : i < xs.length
  · refine .inr ⟨⟨xs, xs[i], q, by simp [hlt]⟩, Pv (i + 1), fun H' p' => ⟨xs.length - (i + 1), by omega, rfl, hlt, p'⟩, fun x H' y => ?_⟩
    obtain ⟨T, z, rfl, hT, rfl, hz⟩ := y
    exact hs i z H T (hz xs q) p hT
  · have e : i = xs.length := by omega
    subst e
    exact .inl ⟨⟨xs, q, Nat.le_refl _⟩, hd H p⟩
section
variable {K : PySem.W.Frag} {C : Addr} {H : Hp} {σ : L2.St} {D : Ends} {tu tz : TS} {t : TT} {ta tb te tl : TE}
theorem el_lcEnum {a : Addr} {xs : List V} {j1 j2 : Nat} {vs : List Nat} (f : Nat → Bool) (v : Nat → V) (h : Ev tl σ H (.ref a)) (hx : SqL K H a xs) (hz : xs.length ≤ 40000) (hw : ∀ x y, wipe (((wipe σ vs).set j1 (some x)).set j2 (some y)) vs = wipe σ vs)
    (ht : ∀ (i : Nat) (x : V) H1, Ex H H1 → xs[i]? = some x → EvT t (((wipe σ vs).set j1 (some (.int (i : Nat)))).set j2 (some x)) H1 (f i)) (he : ∀ (i : Nat) (x : V) H1, Ex H H1 → xs[i]? = some x → f i = true → Ev te (((wipe σ vs).set j1 (some (.int (i : Nat)))).set j2 (some x)) H1 (v i)) :
    EvL (tLc (iEnum K (tCons tl tNil)) (gTup K 2 (gCons (gName j1) (gCons (gName j2) gNil))) t te vs) σ H (given xs.length f v) := fun H0 e Q q => h H0 e _ fun H1 e1 => ⟨a, xs, rfl, ex_l (e.trans e1) hx, fun Dl hD =>
  lc_enum (xs := xs) (Cw H1 f v Dl) ⟨hD, Ex.new hD, upd_same⟩ (fun i H' _ p => ex_l ((e.trans e1).trans p.2.1) hx) (fun i x H' T hi p nT => ⟨T, _, rfl, st_of upd_same, rfl, _, _, rfl, _, _, rfl, rfl, hw _ _,
      cw_turn (H' := upd H' T (.tup [.int (i : Nat), x])) ⟨p.1, p.2.1.trans (Ex.new nT), Ex.new nT _ _ p.2.2⟩ (by have := (List.getElem?_eq_some_iff.mp hi).1; omega) (ht i x H1 (e.trans e1) hi) (fun hf => he i x H1 (e.trans e1) hi hf)⟩)
    (fun H' p => q Dl H' (fresh_back e1 p.1) (e1.trans p.2.1) p.2.2)⟩
/-! ### lists of lists as values -/
def EvR (te : TE) (σ : L2.St) (H : Hp) (ps : List (List Nat)) : Prop := ∀ H1, Ex H H1 → ∀ Q : VK, (∀ p H2, H1 p = none → Ex H1 H2 → RowsAt H2 p ps → Q (.ref p) H2) → te σ H1 Q
def SpR (sp : Sp) (vs : List V) (H : Hp) (ps : List (List Nat)) : Prop := ∀ H1, Ex H H1 → ∀ Q : VK, (∀ p H2, H1 p = none → Ex H1 H2 → RowsAt H2 p ps → Q (.ref p) H2) → ∀ E : XK, sp vs H1 Q E
theorem er_call {sp : Sp} {dvs vs : List V} {ps : List (List Nat)} {E : XK} {ta : TA} (h : EvA ta σ H vs) (hs : SpR sp (vs ++ dvs) H ps) : EvR (tCall sp dvs E ta) σ H ps := fun H1 e Q q =>
  h H1 e _ fun H2 e2 => hs H2 (e.trans e2) _ (fun p H3 hp e3 r => q p H3 (fresh_back e2 hp) (e2.trans e3) r) E
theorem er_var {i : Nat} {p : Addr} {ps : List (List Nat)} (h : Ev tl σ H (.ref p)) (R : RowsAt H p ps) : ∀ H1, Ex H H1 → ∀ Q : VK, (∀ p H2, Ex H1 H2 → RowsAt H2 p ps → Q (.ref p) H2) → tl σ H1 Q := fun H1 e Q q => h H1 e _ fun H2 e2 => q p H2 e2 (R.same (e.trans e2))
theorem rows_len {rs : List Addr} {ps : List (List Nat)} (hl : rs.length = ps.length) {i : Nat} {r : Addr} (h : rs[i]? = some r) : ∃ s, ps[i]? = some s := by
  have hi : i < ps.length := by rw [← hl]; exact (List.getElem?_eq_some_iff.mp h).1
  exact ⟨ps[i], List.getElem?_eq_getElem hi⟩
/-- [e for s in rows if t], e no list -/
theorem el_lcRowsAt {p : Addr} {ps : List (List Nat)} {j : Nat} {vs : List Nat} (f : Nat → Bool) (v : Nat → V) (h : Ev tl σ H (.ref p)) (R : RowsAt H p ps) (hz : ps.length ≤ 40000) (hw : ∀ x, wipe ((wipe σ vs).set j (some x)) vs = wipe σ vs)
    (ht : ∀ (i : Nat) (r : Addr) (s : List Nat) H1, Ex H H1 → ps[i]? = some s → H1 r = some (.lst (nI s)) → EvT t ((wipe σ vs).set j (some (.ref r))) H1 (f i)) (he : ∀ (i : Nat) (r : Addr) (s : List Nat) H1, Ex H H1 → ps[i]? = some s → H1 r = some (.lst (nI s)) → f i = true → Ev te ((wipe σ vs).set j (some (.ref r))) H1 (v i)) :
    EvL (tLc (iList K tl) (gName j) t te vs) σ H (given ps.length f v) := by
  obtain ⟨rs, h1, h2, h3⟩ := R
  rw [← h2]
  have e : rs.length = (rs.map V.ref).length := (List.length_map ..).symm
  rw [e]
  refine el_lcL (a := p) (xs := rs.map V.ref) f v h (sq_of h1) (by rw [List.length_map]; omega) hw (fun i x H1 x1 hi => ?_) (fun i x H1 x1 hi => ?_)
  · obtain ⟨r, s, hr, hs, rfl⟩ := rows_get h2 hi
    exact ht i r s H1 x1 hs (x1 _ _ (h3 i r s hr hs))
  · obtain ⟨r, s, hr, hs, rfl⟩ := rows_get h2 hi
    exact he i r s H1 x1 hs (x1 _ _ (h3 i r s hr hs))
theorem el_lcRows {ps : List (List Nat)} {j : Nat} {vs : List Nat} (f : Nat → Bool) (v : Nat → V) (h : EvR tl σ H ps) (hz : ps.length ≤ 40000) (hw : ∀ x, wipe ((wipe σ vs).set j (some x)) vs = wipe σ vs)
    (ht : ∀ (i : Nat) (r : Addr) (s : List Nat) H1, Ex H H1 → ps[i]? = some s → H1 r = some (.lst (nI s)) → EvT t ((wipe σ vs).set j (some (.ref r))) H1 (f i)) (he : ∀ (i : Nat) (r : Addr) (s : List Nat) H1, Ex H H1 → ps[i]? = some s → H1 r = some (.lst (nI s)) → f i = true → Ev te ((wipe σ vs).set j (some (.ref r))) H1 (v i)) :
    EvL (tLc (iList K tl) (gName j) t te vs) σ H (given ps.length f v) := fun H0 e Q q => h H0 e _ fun a H1 ha e1 ⟨rs, h1, h2, h3⟩ => ⟨a, rfl, ⟨_, sq_of h1⟩, fun Dl hD => by
  have el : (rs.map V.ref).length = ps.length := (List.length_map ..).trans h2
  refine lc_list (K := K) (a := a) (xs := rs.map V.ref) (Cw H1 f v Dl) ⟨hD, Ex.new hD, upd_same⟩ (fun i H' _ p => sq_of (p.2.1 a _ h1)) (fun i x H' hi p => ?_) (fun H' p => ?_)
  · obtain ⟨r, s, hr, hs, rfl⟩ := rows_get h2 hi
    exact ⟨hw _, cw_turn p (by have := (List.getElem?_eq_some_iff.mp hi).1; omega) (ht i r s H1 (e.trans e1) hs (h3 i r s hr hs)) (fun hf => he i r s H1 (e.trans e1) hs (h3 i r s hr hs) hf)⟩
  · rw [el] at p
    exact q Dl H' (fresh_back e1 p.1) (e1.trans p.2.1) p.2.2⟩
theorem given_all {n : Nat} (v : Nat → V) : given n (fun _ => true) v = (List.range n).map v := by
  unfold given
  rw [List.filter_eq_self.mpr fun _ _ => rfl]
theorem given_map {α : Type} (d : α) (ps : List α) (w : α → V) : given ps.length (fun _ => true) (fun i => w (ps.getD i d)) = ps.map w := by
  rw [given_all]
  apply List.ext_getElem?
  intro i
  rw [List.getElem?_map, List.getElem?_map]
  by_cases h : i < ps.length
  · rw [List.getElem?_range h, List.getElem?_eq_getElem h]
    simp [List.getD, h]
  · rw [List.getElem?_eq_none (by simpa using h), List.getElem?_eq_none (by omega)]
    rfl
/-! ### values of calls -/
theorem ev_maxDef {ns : List Nat} {m : Nat} (h : EvL te σ H (nI ns)) (h0 : ns = [] → m = 0) (h1 : ∀ x, x ∈ ns → (∀ y ∈ ns, y ≤ x) → x = m) : Ev (tCKw (rMaxDef K) (tCons te tNil) (tCons (tC (.int 0)) tNil)) σ H (.int (m : Nat)) := fun H1 e1 Q q =>
  h H1 e1 _ fun p H2 np e2 h2 => by
    have en : nI ns = iI (ns.map Int.ofNat) := by
      show ns.map _ = (ns.map Int.ofNat).map V.int
      rw [List.map_map]
      rfl
    rw [en] at h2
    refine ⟨p, ns.map Int.ofNat, 0, rfl, rfl, sq_of h2, fun z => ?_, fun x hx hy => ?_⟩
    · have := h0 (List.map_eq_nil_iff.mp z)
      subst this
      exact q H2 e2
    · obtain ⟨n, hn, rfl⟩ := List.mem_map.mp hx
      have := h1 n hn fun y hy' => by
        have := hy (Int.ofNat y) (List.mem_map.mpr ⟨y, hy', rfl⟩)
        exact Int.ofNat_le.mp this
      subst this
      exact q H2 e2
theorem ev_min2 {i j : Nat} (ha : Ev ta σ H (.int (i : Nat))) (hb : Ev tb σ H (.int (j : Nat))) : Ev (tCB (fun xs H Q => ∃ i j : Int, xs = [.int i, .int j] ∧ Q (.int (if j < i then j else i)) H) (tCons ta (tCons tb tNil))) σ H (.int ((min i j : Nat) : Int)) := fun H1 e Q q =>
  ha H1 e _ fun H2 e2 => hb H2 (e.trans e2) _ fun H3 e3 => ⟨_, _, rfl, by
    have : (if (j : Int) < (i : Int) then (j : Int) else (i : Int)) = ((min i j : Nat) : Int) := by
      split <;> omega
    rw [this]
    exact q H3 (e2.trans e3)⟩
theorem ev_max2n {i j : Nat} (ha : Ev ta σ H (.int (i : Nat))) (hb : Ev tb σ H (.int (j : Nat))) : Ev (tCB (fun xs H Q => ∃ i j : Int, xs = [.int i, .int j] ∧ Q (.int (if j > i then j else i)) H) (tCons ta (tCons tb tNil))) σ H (.int ((max i j : Nat) : Int)) := fun H1 e Q q =>
  ha H1 e _ fun H2 e2 => hb H2 (e.trans e2) _ fun H3 e3 => ⟨_, _, rfl, by
    have : (if (j : Int) > (i : Int) then (j : Int) else (i : Int)) = ((max i j : Nat) : Int) := by
      split <;> omega
    rw [this]
    exact q H3 (e2.trans e3)⟩
/-- f(e), e a new list -/
theorem el_callL {sp : Sp} {xs ys : List V} {E : XK} (h : EvL te σ H xs) (hs : ∀ p H1, Ex H H1 → H1 p = some (.lst xs) → SpL sp [.ref p] H1 ys) : EvL (tCall sp [] E (tCons te tNil)) σ H ys := fun H1 e Q q =>
  h H1 e _ fun p H2 np e2 h2 => hs p H2 (e.trans e2) h2 H2 (Ex.refl H2) _ (fun p2 H3 hp e3 r => q p2 H3 (fresh_back e2 hp) (e2.trans e3) r) E
/-! ### lists that grow -/
theorem s_extL {l : Addr} {xs ys : List V} (hl : H l = some (.lst xs)) (ha : Ev ta σ H (.ref l)) (h : EvL te σ H ys) (hz : xs.length + ys.length ≤ 100000) (k : ∀ H1, Ex H H1 → D.nx σ (upd H1 l (.lst (xs ++ ys)))) :
    tDrop (tBM K "list" rExtend ta (tCons te tNil)) D σ H := ha H (Ex.refl H) _ fun H1 e1 =>
  ⟨Or.inl ⟨rfl, xs, sq_of (e1 l _ hl)⟩, h H1 e1 _ fun p H2 hp e2 h2 => ⟨l, p, xs, ys, rfl, rfl, e2 l _ (e1 l _ hl), h2, sz_of hz, k H2 (e1.trans e2)⟩⟩
theorem s_extV {l p : Addr} {xs ys : List V} (hl : H l = some (.lst xs)) (hp : H p = some (.lst ys)) (ha : Ev ta σ H (.ref l)) (h : Ev te σ H (.ref p)) (hz : xs.length + ys.length ≤ 100000) (k : ∀ H1, Ex H H1 → D.nx σ (upd H1 l (.lst (xs ++ ys)))) :
    tDrop (tBM K "list" rExtend ta (tCons te tNil)) D σ H := ha H (Ex.refl H) _ fun H1 e1 =>
  ⟨Or.inl ⟨rfl, xs, sq_of (e1 l _ hl)⟩, h H1 e1 _ fun H2 e2 => ⟨l, p, xs, ys, rfl, rfl, e2 l _ (e1 l _ hl), e2 p _ (e1 p _ hp), sz_of hz, k H2 (e1.trans e2)⟩⟩
theorem q_extL {l : Addr} {xs ys : List V} (hl : H l = some (.lst xs)) (ha : Ev ta σ H (.ref l)) (h : EvL te σ H ys) (hz : xs.length + ys.length ≤ 100000) (k : ∀ H1, Ex H H1 → tz D σ (upd H1 l (.lst (xs ++ ys)))) :
    tSeq (tDrop (tBM K "list" rExtend ta (tCons te tNil))) tz D σ H := s_extL (D := { D with nx := tz D }) hl ha h hz k
/-- for x, y in graph.ends, told with the heap -/
theorem q_endsH {j k : Nat} {a e : Addr} {g : Graph} {H0 : Hp} (h : Ev ta σ H (.ref a)) (G : GAt C H0 a e g) (x0 : Ex H0 H) (c : Cls K C) (n : NoAttr K C "ends") (Pv : Nat → L2.St → Hp → Prop) (h0 : ∀ H1, Ex H H1 → Pv 0 σ H1) (hx : ∀ i σ' H', Pv i σ' H' → Ex H0 H')
    (hs : ∀ i d σ' H', Ex H0 H' → g.edges[i]? = some d → Pv i σ' H' → tu { D with nx := Pv (i + 1), ct := Pv (i + 1), bk := tz D } ((σ'.set j (some (.int (d.1 : Nat)))).set k (some (.int (d.2 : Nat)))) H')
    (hd : ∀ σ' H', Ex H0 H' → Pv g.edges.length σ' H' → tz D σ' H') : tSeq (tFor (iList K (tFld K ta "ends")) (gTup K 2 (gCons (gName j) (gCons (gName k) gNil))) tu) tz D σ H := by
  obtain ⟨ts, h2, h3, h4⟩ := G.ls
  refine q_forL (xs := ts.map V.ref) (ev_ends h (G.same x0) c n) (sq_of (x0 _ _ h2)) (fun i σ' H' => Pv i σ' H') h0 (fun i σ' H' _ p => sq_of (hx _ _ _ p _ _ h2)) ?_ ?_
  · rintro i x σ' H' hi p
    obtain ⟨t, d, ht, hd, rfl⟩ := ends_get h3 hi
    have y := hx _ _ _ p
    exact ⟨t, _, rfl, st_of (y _ _ (h4 i t d ht hd)), rfl, _, _, rfl, _, _, rfl, rfl, hs i d σ' H' y hd p⟩
  · rintro σ' H' p
    rw [List.length_map, h3] at p
    exact hd σ' H' (hx _ _ _ p) p
end
end Dp

set_option Elab.async false
set_option linter.all false
set_option maxRecDepth 100000
set_option maxHeartbeats 2000000
namespace Dp
open PySem PySem.Spec PyProof.Rows L2 Evl
open Gq06 (Graph Call)
theorem nI_ints (l : List Nat) : nI l = iI (Gq06.ints l) := by
  show l.map _ = (l.map _).map V.int
  rw [List.map_map]
  rfl
theorem den_ex (g : Graph) (ps : List (List Nat)) (hps : ∀ q ∈ ps, 0 < q.length) : ∀ i, i ≤ ps.length → ∃ most size mem, Den g (ps.take i) most size mem
  | 0, _ => ⟨0, 1, [], Den.start g⟩
  | i + 1, hi => by
    obtain ⟨most, size, mem, D⟩ := den_ex g ps hps i (by omega)
    have hs1 : ps[i]? = some ps[i] := List.getElem?_eq_getElem (by omega)
    rw [take_more hs1]
    have hp : ∀ q ∈ ps.take i, 0 < q.length := fun q hq => hps q (List.mem_of_mem_take hq)
    by_cases c : most * ps[i].length < win g ps[i] * size
    · exact ⟨_, _, _, D.more hp (hps _ (List.getElem_mem _)) c⟩
    · by_cases d : win g ps[i] * size = most * ps[i].length
      · exact ⟨_, _, _, D.same d⟩
      · exact ⟨_, _, _, D.less (by omega)⟩
theorem densest_pos {g : Graph} (h1 : 1 ≤ g.many) : 0 < (Gq06.densest g).length := by
  obtain ⟨most, size, mem, D⟩ := den_ex g (allParts g.many) (fun q hq => (part_le hq).1) (allParts g.many).length (Nat.le_refl _)
  rw [List.take_length] at D
  exact densest_ne h1 D
theorem fraction_win (g : Graph) {s : List Nat} (h : 0 < s.length) : Gq06.fraction (Gq06.density g s) = Gq06.ints [win g s / (win g s).gcd s.length, s.length / (win g s).gcd s.length] := by
  unfold Gq06.density
  rw [fraction_eq h]
  rfl
section
variable {P : Program} {w : World} {K : PySem.W.Frag} {mg : Str → Option Value} {base : Heap} {C : Addr}
/-! ### lists put together -/
section
variable {σ : L2.St} {H : Hp} {ta tb : TE} {xs ys : List V} {p : Addr}
theorem el_catLV (ha : EvL ta σ H xs) (hb : Ev tb σ H (.ref p)) (h : H p = some (.lst ys)) (hz : xs.length + ys.length ≤ 100000) : EvL (tOp rCat ta tb) σ H (xs ++ ys) := fun H1 x1 Q q =>
  ha H1 x1 _ fun p1 H2 n1 x2 h2 => hb H2 (x1.trans x2) _ fun H3 x3 => ⟨p1, p, xs, ys, rfl, rfl, x3 _ _ h2, x3 _ _ (x2 _ _ (x1 _ _ h)), sz_of hz, fun p2 n2 => q p2 _ (fresh_back (x2.trans x3) n2) ((x2.trans x3).trans (Ex.new n2)) upd_same⟩
theorem el_catLL (ha : EvL ta σ H xs) (hb : EvL tb σ H ys) (hz : xs.length + ys.length ≤ 100000) : EvL (tOp rCat ta tb) σ H (xs ++ ys) := fun H1 x1 Q q =>
  ha H1 x1 _ fun p1 H2 n1 x2 h2 => hb H2 (x1.trans x2) _ fun p2 H3 n2 x3 h3 => ⟨p1, p2, xs, ys, rfl, rfl, x3 _ _ h2, h3, sz_of hz, fun p3 n3 => q p3 _ (fresh_back (x2.trans x3) n3) ((x2.trans x3).trans (Ex.new n3)) upd_same⟩
end
/-! ### counted -/
def spCnt : Sp := fun vs H Q _ => ∃ (p : Addr) (l : List Nat), vs = [.ref p] ∧ H p = some (.lst (nI l)) ∧ l.length ≤ 1000 ∧ RetL (nI (l.length :: l)) H Q
theorem scCnt : FnScope ["members"] ["members"] (defScope sCnt) := ⟨rfl, rfl, rfl, by decide +kernel, rfl, by decide +kernel, by decide +kernel⟩
theorem can_Cnt (F : Fn K mg "counted" sCnt ["members"]) (T : Txt K mg C) : Can P w K mg base "counted" 1 ["members"] spCnt := by
  refine Can.mk F scCnt (fun vs H Q E h => ?_) fun f cdv A outer s0 H vs Q E hr h => ?_
  · obtain ⟨p, l, rfl, _⟩ := h
    rfl
  · refine ⟨_, pss_one (ps_ret (pe_op op_cat (pe_lst (pa_cons (pe_callB call_len_seq (by rfl) T.len PySem.boot_len (pa_cons (pv 0) pa_nil)) pa_nil)) (pv 0))), ?_⟩
    obtain ⟨p, l, rfl, h1, hl, q⟩ := h
    have er : nI (l.length :: l) = [V.int (((nI l).length : Nat) : Int)] ++ nI l := by
      rw [List.length_map]
      rfl
    rw [er] at q
    exact s_retL (el_catLV (el_lst (ea_cons (ev_len (K := K) (ev_var rfl) (sq_of h1)) ea_nil) (by show 1 ≤ 100000; decide)) (ev_var rfl) h1 (by rw [List.length_map]; show 1 + _ ≤ 100000; omega)) q
theorem sl_Cnt {H : Hp} {p : Addr} {l : List Nat} (h : H p = some (.lst (nI l))) (hl : l.length ≤ 1000) : SpL spCnt [.ref p] H (nI (l.length :: l)) := fun H1 x Q q E => ⟨p, l, rfl, x _ _ h, hl, q⟩
/-! ### tell_density -/
def spTDty (C : Addr) (K : PySem.W.Frag) : Sp := fun vs H Q _ => ∃ (a e p : Addr) (g : Graph) (l : List Nat), vs = [.ref a, .ref p] ∧ GAt C H a e g ∧ SqL K H p (nI l) ∧ l.length ≤ 20 ∧ RetL (iI (Gq06.step g (.density l)).2) H Q
theorem scTDty : FnScope ["graph", "nodes", "within"] ["graph", "nodes"] (defScope sTDty) := ⟨rfl, rfl, rfl, by decide +kernel, rfl, by decide +kernel, by decide +kernel⟩
theorem can_TDty (F : Fn K mg "tell_density" sTDty ["graph", "nodes"]) (T : Txt K mg C) (cP : Can P w K mg base "is_part" 2 ["graph", "nodes"] (spIsP C K)) (cW : Can P w K mg base "edges_within" 1 ["graph", "part"] (spEW C K)) (cL : Can P w K mg base "lowest_terms" 1 ["above", "below"] spLow) :
    Can P w K mg base "tell_density" 3 ["graph", "nodes"] (spTDty C K) := by
  refine Can.mk F scTDty (fun vs H Q E h => ?_) fun f cdv A outer s0 H vs Q E hr h => ?_
  · obtain ⟨a, e, p, g, l, rfl, _⟩ := h
    rfl
  · refine ⟨_, pss_cons (ps_if (pt_not (pt_val (pe_can cP hr (pa_cons (pv 0) (pa_cons (pv 1) pa_nil))))) (pss_one (ps_ret (pe_lst (pa_cons (pe_con0 T.m1) pa_nil)))) pss_nil)
      (pss_cons (ps_set (i := 2) scTDty.nd rfl (Or.inl rfl) (pe_can cW (hr.mono (by decide)) (pa_cons (pv 0) (pa_cons (pv 1) pa_nil))))
      (pss_one (ps_ret (pe_op op_cat (pe_lst (pa_cons (pv 2) pa_nil)) (pe_can cL (hr.mono (by decide)) (pa_cons (pv 2) (pa_cons (pe_callB call_len_seq (by rfl) T.len PySem.boot_len (pa_cons (pv 1) pa_nil)) pa_nil))))))), ?_⟩
    obtain ⟨a, e, p, g, l, rfl, G, S, h20, q⟩ := h
    refine q_when (b := !isPart g l) (et_not (et_B (ev_call (ea_cons (ev_var rfl) (ea_cons (ev_var rfl) ea_nil)) (sv_IsP G S)))) (fun c H1 x1 => ?_) (fun c H1 x1 => ?_)
    · have c' : isPart g l = false := by simpa using c
      have er : (Gq06.step g (.density l)).2 = [-1] := by
        show (if Gq06.rises l = false ∨ l.all (Gq06.isNode g) = false ∨ l.isEmpty = true then [-1] else _) = _
        rw [if_pos (isPart_iff.mpr c')]
      rw [er] at q
      exact s_retL (xs := iI [-1]) (el_lst (ea_cons ev_c ea_nil) (by show 1 ≤ 100000; decide)) fun p2 H2 n2 x2 h2 => q p2 H2 (fresh_back x1 n2) (x1.trans x2) h2
    · have c' : isPart g l = true := by simpa using c
      have hl0 : 0 < l.length := by
        unfold isPart at c'
        rw [Bool.and_eq_true, decide_eq_true_eq] at c'
        exact c'.2
      have er : iI (Gq06.step g (.density l)).2 = [V.int ((win g l : Nat) : Int)] ++ nI [win g l / (win g l).gcd l.length, l.length / (win g l).gcd l.length] := by
        show iI (if Gq06.rises l = false ∨ l.all (Gq06.isNode g) = false ∨ l.isEmpty = true then [-1] else Gq06.ints [(Gq06.inside g l).length] ++ Gq06.fraction (Gq06.density g l)) = _
        rw [if_neg (fun h => by rw [isPart_iff.mp h] at c'; cases c'), fraction_win g hl0]
        rfl
      rw [er] at q
      refine q_asg (ev_call (ea_cons (ev_var rfl) (ea_cons (ev_var rfl) ea_nil)) (sv_EW (G.same x1) (ex_l x1 S))) fun H2 x2 => ?_
      have sl : SpL spLow ([.int ((win g l : Nat) : Int), .int (((nI l).length : Nat) : Int)] ++ []) H2 (nI [win g l / (win g l).gcd l.length, l.length / (win g l).gcd l.length]) := by
        rw [List.length_map]
        exact sl_Low hl0 (by omega)
      exact s_retL (el_catLL (el_lst (ea_cons (ev_var rfl) ea_nil) (by show 1 ≤ 100000; decide)) (el_call (ea_cons (ev_var rfl) (ea_cons (ev_len (ev_var rfl) (ex_l (x1.trans x2) S)) ea_nil)) sl) (by show 1 + 2 ≤ 100000; decide)) fun p2 H3 n2 x3 h2 => q p2 H3 (fresh_back (x1.trans x2) n2) ((x1.trans x2).trans x3) h2
/-! ### tell_densest -/
def spTDst (C : Addr) : Sp := fun vs H Q _ => ∃ (a e : Addr) (g : Graph), vs = [.ref a] ∧ GAt C H a e g ∧ GOk g ∧ RetL (iI (Gq06.step g .densest).2) H Q
theorem scTDst : FnScope ["graph", "members"] ["graph"] (defScope sTDst) := ⟨rfl, rfl, rfl, by decide +kernel, rfl, by decide +kernel, by decide +kernel⟩
theorem can_TDst (F : Fn K mg "tell_densest" sTDst ["graph"]) (T : Txt K mg C) (cD : Can P w K mg base "densest_part" 3 ["graph"] (spDst C)) (cW : Can P w K mg base "edges_within" 1 ["graph", "part"] (spEW C K)) (cL : Can P w K mg base "lowest_terms" 1 ["above", "below"] spLow) (cC : Can P w K mg base "counted" 1 ["members"] spCnt) :
    Can P w K mg base "tell_densest" 4 ["graph"] (spTDst C) := by
  refine Can.mk F scTDst (fun vs H Q E h => ?_) fun f cdv A outer s0 H vs Q E hr h => ?_
  · obtain ⟨a, e, g, rfl, _⟩ := h
    rfl
  · refine ⟨_, pss_cons (ps_if (pt_cmpR op_eq (pe_fld (pv 0) rfl) pe_int (nomark _)) (pss_one (ps_ret (pe_lst (pa_cons (pe_con0 T.m3) pa_nil)))) pss_nil)
      (pss_cons (ps_set (i := 1) scTDst.nd rfl (Or.inl rfl) (pe_can cD hr (pa_cons (pv 0) pa_nil)))
      (pss_one (ps_ret (pe_op op_cat (pe_can cL (hr.mono (by decide)) (pa_cons (pe_can cW (hr.mono (by decide)) (pa_cons (pv 0) (pa_cons (pv 1) pa_nil))) (pa_cons (pe_callB call_len_seq (by rfl) T.len PySem.boot_len (pa_cons (pv 1) pa_nil)) pa_nil)))
        (pe_can cC (hr.mono (by decide)) (pa_cons (pv 1) pa_nil)))))), ?_⟩
    obtain ⟨a, e, g, rfl, G, O, q⟩ := h
    refine q_when (b := g.many == 0) (et_is (et_test (ev_op (ev_count (ev_var rfl) G T.cl T.nN) ev_c (rv_eq rfl))) (dec_int g.many 0)) (fun c H1 x1 => ?_) (fun c H1 x1 => ?_)
    · have c' : g.many = 0 := beq_iff_eq.mp c
      have er : (Gq06.step g .densest).2 = [-3] := by
        show (if g.many = 0 then [-3] else _) = _
        rw [if_pos c']
      rw [er] at q
      exact s_retL (xs := iI [-3]) (el_lst (ea_cons ev_c ea_nil) (by show 1 ≤ 100000; decide)) fun p2 H2 n2 x2 h2 => q p2 H2 (fresh_back x1 n2) (x1.trans x2) h2
    · have c' : g.many ≠ 0 := beq_eq_false_iff_ne.mp c
      have h1 : 1 ≤ g.many := by omega
      have hpos := densest_pos h1
      have hl : (Gq06.densest g).length ≤ 10 := by
        have h2 := (densest_sub g).length_le
        rw [upto_length] at h2
        have := O.nodes
        omega
      generalize hs : Gq06.densest g = s at hpos hl
      have er : iI (Gq06.step g .densest).2 = nI [win g s / (win g s).gcd s.length, s.length / (win g s).gcd s.length] ++ nI (s.length :: s) := by
        show iI (if g.many = 0 then [-3] else Gq06.fraction (Gq06.density g (Gq06.densest g)) ++ Gq06.told (Gq06.densest g)) = _
        rw [if_neg c', hs, fraction_win g hpos]
        unfold Gq06.told
        show (_ ++ Gq06.ints (s.length :: s)).map V.int = _
        rw [List.map_append]
        congr 1
        show iI (Gq06.ints (s.length :: s)) = _
        rw [← nI_ints]
      rw [er] at q
      have sD := sl_Dst (G.same x1) O h1
      rw [hs] at sD
      refine q_asgL (el_call (ea_cons (ev_var rfl) ea_nil) sD) fun p H2 np x2 h2 => ?_
      have sl : SpL spLow ([.int ((win g s : Nat) : Int), .int (((nI s).length : Nat) : Int)] ++ []) H2 (nI [win g s / (win g s).gcd s.length, s.length / (win g s).gcd s.length]) := by
        rw [List.length_map]
        exact sl_Low hpos (by omega)
      refine s_retL (el_catLL (el_call (ea_cons (ev_call (ea_cons (ev_var rfl) (ea_cons (ev_var rfl) ea_nil)) (sv_EW (G.same (x1.trans x2)) (sq_of h2))) (ea_cons (ev_len (ev_var rfl) (sq_of h2)) ea_nil)) sl)
        (el_call (ea_cons (ev_var rfl) ea_nil) (sl_Cnt h2 (by omega))) ?_) fun p2 H3 n2 x3 h3 => q p2 H3 (fresh_back (x1.trans x2) n2) ((x1.trans x2).trans x3) h3
      rw [List.length_map (as := s.length :: s), List.length_cons]
      show 2 + _ ≤ 100000
      omega
end
end Dp

set_option Elab.async false
set_option linter.all false
set_option maxRecDepth 100000
set_option maxHeartbeats 2000000
namespace Dp
open PySem PySem.Spec PyProof.Rows L2 Evl
open Gq06 (Graph Call)
theorem getD_is {α : Type} {l : List α} {i : Nat} {x d : α} (h : l[i]? = some x) : l.getD i d = x := by simp [List.getD, h]
theorem filter_at {α : Type} (d : α) (p : α → Bool) (ps : List α) : ps.filter p = ((List.range ps.length).filter fun i => p (ps.getD i d)).map fun i => ps.getD i d := by
  have e : ps = (List.range ps.length).map fun i => ps.getD i d := by
    apply List.ext_getElem?
    intro i
    rw [List.getElem?_map]
    by_cases h : i < ps.length
    · rw [List.getElem?_range h, List.getElem?_eq_getElem h]
      simp [List.getD, h]
    · rw [List.getElem?_eq_none (by omega), List.getElem?_eq_none (by simpa using h)]
      rfl
  conv => lhs; rw [e, List.filter_map]
  rfl
theorem rows_given {H : Hp} {D d : Addr} {rs : List Addr} {ps : List (List Nat)} (p : List Nat → Bool) (hl : rs.length = ps.length) (hr : ∀ (i : Nat) (r : Addr) (s : List Nat), rs[i]? = some r → ps[i]? = some s → H r = some (.lst (nI s)))
    (h : H D = some (.lst (given rs.length (fun i => p (ps.getD i [])) (fun i => V.ref (rs.getD i d))))) : RowsAt H D (ps.filter p) := by
  refine ⟨((List.range rs.length).filter fun i => p (ps.getD i [])).map fun i => rs.getD i d, ?_, ?_, ?_⟩
  · rw [h, List.map_map]
    rfl
  · rw [filter_at [] p ps, List.length_map, List.length_map, hl]
  · intro i r s h1 h2
    rw [filter_at [] p ps, ← hl] at h2
    rw [List.getElem?_map] at h1 h2
    cases e : ((List.range rs.length).filter fun i => p (ps.getD i []))[i]? with
    | none => rw [e] at h1; cases h1
    | some j =>
      rw [e] at h1 h2
      have e1 : rs.getD j d = r := Option.some.inj h1
      have e2 : ps.getD j [] = s := Option.some.inj h2
      have hj : j < rs.length := List.mem_range.mp (List.mem_filter.mp (List.mem_of_getElem? e)).1
      refine hr j r s ?_ ?_
      · rw [← e1, List.getElem?_eq_getElem hj]
        simp [List.getD, hj]
      · have hj' : j < ps.length := by omega
        rw [← e2, List.getElem?_eq_getElem hj']
        simp [List.getD, hj']
def sepAt (c d : Nat) (ps : List (List Nat)) : List Nat := (List.range ps.length).filter fun i => (ps.getD i []).contains c && !(ps.getD i []).contains d
theorem pairs_len (l : List (Nat × Nat)) : (l.flatMap fun d => [d.1, d.2]).length = 2 * l.length := by
  induction l with
  | nil => rfl
  | cons x l ih =>
    rw [List.flatMap_cons, List.length_append, ih]
    show 2 + 2 * l.length = 2 * (l.length + 1)
    omega
theorem wider_len {n : Nat} (h : n ≤ 10) : (wider n).length ≤ 1023 := Nat.le_trans (List.length_filter_le _ _) (parts_len h)
section
variable {P : Program} {w : World} {K : PySem.W.Frag} {mg : Str → Option Value} {base : Heap} {C : Addr}
theorem et_niL {σ : L2.St} {H : Hp} {ta tb : TE} {p : Addr} {s : List Nat} {x : Nat} (ha : Ev ta σ H (.int (x : Int))) (hb : Ev tb σ H (.ref p)) (h : SqL K H p (nI s)) : EvT (tTest (tOp (rIn K true) ta tb)) σ H (!s.contains x) :=
  et_is (et_test (ev_op ha hb (rv_niL h rfl (flat_nI s)))) (by rw [inV_nI])
theorem sr_AllP {H : Hp} {a e : Addr} {g : Graph} (G : GAt C H a e g) (O : GOk g) : SpR (spAllP C) [.ref a] H (allParts g.many) := fun H1 x Q q E => ⟨a, e, g, rfl, G.same x, O, q⟩
/-! ### tell_edges -/
def spTEdges (C : Addr) : Sp := fun vs H Q _ => ∃ (a e : Addr) (g : Graph), vs = [.ref a] ∧ GAt C H a e g ∧ GOk g ∧ RetL (iI (Gq06.step g .edges).2) H Q
theorem scTEdges : FnScope ["graph", "told", "x", "y"] ["graph"] (defScope sTEdges) := ⟨rfl, rfl, rfl, by decide +kernel, rfl, by decide +kernel, by decide +kernel⟩
theorem can_TEdges (F : Fn K mg "tell_edges" sTEdges ["graph"]) (T : Txt K mg C) : Can P w K mg base "tell_edges" 1 ["graph"] (spTEdges C) := by
  refine Can.mk F scTEdges (fun vs H Q E h => ?_) fun f cdv A outer s0 H vs Q E hr h => ?_
  · obtain ⟨a, e, g, rfl, _⟩ := h
    rfl
  · refine ⟨_, pss_cons (ps_set (i := 1) scTEdges.nd rfl (Or.inl rfl) (pe_lst (pa_cons (pe_callB call_len_seq (by rfl) T.len PySem.boot_len (pa_cons (pe_fld (pv 0) rfl) pa_nil)) pa_nil)))
      (pss_cons (ps_for PassesOwn.never rfl (pi_list (pe_fld (pv 0) rfl))
        (pg_tup rfl (pgs_cons (pg_name (i := 2) scTEdges.nd rfl (Or.inl rfl)) (pgs_cons (pg_name (i := 3) scTEdges.nd rfl (Or.inl rfl)) pgs_nil)))
        (pss_one (ps_expr (pe_bm PySem.F.plainAttrs_list PySem.F.slot_list_extend PySem.F.type_list_extend mt_extend (pv 1) (pa_cons (pe_lst (pa_cons (pv 2) (pa_cons (pv 3) pa_nil))) pa_nil)))))
      (pss_one (ps_ret (pv 1)))), ?_⟩
    obtain ⟨a, e, g, rfl, G, O, q⟩ := h
    have h20 := O.edges
    obtain ⟨ts, h2, h3, h4⟩ := G.ls
    have er : iI (Gq06.step g .edges).2 = nI (g.edges.length :: g.edges.flatMap fun d => [d.1, d.2]) := by
      rw [nI_ints]
      rfl
    rw [er] at q
    have el : V.int (((ts.map V.ref).length : Nat) : Int) = V.int ((g.edges.length : Nat) : Int) := by rw [List.length_map, h3]
    refine q_asgL (xs := nI [g.edges.length]) (el_lst (ea_cons (ev_is (ev_len (ev_ends (ev_var rfl) G T.cl T.nE) (sq_of h2)) el) ea_nil) (by show 1 ≤ 100000; decide)) fun tl H1 ntl x1 h1 => ?_
    refine q_endsH (H0 := H) (ev_var rfl) G x1 T.cl T.nE (fun i σ H' => Ex H H' ∧ ∃ u v : Option V, σ = [some (.ref a), some (.ref tl), u, v] ∧ H' tl = some (.lst (nI (g.edges.length :: (g.edges.take i).flatMap fun d => [d.1, d.2]))))
      (fun H2 x2 => ⟨x1.trans x2, none, none, rfl, x2 _ _ h1⟩) (fun i σ' H' p => p.1) ?_ ?_
    · rintro i d _ H2 x2 hd ⟨_, u, v, rfl, htl⟩
      have hi := (List.getElem?_eq_some_iff.mp hd).1
      refine s_extL (ys := nI [d.1, d.2]) htl (ev_var rfl) (el_lst (ea_cons (ev_var rfl) (ea_cons (ev_var rfl) ea_nil)) (by show 2 ≤ 100000; decide)) ?_ fun H3 x3 => ⟨Ex.mut (x2.trans x3) ntl, some (.int (d.1 : Nat)), some (.int (d.2 : Nat)), rfl, ?_⟩
      · rw [List.length_map (as := _ :: _), List.length_cons, pairs_len, List.length_take]
        show _ + 2 ≤ 100000
        omega
      · rw [upd_same, take_more hd, List.flatMap_append, ← nI_append]
        rfl
    · rintro _ H2 x2 ⟨_, u, v, rfl, htl⟩
      rw [List.take_length] at htl
      exact s_ret (ev_var rfl) fun H3 x3 => q tl H3 ntl (x2.trans x3) (x3 _ _ htl)
/-! ### divided_upwards -/
def spUp : Sp := fun vs H Q _ => ∃ a b : Nat, vs = [.int (a : Nat), .int (b : Nat)] ∧ 0 < b ∧ b ≤ 1000 ∧ a ≤ 1000 ∧ RetV (.int (Gq06.up a b : Nat)) H Q
theorem scUp : FnScope ["above", "below"] ["above", "below"] (defScope sUp) := ⟨rfl, rfl, rfl, by decide +kernel, rfl, by decide +kernel, by decide +kernel⟩
theorem can_Up (F : Fn K mg "divided_upwards" sUp ["above", "below"]) (T : Txt K mg C) : Can P w K mg base "divided_upwards" 1 ["above", "below"] spUp := by
  refine Can.mk F scUp (fun vs H Q E h => ?_) fun f cdv A outer s0 H vs Q E hr h => ?_
  · obtain ⟨a, b, rfl, _⟩ := h
    rfl
  · refine ⟨_, pss_one (ps_ret (pe_op op_fdiv (pe_op op_sub (pe_op op_add (pv 0) (pv 1)) pe_int) (pv 1))), ?_⟩
    obtain ⟨a, b, rfl, hb, hb2, ha, q⟩ := h
    have c1 : CDiv ((a : Int) + (b : Int) - 1) (b : Int) := ⟨by omega, by omega⟩
    refine s_ret (ev_is (ev_op (ev_op (ev_op (ev_var rfl) (ev_var rfl) rv_I0) ev_c rv_I0) (ev_var rfl) (rv_I c1)) ?_) q
    exact congrArg V.int (up_int hb)
theorem sv_Up {H : Hp} {a b : Nat} (hb : 0 < b) (hb2 : b ≤ 1000) (ha : a ≤ 1000) : SpV spUp [.int (a : Nat), .int (b : Nat)] H (.int (Gq06.up a b : Nat)) := fun H1 x Q q E => ⟨a, b, rfl, hb, hb2, ha, q⟩
/-! ### wider_parts -/
def spWid (C : Addr) : Sp := fun vs H Q _ => ∃ (a e : Addr) (g : Graph), vs = [.ref a] ∧ GAt C H a e g ∧ GOk g ∧ ∀ p H', H p = none → Ex H H' → RowsAt H' p (wider g.many) → Q (.ref p) H'
abbrev nWid : List Str := ["graph", "part"]
theorem scWid : FnScope nWid ["graph"] (defScope sWid) := ⟨rfl, rfl, rfl, by decide +kernel, rfl, by decide +kernel, by decide +kernel⟩
theorem can_Wid (F : Fn K mg "wider_parts" sWid ["graph"]) (T : Txt K mg C) (cP : Can P w K mg base "all_parts" 2 ["graph"] (spAllP C)) : Can P w K mg base "wider_parts" 3 ["graph"] (spWid C) := by
  refine Can.mk F scWid (fun vs H Q E h => ?_) fun f cdv A outer s0 H vs Q E hr h => ?_
  · obtain ⟨a, e, g, rfl, _⟩ := h
    rfl
  · refine ⟨_, pss_one (ps_ret (pe_lc (own := [("part", 1)]) (g := gName 1) (by rfl) scWid.nd (pi_list (pe_can cP hr (pa_cons (pv 0) pa_nil))) (blkOk_by (own := [("part", 1)]) (N := nWid) (sc := defScope sWid) (by decide +kernel)) (fun _ _ _ _ _ => pg_name (i := 1) scWid.nd rfl (Or.inl rfl))
      (fun _ _ _ _ _ => pts_one (pt_cmpR op_gt (pe_callB (r := rLenS K) call_len_seq (by rfl) T.len PySem.boot_len (pa_cons (pv 1) pa_nil)) pe_int (nomark _))) (fun _ _ _ _ _ => pv 1))), ?_⟩
    obtain ⟨a, e, g, rfl, G, O, q⟩ := h
    have h10 := parts_len O.nodes
    refine ⟨_, rfl, a, e, g, rfl, G, O, fun pp H4 npp x4 ⟨rs, hp, hl, hr⟩ => ⟨pp, rfl, ⟨_, sq_of hp⟩, fun Dl nD => ?_⟩⟩
    refine lc_list (K := K) (a := pp) (xs := rs.map V.ref) (Cw H4 (fun i => decide (1 < ((allParts g.many).getD i []).length)) (fun i => V.ref (rs.getD i pp)) Dl) ⟨nD, Ex.new nD, upd_same⟩ (fun i H' _ p => sq_of (p.2.1 _ _ hp)) (fun i x H' hi p => ?_) (fun H' p => ?_)
    · obtain ⟨r, s, hr1, hs1, rfl⟩ := rows_get hl hi
      have hil := (List.getElem?_eq_some_iff.mp hs1).1
      refine ⟨rfl, cw_turn p (by omega) ?_ (fun _ => ?_)⟩
      · show EvT _ _ H4 (decide (1 < ((allParts g.many).getD i []).length))
        rw [getD_is hs1]
        exact et_is (et_test (ev_op (ev_len (ev_var rfl) (sq_of (hr i r s hr1 hs1))) ev_c rv_I0)) (by rw [List.length_map]; exact dec_lt 1 s.length)
      · show Ev _ _ H4 (V.ref (rs.getD i pp))
        rw [getD_is hr1]
        exact ev_var rfl
    · have h5 := p.2.2
      rw [List.length_map] at h5
      exact q Dl H' (fresh_back x4 p.1) (x4.trans p.2.1) (rows_given (d := pp) (fun s => decide (1 < s.length)) hl (fun i r s a b => p.2.1 _ _ (hr i r s a b)) h5)
theorem sr_Wid {H : Hp} {a e : Addr} {g : Graph} (G : GAt C H a e g) (O : GOk g) : SpR (spWid C) [.ref a] H (wider g.many) := fun H1 x Q q E => ⟨a, e, g, rfl, G.same x, O, q⟩
/-! ### places_parting -/
def spPar : Sp := fun vs H Q _ => ∃ (p : Addr) (ps : List (List Nat)) (c d : Nat), vs = [.ref p, .int (c : Nat), .int (d : Nat)] ∧ RowsAt H p ps ∧ ps.length ≤ 2000 ∧ RetL (nI (sepAt c d ps)) H Q
abbrev nPar : List Str := ["parts", "inner", "outer", "place", "part"]
theorem scPar : FnScope nPar ["parts", "inner", "outer"] (defScope sPar) := ⟨rfl, rfl, rfl, by decide +kernel, rfl, by decide +kernel, by decide +kernel⟩
theorem can_Par (F : Fn K mg "places_parting" sPar ["parts", "inner", "outer"]) (T : Txt K mg C) : Can P w K mg base "places_parting" 1 ["parts", "inner", "outer"] spPar := by
  refine Can.mk F scPar (fun vs H Q E h => ?_) fun f cdv A outer s0 H vs Q E hr h => ?_
  · obtain ⟨p, ps, c, d, rfl, _⟩ := h
    rfl
  · refine ⟨_, pss_one (ps_ret (pe_lc (own := [("place", 3), ("part", 4)]) (g := gTup K 2 (gCons (gName 3) (gCons (gName 4) gNil))) (by rfl) scPar.nd (pi_enum (by rfl) T.enum (pa_cons (pv 0) pa_nil)) (blkOk_by (own := [("place", 3), ("part", 4)]) (N := nPar) (sc := defScope sPar) (by decide +kernel))
        (fun _ _ _ _ _ => pg_tup rfl (pgs_cons (pg_name (i := 3) scPar.nd rfl (Or.inl rfl)) (pgs_cons (pg_name (i := 4) scPar.nd rfl (Or.inl rfl)) pgs_nil)))
      (fun _ _ _ _ _ => pts_one (pw_and (pt_cmpR (r := rIn K false) op_in_seq (pv 1) (pv 4) rfl) (pw_and1 (pt_cmpR (r := rIn K true) op_notIn_seq (pv 2) (pv 4) rfl))).pt) (fun _ _ _ _ _ => pv 3))), ?_⟩
    obtain ⟨p, ps, c, d, rfl, ⟨rs, h1, h2, h3⟩, hz, q⟩ := h
    have eg : given (rs.map V.ref).length (fun i => (ps.getD i []).contains c && !(ps.getD i []).contains d) (fun i => V.int ((i : Nat) : Int)) = nI (sepAt c d ps) := by
      rw [List.length_map, h2]
      rfl
    refine s_retL (xs := nI (sepAt c d ps)) ?_ q
    rw [← eg]
    refine el_lcEnum (a := p) (xs := rs.map V.ref) _ _ (ev_var rfl) (sq_of h1) (by rw [List.length_map]; omega) (fun x y => rfl) (fun i x H1 x1 hi => ?_) (fun i x H1 x1 hi _ => ev_var rfl)
    obtain ⟨r, s, hr1, hs1, rfl⟩ := rows_get h2 hi
    show EvT _ _ H1 ((ps.getD i []).contains c && !(ps.getD i []).contains d)
    rw [getD_is hs1]
    have hs := x1 _ _ (h3 i r s hr1 hs1)
    exact et_and (et_inL (ev_var rfl) (ev_var rfl) (sq_of hs)) fun _ => et_niL (ev_var rfl) (ev_var rfl) (sq_of hs)
theorem sl_Par {H : Hp} {p : Addr} {ps : List (List Nat)} {c d : Nat} (R : RowsAt H p ps) (hz : ps.length ≤ 2000) : SpL spPar [.ref p, .int (c : Nat), .int (d : Nat)] H (nI (sepAt c d ps)) := fun H1 x Q q E => ⟨p, ps, c, d, rfl, R.same x, hz, q⟩
end
end Dp

set_option Elab.async false
set_option linter.all false
set_option maxRecDepth 100000
set_option maxHeartbeats 2000000
namespace Dp
open PySem PySem.Spec PyProof.Rows L2 Evl
open Gq06 (Graph Call)
theorem nI_ofNat (s : List Nat) : nI s = iI (s.map Int.ofNat) := by
  show s.map _ = (s.map Int.ofNat).map V.int
  rw [List.map_map]
  rfl
theorem et_yes {σ : L2.St} {H : Hp} : EvT tYes σ H true := fun H1 _ Q q => q H1 (Ex.refl H1)
theorem first_index {α : Type} [DecidableEq α] : ∀ {cs : List α} {m : α}, m ∈ cs → ∃ j : Nat, cs[j]? = some m ∧ ∀ (i : Nat) (z : α), i < j → cs[i]? = some z → z ≠ m
  | c :: cs, m, h => by
    by_cases e : c = m
    · exact ⟨0, by rw [e]; rfl, fun i z hi => by omega⟩
    · have hm : m ∈ cs := by
        rcases List.mem_cons.mp h with h | h
        · exact absurd h.symm e
        · exact h
      obtain ⟨j, h1, h2⟩ := first_index hm
      refine ⟨j + 1, h1, fun i z hi hz => ?_⟩
      cases i with
      | zero =>
        have : c = z := Option.some.inj hz
        rw [← this]; exact e
      | succ i => exact h2 i z (by omega) hz
section
variable {P : Program} {w : World} {K : PySem.W.Frag} {mg : Str → Option Value} {base : Heap} {C : Addr}
/-! ### first_to_go -/
def spFst (C : Addr) (K : PySem.W.Frag) : Sp := fun vs H Q _ => ∃ (a e p : Addr) (g : Graph) (s : List Nat), vs = [.ref a, .ref p] ∧ GAt C H a e g ∧ SqL K H p (nI s) ∧ s.Pairwise (· < ·) ∧ 0 < s.length ∧ s.length ≤ 1000 ∧ ∀ (y : Nat) (H' : Hp), Ex H H' → First g s y → Q (.int (y : Nat)) H'
abbrev nFst : List Str := ["graph", "left", "counts", "node"]
theorem scFst : FnScope nFst ["graph", "left"] (defScope sFst) := ⟨rfl, rfl, rfl, by decide +kernel, rfl, by decide +kernel, by decide +kernel⟩
theorem can_Fst (F : Fn K mg "first_to_go" sFst ["graph", "left"]) (T : Txt K mg C) (cT : Can P w K mg base "edges_to" 1 ["graph", "node", "part"] (spET C K)) : Can P w K mg base "first_to_go" 2 ["graph", "left"] (spFst C K) := by
  refine Can.mk F scFst (fun vs H Q E h => ?_) fun f cdv A outer s0 H vs Q E hr h => ?_
  · obtain ⟨a, e, p, g, s, rfl, _⟩ := h
    rfl
  · refine ⟨_, pss_cons (ps_setLc (i := 2) (own := [("node", 3)]) (g := gName 3) (tt := tYes) (by rfl) scFst.nd rfl rfl (sw_true rfl rfl rfl (by decide +kernel)) (pi_list (pv 1)) (blkOk_by (own := [("node", 3)]) (N := nFst) (sc := defScope sFst) (by decide +kernel))
          (fun _ _ _ _ _ => pg_name (i := 3) scFst.nd rfl (Or.inl rfl)) (fun _ _ _ _ _ => pts_nil) (fun _ _ _ _ _ => pe_can cT hr (pa_cons (pv 0) (pa_cons (pv 3) (pa_cons (pv 1) pa_nil)))))
      (pss_one (ps_ret (pe_ix ix_list (pv 1) (pe_bm PySem.F.plainAttrs_list PySem.F.slot_list_index PySem.F.type_list_index mt_index (pv 2) (pa_cons (pe_callB (cr_min (by rfl)) (by rfl) T.min PyProof.Rows.boot_min (pa_cons (pv 2) pa_nil)) pa_nil)) (fun _ _ => rfl)))), ?_⟩
    obtain ⟨a, e, p, g, s, rfl, G, S, hs, h0, hz, q⟩ := h
    have eg : given (nI s).length (fun _ => true) (fun i => V.int ((degTo g (s.getD i 0) s : Nat) : Int)) = nI (s.map fun z => degTo g z s) := by
      rw [List.length_map, given_map 0 s (fun z => V.int ((degTo g z s : Nat) : Int))]
      exact (List.map_map (l := s) (f := fun z => degTo g z s) (g := fun (n : Nat) => V.int (n : Int))).symm
    have el : EvL _ _ H (given (nI s).length (fun _ => true) (fun i => V.int ((degTo g (s.getD i 0) s : Nat) : Int))) := el_lcL (K := K) (a := p) (xs := nI s) (j := 3) (vs := [3]) (tl := tVar 1) (t := tYes) (te := tCall (spET C K) [] E0 (tCons (tVar 0) (tCons (tVar 3) (tCons (tVar 1) tNil)))) (σ := start nFst [V.ref a, V.ref p]) (H := H) (fun _ => true) (fun i => V.int ((degTo g (s.getD i 0) s : Nat) : Int)) (ev_var rfl) S (by rw [List.length_map]; omega) (fun x => rfl) (fun i x H1 x1 hi => et_yes) (fun i x H1 x1 hi _ => by
      obtain ⟨n, hn, rfl⟩ := nI_get hi
      rw [getD_is hn]
      exact ev_call (ea_cons (ev_var rfl) (ea_cons (ev_var rfl) (ea_cons (ev_var rfl) ea_nil))) (sv_ET (G.same x1) (ex_l x1 S)))
    rw [eg] at el
    refine q_asgL el fun c H1 nc x1 h1 => ?_
    have h1' : H1 c = some (.lst (iI ((s.map fun z => degTo g z s).map Int.ofNat))) := by rw [← nI_ofNat]; exact h1
    refine ⟨_, rfl, _, rfl, .inl ⟨rfl, _, sq_of h1⟩, _, rfl, c, (s.map fun z => degTo g z s).map Int.ofNat, rfl, sq_of h1', by rw [List.length_map, List.length_map]; exact h0, fun m hm hle => ?_⟩
    obtain ⟨m, hm2, rfl⟩ := List.mem_map.mp hm
    obtain ⟨j, hj, hf⟩ := first_index hm2
    have hj2 : ∃ y, s[j]? = some y ∧ m = degTo g y s := by
      rw [List.getElem?_map] at hj
      cases ey : s[j]? with
      | none => rw [ey] at hj; cases hj
      | some y => rw [ey] at hj; exact ⟨y, rfl, (Option.some.inj hj).symm⟩
    obtain ⟨y, hy, rfl⟩ := hj2
    refine ⟨c, _, _, j, V.int ((degTo g y s : Nat) : Int), rfl, rfl, sq_of h1, rfl, flat_nI _, by rw [List.getElem?_map, hj]; rfl, beq_self_eq_true _, fun i z hi hz => ?_, ?_⟩
    · obtain ⟨n, hn, rfl⟩ := nI_get hz
      have := hf i n hi hn
      show ((n : Int) == ((degTo g y s : Nat) : Int)) = false
      rw [beq_eq_false_iff_ne]
      omega
    · refine ⟨p, nI s, (j : Int), V.int (y : Int), rfl, rfl, ex_l x1 S, atI_nat (by rw [List.getElem?_map, hy]; rfl), q y H1 x1 (first_of hs hy (fun z hz => ?_) fun i z hi hz => ?_)⟩
      · have := hle (Int.ofNat (degTo g z s)) (List.mem_map.mpr ⟨_, List.mem_map.mpr ⟨z, hz, rfl⟩, rfl⟩)
        exact Int.ofNat_le.mp this
      · exact hf i _ hi (by rw [List.getElem?_map, hz]; rfl)
/-! ### tell_peel -/
def spTPeel (C : Addr) : Sp := fun vs H Q _ => ∃ (a e : Addr) (g : Graph), vs = [.ref a] ∧ GAt C H a e g ∧ GOk g ∧ RetL (iI (Gq06.step g .peel).2) H Q
theorem scTPeel : FnScope ["graph", "told", "left", "node"] ["graph"] (defScope sTPeel) := ⟨rfl, rfl, rfl, by decide +kernel, rfl, by decide +kernel, by decide +kernel⟩
theorem can_TPeel (F : Fn K mg "tell_peel" sTPeel ["graph"]) (T : Txt K mg C) (cA : Can P w K mg base "all_nodes" 1 ["graph"] (spAllN C)) (cF : Can P w K mg base "first_to_go" 2 ["graph", "left"] (spFst C K)) (cT : Can P w K mg base "edges_to" 1 ["graph", "node", "part"] (spET C K)) :
    Can P w K mg base "tell_peel" 3 ["graph"] (spTPeel C) := by
  refine Can.mk F scTPeel (fun vs H Q E h => ?_) fun f cdv A outer s0 H vs Q E hr h => ?_
  · obtain ⟨a, e, g, rfl, _⟩ := h
    rfl
  · refine ⟨_, pss_cons (ps_set (i := 1) scTPeel.nd rfl (Or.inl rfl) (pe_lst (pa_cons (pe_fld (pv 0) rfl) pa_nil)))
      (pss_cons (ps_set (i := 2) scTPeel.nd rfl (Or.inl rfl) (pe_can cA (hr.mono (by decide)) (pa_cons (pv 0) pa_nil)))
      (pss_cons (ps_while PassesOwn.never (pt_cmpR op_gt (pe_callB call_len_seq (by rfl) T.len PySem.boot_len (pa_cons (pv 2) pa_nil)) pe_int (nomark _))
        (pss_cons (ps_set (i := 3) scTPeel.nd rfl (Or.inl rfl) (pe_can cF hr (pa_cons (pv 0) (pa_cons (pv 2) pa_nil))))
        (pss_cons (ps_expr (pe_bm PySem.F.plainAttrs_list PySem.F.slot_list_extend PySem.F.type_list_extend mt_extend (pv 1) (pa_cons (pe_lst (pa_cons (pv 3) (pa_cons (pe_can cT (hr.mono (by decide)) (pa_cons (pv 0) (pa_cons (pv 3) (pa_cons (pv 2) pa_nil)))) pa_nil))) pa_nil)))
        (pss_one (ps_expr (pe_bm PySem.F.plainAttrs_list PySem.F.slot_list_remove PySem.F.type_list_remove mt_remove (pv 2) (pa_cons (pv 3) pa_nil)))))))
      (pss_one (ps_ret (pv 1))))), ?_⟩
    obtain ⟨a, e, g, rfl, G, O, q⟩ := h
    have h10 := O.nodes
    refine q_asgL (xs := nI [g.many]) (el_lst (ea_cons (ev_count (ev_var rfl) G T.cl T.nN) ea_nil) (by show 1 ≤ 100000; decide)) fun tl H1 ntl x1 h1 => ?_
    refine q_asgL (el_call (ea_cons (ev_var rfl) ea_nil) (sl_AllN (G.same x1) (by omega))) fun lf H2 nlf x2 h2 => ?_
    have nlf0 : H lf = none := fresh_back x1 nlf
    have hne : tl ≠ lf := fun z => by rw [← z, h1] at nlf; cases nlf
    refine q_while (fun m σ H' => Ex H H' ∧ ∃ (dn : List (Nat × Nat)) (s : List Nat) (u : Option V), σ = [some (.ref a), some (.ref tl), some (.ref lf), u] ∧ m = s.length ∧ H' tl = some (.lst (nI (g.many :: dn.flatMap fun d => [d.1, d.2]))) ∧ H' lf = some (.lst (nI s)) ∧ Peeling g dn s)
      (upto g.many).length ⟨x1.trans x2, [], upto g.many, none, rfl, rfl, x2 _ _ h1, h2, Peeling.start g⟩ ?_
    rintro m _ H3 ⟨x3, dn, s, u, rfl, rfl, htl, hlf, I⟩
    have hl := I.len
    refine ⟨decide (0 < s.length), et_is (et_test (ev_op (ev_len (ev_var rfl) (sq_of hlf)) ev_c rv_I0)) (by rw [List.length_map]; exact dec_lt 0 _), fun c H4 x4 => ?_, fun c H4 x4 => ?_⟩
    · have c := of_decide_eq_true c
      refine ⟨_, fun σ2 H5 h => ⟨s.length - 1, by omega, h⟩, ?_⟩
      refine ⟨_, rfl, _, rfl, a, e, lf, g, s, rfl, G.same (x3.trans x4), sq_of (x4 _ _ hlf), I.up, c, by omega, fun y H5 x5 Fy => ?_⟩
      have x35 := x4.trans x5
      refine q_extL (ys := nI [y, degTo g y s]) (x35 _ _ htl) (ev_var rfl) (el_lst (ea_cons (ev_var rfl) (ea_cons (ev_call (ea_cons (ev_var rfl) (ea_cons (ev_var rfl) (ea_cons (ev_var rfl) ea_nil))) (sv_ET (G.same (x3.trans x35)) (sq_of (x35 _ _ hlf)))) ea_nil)) (by show 2 ≤ 100000; decide)) ?_ fun H6 x6 => ?_
      · rw [List.length_map (as := _ :: _), List.length_cons, pairs_len]
        show _ + 2 ≤ 100000
        omega
      · have x36 := x35.trans x6
        have hlf6 : (upd H6 tl (.lst (nI (g.many :: dn.flatMap fun d => [d.1, d.2]) ++ nI [y, degTo g y s]))) lf = some (.lst (iI (s.map Int.ofNat))) := by
          rw [upd_ne hne.symm, x36 _ _ hlf, nI_ofNat]
        obtain ⟨j, hj, hf⟩ := first_index Fy.1
        have nd : s.Nodup := I.up.imp fun h => Nat.ne_of_lt h
        refine ⟨_, rfl, .inl ⟨rfl, _, sq_of hlf6⟩, _, rfl, lf, s.map Int.ofNat, (y : Int), j, rfl, rfl, hlf6, by rw [List.getElem?_map, hj]; rfl, fun i hi hz => ?_, ?_⟩
        · rw [List.getElem?_map] at hz
          cases ez : s[i]? with
          | none => rw [ez] at hz; cases hz
          | some z =>
            rw [ez] at hz
            have h5 : Int.ofNat z = (y : Int) := Option.some.inj hz
            exact hf i z hi ez (Int.ofNat.inj h5)
        · have ee : ((s.map Int.ofNat).eraseIdx j).map V.int = nI (s.filter fun x => x != y) := by
            rw [← erase_ne nd hj, nI_ofNat]
            congr 1
            rw [List.eraseIdx_eq_take_drop_succ, List.eraseIdx_eq_take_drop_succ, List.map_append, List.map_take, List.map_drop]
          rw [ee]
          have hfl := filter_ne_len nd Fy.1
          refine ⟨Ex.mut (Ex.mut (x3.trans x36) ntl) nlf0, dn ++ [(y, degTo g y s)], s.filter fun x => x != y, some (.int (y : Nat)), rfl, by omega, ?_, upd_same, I.turn Fy⟩
          rw [upd_ne hne, upd_same, ← nI_append, List.flatMap_append]
          rfl
    · have c := of_decide_eq_false c
      have es : s = [] := List.length_eq_zero_iff.mp (by omega)
      subst es
      obtain ⟨e1, e2⟩ := I.done
      have er : iI (Gq06.step g .peel).2 = nI (g.many :: dn.flatMap fun d => [d.1, d.2]) := by
        rw [nI_ints, ← e2, ← e1]
        rfl
      rw [er] at q
      exact s_ret (ev_var rfl) fun H5 x5 => q tl H5 ntl ((x3.trans x4).trans x5) (x5 _ _ (x4 _ _ htl))
end
end Dp

set_option Elab.async false
set_option linter.all false
set_option maxRecDepth 100000
set_option maxHeartbeats 2000000
namespace Dp
open PySem PySem.Spec PyProof.Rows L2 Evl
open Gq06 (Graph Call)
theorem core_len {g : Graph} (O : GOk g) (k : Nat) : (Gq06.core g k).length ≤ 10 := by
  have h2 := (core_sub g k).length_le
  rw [upto_length] at h2
  have := O.nodes
  omega
section
variable {P : Program} {w : World} {K : PySem.W.Frag} {mg : Str → Option Value} {base : Heap} {C : Addr}
theorem el_rep {σ : L2.St} {H : Hp} {ta tb : TE} {v : V} {n : Nat} (ha : EvL ta σ H [v]) (hb : Ev tb σ H (.int (n : Nat))) (hz : n ≤ 1000) : EvL (tOp rRep ta tb) σ H (List.replicate n v) := fun H1 x1 Q q =>
  ha H1 x1 _ fun p1 H2 n1 x2 h2 => hb H2 (x1.trans x2) _ fun H3 x3 => ⟨p1, (n : Int), [v], rfl, rfl, x3 _ _ h2, by omega, by omega, sz_of (by show 1 * _ ≤ 100000; rw [Int.toNat_natCast]; omega), fun p2 n2 => by
    have e : (List.replicate (n : Int).toNat [v]).flatten = List.replicate n v := by
      rw [Int.toNat_natCast, List.flatten_replicate_singleton]
    rw [e]
    exact q p2 _ (fresh_back (x2.trans x3) n2) ((x2.trans x3).trans (Ex.new n2)) upd_same⟩
/-! ### node_cores -/
def spCores (C : Addr) : Sp := fun vs H Q _ => ∃ (a e : Addr) (g : Graph), vs = [.ref a] ∧ GAt C H a e g ∧ GOk g ∧ RetL (iI (Gq06.step g .cores).2) H Q
theorem scCores : FnScope ["graph", "found", "k", "members", "node"] ["graph"] (defScope sCores) := ⟨rfl, rfl, rfl, by decide +kernel, rfl, by decide +kernel, by decide +kernel⟩
theorem can_Cores (F : Fn K mg "node_cores" sCores ["graph"]) (T : Txt K mg C) (cC : Can P w K mg base "core_members" 3 ["graph", "k"] (spCore C)) : Can P w K mg base "node_cores" 4 ["graph"] (spCores C) := by
  refine Can.mk F scCores (fun vs H Q E h => ?_) fun f cdv A outer s0 H vs Q E hr h => ?_
  · obtain ⟨a, e, g, rfl, _⟩ := h
    rfl
  · refine ⟨_, pss_cons (ps_set (i := 1) scCores.nd rfl (Or.inl rfl) (pe_op op_rep (pe_lst (pa_cons pe_int pa_nil)) (pe_fld (pv 0) rfl)))
      (pss_cons (ps_set (i := 2) scCores.nd rfl (Or.inl rfl) pe_int)
      (pss_cons (ps_set (i := 3) scCores.nd rfl (Or.inl rfl) (pe_can cC hr (pa_cons (pv 0) (pa_cons (pv 2) pa_nil))))
      (pss_cons (ps_while PassesOwn.never (pt_cmpR op_gt (pe_callB call_len_seq (by rfl) T.len PySem.boot_len (pa_cons (pv 3) pa_nil)) pe_int (nomark _))
        (pss_cons (ps_for PassesOwn.never rfl (pi_list (pv 3)) (pg_name (i := 4) scCores.nd rfl (Or.inl rfl)) (pss_one (ps_asg (pv 2) (pg_sub (pv 1) (pe_op op_sub (pv 4) pe_int) set_list))))
        (pss_cons (ps_aug (i := 2) scCores.nd rfl (Or.inl rfl) pe_int ip_add)
        (pss_one (ps_set (i := 3) scCores.nd rfl (Or.inl rfl) (pe_can cC hr (pa_cons (pv 0) (pa_cons (pv 2) pa_nil))))))))
      (pss_one (ps_ret (pv 1)))))), ?_⟩
    obtain ⟨a, e, g, rfl, G, O, q⟩ := h
    have h10 := O.nodes
    have e0 : List.replicate g.many (V.int 0) = nI (coresTo g 0) := by
      rw [coresTo_zero]
      exact (List.map_replicate (f := fun (n : Nat) => V.int (n : Int)) (n := g.many) (a := 0)).symm
    have l0 : EvL _ _ H (List.replicate g.many (V.int 0)) := el_rep (σ := start ["graph", "found", "k", "members", "node"] [V.ref a]) (ta := tLst (tCons (tC (.int 0)) tNil)) (tb := tFld K (tVar 0) "node_count") (H := H) (el_lst (ea_cons ev_c ea_nil) (by show 1 ≤ 100000; decide)) (ev_count (ev_var rfl) G T.cl T.nN) (by omega)
    rw [e0] at l0
    refine q_asgL l0 fun fd H1 nfd x1 h1 => q_asg ev_c fun H2 x2 => ?_
    have x12 := x1.trans x2
    refine q_asgL (xs := nI (Gq06.core g 1)) (el_call (ea_cons (ev_var rfl) (ea_cons (ev_var rfl) ea_nil)) (sl_Core (k := 1) (G.same x12) O)) fun mb H3 nmb x3 h3 => ?_
    have hne : mb ≠ fd := fun z => by rw [z, x2 _ _ h1] at nmb; cases nmb
    refine q_while (fun m σ H' => Ex H H' ∧ ∃ (k : Nat) (mb : Addr) (u : Option V), σ = [some (.ref a), some (.ref fd), some (.int ((k + 1 : Nat) : Int)), some (.ref mb), u] ∧ m = g.edges.length + 1 - k ∧ mb ≠ fd ∧ H' fd = some (.lst (nI (coresTo g k))) ∧ H' mb = some (.lst (nI (Gq06.core g (k + 1)))))
      (g.edges.length + 1) ⟨x12.trans x3, 0, mb, none, rfl, rfl, hne, x3 _ _ (x2 _ _ h1), h3⟩ ?_
    rintro m _ H4 ⟨x4, k, mb, u, rfl, rfl, hne, hfd, hmb⟩
    refine ⟨decide (0 < (Gq06.core g (k + 1)).length), et_is (et_test (ev_op (ev_len (ev_var rfl) (sq_of hmb)) ev_c rv_I0)) (by rw [List.length_map]; exact dec_lt 0 _), fun c H5 x5 => ?_, fun c H5 x5 => ?_⟩
    · have c := of_decide_eq_true c
      have hk : k + 1 ≤ g.edges.length := core_k_le (List.getElem_mem c)
      refine ⟨_, fun σ2 H6 h => ⟨g.edges.length + 1 - (k + 1), by omega, h⟩, ?_⟩
      refine q_forLn (a := mb) (xs := nI (Gq06.core g (k + 1))) (ev_var rfl) (sq_of (x5 _ _ hmb)) (fun i σ H' => Ex H H' ∧ H' mb = some (.lst (nI (Gq06.core g (k + 1)))) ∧ ∃ (l : List Nat) (u : Option V), σ = [some (.ref a), some (.ref fd), some (.int ((k + 1 : Nat) : Int)), some (.ref mb), u] ∧
          H' fd = some (.lst (nI l)) ∧ l.length = g.many ∧ ∀ j, j < g.many → l[j]? = some (if j + 1 ∈ (Gq06.core g (k + 1)).take i then k + 1 else min (Gq06.coreOf g (j + 1)) k))
        (fun H6 x6 => ⟨(x4.trans x5).trans x6, x6 _ _ (x5 _ _ hmb), coresTo g k, u, rfl, x6 _ _ (x5 _ _ hfd), by unfold coresTo; rw [List.length_map, upto_length], fun j hj => ?_⟩) (fun i σ' H' _ z => sq_of z.2.1) ?_ ?_
      · have e1 : (upto g.many)[j]? = some (j + 1) := by
          unfold upto
          rw [List.getElem?_map, List.getElem?_range hj]
          rfl
        unfold coresTo
        rw [List.getElem?_map, e1]
        rfl
      · rintro i z _ H6 hi ⟨x6, hmb6, l, u, rfl, hfd6, hll, hlj⟩
        obtain ⟨n, hn, rfl⟩ := nI_get hi
        have hn2 := mem_upto.mp (core_mem_upto (List.mem_of_getElem? hn))
        have hj : n - 1 < (nI l).length := by rw [List.length_map]; omega
        refine s_setL (j := n - 1) hfd6 (ev_var rfl) (ev_var rfl) (ev_is (ev_op (ev_var rfl) ev_c rv_I0) (by show V.int ((n : Int) - 1) = V.int ((n - 1 : Nat) : Int); congr 1; omega)) hj fun H7 x7 => ?_
        refine ⟨Ex.mut (x6.trans x7) nfd, by rw [upd_ne hne]; exact x7 _ _ hmb6, l.set (n - 1) (k + 1), some (.int (n : Nat)), rfl, by rw [upd_same]; congr 2; exact (List.map_set ..).symm, by rw [List.length_set]; exact hll, fun j hj2 => ?_⟩
        rw [List.getElem?_set, take_more hn]
        by_cases c1 : n - 1 = j
        · subst c1
          rw [if_pos rfl, if_pos (by omega), if_pos (by rw [List.mem_append]; right; rw [List.mem_singleton]; omega)]
        · rw [if_neg c1, hlj j hj2]
          have : (j + 1 ∈ (Gq06.core g (k + 1)).take i ++ [n]) ↔ j + 1 ∈ (Gq06.core g (k + 1)).take i := by
            rw [List.mem_append, List.mem_singleton]
            exact ⟨fun h => h.elim id (fun z => by omega), .inl⟩
          simp only [this]
      · rintro _ H6 ⟨x6, hmb6, l, u, rfl, hfd6, hll, hlj⟩
        rw [List.length_map] at hlj
        rw [List.take_length] at hlj
        have el := coresTo_set hll hlj
        subst el
        refine q_aug rfl ev_c fun H7 x7 => ?_
        refine s_asgL (xs := nI (Gq06.core g (k + 1 + 1))) (el_call (ea_cons (ev_var rfl) (ea_cons (ev_var (v := .int ((k + 1 + 1 : Nat) : Int)) rfl) ea_nil)) (sl_Core (k := k + 1 + 1) (G.same (x6.trans x7)) O)) fun mb2 H8 nmb2 x8 h8 => ?_
        exact ⟨(x6.trans x7).trans x8, k + 1, mb2, u, rfl, rfl, (fun z => by rw [z, x7 _ _ hfd6] at nmb2; cases nmb2), x8 _ _ (x7 _ _ hfd6), h8⟩
    · have c := of_decide_eq_false c
      have ec : Gq06.core g (k + 1) = [] := List.length_eq_zero_iff.mp (by omega)
      have er : iI (Gq06.step g .cores).2 = nI (coresTo g k) := by
        rw [coresTo_done ec, nI_ints]
        rfl
      rw [er] at q
      exact s_ret (ev_var rfl) fun H6 x6 => q fd H6 nfd ((x4.trans x5).trans x6) (x6 _ _ (x5 _ _ hfd))
/-! ### fewest_at_most -/
def spMost (C : Addr) : Sp := fun vs H Q _ => ∃ (a e : Addr) (g : Graph), vs = [.ref a] ∧ GAt C H a e g ∧ GOk g ∧ RetV (.int (Gq06.most g : Nat)) H Q
abbrev nMost : List Str := ["graph", "part"]
theorem scMost : FnScope nMost ["graph"] (defScope sMost) := ⟨rfl, rfl, rfl, by decide +kernel, rfl, by decide +kernel, by decide +kernel⟩
theorem can_Most (F : Fn K mg "fewest_at_most" sMost ["graph"]) (T : Txt K mg C) (cP : Can P w K mg base "all_parts" 2 ["graph"] (spAllP C)) (cW : Can P w K mg base "edges_within" 1 ["graph", "part"] (spEW C K)) (cU : Can P w K mg base "divided_upwards" 1 ["above", "below"] spUp) : Can P w K mg base "fewest_at_most" 3 ["graph"] (spMost C) := by
  refine Can.mk F scMost (fun vs H Q E h => ?_) fun f cdv A outer s0 H vs Q E hr h => ?_
  · obtain ⟨a, e, g, rfl, _⟩ := h
    rfl
  · refine ⟨_, pss_one (ps_ret (pe_callBK (ks := [Str.ofString "default"]) (cr_maxDef (by rfl)) (by rfl) T.max PyProof.Rows.boot_max (pa_cons (pe_lc (own := [("part", 1)]) (g := gName 1) (by rfl) scMost.nd (pi_list (pe_can cP hr (pa_cons (pv 0) pa_nil))) (blkOk_by (own := [("part", 1)]) (N := nMost) (sc := defScope sMost) (by decide +kernel)) (fun _ _ _ _ _ => pg_name (i := 1) scMost.nd rfl (Or.inl rfl))
      (fun _ _ _ _ _ => pts_nil) (fun _ _ _ _ _ => pe_can cU (hr.mono (by decide)) (pa_cons (pe_can cW (hr.mono (by decide)) (pa_cons (pv 0) (pa_cons (pv 1) pa_nil))) (pa_cons (pe_callB (r := rLenS K) call_len_seq (by rfl) T.len PySem.boot_len (pa_cons (pv 1) pa_nil)) pa_nil)))) pa_nil) (pk_cons pe_int pk_nil))), ?_⟩
    obtain ⟨a, e, g, rfl, G, O, q⟩ := h
    have h10 := parts_len O.nodes
    have h20 := O.edges
    have eg : given (allParts g.many).length (fun _ => true) (fun i => V.int ((Gq06.up (win g ((allParts g.many).getD i [])) ((allParts g.many).getD i []).length : Nat) : Int)) = nI (needs g) := by
      rw [given_map [] (allParts g.many) (fun s => V.int ((Gq06.up (win g s) s.length : Nat) : Int))]
      exact (List.map_map (l := allParts g.many) (f := fun s => Gq06.up (win g s) s.length) (g := fun (n : Nat) => V.int (n : Int))).symm
    refine s_ret (ev_maxDef (ns := needs g) (m := Gq06.most g) ?_ most_none (fun x hx hy => most_is hx hy)) q
    rw [← eg]
    refine el_lcRows _ _ (er_call (ea_cons (ev_var rfl) ea_nil) (sr_AllP G O)) (by omega) (fun x => rfl) (fun i r s H1 x1 hs hr => et_yes) (fun i r s H1 x1 hs hr _ => ?_)
    show Ev _ _ H1 (V.int ((Gq06.up (win g ((allParts g.many).getD i [])) ((allParts g.many).getD i []).length : Nat) : Int))
    rw [getD_is hs]
    have hpl := part_le (List.mem_of_getElem? hs)
    have hw : win g s ≤ 20 := Nat.le_trans (win_le g s) h20
    have hn := O.nodes
    have sv : SpV spUp ([.int ((win g s : Nat) : Int), .int (((nI s).length : Nat) : Int)] ++ []) H1 (.int (Gq06.up (win g s) s.length : Nat)) := by
      rw [List.length_map]
      exact sv_Up (by omega) (by omega) (by omega)
    exact ev_call (ea_cons (ev_call (ea_cons (ev_var rfl) (ea_cons (ev_var rfl) ea_nil)) (sv_EW (G.same x1) (sq_of hr))) (ea_cons (ev_len (ev_var rfl) (sq_of hr)) ea_nil)) sv
theorem sv_Most {H : Hp} {a e : Addr} {g : Graph} (G : GAt C H a e g) (O : GOk g) : SpV (spMost C) [.ref a] H (.int (Gq06.most g : Nat)) := fun H1 x Q q E => ⟨a, e, g, rfl, G.same x, O, q⟩
/-! ### fewest_forests -/
def spFor (C : Addr) : Sp := fun vs H Q _ => ∃ (a e : Addr) (g : Graph), vs = [.ref a] ∧ GAt C H a e g ∧ GOk g ∧ RetV (.int (Gq06.forests g : Nat)) H Q
theorem scFor : FnScope nMost ["graph"] (defScope sFor) := ⟨rfl, rfl, rfl, by decide +kernel, rfl, by decide +kernel, by decide +kernel⟩
theorem can_For (F : Fn K mg "fewest_forests" sFor ["graph"]) (T : Txt K mg C) (cP : Can P w K mg base "wider_parts" 3 ["graph"] (spWid C)) (cW : Can P w K mg base "edges_within" 1 ["graph", "part"] (spEW C K)) (cU : Can P w K mg base "divided_upwards" 1 ["above", "below"] spUp) : Can P w K mg base "fewest_forests" 4 ["graph"] (spFor C) := by
  refine Can.mk F scFor (fun vs H Q E h => ?_) fun f cdv A outer s0 H vs Q E hr h => ?_
  · obtain ⟨a, e, g, rfl, _⟩ := h
    rfl
  · refine ⟨_, pss_one (ps_ret (pe_callBK (ks := [Str.ofString "default"]) (cr_maxDef (by rfl)) (by rfl) T.max PyProof.Rows.boot_max (pa_cons (pe_lc (own := [("part", 1)]) (g := gName 1) (by rfl) scFor.nd (pi_list (pe_can cP hr (pa_cons (pv 0) pa_nil))) (blkOk_by (own := [("part", 1)]) (N := nMost) (sc := defScope sFor) (by decide +kernel)) (fun _ _ _ _ _ => pg_name (i := 1) scFor.nd rfl (Or.inl rfl))
      (fun _ _ _ _ _ => pts_nil) (fun _ _ _ _ _ => pe_can cU (hr.mono (by decide)) (pa_cons (pe_can cW (hr.mono (by decide)) (pa_cons (pv 0) (pa_cons (pv 1) pa_nil))) (pa_cons (pe_op op_sub (pe_callB (r := rLenS K) call_len_seq (by rfl) T.len PySem.boot_len (pa_cons (pv 1) pa_nil)) pe_int) pa_nil)))) pa_nil) (pk_cons pe_int pk_nil))), ?_⟩
    obtain ⟨a, e, g, rfl, G, O, q⟩ := h
    have h10 := wider_len O.nodes
    have h20 := O.edges
    have eg : given (wider g.many).length (fun _ => true) (fun i => V.int ((Gq06.up (win g ((wider g.many).getD i [])) (((wider g.many).getD i []).length - 1) : Nat) : Int)) = nI (needsF g) := by
      rw [given_map [] (wider g.many) (fun s => V.int ((Gq06.up (win g s) (s.length - 1) : Nat) : Int))]
      exact (List.map_map (l := wider g.many) (f := fun s => Gq06.up (win g s) (s.length - 1)) (g := fun (n : Nat) => V.int (n : Int))).symm
    refine s_ret (ev_maxDef (ns := needsF g) (m := Gq06.forests g) ?_ forests_none (fun x hx hy => forests_is hx hy)) q
    rw [← eg]
    refine el_lcRows _ _ (er_call (ea_cons (ev_var rfl) ea_nil) (sr_Wid G O)) (by omega) (fun x => rfl) (fun i r s H1 x1 hs hr => et_yes) (fun i r s H1 x1 hs hr _ => ?_)
    show Ev _ _ H1 (V.int ((Gq06.up (win g ((wider g.many).getD i [])) (((wider g.many).getD i []).length - 1) : Nat) : Int))
    rw [getD_is hs]
    obtain ⟨hp, h2⟩ := mem_wider.mp (List.mem_of_getElem? hs)
    have hpl := part_le (allParts_mem.mpr hp)
    have hw : win g s ≤ 20 := Nat.le_trans (win_le g s) h20
    have hn := O.nodes
    have el : V.int ((((nI s).length : Nat) : Int) - 1) = V.int ((s.length - 1 : Nat) : Int) := by
      rw [List.length_map]
      congr 1
      omega
    exact ev_call (ea_cons (ev_call (ea_cons (ev_var rfl) (ea_cons (ev_var rfl) ea_nil)) (sv_EW (G.same x1) (sq_of hr))) (ea_cons (ev_is (ev_op (ev_len (ev_var rfl) (sq_of hr)) ev_c rv_I0) el) ea_nil)) (sv_Up (by omega) (by omega) (by omega))
theorem sv_For {H : Hp} {a e : Addr} {g : Graph} (G : GAt C H a e g) (O : GOk g) : SpV (spFor C) [.ref a] H (.int (Gq06.forests g : Nat)) := fun H1 x Q q E => ⟨a, e, g, rfl, G.same x, O, q⟩
end
end Dp

set_option Elab.async false
set_option linter.all false
set_option maxRecDepth 100000
set_option maxHeartbeats 2000000
namespace Dp
open PySem PySem.Spec PyProof.Rows L2 Evl
open Gq06 (Graph Call)
section
variable {P : Program} {w : World} {K : PySem.W.Frag} {mg : Str → Option Value} {base : Heap} {C : Addr}
/-! ### tight_nodes -/
def spTight (C : Addr) : Sp := fun vs H Q _ => ∃ (a e : Addr) (g : Graph) (k : Nat), vs = [.ref a, .int (k : Nat)] ∧ GAt C H a e g ∧ GOk g ∧ RetL (nI (Gq06.tightIn g k)) H Q
theorem scTight : FnScope ["graph", "k", "members", "part"] ["graph", "k"] (defScope sTight) := ⟨rfl, rfl, rfl, by decide +kernel, rfl, by decide +kernel, by decide +kernel⟩
theorem can_Tight (F : Fn K mg "tight_nodes" sTight ["graph", "k"]) (T : Txt K mg C) (cP : Can P w K mg base "wider_parts" 3 ["graph"] (spWid C)) (cW : Can P w K mg base "edges_within" 1 ["graph", "part"] (spEW C K)) : Can P w K mg base "tight_nodes" 4 ["graph", "k"] (spTight C) := by
  refine Can.mk F scTight (fun vs H Q E h => ?_) fun f cdv A outer s0 H vs Q E hr h => ?_
  · obtain ⟨a, e, g, k, rfl, _⟩ := h
    rfl
  · refine ⟨_, pss_cons (ps_set (i := 2) scTight.nd rfl (Or.inl rfl) (pe_lst pa_nil))
      (pss_cons (ps_for PassesOwn.never rfl (pi_list (pe_can cP hr (pa_cons (pv 0) pa_nil))) (pg_name (i := 3) scTight.nd rfl (Or.inl rfl))
        (pss_one (ps_if (pt_cmpR op_ge (pe_can cW (hr.mono (by decide)) (pa_cons (pv 0) (pa_cons (pv 3) pa_nil))) (pe_op op_mul (pv 1) (pe_op op_sub (pe_callB call_len_seq (by rfl) T.len PySem.boot_len (pa_cons (pv 3) pa_nil)) pe_int)) (nomark _))
          (pss_one (ps_expr (pe_bm PySem.F.plainAttrs_list PySem.F.slot_list_extend PySem.F.type_list_extend mt_extend (pv 2) (pa_cons (pv 3) pa_nil)))) pss_nil)))
      (pss_one (ps_ret (pe_callB (cr_sortedSet (by rfl)) (by rfl) T.sorted PyProof.Rows.boot_sorted (pa_cons (pe_callTy (cr_setL (by rfl)) (by rfl) T.set PyProof.Rows.boot_set (pa_cons (pv 2) pa_nil)) pa_nil))))), ?_⟩
    obtain ⟨a, e, g, k, rfl, G, O, q⟩ := h
    have h10 := O.nodes
    have hwl := wider_len h10
    refine q_asgL (xs := []) (el_lst ea_nil (by show 0 ≤ 100000; decide)) fun m H3 nm x3 h3 => ?_
    refine ⟨_, rfl, a, e, g, rfl, G.same x3, O, fun pp H4 npp x4 ⟨rs, hp, hl, hr⟩ => ⟨pp, rfl, ⟨_, sq_of hp⟩, ?_⟩⟩
    have hpm : pp ≠ m := fun z => by rw [z, h3] at npp; cases npp
    have hrm : ∀ (i : Nat) (r : Addr) (s : List Nat), rs[i]? = some r → (wider g.many)[i]? = some s → r ≠ m := fun i r s h1 h2 z => by
      have h5 := hr i r s h1 h2
      rw [z, x4 _ _ h3] at h5
      have h6 := (mem_wider.mp (List.mem_of_getElem? h2)).2
      injection h5 with h5
      injection h5 with h5
      have h7 := congrArg List.length h5
      rw [List.length_map] at h7
      have h8 : ([] : List V).length = 0 := rfl
      omega
    refine for_list (K := K) (a := pp) (xs := rs.map V.ref) (fun i σ H' => Ex H H' ∧ (∀ b o, H4 b = some o → b ≠ m → H' b = some o) ∧ ∃ (mem : List Nat) (u : Option V), σ = [some (.ref a), some (.int (k : Nat)), some (.ref m), u] ∧
        H' m = some (.lst (nI mem)) ∧ mem.length ≤ 10 * i ∧ ∀ x, x ∈ mem ↔ ∃ s ∈ (wider g.many).take i, isTight g k s = true ∧ x ∈ s)
      ⟨x3.trans x4, fun b o h _ => h, [], none, rfl, x4 _ _ h3, by simp, by simp⟩ (fun i σ H' _ z => sq_of (z.2.1 _ _ hp hpm)) ?_ ?_
    · rintro i z _ H5 hi ⟨x5, fr, mem, u, rfl, hm, hml, hmm⟩
      obtain ⟨r, s, hr1, hs1, rfl⟩ := rows_get hl hi
      have hrs := fr _ _ (hr i r s hr1 hs1) (hrm i r s hr1 hs1)
      obtain ⟨hps, h2⟩ := mem_wider.mp (List.mem_of_getElem? hs1)
      have hsl := part_le (allParts_mem.mpr hps)
      have hil := (List.getElem?_eq_some_iff.mp hs1).1
      have step := take_more hs1
      have c1 : CMul (k : Int) ((((nI s).length : Nat) : Int) - 1) := .inr (by rw [List.length_map]; exact ⟨by omega, by omega⟩)
      refine s_when (b := isTight g k s) (et_is (et_test (ev_op (ev_call (ea_cons (ev_var rfl) (ea_cons (ev_var rfl) ea_nil)) (sv_EW (G.same x5) (sq_of hrs))) (ev_op (ev_var rfl) (ev_op (ev_len (ev_var rfl) (sq_of hrs)) ev_c rv_I0) (rv_I c1)) rv_I0)) ?_) (fun c H6 x6 => ?_) (fun c H6 x6 => ?_)
      · show decide ((k : Int) * ((((nI s).length : Nat) : Int) - 1) ≤ ((win g s : Nat) : Int)) = isTight g k s
        rw [List.length_map, show ((s.length : Nat) : Int) - 1 = ((s.length - 1 : Nat) : Int) by omega, ← Int.natCast_mul]
        exact dec_le _ _
      · refine s_extV (x6 _ _ hm) (x6 _ _ hrs) (ev_var rfl) (ev_var rfl) (by rw [List.length_map, List.length_map]; omega) fun H7 x7 => ⟨Ex.mut ((x5.trans x6).trans x7) nm, fun b o hb hn => by rw [upd_ne hn]; exact x7 _ _ (x6 _ _ (fr b o hb hn)), mem ++ s, some (.ref r), rfl, by rw [upd_same, nI_append], by rw [List.length_append]; omega, fun x => ?_⟩
        rw [List.mem_append, hmm, step]
        constructor
        · rintro (⟨t, ht, h5, h6⟩ | h6)
          · exact ⟨t, List.mem_append.mpr (.inl ht), h5, h6⟩
          · exact ⟨s, List.mem_append.mpr (.inr (List.mem_singleton.mpr rfl)), c, h6⟩
        · rintro ⟨t, ht, h5, h6⟩
          rcases List.mem_append.mp ht with ht | ht
          · exact .inl ⟨t, ht, h5, h6⟩
          · rw [List.mem_singleton.mp ht] at h6
            exact .inr h6
      · refine ⟨x5.trans x6, fun b o hb hn => x6 _ _ (fr b o hb hn), mem, some (.ref r), rfl, x6 _ _ hm, by omega, fun x => ?_⟩
        rw [hmm, step]
        constructor
        · rintro ⟨t, ht, h5, h6⟩
          exact ⟨t, List.mem_append.mpr (.inl ht), h5, h6⟩
        · rintro ⟨t, ht, h5, h6⟩
          rcases List.mem_append.mp ht with ht | ht
          · exact ⟨t, ht, h5, h6⟩
          · rw [List.mem_singleton.mp ht, c] at h5
            cases h5
    · rintro _ H5 ⟨x5, fr, mem, u, rfl, hm, hml, hmm⟩
      rw [List.length_map, hl, List.take_length] at hmm
      have hd10 : (Gq06.tightIn g k).length ≤ 10 := by
        have := (tight_sub g k).length_le
        rw [upto_length] at this
        omega
      exact s_retL (el_sortedSet (ev_var rfl) (sq_of hm) (tight_rises g k) (by omega) (fun x => (hmm x).trans mem_tightIn.symm)) fun p H6 np x6 h6 => q p H6 (fresh_back x5 np) (x5.trans x6) h6
theorem sl_Tight {H : Hp} {a e : Addr} {g : Graph} {k : Nat} (G : GAt C H a e g) (O : GOk g) : SpL (spTight C) [.ref a, .int (k : Nat)] H (nI (Gq06.tightIn g k)) := fun H1 x Q q E => ⟨a, e, g, k, rfl, G.same x, O, q⟩
/-! ### tell_tight -/
def spTTight (C : Addr) : Sp := fun vs H Q _ => ∃ (a e : Addr) (g : Graph) (k : Nat), vs = [.ref a, .int (k : Nat)] ∧ GAt C H a e g ∧ GOk g ∧ RetL (iI (Gq06.step g (.tight k)).2) H Q
theorem scTTight : FnScope ["graph", "k"] ["graph", "k"] (defScope sTTight) := ⟨rfl, rfl, rfl, by decide +kernel, rfl, by decide +kernel, by decide +kernel⟩
theorem can_TTight (F : Fn K mg "tell_tight" sTTight ["graph", "k"]) (T : Txt K mg C) (cT : Can P w K mg base "tight_nodes" 4 ["graph", "k"] (spTight C)) (cC : Can P w K mg base "counted" 1 ["members"] spCnt) : Can P w K mg base "tell_tight" 5 ["graph", "k"] (spTTight C) := by
  refine Can.mk F scTTight (fun vs H Q E h => ?_) fun f cdv A outer s0 H vs Q E hr h => ?_
  · obtain ⟨a, e, g, k, rfl, _⟩ := h
    rfl
  · refine ⟨_, pss_cons (ps_if (pt_cmpR op_eq (pv 1) pe_int (nomark _)) (pss_one (ps_ret (pe_lst (pa_cons (pe_con0 T.mK) pa_nil)))) pss_nil)
      (pss_one (ps_ret (pe_can cC (hr.mono (by decide)) (pa_cons (pe_can cT hr (pa_cons (pv 0) (pa_cons (pv 1) pa_nil))) pa_nil)))), ?_⟩
    obtain ⟨a, e, g, k, rfl, G, O, q⟩ := h
    refine q_when (b := k == 0) (et_is (et_test (ev_op (ev_var rfl) ev_c (rv_eq rfl))) (dec_int k 0)) (fun c H1 x1 => ?_) (fun c H1 x1 => ?_)
    · have c' : k = 0 := beq_iff_eq.mp c
      have er : (Gq06.step g (.tight k)).2 = [-1] := if_pos c'
      rw [er] at q
      exact s_retL (xs := iI [-1]) (el_lst (ea_cons ev_c ea_nil) (by show 1 ≤ 100000; decide)) fun p2 H2 n2 x2 h2 => q p2 H2 (fresh_back x1 n2) (x1.trans x2) h2
    · have c' : k ≠ 0 := beq_eq_false_iff_ne.mp c
      have er : iI (Gq06.step g (.tight k)).2 = nI ((Gq06.tightIn g k).length :: Gq06.tightIn g k) := by
        show iI (if k = 0 then [-1] else Gq06.told (Gq06.tightIn g k)) = _
        rw [if_neg c', nI_ints]
        rfl
      rw [er] at q
      have hd10 : (Gq06.tightIn g k).length ≤ 10 := by
        have := (tight_sub g k).length_le
        rw [upto_length] at this
        have := O.nodes
        omega
      exact s_retL (el_callL (el_call (ea_cons (ev_var rfl) (ea_cons (ev_var rfl) ea_nil)) (sl_Tight (G.same x1) O)) fun p H2 x2 h2 => sl_Cnt h2 (by omega)) fun p2 H2 n2 x2 h2 => q p2 H2 (fresh_back x1 n2) (x1.trans x2) h2
end
end Dp

set_option Elab.async false
set_option linter.all false
set_option maxRecDepth 100000
set_option maxHeartbeats 4000000
namespace Dp
open PySem PySem.Spec PyProof.Rows L2 Evl
open Gq06 (Graph Call)
theorem mem_sepAt {c d j : Nat} {ps : List (List Nat)} : j ∈ sepAt c d ps ↔ ∃ s, ps[j]? = some s ∧ (s.contains c && !s.contains d) = true := by
  unfold sepAt
  rw [List.mem_filter, List.mem_range]
  constructor
  · rintro ⟨h1, h2⟩
    refine ⟨ps[j], List.getElem?_eq_getElem h1, ?_⟩
    have e : ps.getD j [] = ps[j] := getD_is (List.getElem?_eq_getElem h1)
    rw [← e]
    exact h2
  · rintro ⟨s, h1, h2⟩
    refine ⟨(List.getElem?_eq_some_iff.mp h1).1, ?_⟩
    rw [getD_is h1]
    exact h2
theorem sepAt_nodup (c d : Nat) (ps : List (List Nat)) : (sepAt c d ps).Nodup := List.nodup_range.sublist List.filter_sublist
theorem not_before {l : List Nat} (h : l.Nodup) {i x : Nat} (hx : l[i]? = some x) : x ∉ l.take i := fun hm => by
  have h1 : (l.take (i + 1)).Nodup := h.sublist (List.take_sublist _ _)
  rw [take_more hx, List.nodup_append] at h1
  exact h1.2.2 x hm x (List.mem_singleton.mpr rfl) rfl
theorem any_sep {ps : List (List Nat)} {room : List Nat → Int} {c d : Nat} : ((sepAt c d ps).map fun j => decide ((ps.map room).getD j 0 = 0)).any id = true ↔ ∃ s ∈ ps, (s.contains c && !s.contains d) = true ∧ room s = 0 := by
  rw [List.any_eq_true]
  constructor
  · rintro ⟨b, hb, hid⟩
    obtain ⟨j, hj, rfl⟩ := List.mem_map.mp hb
    obtain ⟨s, h1, h2⟩ := mem_sepAt.mp hj
    have h3 : (ps.map room).getD j 0 = 0 := of_decide_eq_true hid
    rw [getD_is (x := room s) (by rw [List.getElem?_map, h1]; rfl)] at h3
    exact ⟨s, List.mem_of_getElem? h1, h2, h3⟩
  · rintro ⟨s, hs, h2, h3⟩
    obtain ⟨j, hj, rfl⟩ := List.getElem_of_mem hs
    have h1 := List.getElem?_eq_getElem hj
    refine ⟨_, List.mem_map.mpr ⟨j, mem_sepAt.mpr ⟨_, h1, h2⟩, rfl⟩, ?_⟩
    rw [getD_is (x := room ps[j]) (by rw [List.getElem?_map, h1]; rfl)]
    exact decide_eq_true h3
/-- all of the places are one less: what is left is the room behind the turn -/
theorem room_all {n k : Nat} {got : Nat → Nat} {x y c d : Nat} {l : List (Nat × Nat)} {rm : List Int} (h : (c = x ∧ d = y) ∨ (c = y ∧ d = x)) (hl : rm.length = (allParts n).length)
    (hall : ∀ j s, (allParts n)[j]? = some s → rm[j]? = some (roomOf k got ((x, y) :: l) s - if j ∈ sepAt c d (allParts n) then 1 else 0)) : rm = (allParts n).map (roomOf k (bump got c) l) := by
  apply List.ext_getElem?
  intro j
  rw [List.getElem?_map]
  by_cases hj : j < (allParts n).length
  · have h1 := List.getElem?_eq_getElem hj
    rw [hall j _ h1, h1, Option.map_some, room_turn (part_nodup (List.mem_of_getElem? h1)) h]
    congr 2
    have e : (j ∈ sepAt c d (allParts n)) ↔ ((allParts n)[j].contains c && !(allParts n)[j].contains d) = true := by
      rw [mem_sepAt]
      constructor
      · rintro ⟨s, h2, h3⟩
        rw [h1] at h2
        rw [Option.some.inj h2]
        exact h3
      · intro h3
        exact ⟨_, h1, h3⟩
    simp only [e]
  · rw [List.getElem?_eq_none (by omega), List.getElem?_eq_none (by omega)]
    rfl
theorem iI_at {l : List Int} {i : Nat} {n : Int} (h : l[i]? = some n) : atI (iI l) (i : Int) = some (.int n) := atI_nat (by rw [List.getElem?_map, h]; rfl)
section
variable {P : Program} {w : World} {K : PySem.W.Frag} {mg : Str → Option Value} {base : Heap} {C : Addr}
section
variable {σ : L2.St} {H : Hp} {D : Ends} {ta tb te : TE}
theorem ev_eqI {x y : Int} (ha : Ev ta σ H (.int x)) (hb : Ev tb σ H (.int y)) : Ev (tOp rEq ta tb) σ H (.bl (decide (x = y))) :=
  ev_is (ev_op ha hb (rv_eq rfl)) (by
    by_cases h : x = y
    · subst h; simp
    · have h2 : ¬ V.int x = V.int y := fun e => by
        injection e with e
        exact h e
      rw [decide_eq_false h2, decide_eq_false h])
theorem ev_any {bs : List Bool} (h : EvL te σ H (bs.map V.bl)) : Ev (tCB (rAny K) (tCons te tNil)) σ H (.bl (bs.any id)) := fun H1 e Q q =>
  h H1 e _ fun p H2 np e2 h2 => ⟨p, bs, rfl, sq_of h2, q H2 e2⟩
/-- xs[i] -= e -/
theorem s_augL {l : Addr} {ns : List Int} {j : Nat} {x d : Int} {f : Int → Int → Int} (hl : H l = some (.lst (iI ns))) (ho : Ev ta σ H (.ref l)) (hi : Ev tb σ H (.int (j : Nat))) (hx : ns[j]? = some x) (he : Ev te σ H (.int d))
    (k : ∀ H1, Ex H H1 → D.nx σ (upd H1 l (.lst (iI (ns.set j (f x d)))))) : tAugS ta tb te (rGetN K) (ipI f) L2.rSetL D σ H :=
  ho H (Ex.refl H) _ fun H1 e1 => hi H1 e1 _ fun H2 e2 => ⟨l, iI ns, j, .int x, rfl, rfl, sq_of ((e1.trans e2) _ _ hl), by rw [List.getElem?_map, hx]; rfl, he H2 (e1.trans e2) _ fun H3 e3 =>
    ⟨x, d, rfl, rfl, l, iI ns, (j : Int), j, rfl, rfl, ((e1.trans e2).trans e3) _ _ hl, ixN_nat (by rw [List.length_map]; exact (List.getElem?_eq_some_iff.mp hx).1), by
      have e4 : (iI ns).set j (V.int (f x d)) = iI (ns.set j (f x d)) := (List.map_set ..).symm
      rw [e4]
      exact k H3 ((e1.trans e2).trans e3)⟩⟩
end
theorem q_asgR {σ : L2.St} {H : Hp} {D : Ends} {te : TE} {tz : TS} {i : Nat} {ps : List (List Nat)} (h : EvR te σ H ps) (k : ∀ p H1, H p = none → Ex H H1 → RowsAt H1 p ps → tz D (σ.set i (some (.ref p))) H1) : tSeq (tAsg te (gName i)) tz D σ H := h H (Ex.refl H) _ fun p H1 hp e r => k p H1 hp e r
/-! ### first_turned -/
def spTurn (C : Addr) : Sp := fun vs H Q _ => ∃ (a e : Addr) (g : Graph), vs = [.ref a, .int (Gq06.most g : Nat)] ∧ GAt C H a e g ∧ GOk g ∧ RetL (nI (led g (Gq06.most g) g.edges fun _ => 0)) H Q
abbrev nTurn : List Str := ["graph", "most", "parts", "room", "led_to", "x", "y", "low", "high", "end", "taking", "place", "part"]
theorem scTurn : FnScope nTurn ["graph", "most"] (defScope sTurn) := ⟨rfl, rfl, rfl, by decide +kernel, rfl, by decide +kernel, by decide +kernel⟩
theorem can_Turn (F : Fn K mg "first_turned" sTurn ["graph", "most"]) (T : Txt K mg C) (cP : Can P w K mg base "all_parts" 2 ["graph"] (spAllP C)) (cW : Can P w K mg base "edges_within" 1 ["graph", "part"] (spEW C K)) (cR : Can P w K mg base "places_parting" 1 ["parts", "inner", "outer"] spPar) : Can P w K mg base "first_turned" 3 ["graph", "most"] (spTurn C) := by
  refine Can.mk F scTurn (fun vs H Q E h => ?_) fun f cdv A outer s0 H vs Q E hr h => ?_
  · obtain ⟨a, e, g, rfl, _⟩ := h
    rfl
  · refine ⟨_, pss_cons (ps_set (i := 2) scTurn.nd rfl (Or.inl rfl) (pe_can cP hr (pa_cons (pv 0) pa_nil)))
      (pss_cons (ps_set (i := 3) scTurn.nd rfl (Or.inr rfl) (pe_lc (own := [("part", 12)]) (g := gName 12) (tt := tYes) (by rfl) scTurn.nd (pi_list (pv 2)) (blkOk_by (own := [("part", 12)]) (N := nTurn) (sc := defScope sTurn) (by decide +kernel))
        (fun _ _ _ _ _ => pg_name (i := 12) scTurn.nd rfl (Or.inl rfl)) (fun _ _ _ _ _ => pts_nil)
        (fun _ _ _ _ _ => pe_op op_sub (pe_op op_mul (pv 1) (pe_callB (r := rLenS K) call_len_seq (by rfl) T.len PySem.boot_len (pa_cons (pv 12) pa_nil))) (pe_can cW (hr.mono (by decide)) (pa_cons (pv 0) (pa_cons (pv 12) pa_nil))))))
      (pss_cons (ps_set (i := 4) scTurn.nd rfl (Or.inl rfl) (pe_lst pa_nil))
      (pss_cons (ps_for PassesOwn.never rfl (pi_list (pe_fld (pv 0) rfl))
        (pg_tup rfl (pgs_cons (pg_name (i := 5) scTurn.nd rfl (Or.inl rfl)) (pgs_cons (pg_name (i := 6) scTurn.nd rfl (Or.inl rfl)) pgs_nil)))
        (pss_cons (ps_set (i := 7) scTurn.nd rfl (Or.inl rfl) (pe_callB (call_min2 (by rfl)) (by rfl) T.min PyProof.Rows.boot_min (pa_cons (pv 5) (pa_cons (pv 6) pa_nil))))
        (pss_cons (ps_set (i := 8) scTurn.nd rfl (Or.inl rfl) (pe_callB (call_max2 (by rfl)) (by rfl) T.max PyProof.Rows.boot_max (pa_cons (pv 5) (pa_cons (pv 6) pa_nil))))
        (pss_cons (ps_set (i := 9) scTurn.nd rfl (Or.inl rfl) (pv 7))
        (pss_cons (ps_set (i := 10) scTurn.nd rfl (Or.inl rfl) (pe_can cR (hr.mono (by decide)) (pa_cons (pv 2) (pa_cons (pv 7) (pa_cons (pv 8) pa_nil)))))
        (pss_cut (ps_if (pt_val (pe_callB (cr_any (by rfl)) (by rfl) T.any PyProof.Rows.boot_any (pa_cons (pe_lc (own := [("place", 11)]) (g := gName 11) (tt := tYes) (by rfl) scTurn.nd (pi_list (pv 10)) (blkOk_by (own := [("place", 11)]) (N := nTurn) (sc := defScope sTurn) (by decide +kernel))
            (fun _ _ _ _ _ => pg_name (i := 11) scTurn.nd rfl (Or.inl rfl)) (fun _ _ _ _ _ => pts_nil) (fun _ _ _ _ _ => pe_cmpR op_eq (pe_ix (r := rIxL K) ix_list (pv 3) (pv 11) (fun _ _ => rfl)) pe_int (nomark _))) pa_nil)))
          (pss_cons (ps_set (i := 9) scTurn.nd rfl (Or.inl rfl) (pv 8)) (pss_one (ps_set (i := 10) scTurn.nd rfl (Or.inl rfl) (pe_can cR (hr.mono (by decide)) (pa_cons (pv 2) (pa_cons (pv 8) (pa_cons (pv 7) pa_nil))))))) pss_nil)
        (pss_cons (ps_for PassesOwn.never rfl (pi_list (pv 10)) (pg_name (i := 11) scTurn.nd rfl (Or.inl rfl)) (pss_one (ps_augS (pv 3) (pv 11) get_list pe_int ip_sub set_list)))
        (pss_one (ps_expr (pe_bm PySem.F.plainAttrs_list PySem.F.slot_list_append PySem.F.type_list_append mt_append (pv 4) (pa_cons (pv 9) pa_nil)))))))))))
      (pss_one (ps_ret (pv 4)))))), ?_⟩
    obtain ⟨a, e, g, rfl, G, O, q⟩ := h
    have h10 := O.nodes
    have h20 := O.edges
    have hpl := parts_len h10
    have hwi : Within g.many g.edges := fun d hd => by
      obtain ⟨⟨h1, h2⟩, ⟨h3, h4⟩, h5⟩ := O.ends d hd
      exact ⟨mem_upto.mpr ⟨h1, h2⟩, mem_upto.mpr ⟨h3, h4⟩⟩
    generalize hk : Gq06.most g = k at q
    have hct : Gq06.canTurn g k (fun _ => 0) g.edges = true := hk ▸ turned_start hwi
    -- parts
    refine q_asgR (er_call (ea_cons (ev_var rfl) ea_nil) (sr_AllP G O)) fun p Hq np xp R => ?_
    -- room
    have eg : given (allParts g.many).length (fun _ => true) (fun i => V.int ((k : Int) * ((((allParts g.many).getD i []).length : Nat) : Int) - ((win g ((allParts g.many).getD i []) : Nat) : Int))) = iI ((allParts g.many).map (roomOf k (fun _ => 0) g.edges)) := by
      rw [given_map [] (allParts g.many) (fun s => V.int ((k : Int) * ((s.length : Nat) : Int) - ((win g s : Nat) : Int)))]
      refine Eq.trans ?_ (List.map_map (f := roomOf k (fun _ => 0) g.edges) (g := V.int)).symm
      refine List.map_congr_left fun s _ => ?_
      show _ = V.int (roomOf k (fun _ => 0) g.edges s)
      rw [room_start]
    refine q_asgL (xs := iI ((allParts g.many).map (roomOf k (fun _ => 0) g.edges))) ?lc fun rm H1 nrm x1 h1 => ?_
    case lc =>
      rw [← eg]
      refine el_lcRowsAt (p := p) (ps := allParts g.many) _ _ (ev_var rfl) R (by omega) (fun x => rfl) (fun i r s H1 x1 hs hr => et_yes) (fun i r s H1 x1 hs hr _ => ?_)
      show Ev _ _ H1 (V.int ((k : Int) * ((((allParts g.many).getD i []).length : Nat) : Int) - ((win g ((allParts g.many).getD i []) : Nat) : Int)))
      rw [getD_is hs]
      have hsl := part_le (List.mem_of_getElem? hs)
      have c1 : CMul (k : Int) (((nI s).length : Nat) : Int) := .inr (by rw [List.length_map]; exact ⟨by omega, by omega⟩)
      refine ev_is (ev_op (ev_op (ev_var rfl) (ev_len (ev_var rfl) (sq_of hr)) (rv_I c1)) (ev_call (ea_cons (ev_var rfl) (ea_cons (ev_var rfl) ea_nil)) (sv_EW (G.same (xp.trans x1)) (sq_of hr))) rv_I0) ?_
      rw [List.length_map]
    -- led_to
    refine q_asgL (xs := []) (el_lst ea_nil (by show 0 ≤ 100000; decide)) fun L H2 nL x2 h2 => ?_
    have nL0 : Hq L = none := fresh_back x1 nL
    have hne : L ≠ rm := fun z => by rw [z, h1] at nL; cases nL
    refine q_endsH (H0 := Hq) (ev_var rfl) (G.same xp) (x1.trans x2) T.cl T.nE (fun i σ H' => Ex Hq H' ∧ ∃ (got : Nat → Nat) (dn : List Nat) (s5 s6 s7 s8 s9 s10 s11 : Option V), σ = [some (.ref a), some (.int (k : Nat)), some (.ref p), some (.ref rm), some (.ref L), s5, s6, s7, s8, s9, s10, s11, none] ∧
        H' rm = some (.lst (iI ((allParts g.many).map (roomOf k got (g.edges.drop i))))) ∧ H' L = some (.lst (nI dn)) ∧ dn.length = i ∧ Gq06.canTurn g k got (g.edges.drop i) = true ∧ dn ++ led g k (g.edges.drop i) got = led g k g.edges fun _ => 0)
      (fun H3 x3 => ⟨(x1.trans x2).trans x3, fun _ => 0, [], none, none, none, none, none, none, none, by rw [← hk]; rfl, x3 _ _ (x2 _ _ h1), x3 _ _ h2, rfl, hct, rfl⟩) (fun i σ' H' z => z.1) ?_ ?_
    · rintro i ⟨x, y⟩ _ H3 x3 hd ⟨_, got, dn, s5, s6, s7, s8, s9, s10, s11, rfl, hrm, hL, hdn, hcan, hled⟩
      have hi := (List.getElem?_eq_some_iff.mp hd).1
      have ed : g.edges.drop i = (x, y) :: g.edges.drop (i + 1) := by
        rw [List.drop_eq_getElem_cons hi, (List.getElem?_eq_some_iff.mp hd).2]
      rw [ed] at hrm hcan hled
      have hwl : Within g.many ((x, y) :: g.edges.drop (i + 1)) := fun d hd2 => hwi d (List.mem_of_mem_drop (i := i) (by rw [ed]; exact hd2))
      generalize hl : g.edges.drop (i + 1) = l at hrm hcan hled hwl
      refine q_asg (ev_min2 (ev_var rfl) (ev_var rfl)) fun H4 x4 => q_asg (ev_max2n (ev_var rfl) (ev_var rfl)) fun H5 x5 => q_asg (ev_var rfl) fun H6 x6 => ?_
      have x36 := (x4.trans x5).trans x6
      refine q_asgL (xs := nI (sepAt (min x y) (max x y) (allParts g.many))) (el_call (ea_cons (ev_var rfl) (ea_cons (ev_var rfl) (ea_cons (ev_var rfl) ea_nil))) (sl_Par (R.same (x3.trans x36)) (by omega))) fun tk H7 ntk x7 htk => ?_
      have x37 := x36.trans x7
      have tkr : tk ≠ rm := fun z => by rw [z, x36 _ _ hrm] at ntk; cases ntk
      have tkL : tk ≠ L := fun z => by rw [z, x36 _ _ hL] at ntk; cases ntk
      have hrm7 := x37 _ _ hrm
      refine q_cut (M := fun σ' H' => ∃ (c d : Nat) (tk : Addr), ((c = x ∧ d = y) ∨ (c = y ∧ d = x)) ∧ Gq06.canTurn g k (bump got c) l = true ∧ led g k ((x, y) :: l) got = c :: led g k l (bump got c) ∧
          σ' = [some (.ref a), some (.int (k : Nat)), some (.ref p), some (.ref rm), some (.ref L), some (.int (x : Nat)), some (.int (y : Nat)), some (.int ((min x y : Nat) : Int)), some (.int ((max x y : Nat) : Int)), some (.int (c : Nat)), some (.ref tk), s11, none] ∧
          Ex Hq H' ∧ H' tk = some (.lst (nI (sepAt c d (allParts g.many)))) ∧ tk ≠ rm ∧ tk ≠ L ∧ H' rm = some (.lst (iI ((allParts g.many).map (roomOf k got ((x, y) :: l))))) ∧ H' L = some (.lst (nI dn))) ?ask ?go
      case ask =>
        have ea : given (nI (sepAt (min x y) (max x y) (allParts g.many))).length (fun _ => true) (fun i => V.bl (decide (((allParts g.many).map (roomOf k got ((x, y) :: l))).getD ((sepAt (min x y) (max x y) (allParts g.many)).getD i 0) 0 = 0))) = ((sepAt (min x y) (max x y) (allParts g.many)).map fun j => decide (((allParts g.many).map (roomOf k got ((x, y) :: l))).getD j 0 = 0)).map V.bl := by
          rw [List.length_map, given_map 0 (sepAt (min x y) (max x y) (allParts g.many)) (fun j => V.bl (decide (((allParts g.many).map (roomOf k got ((x, y) :: l))).getD j 0 = 0)))]
          exact (List.map_map (f := fun j => decide (((allParts g.many).map (roomOf k got ((x, y) :: l))).getD j 0 = 0)) (g := V.bl)).symm
        have hsl : (sepAt (min x y) (max x y) (allParts g.many)).length ≤ 1023 := by
          have := List.length_filter_le (fun i => ((allParts g.many).getD i []).contains (min x y) && !((allParts g.many).getD i []).contains (max x y)) (List.range (allParts g.many).length)
          rw [List.length_range] at this
          exact Nat.le_trans this hpl
        refine s_when (b := ((sepAt (min x y) (max x y) (allParts g.many)).map fun j => decide (((allParts g.many).map (roomOf k got ((x, y) :: l))).getD j 0 = 0)).any id) (et_B (ev_any ?el)) (fun c H8 x8 => ?_) (fun c H8 x8 => ?_)
        case el =>
          rw [← ea]
          refine el_lcL (K := K) (a := tk) (xs := nI (sepAt (min x y) (max x y) (allParts g.many))) _ _ (ev_var rfl) (sq_of htk) (by rw [List.length_map]; omega) (fun x => rfl) (fun i x H1 x1 hi => et_yes) (fun i z H8 x8 hz _ => ?_)
          obtain ⟨j, hj, rfl⟩ := nI_get hz
          obtain ⟨s, hs, _⟩ := mem_sepAt.mp (List.mem_of_getElem? hj)
          show Ev _ _ H8 (V.bl (decide (((allParts g.many).map (roomOf k got ((x, y) :: l))).getD ((sepAt (min x y) (max x y) (allParts g.many)).getD i 0) 0 = 0)))
          have e1 : ((allParts g.many).map (roomOf k got ((x, y) :: l)))[j]? = some (roomOf k got ((x, y) :: l) s) := by rw [List.getElem?_map, hs]; rfl
          rw [getD_is hj, getD_is e1]
          exact ev_eqI (ev_op (ev_var rfl) (ev_var rfl) (rv_ixL (sq_of (x8 _ _ hrm7)) (iI_at e1))) ev_c
        · have hno := (ask_low hcan).mp (any_sep.mp c)
          have hhi := other_way hwl hcan hno
          refine q_asg (ev_var rfl) fun H9 x9 => ?_
          refine s_asgL (xs := nI (sepAt (max x y) (min x y) (allParts g.many))) (el_call (ea_cons (ev_var rfl) (ea_cons (ev_var rfl) (ea_cons (ev_var rfl) ea_nil))) (sl_Par (R.same (((x3.trans x37).trans x8).trans x9)) (by omega))) fun tk2 H10 ntk2 x10 htk2 => ?_
          have x79 := x8.trans x9
          have hor : (max x y = x ∧ min x y = y) ∨ (max x y = y ∧ min x y = x) := by omega
          exact ⟨max x y, min x y, tk2, hor, hhi, led_high hno, rfl, ((x3.trans x37).trans x79).trans x10, htk2, (fun z => by rw [z, x79 _ _ hrm7] at ntk2; cases ntk2), (fun z => by rw [z, x79 _ _ (x37 _ _ hL)] at ntk2; cases ntk2), x10 _ _ (x79 _ _ hrm7), x10 _ _ (x79 _ _ (x37 _ _ hL))⟩
        · have hyes : Gq06.canTurn g k (bump got (min x y)) l = true := Classical.byContradiction fun hno => by
            rw [any_sep.mpr ((ask_low hcan).mpr hno)] at c
            cases c
          exact ⟨min x y, max x y, tk, min_max x y, hyes, led_low hyes, rfl, (x3.trans x37).trans x8, x8 _ _ htk, tkr, tkL, x8 _ _ hrm7, x8 _ _ (x37 _ _ hL)⟩
      case go =>
        rintro _ H8 ⟨c, d, tk, hor, hcan2, hled2, rfl, x8, htk, tkr, tkL, hrm8, hL8⟩
        refine q_forLn (a := tk) (xs := nI (sepAt c d (allParts g.many))) (ev_var rfl) (sq_of htk) (fun t σ H' => Ex Hq H' ∧ H' tk = some (.lst (nI (sepAt c d (allParts g.many)))) ∧ H' L = some (.lst (nI dn)) ∧ ∃ (ns : List Int) (u : Option V), σ = [some (.ref a), some (.int (k : Nat)), some (.ref p), some (.ref rm), some (.ref L), some (.int (x : Nat)), some (.int (y : Nat)), some (.int ((min x y : Nat) : Int)), some (.int ((max x y : Nat) : Int)), some (.int (c : Nat)), some (.ref tk), u, none] ∧
            H' rm = some (.lst (iI ns)) ∧ ns.length = (allParts g.many).length ∧ ∀ j s, (allParts g.many)[j]? = some s → ns[j]? = some (roomOf k got ((x, y) :: l) s - if j ∈ (sepAt c d (allParts g.many)).take t then 1 else 0))
          (fun H9 x9 => ⟨x8.trans x9, x9 _ _ htk, x9 _ _ hL8, _, s11, rfl, x9 _ _ hrm8, List.length_map .., fun j s hs => ?_⟩) (fun t σ' H' _ z => sq_of z.2.1) ?_ ?_
        · rw [List.getElem?_map, hs]
          show some (roomOf k got ((x, y) :: l) s) = some (roomOf k got ((x, y) :: l) s - if j ∈ ([] : List Nat) then 1 else 0)
          rw [if_neg (by simp)]
          congr 1
          omega
        · rintro t z _ H9 hz ⟨x9, htk9, hL9, ns, u, rfl, hrm9, hnl, hns⟩
          obtain ⟨j, hj, rfl⟩ := nI_get hz
          obtain ⟨s, hs, _⟩ := mem_sepAt.mp (List.mem_of_getElem? hj)
          refine s_augL hrm9 (ev_var rfl) (ev_var rfl) (hns j s hs) ev_c fun H10 x10 => ?_
          have hjl : j < ns.length := by rw [hnl]; exact (List.getElem?_eq_some_iff.mp hs).1
          refine ⟨Ex.mut (x9.trans x10) nrm, by rw [upd_ne tkr]; exact x10 _ _ htk9, by rw [upd_ne hne]; exact x10 _ _ hL9, _, some (.int (j : Nat)), rfl, upd_same, by rw [List.length_set]; exact hnl, fun j2 s2 hs2 => ?_⟩
          rw [List.getElem?_set, take_more hj]
          by_cases c1 : j = j2
          · subst c1
            rw [hs] at hs2
            have e2 := Option.some.inj hs2
            subst e2
            rw [if_pos rfl, if_pos hjl, if_neg (not_before (sepAt_nodup c d _) hj), if_pos (by simp)]
            congr 1
            omega
          · rw [if_neg c1, hns j2 s2 hs2]
            have : (j2 ∈ (sepAt c d (allParts g.many)).take t ++ [j]) ↔ j2 ∈ (sepAt c d (allParts g.many)).take t := by
              rw [List.mem_append, List.mem_singleton]
              exact ⟨fun h => h.elim id (fun z => absurd z.symm c1), .inl⟩
            simp only [this]
        · rintro _ H9 ⟨x9, htk9, hL9, ns, u, rfl, hrm9, hnl, hns⟩
          rw [List.length_map] at hns
          rw [List.take_length] at hns
          have en := room_all hor hnl hns
          subst en
          refine s_app hL9 (ev_var rfl) (ev_var rfl) (by rw [List.length_map]; omega) fun H10 x10 => ?_
          refine ⟨Ex.mut (x9.trans x10) nL0, bump got c, dn ++ [c], _, _, _, _, _, _, _, rfl, by rw [upd_ne hne.symm]; exact x10 _ _ hrm9, by rw [upd_same, nI_append]; rfl, by rw [List.length_append, hdn]; rfl, hcan2, ?_⟩
          rw [List.append_assoc, ← hled, hled2]
          rfl
    · rintro _ H3 x3 ⟨_, got, dn, s5, s6, s7, s8, s9, s10, s11, rfl, hrm, hL, hdn, hcan, hled⟩
      rw [List.drop_length, led_nil, List.append_nil] at hled
      subst hled
      exact s_ret (ev_var rfl) fun H4 x4 => q L H4 (fresh_back xp nL0) ((xp.trans x3).trans x4) (x4 _ _ hL)
theorem sl_Turn {H : Hp} {a e : Addr} {g : Graph} (G : GAt C H a e g) (O : GOk g) : SpL (spTurn C) [.ref a, .int (Gq06.most g : Nat)] H (nI (led g (Gq06.most g) g.edges fun _ => 0)) := fun H1 x Q q E => ⟨a, e, g, rfl, G.same x, O, q⟩
/-! ### tell_turned -/
def spTTurn (C : Addr) : Sp := fun vs H Q _ => ∃ (a e : Addr) (g : Graph), vs = [.ref a] ∧ GAt C H a e g ∧ GOk g ∧ RetL (iI (Gq06.step g .turned).2) H Q
theorem scTTurn : FnScope ["graph", "most"] ["graph"] (defScope sTTurn) := ⟨rfl, rfl, rfl, by decide +kernel, rfl, by decide +kernel, by decide +kernel⟩
theorem led_len (g : Graph) (k : Nat) (l : List (Nat × Nat)) (got : Nat → Nat) : (led g k l got).length ≤ l.length := by
  unfold led
  rw [List.length_map, List.length_zip]
  omega
theorem can_TTurn (F : Fn K mg "tell_turned" sTTurn ["graph"]) (T : Txt K mg C) (cM : Can P w K mg base "fewest_at_most" 3 ["graph"] (spMost C)) (cT : Can P w K mg base "first_turned" 3 ["graph", "most"] (spTurn C)) : Can P w K mg base "tell_turned" 4 ["graph"] (spTTurn C) := by
  refine Can.mk F scTTurn (fun vs H Q E h => ?_) fun f cdv A outer s0 H vs Q E hr h => ?_
  · obtain ⟨a, e, g, rfl, _⟩ := h
    rfl
  · refine ⟨_, pss_cons (ps_set (i := 1) scTTurn.nd rfl (Or.inl rfl) (pe_can cM hr (pa_cons (pv 0) pa_nil)))
      (pss_one (ps_ret (pe_op op_cat (pe_lst (pa_cons (pv 1) pa_nil)) (pe_can cT hr (pa_cons (pv 0) (pa_cons (pv 1) pa_nil)))))), ?_⟩
    obtain ⟨a, e, g, rfl, G, O, q⟩ := h
    have h20 := O.edges
    have er : iI (Gq06.step g .turned).2 = [V.int ((Gq06.most g : Nat) : Int)] ++ nI (led g (Gq06.most g) g.edges fun _ => 0) := by
      show iI (Gq06.ints (Gq06.most g :: led g (Gq06.most g) g.edges fun _ => 0)) = _
      rw [← nI_ints]
      rfl
    rw [er] at q
    refine q_asg (ev_call (ea_cons (ev_var rfl) ea_nil) (sv_Most G O)) fun H1 x1 => ?_
    have hll := led_len g (Gq06.most g) g.edges fun _ => 0
    exact s_retL (el_catLL (el_lst (ea_cons (ev_var rfl) ea_nil) (by show 1 ≤ 100000; decide)) (el_call (ea_cons (ev_var rfl) (ea_cons (ev_var rfl) ea_nil)) (sl_Turn (G.same x1) O)) (by rw [List.length_map]; show 1 + _ ≤ 100000; omega)) fun p2 H2 n2 x2 h2 => q p2 H2 (fresh_back x1 n2) (x1.trans x2) h2
end
end Dp

set_option Elab.async false
set_option linter.all false
set_option maxRecDepth 100000
set_option maxHeartbeats 2000000
namespace Dp
open PySem PySem.Spec PyProof.Rows L2 Evl
open Gq06 (Graph Call)
/-- what a call's def hands back: the answer as a new list; the graph is the next one; all else is as it was -/
def Did (C : Addr) (H : Hp) (a e : Addr) (g : Graph) (c : Call) (Q : VK) : Prop := ∀ (H' : Hp) (p : Addr), H p = none → (∀ b o, H b = some o → b ≠ a → b ≠ e → H' b = some o) → GAt C H' a e (Gq06.step g c).1 → H' p = some (.lst (iI (Gq06.step g c).2)) → Q (.ref p) H'
/-- a call that leaves the graph -/
theorem Did.ret {C : Addr} {H : Hp} {a e : Addr} {g : Graph} {c : Call} {Q : VK} (h : Did C H a e g c Q) (G : GAt C H a e g) (hs : (Gq06.step g c).1 = g) : RetL (iI (Gq06.step g c).2) H Q := fun p H2 np x h2 =>
  h H2 p np (fun b o q _ _ => x b o q) (by rw [hs]; exact G.same x) h2
theorem put_here {f : Str} {v x : V} {r : List (Str × V)} : putF f v ((f, x) :: r) = (f, v) :: r := if_pos rfl
theorem GAt.ne {C : Addr} {H : Hp} {a e : Addr} {g : Graph} (G : GAt C H a e g) : a ≠ e := by
  obtain ⟨dx, h1⟩ := G.ob
  obtain ⟨ts, h2, _⟩ := G.ls
  exact ne_of h1 h2 (by intro z; cases z)
section
variable {P : Program} {w : World} {K : PySem.W.Frag} {mg : Str → Option Value} {base : Heap} {C : Addr}
/-! ### add_node -/
def spAddN (C : Addr) : Sp := fun vs H Q _ => ∃ (a e : Addr) (g : Graph), vs = [.ref a] ∧ GAt C H a e g ∧ GOk g ∧ Did C H a e g .node Q
theorem scAddN : FnScope ["graph"] ["graph"] (defScope sAddN) := ⟨rfl, rfl, rfl, by decide +kernel, rfl, by decide +kernel, by decide +kernel⟩
theorem can_AddN (F : Fn K mg "add_node" sAddN ["graph"]) (T : Txt K mg C) : Can P w K mg base "add_node" 1 ["graph"] (spAddN C) := by
  refine Can.mk F scAddN (fun vs H Q E h => ?_) fun f cdv A outer s0 H vs Q E hr h => ?_
  · obtain ⟨a, e, g, rfl, _⟩ := h
    rfl
  · refine ⟨_, pss_cons (ps_if (pt_cmpR op_eq (pe_fld (pv 0) rfl) (pe_con0 T.c10) (nomark _)) (pss_one (ps_ret (pe_lst (pa_cons (pe_con0 T.m5) pa_nil)))) pss_nil)
      (pss_cons (ps_fldaug (pv 0) pe_int in_add) (pss_one (ps_ret (pe_lst (pa_cons (pe_fld (pv 0) rfl) pa_nil))))), ?_⟩
    obtain ⟨a, e, g, rfl, G, O, q⟩ := h
    have h10 := O.nodes
    refine q_when (b := g.many == 10) (et_is (et_test (ev_op (ev_count (ev_var rfl) G T.cl T.nN) ev_c (rv_eq rfl))) (dec_int g.many 10)) (fun c H1 x1 => ?_) (fun c H1 x1 => ?_)
    · have c' : g.many = 10 := beq_iff_eq.mp c
      have es : Gq06.step g .node = (g, [-5]) := by
        show (if 10 ≤ g.many then (g, [-5]) else _) = _
        rw [if_pos (by omega)]
      have q' := q.ret G (by rw [es])
      rw [es] at q'
      exact s_retL (xs := iI [-5]) (el_lst (ea_cons ev_c ea_nil) (by show 1 ≤ 100000; decide)) fun p2 H2 n2 x2 h2 => q' p2 H2 (fresh_back x1 n2) (x1.trans x2) h2
    · have c' : g.many ≠ 10 := beq_eq_false_iff_ne.mp c
      have es : Gq06.step g .node = ({ g with many := g.many + 1 }, Gq06.ints [g.many + 1]) := by
        show (if 10 ≤ g.many then (g, [-5]) else _) = _
        rw [if_neg (by omega)]
      have G1 := G.same x1
      obtain ⟨dx, h1⟩ := G1.ob
      obtain ⟨ts, h2, h3, h4⟩ := G1.ls
      refine ⟨_, rfl, a, C, dx, _, _, rfl, h1, T.cl, T.nN, gF_n _ _, _, _, rfl, rfl, dx, _, h1, (by show 2 < 1000; decide), ?_⟩
      have ep : putF "node_count" (.int ((g.many : Int) + 1)) (gF g.many e) = gF (g.many + 1) e := put_here
      rw [ep]
      generalize hH : upd H1 a (.ins C dx (gF (g.many + 1) e)) = H2
      have ha : H2 a = some (.ins C dx (gF (g.many + 1) e)) := by rw [← hH]; exact upd_same
      have hne : ∀ b o, H1 b = some o → b ≠ a → H2 b = some o := fun b o hb n => by rw [← hH, upd_ne n]; exact hb
      have G2 : GAt C H2 a e { g with many := g.many + 1 } := ⟨⟨dx, ha⟩, ts, hne _ _ h2 G.ne.symm, h3, fun i t d hi hd => hne _ _ (h4 i t d hi hd) (ne_of (h4 i t d hi hd) h1 (by intro z; cases z))⟩
      refine s_retL (xs := iI (Gq06.ints [g.many + 1])) (el_lst (ea_cons (ev_count (ev_var rfl) G2 T.cl T.nN) ea_nil) (by show 1 ≤ 100000; decide)) fun p2 H3 n2 x3 h5 => ?_
      refine q H3 p2 ?_ (fun b o hb n1 _ => x3 _ _ (hne _ _ (x1 _ _ hb) n1)) (by rw [es]; exact G2.same x3) (by rw [es]; exact h5)
      refine fresh_back x1 ?_
      cases hz : H1 p2 with
      | none => rfl
      | some o =>
        by_cases n1 : p2 = a
        · rw [n1, ha] at n2; cases n2
        · rw [hne _ _ hz n1] at n2; cases n2
/-! ### add_edge -/
def spAddE (C : Addr) : Sp := fun vs H Q _ => ∃ (a e : Addr) (g : Graph) (x y : Nat), vs = [.ref a, .int (x : Nat), .int (y : Nat)] ∧ GAt C H a e g ∧ GOk g ∧ Did C H a e g (.edge x y) Q
theorem scAddE : FnScope ["graph", "x", "y"] ["graph", "x", "y"] (defScope sAddE) := ⟨rfl, rfl, rfl, by decide +kernel, rfl, by decide +kernel, by decide +kernel⟩
theorem ref_map_len (ts : List Addr) : (ts.map V.ref).length = ts.length := List.length_map ..
theorem can_AddE (F : Fn K mg "add_edge" sAddE ["graph", "x", "y"]) (T : Txt K mg C) (cN : Can P w K mg base "is_node" 1 ["graph", "x"] (spIsN C)) : Can P w K mg base "add_edge" 2 ["graph", "x", "y"] (spAddE C) := by
  refine Can.mk F scAddE (fun vs H Q E h => ?_) fun f cdv A outer s0 H vs Q E hr h => ?_
  · obtain ⟨a, e, g, x, y, rfl, _⟩ := h
    rfl
  · refine ⟨_, pss_cons (ps_if (pw_or (pt_not (pt_val (pe_can cN hr (pa_cons (pv 0) (pa_cons (pv 1) pa_nil))))) (pw_or (pt_not (pt_val (pe_can cN hr (pa_cons (pv 0) (pa_cons (pv 2) pa_nil))))) (pw_or1 (pt_cmpR op_eq (pv 1) (pv 2) (nomark _))))).pt
        (pss_one (ps_ret (pe_lst (pa_cons (pe_con0 T.m1) pa_nil)))) pss_nil)
      (pss_cons (ps_if (pt_cmpR op_eq (pe_callB call_len_seq (by rfl) T.len PySem.boot_len (pa_cons (pe_fld (pv 0) rfl) pa_nil)) (pe_con0 T.c20) (nomark _)) (pss_one (ps_ret (pe_lst (pa_cons (pe_con0 T.m5) pa_nil)))) pss_nil)
      (pss_cons (ps_expr (pe_bm PySem.F.plainAttrs_list PySem.F.slot_list_append PySem.F.type_list_append mt_append (pe_fld (pv 0) rfl) (pa_cons (pe_tup (pa_cons (pv 1) (pa_cons (pv 2) pa_nil))) pa_nil)))
      (pss_one (ps_ret (pe_lst (pa_cons (pe_op op_sub (pe_callB call_len_seq (by rfl) T.len PySem.boot_len (pa_cons (pe_fld (pv 0) rfl) pa_nil)) pe_int) pa_nil)))))), ?_⟩
    obtain ⟨a, e, g, x, y, rfl, G, O, q⟩ := h
    have h20 := O.edges
    refine q_when (b := !Gq06.isNode g x || (!Gq06.isNode g y || x == y)) (et_or (et_not (et_B (ev_call (ea_cons (ev_var rfl) (ea_cons (ev_var rfl) ea_nil)) (sv_IsN G)))) fun _ => et_or (et_not (et_B (ev_call (ea_cons (ev_var rfl) (ea_cons (ev_var rfl) ea_nil)) (sv_IsN G)))) fun _ => et_eqN (ev_var rfl) (ev_var rfl)) (fun c H1 x1 => ?_) (fun c H1 x1 => ?_)
    · have c' : Gq06.isNode g x = false ∨ Gq06.isNode g y = false ∨ x = y := by simpa using c
      have es : Gq06.step g (.edge x y) = (g, [-1]) := if_pos c'
      have q' := q.ret G (by rw [es])
      rw [es] at q'
      exact s_retL (xs := iI [-1]) (el_lst (ea_cons ev_c ea_nil) (by show 1 ≤ 100000; decide)) fun p2 H2 n2 x2 h2 => q' p2 H2 (fresh_back x1 n2) (x1.trans x2) h2
    · have c' : ¬ (Gq06.isNode g x = false ∨ Gq06.isNode g y = false ∨ x = y) := by
        intro h
        have : (!Gq06.isNode g x || (!Gq06.isNode g y || x == y)) = true := by simpa using h
        rw [c] at this
        cases this
      have G1 := G.same x1
      obtain ⟨dx, h1⟩ := G1.ob
      obtain ⟨ts, h2, h3, h4⟩ := G1.ls
      refine q_when (b := g.edges.length == 20) (et_is (et_test (ev_op (ev_len (ev_ends (ev_var rfl) G1 T.cl T.nE) (sq_of h2)) ev_c (rv_eq rfl))) (by rw [ref_map_len, h3]; exact dec_int _ 20)) (fun d H2 x2 => ?_) (fun d H2 x2 => ?_)
      · have d' : g.edges.length = 20 := beq_iff_eq.mp d
        have es : Gq06.step g (.edge x y) = (g, [-5]) := by
          show (if Gq06.isNode g x = false ∨ Gq06.isNode g y = false ∨ x = y then (g, [-1]) else if 20 ≤ g.edges.length then (g, [-5]) else _) = _
          rw [if_neg c', if_pos (by omega)]
        have q' := q.ret G (by rw [es])
        rw [es] at q'
        exact s_retL (xs := iI [-5]) (el_lst (ea_cons ev_c ea_nil) (by show 1 ≤ 100000; decide)) fun p2 H3 n2 x3 h5 => q' p2 H3 (fresh_back (x1.trans x2) n2) ((x1.trans x2).trans x3) h5
      · have d' : g.edges.length ≠ 20 := beq_eq_false_iff_ne.mp d
        have es : Gq06.step g (.edge x y) = ({ g with edges := g.edges ++ [(x, y)] }, Gq06.ints [g.edges.length]) := by
          show (if Gq06.isNode g x = false ∨ Gq06.isNode g y = false ∨ x = y then (g, [-1]) else if 20 ≤ g.edges.length then (g, [-5]) else _) = _
          rw [if_neg c', if_neg (by omega)]
        have h1 := x2 _ _ h1
        have h2 := x2 _ _ h2
        refine ⟨_, rfl, a, C, dx, _, _, rfl, h1, T.cl, T.nE, gF_e _ _, .inl ⟨rfl, _, SqL.of h2⟩, _, rfl, _, rfl, (by show 2 ≤ sizeLine; decide), fun t nt => ?_⟩
        have x3 := Ex.new (o := .tup [V.int (x : Int), V.int (y : Int)]) nt
        refine ⟨e, _, _, rfl, rfl, x3 _ _ h2, sz_lt (by rw [ref_map_len, h3]; omega), ?_⟩
        have x13 := x2.trans x3
        generalize hH3 : upd H2 t (.tup [V.int (x : Int), V.int (y : Int)]) = H3 at x3 x13
        have ht : H3 t = some (.tup [V.int (x : Int), V.int (y : Int)]) := by rw [← hH3]; exact upd_same
        generalize hH : upd H3 e (.lst (ts.map V.ref ++ [V.ref t])) = H4
        have he : H4 e = some (.lst ((ts ++ [t]).map V.ref)) := by rw [← hH, upd_same, List.map_append]; rfl
        have hne : ∀ b o, H3 b = some o → b ≠ e → H4 b = some o := fun b o hb n => by rw [← hH, upd_ne n]; exact hb
        have G4 : GAt C H4 a e { g with edges := g.edges ++ [(x, y)] } := by
          refine ⟨⟨dx, hne _ _ (x3 _ _ h1) G.ne⟩, ts ++ [t], he, by show (ts ++ [t]).length = (g.edges ++ [(x, y)]).length; rw [List.length_append, List.length_append, h3]; rfl, fun i t' d' hi hd => ?_⟩
          have hd : (g.edges ++ [(x, y)])[i]? = some d' := hd
          by_cases hil : i < ts.length
          · rw [List.getElem?_append_left hil] at hi
            rw [List.getElem?_append_left (by omega)] at hd
            have h5 := x13 _ _ (h4 i t' d' hi hd)
            exact hne _ _ h5 (ne_of h5 (x3 _ _ h2) (by intro z; cases z))
          · have hi2 : i = ts.length := by
              have h6 := (List.getElem?_eq_some_iff.mp hi).1
              rw [List.length_append] at h6
              have : ([t] : List Addr).length = 1 := rfl
              omega
            rw [List.getElem?_append_right (by omega), hi2, Nat.sub_self] at hi
            rw [List.getElem?_append_right (by omega), hi2, h3, Nat.sub_self] at hd
            have e1 : t = t' := Option.some.inj hi
            have e2 : (x, y) = d' := Option.some.inj hd
            subst e1 e2
            exact hne _ _ ht (ne_of ht (x3 _ _ h2) (by intro z; cases z))
        have er : V.int ((((ts ++ [t]).map V.ref).length : Nat) : Int) = V.int (((g.edges.length + 1 : Nat)) : Int) := by
          rw [ref_map_len, List.length_append, h3]
          rfl
        refine s_retL (xs := iI (Gq06.ints [g.edges.length])) (el_lst (ea_cons (ev_is (ev_op (ev_is (ev_len (ev_ends (ev_var rfl) G4 T.cl T.nE) (sq_of he)) er) ev_c rv_I0) (by show V.int (((g.edges.length + 1 : Nat) : Int) - 1) = V.int ((g.edges.length : Nat) : Int); congr 1; omega)) ea_nil) (by show 1 ≤ 100000; decide)) fun p2 H5 n2 x5 h5 => ?_
        refine q H5 p2 ?_ (fun b o hb _ n1 => x5 _ _ (hne _ _ (x13 _ _ (x1 _ _ hb)) n1)) (by rw [es]; exact G4.same x5) (by rw [es]; exact h5)
        refine fresh_back (x1.trans x13) ?_
        cases hz : H3 p2 with
        | none => rfl
        | some o =>
          by_cases n1 : p2 = e
          · rw [n1, he] at n2; cases n2
          · rw [hne _ _ hz n1] at n2; cases n2
/-! ### cut_edge -/
def spCut (C : Addr) : Sp := fun vs H Q _ => ∃ (a e : Addr) (g : Graph) (n : Nat), vs = [.ref a, .int (n : Nat)] ∧ GAt C H a e g ∧ GOk g ∧ Did C H a e g (.cut n) Q
theorem scCut : FnScope ["graph", "n"] ["graph", "n"] (defScope sCut) := ⟨rfl, rfl, rfl, by decide +kernel, rfl, by decide +kernel, by decide +kernel⟩
theorem can_Cut (F : Fn K mg "cut_edge" sCut ["graph", "n"]) (T : Txt K mg C) : Can P w K mg base "cut_edge" 1 ["graph", "n"] (spCut C) := by
  refine Can.mk F scCut (fun vs H Q E h => ?_) fun f cdv A outer s0 H vs Q E hr h => ?_
  · obtain ⟨a, e, g, n, rfl, _⟩ := h
    rfl
  · refine ⟨_, pss_cons (ps_if (pt_cmpR op_ge (pv 1) (pe_callB call_len_seq (by rfl) T.len PySem.boot_len (pa_cons (pe_fld (pv 0) rfl) pa_nil)) (nomark _)) (pss_one (ps_ret (pe_lst (pa_cons (pe_con0 T.m2) pa_nil)))) pss_nil)
      (pss_cons (ps_expr (pe_bm PySem.F.plainAttrs_list PySem.F.slot_list_pop PySem.F.type_list_pop mt_popAt (pe_fld (pv 0) rfl) (pa_cons (pv 1) pa_nil)))
      (pss_one (ps_ret (pe_lst (pa_cons (pe_callB call_len_seq (by rfl) T.len PySem.boot_len (pa_cons (pe_fld (pv 0) rfl) pa_nil)) pa_nil))))), ?_⟩
    obtain ⟨a, e, g, n, rfl, G, O, q⟩ := h
    have h20 := O.edges
    obtain ⟨dx, h1⟩ := G.ob
    obtain ⟨ts, h2, h3, h4⟩ := G.ls
    refine q_when (b := decide (g.edges.length ≤ n)) (et_is (et_test (ev_op (ev_var rfl) (ev_len (ev_ends (ev_var rfl) G T.cl T.nE) (sq_of h2)) rv_I0)) (by rw [ref_map_len, h3]; exact dec_le _ _)) (fun c H1 x1 => ?_) (fun c H1 x1 => ?_)
    · have c' := of_decide_eq_true c
      have es : Gq06.step g (.cut n) = (g, [-2]) := if_pos c'
      have q' := q.ret G (by rw [es])
      rw [es] at q'
      exact s_retL (xs := iI [-2]) (el_lst (ea_cons ev_c ea_nil) (by show 1 ≤ 100000; decide)) fun p2 H2 n2 x2 h2 => q' p2 H2 (fresh_back x1 n2) (x1.trans x2) h2
    · have c' := of_decide_eq_false c
      have hn : n < ts.length := by omega
      have es : Gq06.step g (.cut n) = ({ g with edges := g.edges.eraseIdx n }, Gq06.ints [g.edges.length - 1]) := by
        show (if g.edges.length ≤ n then (g, [-2]) else ({ g with edges := g.edges.take n ++ g.edges.drop (n + 1) }, Gq06.ints [g.edges.length - 1])) = _
        rw [if_neg c', List.eraseIdx_eq_take_drop_succ]
      have h1 := x1 _ _ h1
      have h2 := x1 _ _ h2
      have hk : seqIndex? (n : Int) (ts.map V.ref).length = some n := by
        have := seqIndex_of (k := (n : Int)) (n := (ts.map V.ref).length) (by omega) (by rw [ref_map_len]; omega)
        exact this
      refine ⟨_, rfl, a, C, dx, _, _, rfl, h1, T.cl, T.nE, gF_e _ _, .inl ⟨rfl, _, SqL.of h2⟩, _, rfl, e, _, _, n, V.ref ts[n], rfl, rfl, h2, by omega, by omega, hk, by rw [List.getElem?_map, List.getElem?_eq_getElem hn]; rfl, ?_⟩
      generalize hH : upd H1 e (.lst ((ts.map V.ref).eraseIdx n)) = H4
      have he : H4 e = some (.lst ((ts.eraseIdx n).map V.ref)) := by
        rw [← hH, upd_same]
        rw [List.eraseIdx_eq_take_drop_succ, List.eraseIdx_eq_take_drop_succ, List.map_append, List.map_take, List.map_drop]
      have hne : ∀ b o, H1 b = some o → b ≠ e → H4 b = some o := fun b o hb n => by rw [← hH, upd_ne n]; exact hb
      have hel : (ts.eraseIdx n).length = (g.edges.eraseIdx n).length := by
        rw [List.length_eraseIdx_of_lt hn, List.length_eraseIdx_of_lt (by omega), h3]
      have G4 : GAt C H4 a e { g with edges := g.edges.eraseIdx n } := by
        refine ⟨⟨dx, hne _ _ h1 G.ne⟩, ts.eraseIdx n, he, hel, fun i t' d' hi hd => ?_⟩
        have hd : (g.edges.eraseIdx n)[i]? = some d' := hd
        rw [List.getElem?_eraseIdx] at hi hd
        have h5 : H1 t' = some (.tup [.int ((d'.1 : Nat) : Int), .int ((d'.2 : Nat) : Int)]) := by
          by_cases hin : i < n
          · rw [if_pos hin] at hi hd
            exact x1 _ _ (h4 _ _ _ hi hd)
          · rw [if_neg hin] at hi hd
            exact x1 _ _ (h4 _ _ _ hi hd)
        exact hne _ _ h5 (ne_of h5 h2 (by intro z; cases z))
      have er : V.int ((((ts.eraseIdx n).map V.ref).length : Nat) : Int) = V.int ((g.edges.length - 1 : Nat) : Int) := by
        rw [ref_map_len, List.length_eraseIdx_of_lt hn, h3]
      refine s_retL (xs := iI (Gq06.ints [g.edges.length - 1])) (el_lst (ea_cons (ev_is (ev_len (ev_ends (ev_var rfl) G4 T.cl T.nE) (sq_of he)) er) ea_nil) (by show 1 ≤ 100000; decide)) fun p2 H5 n2 x5 h5 => ?_
      refine q H5 p2 ?_ (fun b o hb _ n1 => x5 _ _ (hne _ _ (x1 _ _ hb) n1)) (by rw [es]; exact G4.same x5) (by rw [es]; exact h5)
      refine fresh_back x1 ?_
      cases hz : H1 p2 with
      | none => rfl
      | some o =>
        by_cases n1 : p2 = e
        · rw [n1, he] at n2; cases n2
        · rw [hne _ _ hz n1] at n2; cases n2
end
end Dp

set_option Elab.async false
set_option linter.all false
set_option maxRecDepth 100000
set_option maxHeartbeats 2000000
namespace Dp
open PySem PySem.Spec PyProof.Rows L2 Evl
open Gq06 (Graph Call)
theorem GOk.init : GOk Gq06.init := ⟨by decide, by decide, fun d hd => by cases hd⟩
theorem GOk.step {g : Graph} (O : GOk g) (c : Call) : GOk (Gq06.step g c).1 := by
  cases c with
  | node =>
    show GOk (if 10 ≤ g.many then (g, [-5]) else ({ g with many := g.many + 1 }, Gq06.ints [g.many + 1])).1
    split
    · exact O
    · exact ⟨by show g.many + 1 ≤ 10; omega, O.edges, fun d hd => by
        obtain ⟨⟨h1, h2⟩, ⟨h3, h4⟩, h5⟩ := O.ends d hd
        exact ⟨⟨h1, by show d.1 ≤ g.many + 1; omega⟩, ⟨h3, by show d.2 ≤ g.many + 1; omega⟩, h5⟩⟩
  | edge x y =>
    show GOk (if Gq06.isNode g x = false ∨ Gq06.isNode g y = false ∨ x = y then (g, [-1]) else if 20 ≤ g.edges.length then (g, [-5]) else ({ g with edges := g.edges ++ [(x, y)] }, Gq06.ints [g.edges.length])).1
    split
    · exact O
    · rename_i c
      split
      · exact O
      · refine ⟨O.nodes, by show (g.edges ++ [(x, y)]).length ≤ 20; rw [List.length_append]; show g.edges.length + 1 ≤ 20; omega, fun d hd => ?_⟩
        have hd : d ∈ g.edges ++ [(x, y)] := hd
        rcases List.mem_append.mp hd with hd | hd
        · exact O.ends d hd
        · rw [List.mem_singleton.mp hd]
          simp only [not_or, Bool.not_eq_false] at c
          obtain ⟨c1, c2, c3⟩ := c
          unfold Gq06.isNode at c1 c2
          simp only [Bool.and_eq_true, decide_eq_true_eq] at c1 c2
          exact ⟨c1, c2, c3⟩
  | cut n =>
    show GOk (if g.edges.length ≤ n then (g, [-2]) else ({ g with edges := g.edges.take n ++ g.edges.drop (n + 1) }, Gq06.ints [g.edges.length - 1])).1
    split
    · exact O
    · refine ⟨O.nodes, ?_, fun d hd => ?_⟩
      · show (g.edges.take n ++ g.edges.drop (n + 1)).length ≤ 20
        have := O.edges
        rw [List.length_append, List.length_take, List.length_drop]
        omega
      · have hd : d ∈ g.edges.take n ++ g.edges.drop (n + 1) := hd
        rcases List.mem_append.mp hd with hd | hd
        · exact O.ends d (List.mem_of_mem_take hd)
        · exact O.ends d (List.mem_of_mem_drop hd)
  | _ => exact O
theorem Did.ext {C : Addr} {H H1 : Hp} {a e : Addr} {g : Graph} {c : Call} {Q : VK} (h : Did C H a e g c Q) (x : Ex H H1) : Did C H1 a e g c Q := fun H' p np fr G r =>
  h H' p (fresh_back x np) (fun b o hb => fr b o (x b o hb)) G r
section
variable {P : Program} {w : World} {K : PySem.W.Frag} {mg : Str → Option Value} {base : Heap} {C : Addr}
theorem et_eqI {σ : L2.St} {H : Hp} {ta tb : TE} {x y : Int} (ha : Ev ta σ H (.int x)) (hb : Ev tb σ H (.int y)) : EvT (tTest (tOp rEq ta tb)) σ H (decide (x = y)) :=
  et_is (et_test (ev_op ha hb (rv_eq rfl))) (by
    by_cases h : x = y
    · subst h; simp
    · have h2 : ¬ V.int x = V.int y := fun e => by
        injection e with e
        exact h e
      rw [decide_eq_false h2, decide_eq_false h])
theorem s_retCall {σ : L2.St} {H : Hp} {D : Ends} {ta : TA} {vs : List V} {sp : Sp} (h : EvA ta σ H vs) (k : ∀ H1, Ex H H1 → sp (vs ++ []) H1 D.rt E0) : tRet (tCall sp [] E0 ta) D σ H := h H (Ex.refl H) _ k
/-! ### call_length -/
def spLen (K : PySem.W.Frag) : Sp := fun vs H Q _ => ∃ (q : Addr) (i : Nat) (l u t : List Int) (c : Call), vs = [.ref q, .int (i : Nat)] ∧ SqL K H q (iI l) ∧ l.drop i = u ++ t ∧ IsCall u c ∧ RetV (.int (u.length : Nat)) H Q
theorem scLen : FnScope ["calls", "place", "number"] ["calls", "place"] (defScope sLen) := ⟨rfl, rfl, rfl, by decide +kernel, rfl, by decide +kernel, by decide +kernel⟩
theorem drop_get {l u t : List Int} {i j : Nat} {n : Int} (h : l.drop i = u ++ t) (hn : u[j]? = some n) : l[i + j]? = some n := by
  have h1 : (l.drop i)[j]? = some n := by
    rw [h, List.getElem?_append_left (List.getElem?_eq_some_iff.mp hn).1]
    exact hn
  rwa [List.getElem?_drop] at h1
theorem can_Len (F : Fn K mg "call_length" sLen ["calls", "place"]) (T : Txt K mg C) : Can P w K mg base "call_length" 1 ["calls", "place"] (spLen K) := by
  refine Can.mk F scLen (fun vs H Q E h => ?_) fun f cdv A outer s0 H vs Q E hr h => ?_
  · obtain ⟨q, i, l, u, t, c, rfl, _⟩ := h
    rfl
  · refine ⟨_, pss_cons (ps_set (i := 2) scLen.nd rfl (Or.inl rfl) (pe_ix ix_list (pv 0) (pv 1) (fun _ _ => rfl)))
      (pss_cons (ps_if (pt_cmpR op_in_seq (pv 2) (pe_tup (pa_cons (pe_con0 T.c0) (pa_cons (pe_con0 T.c3) (pa_cons (pe_con0 T.c6) (pa_cons (pe_con0 T.c7) (pa_cons (pe_con0 T.c8) (pa_cons (pe_con0 T.c9) (pa_cons (pe_con0 T.ce) pa_nil)))))))) rfl) (pss_one (ps_ret pe_int)) pss_nil)
      (pss_cons (ps_if (pt_cmpR op_in_seq (pv 2) (pe_tup (pa_cons (pe_con0 T.c2) (pa_cons (pe_con0 T.c5) (pa_cons (pe_con0 T.ct) pa_nil)))) rfl) (pss_one (ps_ret pe_int)) pss_nil)
      (pss_cons (ps_if (pt_cmpR op_eq (pv 2) (pe_con0 T.c1) (nomark _)) (pss_one (ps_ret pe_int)) pss_nil)
      (pss_cons (ps_if (pt_cmpR op_eq (pv 2) (pe_con0 T.c4) (nomark _)) (pss_one (ps_ret (pe_op op_add pe_int (pe_ix ix_list (pv 0) (pe_op op_add (pv 1) pe_int) (fun _ _ => rfl))))) pss_nil)
      (pss_one ps_never))))), ?_⟩
    obtain ⟨q, i, l, u, t, c, rfl, S, hd, hc, k⟩ := h
    obtain ⟨n, r, rfl⟩ : ∃ n r, u = n :: r := by cases hc <;> exact ⟨_, _, rfl⟩
    have hn := iI_at (drop_get (j := 0) hd rfl)
    refine q_asg (v := .int n) (ev_op (ev_var rfl) (ev_var rfl) (rv_ixL S hn)) fun H1 x1 => ?_
    refine q_when (et_test (ev_inU (ev_var rfl) (eu_tup (ea_cons ev_c (ea_cons ev_c (ea_cons ev_c (ea_cons ev_c (ea_cons ev_c (ea_cons ev_c (ea_cons ev_c ea_nil))))))) (by show 7 ≤ 100000; decide)) rfl rfl)) (fun b H2 x2 => ?_) fun b H2 x2 => ?_
    · refine s_ret ev_c fun H3 x3 => ?_
      have e1 : (n :: r).length = 1 := by
        cases hc <;> first | rfl | (exfalso; revert b; decide)
      rw [e1] at k
      exact k _ ((x1.trans x2).trans x3)
    refine q_when (et_test (ev_inU (ev_var rfl) (eu_tup (ea_cons ev_c (ea_cons ev_c (ea_cons ev_c ea_nil))) (by show 3 ≤ 100000; decide)) rfl rfl)) (fun b H3 x3 => ?_) fun b3 H3 x3 => ?_
    · refine s_ret ev_c fun H4 x4 => ?_
      have e1 : (n :: r).length = 2 := by
        cases hc <;> first | rfl | (exfalso; revert b; decide)
      rw [e1] at k
      exact k _ (((x1.trans x2).trans x3).trans x4)
    refine q_when (et_eqI (ev_var rfl) ev_c) (fun b H4 x4 => ?_) fun b4 H4 x4 => ?_
    · refine s_ret ev_c fun H5 x5 => ?_
      have e1 : (n :: r).length = 3 := by
        simp only [decide_eq_true_eq] at b
        cases hc <;> first | rfl | (exfalso; revert b; decide)
      rw [e1] at k
      exact k _ ((((x1.trans x2).trans x3).trans x4).trans x5)
    refine q_when (et_eqI (ev_var rfl) ev_c) (fun b H5 x5 => ?_) fun b5 H5 x5 => ?_
    · have e1 : ∃ m r', r = m :: r' ∧ ((n :: r).length : Int) = 2 + m := by
        simp only [decide_eq_true_eq] at b
        cases hc <;> first | (exfalso; revert b; decide) | skip
        refine ⟨_, _, rfl, ?_⟩
        simp only [List.length_cons, List.length_map]
        omega
      obtain ⟨m, r', rfl, em⟩ := e1
      have hm := iI_at (drop_get (j := 1) hd rfl)
      have x05 := (((x1.trans x2).trans x3).trans x4).trans x5
      refine s_ret (ev_op ev_c (ev_op (ev_var rfl) (ev_op (ev_var rfl) ev_c rv_I0) (rv_ixL (ex_l x05 S) hm)) rv_I0) fun H6 x6 => ?_
      rw [em] at k
      exact k _ (x05.trans x6)
    · simp only [decide_eq_false_iff_not] at b4 b5
      exfalso
      cases hc <;> first | exact b4 rfl | exact b5 rfl | (revert b; decide) | (revert b3; decide)
theorem sv_Len {H : Hp} {q : Addr} {i : Nat} {l u t : List Int} {c : Call} (S : SqL K H q (iI l)) (hd : l.drop i = u ++ t) (hc : IsCall u c) : SpV (spLen K) [.ref q, .int (i : Nat)] H (.int (u.length : Nat)) := fun H1 x Q k E => ⟨q, i, l, u, t, c, rfl, ex_l x S, hd, hc, k⟩
/-! ### answer -/
def spAns (C : Addr) (K : PySem.W.Frag) : Sp := fun vs H Q _ => ∃ (a e q : Addr) (g : Graph) (u : List Int) (c : Call), vs = [.ref a, .ref q] ∧ GAt C H a e g ∧ GOk g ∧ SqL K H q (iI u) ∧ IsCall u c ∧ Did C H a e g c Q
theorem scAns : FnScope ["graph", "call", "number"] ["graph", "call"] (defScope sAnswer) := ⟨rfl, rfl, rfl, by decide +kernel, rfl, by decide +kernel, by decide +kernel⟩
theorem cut2 (a b : V) (l : List V) : cutV (a :: b :: l) (some 2) none = l := by
  unfold cutV
  rw [HT.sIx_none, show (some (2 : Int)) = some ((2 : Nat) : Int) from rfl, HT.sIx_nat]
  simp only [List.length_cons]
  rw [show min 2 (l.length + 1 + 1) = 2 by omega, show l.length + 1 + 1 - 2 = l.length by omega]
  simp
theorem can_Ans (F : Fn K mg "answer" sAnswer ["graph", "call"]) (T : Txt K mg C) (c0 : Can P w K mg base "add_node" 1 ["graph"] (spAddN C)) (c1 : Can P w K mg base "add_edge" 2 ["graph", "x", "y"] (spAddE C)) (c2 : Can P w K mg base "cut_edge" 1 ["graph", "n"] (spCut C)) (c3 : Can P w K mg base "tell_densest" 4 ["graph"] (spTDst C)) (c4 : Can P w K mg base "tell_density" 3 ["graph", "nodes"] (spTDty C K)) (c5 : Can P w K mg base "core_members" 3 ["graph", "k"] (spCore C)) (cC : Can P w K mg base "counted" 1 ["members"] spCnt) (c6 : Can P w K mg base "node_cores" 4 ["graph"] (spCores C)) (c7 : Can P w K mg base "tell_peel" 3 ["graph"] (spTPeel C)) (c8 : Can P w K mg base "tell_turned" 4 ["graph"] (spTTurn C)) (c9 : Can P w K mg base "fewest_forests" 4 ["graph"] (spFor C)) (ct : Can P w K mg base "tell_tight" 5 ["graph", "k"] (spTTight C)) (ce : Can P w K mg base "tell_edges" 1 ["graph"] (spTEdges C)) : Can P w K mg base "answer" 6 ["graph", "call"] (spAns C K) := by
  refine Can.mk F scAns (fun vs H Q E h => ?_) fun f cdv A outer s0 H vs Q E hr h => ?_
  · obtain ⟨a, e, q, g, u, c, rfl, _⟩ := h
    rfl
  · refine ⟨_, pss_cons (ps_set (i := 2) scAns.nd rfl (Or.inl rfl) (pe_ix ix_list (pv 1) pe_int (fun _ _ => rfl)))
      (pss_cons (ps_if (pt_cmpR op_eq (pv 2) (pe_con0 T.c0) (nomark _)) (pss_one (ps_ret (pe_can c0 (hr.mono (by decide)) (pa_cons (pv 0) pa_nil)))) pss_nil)
      (pss_cons (ps_if (pt_cmpR op_eq (pv 2) (pe_con0 T.c1) (nomark _)) (pss_one (ps_ret (pe_can c1 (hr.mono (by decide)) (pa_cons (pv 0) (pa_cons (pe_ix ix_list (pv 1) pe_int (fun _ _ => rfl)) (pa_cons (pe_ix ix_list (pv 1) pe_int (fun _ _ => rfl)) pa_nil)))))) pss_nil)
      (pss_cons (ps_if (pt_cmpR op_eq (pv 2) (pe_con0 T.c2) (nomark _)) (pss_one (ps_ret (pe_can c2 (hr.mono (by decide)) (pa_cons (pv 0) (pa_cons (pe_ix ix_list (pv 1) pe_int (fun _ _ => rfl)) pa_nil))))) pss_nil)
      (pss_cons (ps_if (pt_cmpR op_eq (pv 2) (pe_con0 T.c3) (nomark _)) (pss_one (ps_ret (pe_can c3 (hr.mono (by decide)) (pa_cons (pv 0) pa_nil)))) pss_nil)
      (pss_cons (ps_if (pt_cmpR op_eq (pv 2) (pe_con0 T.c4) (nomark _)) (pss_one (ps_ret (pe_can c4 (hr.mono (by decide)) (pa_cons (pv 0) (pa_cons (pe_slice sl_list (pv 1) (po_some pe_int) po_none) pa_nil))))) pss_nil)
      (pss_cons (ps_if (pt_cmpR op_eq (pv 2) (pe_con0 T.c5) (nomark _)) (pss_one (ps_ret (pe_can cC (hr.mono (by decide)) (pa_cons (pe_can c5 (hr.mono (by decide)) (pa_cons (pv 0) (pa_cons (pe_ix ix_list (pv 1) pe_int (fun _ _ => rfl)) pa_nil))) pa_nil)))) pss_nil)
      (pss_cons (ps_if (pt_cmpR op_eq (pv 2) (pe_con0 T.c6) (nomark _)) (pss_one (ps_ret (pe_can c6 (hr.mono (by decide)) (pa_cons (pv 0) pa_nil)))) pss_nil)
      (pss_cons (ps_if (pt_cmpR op_eq (pv 2) (pe_con0 T.c7) (nomark _)) (pss_one (ps_ret (pe_can c7 (hr.mono (by decide)) (pa_cons (pv 0) pa_nil)))) pss_nil)
      (pss_cons (ps_if (pt_cmpR op_eq (pv 2) (pe_con0 T.c8) (nomark _)) (pss_one (ps_ret (pe_can c8 (hr.mono (by decide)) (pa_cons (pv 0) pa_nil)))) pss_nil)
      (pss_cons (ps_if (pt_cmpR op_eq (pv 2) (pe_con0 T.c9) (nomark _)) (pss_one (ps_ret (pe_lst (pa_cons (pe_can c9 (hr.mono (by decide)) (pa_cons (pv 0) pa_nil)) pa_nil)))) pss_nil)
      (pss_cons (ps_if (pt_cmpR op_eq (pv 2) (pe_con0 T.ct) (nomark _)) (pss_one (ps_ret (pe_can ct hr (pa_cons (pv 0) (pa_cons (pe_ix ix_list (pv 1) pe_int (fun _ _ => rfl)) pa_nil))))) pss_nil)
      (pss_one (ps_ret (pe_can ce (hr.mono (by decide)) (pa_cons (pv 0) pa_nil))))))))))))))), ?_⟩
    obtain ⟨a, e, q, g, u, c, rfl, G, O, S, hc, k⟩ := h
    obtain ⟨n, r, rfl⟩ : ∃ n r, u = n :: r := by cases hc <;> exact ⟨_, _, rfl⟩
    have at_ : ∀ (j : Nat) (z : Int), (n :: r)[j]? = some z → atI (iI (n :: r)) (j : Int) = some (.int z) := fun j z h => iI_at h
    refine q_asg (v := .int n) (ev_op (ev_var rfl) ev_c (rv_ixL S (at_ 0 n rfl))) fun H1 x1 => ?_
    refine q_when (et_eqI (ev_var rfl) ev_c) (fun b H2 x2 => ?_) fun b0 H20 y0' => ?_
    · have b := of_decide_eq_true b
      have x0 := x1.trans x2
      cases hc <;> first | (exfalso; revert b; decide) | skip
      refine s_retCall (ea_cons (ev_var rfl) ea_nil) fun H9 x9 => ⟨a, e, g, rfl, G.same (x0.trans x9), O, k.ext (x0.trans x9)⟩
    have y0 := x1.trans y0'
    refine q_when (et_eqI (ev_var rfl) ev_c) (fun b H2 x2 => ?_) fun b1 H21 y1' => ?_
    · have b := of_decide_eq_true b
      have x0 := y0.trans x2
      cases hc <;> first | (exfalso; revert b; decide) | skip
      refine s_retCall (ea_cons (ev_var rfl) (ea_cons (ev_op (ev_var rfl) ev_c (rv_ixL (ex_l x0 S) (at_ 1 _ rfl))) (ea_cons (ev_op (ev_var rfl) ev_c (rv_ixL (ex_l x0 S) (at_ 2 _ rfl))) ea_nil))) fun H9 x9 => ⟨a, e, g, _, _, rfl, G.same (x0.trans x9), O, k.ext (x0.trans x9)⟩
    have y1 := y0.trans y1'
    refine q_when (et_eqI (ev_var rfl) ev_c) (fun b H2 x2 => ?_) fun b2 H22 y2' => ?_
    · have b := of_decide_eq_true b
      have x0 := y1.trans x2
      cases hc <;> first | (exfalso; revert b; decide) | skip
      refine s_retCall (ea_cons (ev_var rfl) (ea_cons (ev_op (ev_var rfl) ev_c (rv_ixL (ex_l x0 S) (at_ 1 _ rfl))) ea_nil)) fun H9 x9 => ⟨a, e, g, _, rfl, G.same (x0.trans x9), O, k.ext (x0.trans x9)⟩
    have y2 := y1.trans y2'
    refine q_when (et_eqI (ev_var rfl) ev_c) (fun b H2 x2 => ?_) fun b3 H23 y3' => ?_
    · have b := of_decide_eq_true b
      have x0 := y2.trans x2
      cases hc <;> first | (exfalso; revert b; decide) | skip
      refine s_retCall (ea_cons (ev_var rfl) ea_nil) fun H9 x9 => ⟨a, e, g, rfl, G.same (x0.trans x9), O, (k.ext (x0.trans x9)).ret (G.same (x0.trans x9)) rfl⟩
    have y3 := y2.trans y3'
    refine q_when (et_eqI (ev_var rfl) ev_c) (fun b H2 x2 => ?_) fun b4 H24 y4' => ?_
    · have b := of_decide_eq_true b
      have x0 := y3.trans x2
      cases hc <;> first | (exfalso; revert b; decide) | skip
      rename_i l hl hb _
      refine ⟨_, rfl, _, rfl, _, rfl, q, _, rfl, ex_l x0 S, fun p np => ?_⟩
      have x7 := Ex.new (o := .lst (cutV (iI (4 :: (l.length : Int) :: l.map Int.ofNat)) (some 2) none)) np
      have ec : cutV (iI (4 :: (l.length : Int) :: l.map Int.ofNat)) (some 2) none = nI l := by
        refine (cut2 _ _ _).trans ?_
        rw [List.map_map]
        rfl
      refine ⟨a, e, p, g, l, rfl, G.same (x0.trans x7), sq_of (by rw [upd_same, ec]), hl, (k.ext (x0.trans x7)).ret (G.same (x0.trans x7)) rfl⟩
    have y4 := y3.trans y4'
    refine q_when (et_eqI (ev_var rfl) ev_c) (fun b H2 x2 => ?_) fun b5 H25 y5' => ?_
    · have b := of_decide_eq_true b
      have x0 := y4.trans x2
      cases hc <;> first | (exfalso; revert b; decide) | skip
      rename_i kk hkk _
      have er : iI (Gq06.step g (.core kk)).2 = nI ((Gq06.core g kk).length :: Gq06.core g kk) := by
        rw [nI_ints]
        rfl
      have k5 := (k.ext x0).ret (G.same x0) rfl
      rw [er] at k5
      exact s_retL (el_callL (el_call (ea_cons (ev_var rfl) (ea_cons (ev_op (ev_var rfl) ev_c (rv_ixL (ex_l x0 S) (at_ 1 _ rfl))) ea_nil)) (sl_Core (k := kk) (G.same x0) O)) fun p H9 x9 h9 => sl_Cnt h9 (Nat.le_trans (core_len O kk) (by decide))) k5
    have y5 := y4.trans y5'
    refine q_when (et_eqI (ev_var rfl) ev_c) (fun b H2 x2 => ?_) fun b6 H26 y6' => ?_
    · have b := of_decide_eq_true b
      have x0 := y5.trans x2
      cases hc <;> first | (exfalso; revert b; decide) | skip
      refine s_retCall (ea_cons (ev_var rfl) ea_nil) fun H9 x9 => ⟨a, e, g, rfl, G.same (x0.trans x9), O, (k.ext (x0.trans x9)).ret (G.same (x0.trans x9)) rfl⟩
    have y6 := y5.trans y6'
    refine q_when (et_eqI (ev_var rfl) ev_c) (fun b H2 x2 => ?_) fun b7 H27 y7' => ?_
    · have b := of_decide_eq_true b
      have x0 := y6.trans x2
      cases hc <;> first | (exfalso; revert b; decide) | skip
      refine s_retCall (ea_cons (ev_var rfl) ea_nil) fun H9 x9 => ⟨a, e, g, rfl, G.same (x0.trans x9), O, (k.ext (x0.trans x9)).ret (G.same (x0.trans x9)) rfl⟩
    have y7 := y6.trans y7'
    refine q_when (et_eqI (ev_var rfl) ev_c) (fun b H2 x2 => ?_) fun b8 H28 y8' => ?_
    · have b := of_decide_eq_true b
      have x0 := y7.trans x2
      cases hc <;> first | (exfalso; revert b; decide) | skip
      refine s_retCall (ea_cons (ev_var rfl) ea_nil) fun H9 x9 => ⟨a, e, g, rfl, G.same (x0.trans x9), O, (k.ext (x0.trans x9)).ret (G.same (x0.trans x9)) rfl⟩
    have y8 := y7.trans y8'
    refine q_when (et_eqI (ev_var rfl) ev_c) (fun b H2 x2 => ?_) fun b9 H29 y9' => ?_
    · have b := of_decide_eq_true b
      have x0 := y8.trans x2
      cases hc <;> first | (exfalso; revert b; decide) | skip
      have er : iI (Gq06.step g .forests).2 = nI [Gq06.forests g] := by
        rw [nI_ints]
        rfl
      have k9 := (k.ext x0).ret (G.same x0) rfl
      rw [er] at k9
      exact s_retL (el_lst (ea_cons (ev_call (ea_cons (ev_var rfl) ea_nil) (sv_For (G.same x0) O)) ea_nil) (by show 1 ≤ 100000; decide)) k9
    have y9 := y8.trans y9'
    refine q_when (et_eqI (ev_var rfl) ev_c) (fun b H2 x2 => ?_) fun b10 H30 y10' => ?_
    · have b := of_decide_eq_true b
      have x0 := y9.trans x2
      cases hc <;> first | (exfalso; revert b; decide) | skip
      refine s_retCall (ea_cons (ev_var rfl) (ea_cons (ev_op (ev_var rfl) ev_c (rv_ixL (ex_l x0 S) (at_ 1 _ rfl))) ea_nil)) fun H9 x9 => ⟨a, e, g, _, rfl, G.same (x0.trans x9), O, (k.ext (x0.trans x9)).ret (G.same (x0.trans x9)) rfl⟩
    have y10 := y9.trans y10'
    have x0 := y10
    simp only [decide_eq_false_iff_not] at b0 b1 b2 b3 b4 b5 b6 b7 b8 b9 b10
    cases hc <;> first | exact (b0 rfl).elim | exact (b1 rfl).elim | exact (b2 rfl).elim | exact (b3 rfl).elim | exact (b4 rfl).elim | exact (b5 rfl).elim | exact (b6 rfl).elim | exact (b7 rfl).elim | exact (b8 rfl).elim | exact (b9 rfl).elim | exact (b10 rfl).elim | skip
    refine s_retCall (ea_cons (ev_var rfl) ea_nil) fun H9 x9 => ⟨a, e, g, rfl, G.same (x0.trans x9), O, (k.ext (x0.trans x9)).ret (G.same (x0.trans x9)) rfl⟩
/-! ### Graph() -/
def spInit (C : Addr) : Sp := fun vs H Q _ => ∃ (p dx : Addr), vs = [.ref p] ∧ H p = some (.ins C dx []) ∧ ∀ (H' : Hp) (e : Addr), H e = none → GAt C H' p e Gq06.init → (∀ b o, H b = some o → b ≠ p → H' b = some o) → Q .non H'
theorem scInit : FnScope ["self"] ["self"] (defScope sInit) := ⟨rfl, rfl, rfl, by decide +kernel, rfl, by decide +kernel, by decide +kernel⟩
theorem put_past {f g : Str} {v x : V} {r : List (Str × V)} (h : ¬ g = f) : putF f v ((g, x) :: r) = (g, x) :: putF f v r := if_neg h
theorem ok_init {f : Addr} {fd : FuncData} (F : Fun K "__init__" "Graph.__init__" sInit f fd) (T : Txt K mg C) : FnOk P w K mg base CX0 1 f fd ["self"] (spInit C) := by
  refine F.ok scInit (fun vs H Q E h => ?_) fun cdv A outer s0 H vs Q E hr h => ?_
  · obtain ⟨p, dx, rfl, _⟩ := h
    rfl
  · refine ⟨_, pss_cons (ps_fld (pv 0) pe_int rfl) (pss_one (ps_fld (pv 0) (pe_lst pa_nil) rfl)), ?_⟩
    obtain ⟨p, dx, rfl, hp, k⟩ := h
    refine ⟨_, rfl, p, C, dx, [], rfl, hp, T.cl, T.nN, (by show 0 < 1000; decide), ?_⟩
    refine ⟨(by show 0 ≤ sizeLine; decide), fun e ne => ?_⟩
    have nep : p ≠ e := fun z => by rw [← z, upd_same] at ne; cases ne
    have ne0 : H e = none := by rw [upd_ne nep.symm] at ne; exact ne
    refine ⟨_, rfl, p, C, dx, _, rfl, (by rw [upd_ne nep, upd_same]), T.cl, T.nE, (by show 1 < 1000; decide), ?_⟩
    refine k _ e ne0 ⟨⟨dx, ?_⟩, [], ?_, rfl, fun i t d h => by simp at h⟩ fun b o hb hn => ?_
    · rw [upd_same]
      show some (HO.ins C dx (putF "ends" (.ref e) (putF "node_count" (.int 0) []))) = _
      rfl
    · rw [upd_ne nep.symm, upd_same] <;> rfl
    · have hbe : b ≠ e := fun z => by rw [z, ne0] at hb; cases hb
      rw [upd_ne hn, upd_ne hbe, upd_ne hn]
      exact hb
end
end Dp

set_option Elab.async false
set_option linter.all false
set_option maxRecDepth 100000
set_option maxHeartbeats 2000000
namespace Dp
open PySem PySem.Spec PyProof.Rows L2 Evl
open Gq06 (Graph Call)
section
variable {P : Program} {w : World} {K : PySem.W.Frag} {mg : Str → Option Value} {base : Heap} {C : Addr}
/-- a list of at most 10000000 is no trouble -/
theorem line_of {n : Nat} (h : n ≤ 10000000) : n < sizeLine := Nat.lt_of_le_of_lt h (by decide)
theorem cut_take (l u t : List Int) (i : Nat) (h : l.drop i = u ++ t) : cutV (iI l) (some (i : Int)) (some ((i + u.length : Nat) : Int)) = iI u := by
  have hl : l.length - i = u.length + t.length := by rw [← List.length_drop, h, List.length_append]
  unfold cutV
  rw [HT.sIx_nat, HT.sIx_nat, List.length_map]
  by_cases hi : i ≤ l.length
  · rw [Nat.min_eq_left hi, Nat.min_eq_left (by omega), Nat.add_sub_cancel_left, ← List.map_drop, h, ← List.map_take, List.take_left]
  · have h0 : u.length = 0 ∧ t.length = 0 := by omega
    have eu : u = [] := List.length_eq_zero_iff.mp h0.1
    subst eu
    rw [show min i l.length = l.length by omega, show min (i + ([] : List Int).length) l.length = l.length by simp; omega, Nat.sub_self]
    rfl
theorem reads_inv {l : List Int} {cs : List Call} (h : Reads l cs) : (l = [] ∧ cs = []) ∨ ∃ u t c cs', l = u ++ t ∧ cs = c :: cs' ∧ IsCall u c ∧ Reads t cs' := by
  cases h with
  | nil => exact .inl ⟨rfl, rfl⟩
  | cons h r => exact .inr ⟨_, _, _, _, rfl, rfl, h, r⟩
theorem isCall_pos {u : List Int} {c : Call} (h : IsCall u c) : 0 < u.length := by cases h <;> simp
/-! ### answers -/
def spAnswers (K : PySem.W.Frag) : Sp := fun vs H Q _ => ∃ (q : Addr) (l : List Int) (cs : List Call), vs = [.ref q] ∧ SqL K H q (iI l) ∧ Reads l cs ∧ (play Gq06.init cs).length ≤ 10000000 ∧
  ∀ (H' : Hp) (p : Addr), H' p = some (.lst (iI (play Gq06.init cs))) → Q (.ref p) H'
theorem scAnswers : FnScope ["calls", "graph", "told", "place", "behind", "numbers"] ["calls"] (defScope sAnswers) := ⟨rfl, rfl, rfl, by decide +kernel, rfl, by decide +kernel, by decide +kernel⟩
structure Turn (C : Addr) (K : PySem.W.Frag) (H : Hp) (q : Addr) (l : List Int) (all : List Int) (m : Nat) (σ : L2.St) (H' : Hp) : Prop where
  h : ∃ (gr e tl : Addr) (g : Graph) (i : Nat) (tld : List Int) (cs : List Call) (u v : Option V), σ = [some (.ref q), some (.ref gr), some (.ref tl), some (.int (i : Nat)), u, v] ∧
    Ex H H' ∧ H gr = none ∧ H e = none ∧ H tl = none ∧ tl ≠ gr ∧ tl ≠ e ∧ GAt C H' gr e g ∧ GOk g ∧ H' tl = some (.lst (iI tld)) ∧ i ≤ l.length ∧ Reads (l.drop i) cs ∧ tld ++ play g cs = all ∧ m = cs.length
theorem ok_Answers {f fI : Addr} {fd fdI : FuncData} (F : Fun K "answers" "answers" sAnswers f fd) (T : Txt K mg C) (M : Mk K C fI) (FI : Fun K "__init__" "Graph.__init__" sInit fI fdI) (bI : Binds K fdI ["self"] [])
    (cL : Can P w K mg base "call_length" 1 ["calls", "place"] (spLen K)) (cA : Can P w K mg base "answer" 6 ["graph", "call"] (spAns C K)) : FnOk P w K mg base CX0 7 f fd ["calls"] (spAnswers K) := by
  have GI : FnOk P w K mg base CX0 1 fI fdI ["self"] (spInit C) := ok_init FI T
  refine F.ok scAnswers (fun vs H Q E h => ?_) fun cdv A outer s0 H vs Q E hr h => ?_
  · obtain ⟨q, l, cs, rfl, _⟩ := h
    rfl
  · refine ⟨_, pss_cons (ps_set (i := 1) scAnswers.nd rfl (Or.inl rfl) (pe_make0 M GI (hr.mono (by decide)) rfl T.gC bI .nil pass0))
      (pss_cons (ps_set (i := 2) scAnswers.nd rfl (Or.inl rfl) (pe_lst pa_nil)) (pss_cons (ps_set (i := 3) scAnswers.nd rfl (Or.inl rfl) pe_int)
      (pss_cons (ps_while PassesOwn.never (pt_cmpR op_lt (pv 3) (pe_callB call_len_seq (by rfl) T.len PySem.boot_len (pa_cons (pv 0) pa_nil)) (nomark _))
        (pss_cons (ps_set (i := 4) scAnswers.nd rfl (Or.inl rfl) (pe_op op_add (pv 3) (pe_can cL (hr.mono (by decide)) (pa_cons (pv 0) (pa_cons (pv 3) pa_nil)))))
        (pss_cons (ps_set (i := 5) scAnswers.nd rfl (Or.inl rfl) (pe_can cA hr (pa_cons (pv 1) (pa_cons (pe_slice sl_list (pv 0) (po_some (pv 3)) (po_some (pv 4))) pa_nil))))
        (pss_cons (ps_expr (pe_bm PySem.F.plainAttrs_list PySem.F.slot_list_append PySem.F.type_list_append mt_append (pv 2) (pa_cons (pe_callB call_len_seq (by rfl) T.len PySem.boot_len (pa_cons (pv 5) pa_nil)) pa_nil)))
        (pss_cons (ps_expr (pe_bm PySem.F.plainAttrs_list PySem.F.slot_list_extend PySem.F.type_list_extend mt_extend (pv 2) (pa_cons (pv 5) pa_nil)))
        (pss_one (ps_set (i := 3) scAnswers.nd rfl (Or.inl rfl) (pv 4))))))))
      (pss_one (ps_ret (pv 2)))))), ?_⟩
    obtain ⟨q, l, cs, rfl, S, R, hlen, k⟩ := h
    generalize hall : play Gq06.init cs = all at hlen k
    -- graph = Graph()
    intro gr dx ngr ndx nex
    refine ⟨gr, dx, rfl, upd_same, fun H1 e ne G1 fr1 => ⟨rfl, ?_⟩⟩
    have x1 : Ex H H1 := fun b o hb => fr1 b o (by rw [upd_ne (ne_of_none hb ngr), upd_ne (ne_of_none hb ndx)]; exact hb) (ne_of_none hb ngr)
    have ne0 : H e = none := by
      cases hz : H e with
      | none => rfl
      | some o =>
        rw [upd_ne (ne_of_none hz ngr), upd_ne (ne_of_none hz ndx), hz] at ne
        cases ne
    refine q_asgL (xs := []) (el_lst ea_nil (by show 0 ≤ 100000; decide)) fun tl H2 ntl x2 h2 => q_asg ev_c fun H3 x3 => ?_
    have x13 := x2.trans x3
    have tgr : tl ≠ gr := fun z => by
      obtain ⟨dx, h⟩ := G1.ob
      rw [z, h] at ntl; cases ntl
    have te : tl ≠ e := fun z => by
      obtain ⟨ts, h, _⟩ := G1.ls
      rw [z, h] at ntl; cases ntl
    refine q_while (Turn C K H q l all) cs.length ⟨gr, e, tl, Gq06.init, 0, [], cs, none, none, rfl, x1.trans x13, ngr, ne0, fresh_back x1 ntl, tgr, te, G1.same x13, GOk.init, x3 _ _ h2, Nat.zero_le _, R, by rw [List.nil_append]; exact hall, rfl⟩ ?_
    rintro m _ H4 ⟨gr, e, tl, g, i, tld, cs, u, v, rfl, x4, ngr, ne0, ntl, tgr, te, G, O, htl, hil, R, hall, rfl⟩
    refine ⟨decide (i < l.length), et_is (et_test (ev_op (ev_var rfl) (ev_len (ev_var rfl) (ex_l x4 S)) rv_I0)) (by rw [List.length_map]; exact dec_lt _ _), fun c H5 x5 => ?_, fun c H5 x5 => ?_⟩
    · have c := of_decide_eq_true c
      rcases reads_inv R with ⟨h0, _⟩ | ⟨u', t', d, cs', eu, rfl, hu, R'⟩
      · have := congrArg List.length h0
        rw [List.length_drop] at this
        have h00 : ([] : List Int).length = 0 := rfl
        omega
      · refine ⟨Turn C K H q l all cs'.length, fun σ2 H6 z => ⟨cs'.length, by rw [List.length_cons]; omega, z⟩, ?_⟩
        have hul := isCall_pos hu
        have hlu : l.length - i = u'.length + t'.length := by rw [← List.length_drop, eu, List.length_append]
        refine q_asg (v := .int ((i + u'.length : Nat) : Int)) (ev_is (ev_op (ev_var rfl) (ev_call (ea_cons (ev_var rfl) (ea_cons (ev_var rfl) ea_nil)) (sv_Len (ex_l (x4.trans x5) S) eu hu)) rv_I0) (by show V.int ((i : Int) + (u'.length : Int)) = _; congr 1)) fun H6 x6 => ?_
        have x46 := x5.trans x6
        -- numbers = answer(graph, calls[place:behind])
        refine ⟨_, rfl, _, rfl, _, rfl, _, rfl, _, rfl, _, rfl, q, _, rfl, ex_l (x4.trans x46) S, fun pc npc => ?_⟩
        rw [cut_take l u' t' i eu]
        have x7 := Ex.new (o := .lst (iI u')) npc
        have x47 := x46.trans x7
        generalize hH7 : upd H6 pc (.lst (iI u')) = H7 at x7 x47
        have hpc : H7 pc = some (.lst (iI u')) := by rw [← hH7]; exact upd_same
        refine ⟨gr, e, pc, g, u', d, rfl, G.same x47, O, sq_of hpc, hu, fun H8 p np fr8 G8 h8 => ?_⟩
        have ep : tld ++ ((((Gq06.step g d).2.length : Nat) : Int) :: (Gq06.step g d).2 ++ play (Gq06.step g d).1 cs') = all := hall
        have hlen8 : tld.length + (1 + (Gq06.step g d).2.length) ≤ 10000000 := by
          have := congrArg List.length ep
          rw [List.length_append, List.cons_append, List.length_cons, List.length_append] at this
          omega
        have htl8 : H8 tl = some (.lst (iI tld)) := fr8 _ _ (x47 _ _ htl) tgr te
        have x8 : Ex H H8 := fun b o hb => fr8 b o (x47 _ _ (x4 _ _ hb)) (ne_of_none hb ngr) (ne_of_none hb ne0)
        have ptl : p ≠ tl := fun z => by rw [z, x47 _ _ htl] at np; cases np
        -- told.append(len(numbers)); told.extend(numbers)
        refine ⟨_, rfl, .inl ⟨rfl, _, SqL.of htl8⟩, _, rfl, p, _, rfl, .inl (SqL.of h8), tl, _, _, rfl, rfl, htl8, line_of (by rw [List.length_map]; omega), ?_⟩
        generalize hH9 : upd H8 tl (.lst (iI tld ++ [V.int (((iI (Gq06.step g d).2).length : Nat) : Int)])) = H9
        have htl9 : H9 tl = some (.lst (iI tld ++ [V.int (((iI (Gq06.step g d).2).length : Nat) : Int)])) := by rw [← hH9]; exact upd_same
        have n9 : ∀ b o, H8 b = some o → b ≠ tl → H9 b = some o := fun b o hb hn => by rw [← hH9, upd_ne hn]; exact hb
        have h9 := n9 _ _ h8 ptl
        refine ⟨_, rfl, .inl ⟨rfl, _, SqL.of htl9⟩, _, rfl, tl, p, _, _, rfl, rfl, htl9, h9, Nat.le_of_lt (line_of ?_), ?_⟩
        · simp only [List.length_append, List.length_map, List.length_singleton]
          omega
        generalize hH10 : upd H9 tl (.lst (iI tld ++ [V.int (((iI (Gq06.step g d).2).length : Nat) : Int)] ++ iI (Gq06.step g d).2)) = H10
        have n10 : ∀ b o, H8 b = some o → b ≠ tl → H10 b = some o := fun b o hb hn => by rw [← hH10, upd_ne hn]; exact n9 _ _ hb hn
        refine s_asg (ev_var rfl) fun H11 x11 => ⟨gr, e, tl, (Gq06.step g d).1, i + u'.length, tld ++ ((((Gq06.step g d).2.length : Nat) : Int) :: (Gq06.step g d).2), cs', some (.int ((i + u'.length : Nat) : Int)), some (.ref p), rfl,
          fun b o hb => x11 _ _ (n10 _ _ (x8 _ _ hb) (ne_of_none hb ntl)), ngr, ne0, ntl, tgr, te, ?_, O.step d, ?_, by omega, ?_, by rw [List.append_assoc]; exact ep, rfl⟩
        · obtain ⟨dx, g1⟩ := G8.ob
          obtain ⟨ts, g2, g3, g4⟩ := G8.ls
          refine GAt.same ⟨⟨dx, n10 _ _ g1 tgr.symm⟩, ts, n10 _ _ g2 te.symm, g3, fun i t d h1 h2 => n10 _ _ (g4 i t d h1 h2) (ne_of (g4 i t d h1 h2) htl8 (by intro z; cases z))⟩ x11
        · refine x11 _ _ ?_
          rw [← hH10, upd_same]
          congr 2
          simp only [List.length_map, List.map_append, List.append_assoc, List.map_cons, List.singleton_append]
        · rw [← List.drop_drop, eu, List.drop_left]
          exact R'
    · have c := of_decide_eq_false c
      have e0 : l.drop i = [] := List.drop_eq_nil_of_le (by omega)
      rw [e0] at R
      rcases reads_inv R with ⟨_, rfl⟩ | ⟨u', t', d, cs', eu, _, hu, _⟩
      · refine s_ret (ev_var rfl) fun H6 x6 => k H6 tl ?_
        rw [← hall]
        show H6 tl = some (.lst (iI (tld ++ [])))
        rw [List.append_nil]
        exact x6 _ _ (x5 _ _ htl)
      · have := isCall_pos hu
        have h2 := congrArg List.length eu
        rw [List.length_append] at h2
        have h00 : ([] : List Int).length = 0 := rfl
        omega
end
end Dp

set_option Elab.async false
set_option linter.all false
set_option maxRecDepth 100000
set_option maxHeartbeats 2000000
namespace Dp
open PySem PySem.Spec PyProof.Rows L2 Evl
open PySem.W (Codec)
theorem fn_in {K : PySem.W.Frag} {h : Heap} {mg : Str → Option Value} {name : Str} {st : Stmt} {f : Addr} {ps : List Str} {oc kV dc pm cd ct : Value} {od an : Option Addr} {sl : Array (Option Value)} (X : K.In h) (G : h.Ns mainGlobals mg)
    (a : PySem.W.nsIn K mainGlobals name = some (some (.ref f))) (l : K.lookup f = some ⟨oc, od, .func (PySem.W.fnOf name name (defArgs st) (defBody st) (defScope st) .none kV dc pm an cd ct), sl⟩) (c : PySem.W.codeIn K cd name = true) (k : PySem.W.keepIn K (.ref f) = true)
    (hb : ∀ (kV doc pm : Value) (an : Option Addr) (cdv ct : Value) (us : List Value), us.length = ps.length → bindArgs (PySem.W.fnOf name name (defArgs st) (defBody st) (defScope st) .none kV doc pm an cdv ct) ⟨us, []⟩ = pure (ps.zip us)) : Fn K mg name st ps :=
  ⟨f, _, PySem.W.mg_of X G a, fun_mk l c k, (fun_mk l c k).binds hb⟩

theorem all_mk {P : Program} {w : World} {K : PySem.W.Frag} {h : Heap} {mg : Str → Option Value} {fa C fI : Addr} (X : K.In h) (G : h.Ns mainGlobals mg) (hfa : mg "answers" = some (.ref fa))
    {f1 f2 f3 f4 f5 f6 f7 f8 f9 f10 f11 f12 f13 f14 f15 f16 f17 f18 f19 f20 f21 f22 f23 f24 f25 f26 f27 f28 f29 f30 f31 f32 : Addr}
    {od0 an0 od1 an1 od2 an2 od3 an3 od4 an4 od5 an5 od6 an6 od7 an7 od8 an8 od9 an9 od10 an10 od11 an11 od12 an12 od13 an13 od14 an14 od15 an15 od16 an16 od17 an17 od18 an18 od19 an19 od20 an20 od21 an21 od22 an22 od23 an23 od24 an24 od25 an25 od26 an26 od27 an27 od28 an28 od29 an29 od30 an30 od31 an31 od32 an32 : Option Addr} {sl0 sl1 sl2 sl3 sl4 sl5 sl6 sl7 sl8 sl9 sl10 sl11 sl12 sl13 sl14 sl15 sl16 sl17 sl18 sl19 sl20 sl21 sl22 sl23 sl24 sl25 sl26 sl27 sl28 sl29 sl30 sl31 sl32 : Array (Option Value)}
    {oc0 kV0 dc0 pm0 cd0 ct0 oc1 kV1 dc1 pm1 cd1 ct1 oc2 kV2 dc2 pm2 cd2 ct2 oc3 kV3 dc3 pm3 cd3 ct3 oc4 kV4 dc4 pm4 cd4 ct4 oc5 kV5 dc5 pm5 cd5 ct5 oc6 kV6 dc6 pm6 cd6 ct6 oc7 kV7 dc7 pm7 cd7 ct7 oc8 kV8 dc8 pm8 cd8 ct8 oc9 kV9 dc9 pm9 cd9 ct9 oc10 kV10 dc10 pm10 cd10 ct10 oc11 kV11 dc11 pm11 cd11 ct11 oc12 kV12 dc12 pm12 cd12 ct12 oc13 kV13 dc13 pm13 cd13 ct13 oc14 kV14 dc14 pm14 cd14 ct14 oc15 kV15 dc15 pm15 cd15 ct15 oc16 kV16 dc16 pm16 cd16 ct16 oc17 kV17 dc17 pm17 cd17 ct17 oc18 kV18 dc18 pm18 cd18 ct18 oc19 kV19 dc19 pm19 cd19 ct19 oc20 kV20 dc20 pm20 cd20 ct20 oc21 kV21 dc21 pm21 cd21 ct21 oc22 kV22 dc22 pm22 cd22 ct22 oc23 kV23 dc23 pm23 cd23 ct23 oc24 kV24 dc24 pm24 cd24 ct24 oc25 kV25 dc25 pm25 cd25 ct25 oc26 kV26 dc26 pm26 cd26 ct26 oc27 kV27 dc27 pm27 cd27 ct27 oc28 kV28 dc28 pm28 cd28 ct28 oc29 kV29 dc29 pm29 cd29 ct29 oc30 kV30 dc30 pm30 cd30 ct30 oc31 kV31 dc31 pm31 cd31 ct31 oc32 kV32 dc32 pm32 cd32 ct32 : Value}
    {t_c0 t_c1 t_c2 t_c3 t_c4 t_c5 t_c6 t_c7 t_c8 t_c9 t_ct t_ce t_c10 t_c20 t_m1 t_mK t_m2 t_m3 t_m5 : Tok}
    (aC : PySem.W.nsIn K mainGlobals "Graph" = some (some (.ref C)))
    (aI : PySem.W.findIn K (.ref C) "__init__" = some (some (.ref fI)))
    (iI0 : PySem.W.isFn K (.ref fI) = true)
    (lI : K.lookup fI = some ⟨oc0, od0, .func (PySem.W.fnOf "__init__" "Graph.__init__" (defArgs sInit) (defBody sInit) (defScope sInit) .none kV0 dc0 pm0 an0 cd0 ct0), sl0⟩)
    (cI : PySem.W.codeIn K cd0 "Graph.__init__" = true)
    (kI : PySem.W.keepIn K (.ref fI) = true)
    (a1 : PySem.W.nsIn K mainGlobals "answers" = some (some (.ref f1)))
    (l1 : K.lookup f1 = some ⟨oc1, od1, .func (PySem.W.fnOf "answers" "answers" (defArgs sAnswers) (defBody sAnswers) (defScope sAnswers) .none kV1 dc1 pm1 an1 cd1 ct1), sl1⟩)
    (c1c : PySem.W.codeIn K cd1 "answers" = true)
    (k1 : PySem.W.keepIn K (.ref f1) = true)
    (a2 : PySem.W.nsIn K mainGlobals "call_length" = some (some (.ref f2)))
    (l2 : K.lookup f2 = some ⟨oc2, od2, .func (PySem.W.fnOf "call_length" "call_length" (defArgs sLen) (defBody sLen) (defScope sLen) .none kV2 dc2 pm2 an2 cd2 ct2), sl2⟩)
    (c2c : PySem.W.codeIn K cd2 "call_length" = true)
    (k2 : PySem.W.keepIn K (.ref f2) = true)
    (a3 : PySem.W.nsIn K mainGlobals "answer" = some (some (.ref f3)))
    (l3 : K.lookup f3 = some ⟨oc3, od3, .func (PySem.W.fnOf "answer" "answer" (defArgs sAnswer) (defBody sAnswer) (defScope sAnswer) .none kV3 dc3 pm3 an3 cd3 ct3), sl3⟩)
    (c3c : PySem.W.codeIn K cd3 "answer" = true)
    (k3 : PySem.W.keepIn K (.ref f3) = true)
    (a4 : PySem.W.nsIn K mainGlobals "add_node" = some (some (.ref f4)))
    (l4 : K.lookup f4 = some ⟨oc4, od4, .func (PySem.W.fnOf "add_node" "add_node" (defArgs sAddN) (defBody sAddN) (defScope sAddN) .none kV4 dc4 pm4 an4 cd4 ct4), sl4⟩)
    (c4c : PySem.W.codeIn K cd4 "add_node" = true)
    (k4 : PySem.W.keepIn K (.ref f4) = true)
    (a5 : PySem.W.nsIn K mainGlobals "add_edge" = some (some (.ref f5)))
    (l5 : K.lookup f5 = some ⟨oc5, od5, .func (PySem.W.fnOf "add_edge" "add_edge" (defArgs sAddE) (defBody sAddE) (defScope sAddE) .none kV5 dc5 pm5 an5 cd5 ct5), sl5⟩)
    (c5c : PySem.W.codeIn K cd5 "add_edge" = true)
    (k5 : PySem.W.keepIn K (.ref f5) = true)
    (a6 : PySem.W.nsIn K mainGlobals "cut_edge" = some (some (.ref f6)))
    (l6 : K.lookup f6 = some ⟨oc6, od6, .func (PySem.W.fnOf "cut_edge" "cut_edge" (defArgs sCut) (defBody sCut) (defScope sCut) .none kV6 dc6 pm6 an6 cd6 ct6), sl6⟩)
    (c6c : PySem.W.codeIn K cd6 "cut_edge" = true)
    (k6 : PySem.W.keepIn K (.ref f6) = true)
    (a7 : PySem.W.nsIn K mainGlobals "tell_densest" = some (some (.ref f7)))
    (l7 : K.lookup f7 = some ⟨oc7, od7, .func (PySem.W.fnOf "tell_densest" "tell_densest" (defArgs sTDst) (defBody sTDst) (defScope sTDst) .none kV7 dc7 pm7 an7 cd7 ct7), sl7⟩)
    (c7c : PySem.W.codeIn K cd7 "tell_densest" = true)
    (k7 : PySem.W.keepIn K (.ref f7) = true)
    (a8 : PySem.W.nsIn K mainGlobals "tell_density" = some (some (.ref f8)))
    (l8 : K.lookup f8 = some ⟨oc8, od8, .func (PySem.W.fnOf "tell_density" "tell_density" (defArgs sTDty) (defBody sTDty) (defScope sTDty) .none kV8 dc8 pm8 an8 cd8 ct8), sl8⟩)
    (c8c : PySem.W.codeIn K cd8 "tell_density" = true)
    (k8 : PySem.W.keepIn K (.ref f8) = true)
    (a9 : PySem.W.nsIn K mainGlobals "tell_peel" = some (some (.ref f9)))
    (l9 : K.lookup f9 = some ⟨oc9, od9, .func (PySem.W.fnOf "tell_peel" "tell_peel" (defArgs sTPeel) (defBody sTPeel) (defScope sTPeel) .none kV9 dc9 pm9 an9 cd9 ct9), sl9⟩)
    (c9c : PySem.W.codeIn K cd9 "tell_peel" = true)
    (k9 : PySem.W.keepIn K (.ref f9) = true)
    (a10 : PySem.W.nsIn K mainGlobals "tell_turned" = some (some (.ref f10)))
    (l10 : K.lookup f10 = some ⟨oc10, od10, .func (PySem.W.fnOf "tell_turned" "tell_turned" (defArgs sTTurn) (defBody sTTurn) (defScope sTTurn) .none kV10 dc10 pm10 an10 cd10 ct10), sl10⟩)
    (c10c : PySem.W.codeIn K cd10 "tell_turned" = true)
    (k10 : PySem.W.keepIn K (.ref f10) = true)
    (a11 : PySem.W.nsIn K mainGlobals "tell_tight" = some (some (.ref f11)))
    (l11 : K.lookup f11 = some ⟨oc11, od11, .func (PySem.W.fnOf "tell_tight" "tell_tight" (defArgs sTTight) (defBody sTTight) (defScope sTTight) .none kV11 dc11 pm11 an11 cd11 ct11), sl11⟩)
    (c11c : PySem.W.codeIn K cd11 "tell_tight" = true)
    (k11 : PySem.W.keepIn K (.ref f11) = true)
    (a12 : PySem.W.nsIn K mainGlobals "tell_edges" = some (some (.ref f12)))
    (l12 : K.lookup f12 = some ⟨oc12, od12, .func (PySem.W.fnOf "tell_edges" "tell_edges" (defArgs sTEdges) (defBody sTEdges) (defScope sTEdges) .none kV12 dc12 pm12 an12 cd12 ct12), sl12⟩)
    (c12c : PySem.W.codeIn K cd12 "tell_edges" = true)
    (k12 : PySem.W.keepIn K (.ref f12) = true)
    (a13 : PySem.W.nsIn K mainGlobals "counted" = some (some (.ref f13)))
    (l13 : K.lookup f13 = some ⟨oc13, od13, .func (PySem.W.fnOf "counted" "counted" (defArgs sCnt) (defBody sCnt) (defScope sCnt) .none kV13 dc13 pm13 an13 cd13 ct13), sl13⟩)
    (c13c : PySem.W.codeIn K cd13 "counted" = true)
    (k13 : PySem.W.keepIn K (.ref f13) = true)
    (a14 : PySem.W.nsIn K mainGlobals "is_node" = some (some (.ref f14)))
    (l14 : K.lookup f14 = some ⟨oc14, od14, .func (PySem.W.fnOf "is_node" "is_node" (defArgs sIsN) (defBody sIsN) (defScope sIsN) .none kV14 dc14 pm14 an14 cd14 ct14), sl14⟩)
    (c14c : PySem.W.codeIn K cd14 "is_node" = true)
    (k14 : PySem.W.keepIn K (.ref f14) = true)
    (a15 : PySem.W.nsIn K mainGlobals "is_part" = some (some (.ref f15)))
    (l15 : K.lookup f15 = some ⟨oc15, od15, .func (PySem.W.fnOf "is_part" "is_part" (defArgs sIsP) (defBody sIsP) (defScope sIsP) .none kV15 dc15 pm15 an15 cd15 ct15), sl15⟩)
    (c15c : PySem.W.codeIn K cd15 "is_part" = true)
    (k15 : PySem.W.keepIn K (.ref f15) = true)
    (a16 : PySem.W.nsIn K mainGlobals "all_nodes" = some (some (.ref f16)))
    (l16 : K.lookup f16 = some ⟨oc16, od16, .func (PySem.W.fnOf "all_nodes" "all_nodes" (defArgs sAllN) (defBody sAllN) (defScope sAllN) .none kV16 dc16 pm16 an16 cd16 ct16), sl16⟩)
    (c16c : PySem.W.codeIn K cd16 "all_nodes" = true)
    (k16 : PySem.W.keepIn K (.ref f16) = true)
    (a17 : PySem.W.nsIn K mainGlobals "all_parts" = some (some (.ref f17)))
    (l17 : K.lookup f17 = some ⟨oc17, od17, .func (PySem.W.fnOf "all_parts" "all_parts" (defArgs sAllP) (defBody sAllP) (defScope sAllP) .none kV17 dc17 pm17 an17 cd17 ct17), sl17⟩)
    (c17c : PySem.W.codeIn K cd17 "all_parts" = true)
    (k17 : PySem.W.keepIn K (.ref f17) = true)
    (a18 : PySem.W.nsIn K mainGlobals "wider_parts" = some (some (.ref f18)))
    (l18 : K.lookup f18 = some ⟨oc18, od18, .func (PySem.W.fnOf "wider_parts" "wider_parts" (defArgs sWid) (defBody sWid) (defScope sWid) .none kV18 dc18 pm18 an18 cd18 ct18), sl18⟩)
    (c18c : PySem.W.codeIn K cd18 "wider_parts" = true)
    (k18 : PySem.W.keepIn K (.ref f18) = true)
    (a19 : PySem.W.nsIn K mainGlobals "edges_within" = some (some (.ref f19)))
    (l19 : K.lookup f19 = some ⟨oc19, od19, .func (PySem.W.fnOf "edges_within" "edges_within" (defArgs sEW) (defBody sEW) (defScope sEW) .none kV19 dc19 pm19 an19 cd19 ct19), sl19⟩)
    (c19c : PySem.W.codeIn K cd19 "edges_within" = true)
    (k19 : PySem.W.keepIn K (.ref f19) = true)
    (a20 : PySem.W.nsIn K mainGlobals "edges_to" = some (some (.ref f20)))
    (l20 : K.lookup f20 = some ⟨oc20, od20, .func (PySem.W.fnOf "edges_to" "edges_to" (defArgs sET) (defBody sET) (defScope sET) .none kV20 dc20 pm20 an20 cd20 ct20), sl20⟩)
    (c20c : PySem.W.codeIn K cd20 "edges_to" = true)
    (k20 : PySem.W.keepIn K (.ref f20) = true)
    (a21 : PySem.W.nsIn K mainGlobals "lowest_terms" = some (some (.ref f21)))
    (l21 : K.lookup f21 = some ⟨oc21, od21, .func (PySem.W.fnOf "lowest_terms" "lowest_terms" (defArgs sLow) (defBody sLow) (defScope sLow) .none kV21 dc21 pm21 an21 cd21 ct21), sl21⟩)
    (c21c : PySem.W.codeIn K cd21 "lowest_terms" = true)
    (k21 : PySem.W.keepIn K (.ref f21) = true)
    (a22 : PySem.W.nsIn K mainGlobals "divided_upwards" = some (some (.ref f22)))
    (l22 : K.lookup f22 = some ⟨oc22, od22, .func (PySem.W.fnOf "divided_upwards" "divided_upwards" (defArgs sUp) (defBody sUp) (defScope sUp) .none kV22 dc22 pm22 an22 cd22 ct22), sl22⟩)
    (c22c : PySem.W.codeIn K cd22 "divided_upwards" = true)
    (k22 : PySem.W.keepIn K (.ref f22) = true)
    (a23 : PySem.W.nsIn K mainGlobals "densest_part" = some (some (.ref f23)))
    (l23 : K.lookup f23 = some ⟨oc23, od23, .func (PySem.W.fnOf "densest_part" "densest_part" (defArgs sDst) (defBody sDst) (defScope sDst) .none kV23 dc23 pm23 an23 cd23 ct23), sl23⟩)
    (c23c : PySem.W.codeIn K cd23 "densest_part" = true)
    (k23 : PySem.W.keepIn K (.ref f23) = true)
    (a24 : PySem.W.nsIn K mainGlobals "core_members" = some (some (.ref f24)))
    (l24 : K.lookup f24 = some ⟨oc24, od24, .func (PySem.W.fnOf "core_members" "core_members" (defArgs sCore) (defBody sCore) (defScope sCore) .none kV24 dc24 pm24 an24 cd24 ct24), sl24⟩)
    (c24c : PySem.W.codeIn K cd24 "core_members" = true)
    (k24 : PySem.W.keepIn K (.ref f24) = true)
    (a25 : PySem.W.nsIn K mainGlobals "having_edges" = some (some (.ref f25)))
    (l25 : K.lookup f25 = some ⟨oc25, od25, .func (PySem.W.fnOf "having_edges" "having_edges" (defArgs sHav) (defBody sHav) (defScope sHav) .none kV25 dc25 pm25 an25 cd25 ct25), sl25⟩)
    (c25c : PySem.W.codeIn K cd25 "having_edges" = true)
    (k25 : PySem.W.keepIn K (.ref f25) = true)
    (a26 : PySem.W.nsIn K mainGlobals "node_cores" = some (some (.ref f26)))
    (l26 : K.lookup f26 = some ⟨oc26, od26, .func (PySem.W.fnOf "node_cores" "node_cores" (defArgs sCores) (defBody sCores) (defScope sCores) .none kV26 dc26 pm26 an26 cd26 ct26), sl26⟩)
    (c26c : PySem.W.codeIn K cd26 "node_cores" = true)
    (k26 : PySem.W.keepIn K (.ref f26) = true)
    (a27 : PySem.W.nsIn K mainGlobals "first_to_go" = some (some (.ref f27)))
    (l27 : K.lookup f27 = some ⟨oc27, od27, .func (PySem.W.fnOf "first_to_go" "first_to_go" (defArgs sFst) (defBody sFst) (defScope sFst) .none kV27 dc27 pm27 an27 cd27 ct27), sl27⟩)
    (c27c : PySem.W.codeIn K cd27 "first_to_go" = true)
    (k27 : PySem.W.keepIn K (.ref f27) = true)
    (a28 : PySem.W.nsIn K mainGlobals "fewest_at_most" = some (some (.ref f28)))
    (l28 : K.lookup f28 = some ⟨oc28, od28, .func (PySem.W.fnOf "fewest_at_most" "fewest_at_most" (defArgs sMost) (defBody sMost) (defScope sMost) .none kV28 dc28 pm28 an28 cd28 ct28), sl28⟩)
    (c28c : PySem.W.codeIn K cd28 "fewest_at_most" = true)
    (k28 : PySem.W.keepIn K (.ref f28) = true)
    (a29 : PySem.W.nsIn K mainGlobals "first_turned" = some (some (.ref f29)))
    (l29 : K.lookup f29 = some ⟨oc29, od29, .func (PySem.W.fnOf "first_turned" "first_turned" (defArgs sTurn) (defBody sTurn) (defScope sTurn) .none kV29 dc29 pm29 an29 cd29 ct29), sl29⟩)
    (c29c : PySem.W.codeIn K cd29 "first_turned" = true)
    (k29 : PySem.W.keepIn K (.ref f29) = true)
    (a30 : PySem.W.nsIn K mainGlobals "places_parting" = some (some (.ref f30)))
    (l30 : K.lookup f30 = some ⟨oc30, od30, .func (PySem.W.fnOf "places_parting" "places_parting" (defArgs sPar) (defBody sPar) (defScope sPar) .none kV30 dc30 pm30 an30 cd30 ct30), sl30⟩)
    (c30c : PySem.W.codeIn K cd30 "places_parting" = true)
    (k30 : PySem.W.keepIn K (.ref f30) = true)
    (a31 : PySem.W.nsIn K mainGlobals "fewest_forests" = some (some (.ref f31)))
    (l31 : K.lookup f31 = some ⟨oc31, od31, .func (PySem.W.fnOf "fewest_forests" "fewest_forests" (defArgs sFor) (defBody sFor) (defScope sFor) .none kV31 dc31 pm31 an31 cd31 ct31), sl31⟩)
    (c31c : PySem.W.codeIn K cd31 "fewest_forests" = true)
    (k31 : PySem.W.keepIn K (.ref f31) = true)
    (a32 : PySem.W.nsIn K mainGlobals "tight_nodes" = some (some (.ref f32)))
    (l32 : K.lookup f32 = some ⟨oc32, od32, .func (PySem.W.fnOf "tight_nodes" "tight_nodes" (defArgs sTight) (defBody sTight) (defScope sTight) .none kV32 dc32 pm32 an32 cd32 ct32), sl32⟩)
    (c32c : PySem.W.codeIn K cd32 "tight_nodes" = true)
    (k32 : PySem.W.keepIn K (.ref f32) = true)
    (pg : PySem.W.plainGet K C Str.empty = true)
    (hd : PySem.W.hasDictIn K C = true)
    (po : PySem.W.plainOver K C = true)
    (sa : PySem.W.findIn K (.ref C) "__setattr__" = some (some (.builtin "object.__setattr__")))
    (mk : PySem.W.makesIn K C = true)
    (kc : PySem.W.keepIn K (.ref C) = true)
    (nN : PySem.W.findIn K (.ref C) "node_count" = some none)
    (nE : PySem.W.findIn K (.ref C) "ends" = some none)
    (z_len : PySem.W.nsIn K mainGlobals "len" = some none)
    (z_range : PySem.W.nsIn K mainGlobals "range" = some none)
    (z_list : PySem.W.nsIn K mainGlobals "list" = some none)
    (z_set : PySem.W.nsIn K mainGlobals "set" = some none)
    (z_sorted : PySem.W.nsIn K mainGlobals "sorted" = some none)
    (z_max : PySem.W.nsIn K mainGlobals "max" = some none)
    (z_min : PySem.W.nsIn K mainGlobals "min" = some none)
    (z_any : PySem.W.nsIn K mainGlobals "any" = some none)
    (z_enumerate : PySem.W.nsIn K mainGlobals "enumerate" = some none)
    (v_c0 : PySem.W.nsIn K mainGlobals "NODE" = some (some (.int (0) t_c0)))
    (v_c1 : PySem.W.nsIn K mainGlobals "EDGE" = some (some (.int (1) t_c1)))
    (v_c2 : PySem.W.nsIn K mainGlobals "CUT" = some (some (.int (2) t_c2)))
    (v_c3 : PySem.W.nsIn K mainGlobals "DENSEST" = some (some (.int (3) t_c3)))
    (v_c4 : PySem.W.nsIn K mainGlobals "DENSITY" = some (some (.int (4) t_c4)))
    (v_c5 : PySem.W.nsIn K mainGlobals "CORE" = some (some (.int (5) t_c5)))
    (v_c6 : PySem.W.nsIn K mainGlobals "CORES" = some (some (.int (6) t_c6)))
    (v_c7 : PySem.W.nsIn K mainGlobals "PEEL" = some (some (.int (7) t_c7)))
    (v_c8 : PySem.W.nsIn K mainGlobals "TURNED" = some (some (.int (8) t_c8)))
    (v_c9 : PySem.W.nsIn K mainGlobals "FORESTS" = some (some (.int (9) t_c9)))
    (v_ct : PySem.W.nsIn K mainGlobals "TIGHT" = some (some (.int (10) t_ct)))
    (v_ce : PySem.W.nsIn K mainGlobals "EDGES" = some (some (.int (11) t_ce)))
    (v_c10 : PySem.W.nsIn K mainGlobals "MOST_NODES" = some (some (.int (10) t_c10)))
    (v_c20 : PySem.W.nsIn K mainGlobals "MOST_EDGES" = some (some (.int (20) t_c20)))
    (v_m1 : PySem.W.nsIn K mainGlobals "WRONG_NODES" = some (some (.int (-1) t_m1)))
    (v_mK : PySem.W.nsIn K mainGlobals "WRONG_K" = some (some (.int (-1) t_mK)))
    (v_m2 : PySem.W.nsIn K mainGlobals "NO_SUCH_EDGE" = some (some (.int (-2) t_m2)))
    (v_m3 : PySem.W.nsIn K mainGlobals "NO_NODES" = some (some (.int (-3) t_m3)))
    (v_m5 : PySem.W.nsIn K mainGlobals "FULL" = some (some (.int (-5) t_m5))) :
    ∃ fd : FuncData, (∀ (s : Shared) (us : List Value), us.length = (["calls"] : List Str).length → BindsTo s fd ⟨us, []⟩ ((["calls"] : List Str).zip us)) ∧ ∀ base : Heap, K.In base → base.Ns mainGlobals mg → FnOk P w K mg base CX0 7 fa fd ["calls"] (spAnswers K) := by
  have e := hfa.symm.trans (PySem.W.mg_of X G a1)
  cases e
  have T : Txt K mg C := ⟨⟨pg, hd, po, sa⟩, nN, nE, PySem.W.mg_of X G aC, PySem.W.mg_none_of X G z_len, PySem.W.mg_none_of X G z_range, PySem.W.mg_none_of X G z_list, PySem.W.mg_none_of X G z_set, PySem.W.mg_none_of X G z_sorted, PySem.W.mg_none_of X G z_max, PySem.W.mg_none_of X G z_min, PySem.W.mg_none_of X G z_any, PySem.W.mg_none_of X G z_enumerate, ⟨_, PySem.W.mg_of X G v_c0⟩, ⟨_, PySem.W.mg_of X G v_c1⟩, ⟨_, PySem.W.mg_of X G v_c2⟩, ⟨_, PySem.W.mg_of X G v_c3⟩, ⟨_, PySem.W.mg_of X G v_c4⟩, ⟨_, PySem.W.mg_of X G v_c5⟩, ⟨_, PySem.W.mg_of X G v_c6⟩, ⟨_, PySem.W.mg_of X G v_c7⟩, ⟨_, PySem.W.mg_of X G v_c8⟩, ⟨_, PySem.W.mg_of X G v_c9⟩, ⟨_, PySem.W.mg_of X G v_ct⟩, ⟨_, PySem.W.mg_of X G v_ce⟩, ⟨_, PySem.W.mg_of X G v_c10⟩, ⟨_, PySem.W.mg_of X G v_c20⟩, ⟨_, PySem.W.mg_of X G v_m1⟩, ⟨_, PySem.W.mg_of X G v_mK⟩, ⟨_, PySem.W.mg_of X G v_m2⟩, ⟨_, PySem.W.mg_of X G v_m3⟩, ⟨_, PySem.W.mg_of X G v_m5⟩⟩
  have FI := fun_mk (st := sInit) lI cI kI
  have bI := FI.binds (ps := ["self"]) fun _ _ _ _ _ _ us hl => match us, hl with | [_], _ => rfl
  have F1 : Fn K mg "answers" sAnswers ["calls"] := fn_in X G a1 l1 c1c k1 fun _ _ _ _ _ _ us hl => match us, hl with | [_], _ => rfl
  have F2 : Fn K mg "call_length" sLen ["calls", "place"] := fn_in X G a2 l2 c2c k2 fun _ _ _ _ _ _ us hl => match us, hl with | [_, _], _ => rfl
  have F3 : Fn K mg "answer" sAnswer ["graph", "call"] := fn_in X G a3 l3 c3c k3 fun _ _ _ _ _ _ us hl => match us, hl with | [_, _], _ => rfl
  have F4 : Fn K mg "add_node" sAddN ["graph"] := fn_in X G a4 l4 c4c k4 fun _ _ _ _ _ _ us hl => match us, hl with | [_], _ => rfl
  have F5 : Fn K mg "add_edge" sAddE ["graph", "x", "y"] := fn_in X G a5 l5 c5c k5 fun _ _ _ _ _ _ us hl => match us, hl with | [_, _, _], _ => rfl
  have F6 : Fn K mg "cut_edge" sCut ["graph", "n"] := fn_in X G a6 l6 c6c k6 fun _ _ _ _ _ _ us hl => match us, hl with | [_, _], _ => rfl
  have F7 : Fn K mg "tell_densest" sTDst ["graph"] := fn_in X G a7 l7 c7c k7 fun _ _ _ _ _ _ us hl => match us, hl with | [_], _ => rfl
  have F8 : Fn K mg "tell_density" sTDty ["graph", "nodes"] := fn_in X G a8 l8 c8c k8 fun _ _ _ _ _ _ us hl => match us, hl with | [_, _], _ => rfl
  have F9 : Fn K mg "tell_peel" sTPeel ["graph"] := fn_in X G a9 l9 c9c k9 fun _ _ _ _ _ _ us hl => match us, hl with | [_], _ => rfl
  have F10 : Fn K mg "tell_turned" sTTurn ["graph"] := fn_in X G a10 l10 c10c k10 fun _ _ _ _ _ _ us hl => match us, hl with | [_], _ => rfl
  have F11 : Fn K mg "tell_tight" sTTight ["graph", "k"] := fn_in X G a11 l11 c11c k11 fun _ _ _ _ _ _ us hl => match us, hl with | [_, _], _ => rfl
  have F12 : Fn K mg "tell_edges" sTEdges ["graph"] := fn_in X G a12 l12 c12c k12 fun _ _ _ _ _ _ us hl => match us, hl with | [_], _ => rfl
  have F13 : Fn K mg "counted" sCnt ["members"] := fn_in X G a13 l13 c13c k13 fun _ _ _ _ _ _ us hl => match us, hl with | [_], _ => rfl
  have F14 : Fn K mg "is_node" sIsN ["graph", "x"] := fn_in X G a14 l14 c14c k14 fun _ _ _ _ _ _ us hl => match us, hl with | [_, _], _ => rfl
  have F15 : Fn K mg "is_part" sIsP ["graph", "nodes"] := fn_in X G a15 l15 c15c k15 fun _ _ _ _ _ _ us hl => match us, hl with | [_, _], _ => rfl
  have F16 : Fn K mg "all_nodes" sAllN ["graph"] := fn_in X G a16 l16 c16c k16 fun _ _ _ _ _ _ us hl => match us, hl with | [_], _ => rfl
  have F17 : Fn K mg "all_parts" sAllP ["graph"] := fn_in X G a17 l17 c17c k17 fun _ _ _ _ _ _ us hl => match us, hl with | [_], _ => rfl
  have F18 : Fn K mg "wider_parts" sWid ["graph"] := fn_in X G a18 l18 c18c k18 fun _ _ _ _ _ _ us hl => match us, hl with | [_], _ => rfl
  have F19 : Fn K mg "edges_within" sEW ["graph", "part"] := fn_in X G a19 l19 c19c k19 fun _ _ _ _ _ _ us hl => match us, hl with | [_, _], _ => rfl
  have F20 : Fn K mg "edges_to" sET ["graph", "node", "part"] := fn_in X G a20 l20 c20c k20 fun _ _ _ _ _ _ us hl => match us, hl with | [_, _, _], _ => rfl
  have F21 : Fn K mg "lowest_terms" sLow ["above", "below"] := fn_in X G a21 l21 c21c k21 fun _ _ _ _ _ _ us hl => match us, hl with | [_, _], _ => rfl
  have F22 : Fn K mg "divided_upwards" sUp ["above", "below"] := fn_in X G a22 l22 c22c k22 fun _ _ _ _ _ _ us hl => match us, hl with | [_, _], _ => rfl
  have F23 : Fn K mg "densest_part" sDst ["graph"] := fn_in X G a23 l23 c23c k23 fun _ _ _ _ _ _ us hl => match us, hl with | [_], _ => rfl
  have F24 : Fn K mg "core_members" sCore ["graph", "k"] := fn_in X G a24 l24 c24c k24 fun _ _ _ _ _ _ us hl => match us, hl with | [_, _], _ => rfl
  have F25 : Fn K mg "having_edges" sHav ["graph", "left", "k"] := fn_in X G a25 l25 c25c k25 fun _ _ _ _ _ _ us hl => match us, hl with | [_, _, _], _ => rfl
  have F26 : Fn K mg "node_cores" sCores ["graph"] := fn_in X G a26 l26 c26c k26 fun _ _ _ _ _ _ us hl => match us, hl with | [_], _ => rfl
  have F27 : Fn K mg "first_to_go" sFst ["graph", "left"] := fn_in X G a27 l27 c27c k27 fun _ _ _ _ _ _ us hl => match us, hl with | [_, _], _ => rfl
  have F28 : Fn K mg "fewest_at_most" sMost ["graph"] := fn_in X G a28 l28 c28c k28 fun _ _ _ _ _ _ us hl => match us, hl with | [_], _ => rfl
  have F29 : Fn K mg "first_turned" sTurn ["graph", "most"] := fn_in X G a29 l29 c29c k29 fun _ _ _ _ _ _ us hl => match us, hl with | [_, _], _ => rfl
  have F30 : Fn K mg "places_parting" sPar ["parts", "inner", "outer"] := fn_in X G a30 l30 c30c k30 fun _ _ _ _ _ _ us hl => match us, hl with | [_, _, _], _ => rfl
  have F31 : Fn K mg "fewest_forests" sFor ["graph"] := fn_in X G a31 l31 c31c k31 fun _ _ _ _ _ _ us hl => match us, hl with | [_], _ => rfl
  have F32 : Fn K mg "tight_nodes" sTight ["graph", "k"] := fn_in X G a32 l32 c32c k32 fun _ _ _ _ _ _ us hl => match us, hl with | [_, _], _ => rfl
  refine ⟨PySem.W.fnOf "answers" "answers" (defArgs sAnswers) (defBody sAnswers) (defScope sAnswers) .none kV1 dc1 pm1 an1 cd1 ct1, fun s us hu => match us, hu with | [_], _ => .of_eq rfl, fun base _ _ => ?_⟩
  have dW := can_EW (P := P) (w := w) (base := base) F19 T 
  have dT := can_ET (P := P) (w := w) (base := base) F20 T 
  have dN := can_IsN (P := P) (w := w) (base := base) F14 T 
  have dP := can_IsP (P := P) (w := w) (base := base) F15 T dN
  have dA := can_AllN (P := P) (w := w) (base := base) F16 T 
  have dL := can_Low (P := P) (w := w) (base := base) F21 T 
  have dU := can_Up (P := P) (w := w) (base := base) F22 T 
  have dH := can_Hav (P := P) (w := w) (base := base) F25 T dT
  have dC := can_Core (P := P) (w := w) (base := base) F24 T dA dH
  have dQ := can_AllP (P := P) (w := w) (base := base) F17 T dA
  have dV := can_Wid (P := P) (w := w) (base := base) F18 T dQ
  have dD := can_Dst (P := P) (w := w) (base := base) F23 T dQ dW
  have dK := can_Cnt (P := P) (w := w) (base := base) F13 T 
  have dX := can_Par (P := P) (w := w) (base := base) F30 T 
  have dY := can_Fst (P := P) (w := w) (base := base) F27 T dT
  have dM := can_Most (P := P) (w := w) (base := base) F28 T dQ dW dU
  have dZ := can_Turn (P := P) (w := w) (base := base) F29 T dQ dW dX
  have dG := can_Tight (P := P) (w := w) (base := base) F32 T dV dW
  have d3 := can_TDst (P := P) (w := w) (base := base) F7 T dD dW dL dK
  have d4 := can_TDty (P := P) (w := w) (base := base) F8 T dP dW dL
  have d0 := can_AddN (P := P) (w := w) (base := base) F4 T 
  have d1 := can_AddE (P := P) (w := w) (base := base) F5 T dN
  have d2 := can_Cut (P := P) (w := w) (base := base) F6 T 
  have d6 := can_Cores (P := P) (w := w) (base := base) F26 T dC
  have d7 := can_TPeel (P := P) (w := w) (base := base) F9 T dA dY dT
  have d8 := can_TTurn (P := P) (w := w) (base := base) F10 T dM dZ
  have d9 := can_For (P := P) (w := w) (base := base) F31 T dV dW dU
  have dt := can_TTight (P := P) (w := w) (base := base) F11 T dG dK
  have de := can_TEdges (P := P) (w := w) (base := base) F12 T 
  have dB := can_Len (P := P) (w := w) (base := base) F2 T 
  have dR := can_Ans (P := P) (w := w) (base := base) F3 T d0 d1 d2 d3 d4 dC dK d6 d7 d8 d9 dt de
  exact ok_Answers (fun_mk (st := sAnswers) l1 c1c k1) T ⟨mk, aI, iI0, kc⟩ FI bI dB dR

end Dp
open PySem PySem.W PyProof.Rows
set_option maxRecDepth 100000 in
set_option maxHeartbeats 8000000 in
theorem PySem.Challenge.cw_denseparts_s01_answers_holds : PySem.Challenge.rw_denseparts_s01_answers.Holds := by
  w_on; k_headS; (case hw => exact ⟨[.list [.int 0]], by decide +kernel, by decide +kernel⟩)
  k_fillS
  refine L2.walk_specK (r := PySem.Challenge.rw_denseparts_s01_answers) (k := 7) (CX := L2.CX0) (ps := ["calls"]) (sp := Dp.spAnswers) (by decide +kernel) rfl rfl ⟨rfl, by decide, by decide⟩ (fun w h Y => PySem.W.kIn_of Y) ?F ?S (fun _ _ _ _ z => z)
  case F =>
    intro w mg fa h Y KX G hmg
    refine' Dp.all_mk KX G hmg ?aC ?aI ?iI0 ?lI ?cI ?kI ?a1 ?l1 ?c1c ?k1 ?a2 ?l2 ?c2c ?k2 ?a3 ?l3 ?c3c ?k3 ?a4 ?l4 ?c4c ?k4 ?a5 ?l5 ?c5c ?k5 ?a6 ?l6 ?c6c ?k6 ?a7 ?l7 ?c7c ?k7 ?a8 ?l8 ?c8c ?k8 ?a9 ?l9 ?c9c ?k9 ?a10 ?l10 ?c10c ?k10 ?a11 ?l11 ?c11c ?k11 ?a12 ?l12 ?c12c ?k12 ?a13 ?l13 ?c13c ?k13 ?a14 ?l14 ?c14c ?k14 ?a15 ?l15 ?c15c ?k15 ?a16 ?l16 ?c16c ?k16 ?a17 ?l17 ?c17c ?k17 ?a18 ?l18 ?c18c ?k18 ?a19 ?l19 ?c19c ?k19 ?a20 ?l20 ?c20c ?k20 ?a21 ?l21 ?c21c ?k21 ?a22 ?l22 ?c22c ?k22 ?a23 ?l23 ?c23c ?k23 ?a24 ?l24 ?c24c ?k24 ?a25 ?l25 ?c25c ?k25 ?a26 ?l26 ?c26c ?k26 ?a27 ?l27 ?c27c ?k27 ?a28 ?l28 ?c28c ?k28 ?a29 ?l29 ?c29c ?k29 ?a30 ?l30 ?c30c ?k30 ?a31 ?l31 ?c31c ?k31 ?a32 ?l32 ?c32c ?k32 ?pg ?hd ?po ?sa ?mk ?kc ?nN ?nE ?z_len ?z_range ?z_list ?z_set ?z_sorted ?z_max ?z_min ?z_any ?z_enumerate ?v_c0 ?v_c1 ?v_c2 ?v_c3 ?v_c4 ?v_c5 ?v_c6 ?v_c7 ?v_c8 ?v_c9 ?v_ct ?v_ce ?v_c10 ?v_c20 ?v_m1 ?v_mK ?v_m2 ?v_m3 ?v_m5
    (case aC => k_is)
    (case aI => k_is)
    (case iI0 => k_is)
    (case lI => k_is)
    (case cI => k_is)
    (case kI => k_is)
    (case a1 => k_is)
    (case l1 => k_is)
    (case c1c => k_is)
    (case k1 => k_is)
    (case a2 => k_is)
    (case l2 => k_is)
    (case c2c => k_is)
    (case k2 => k_is)
    (case a3 => k_is)
    (case l3 => k_is)
    (case c3c => k_is)
    (case k3 => k_is)
    (case a4 => k_is)
    (case l4 => k_is)
    (case c4c => k_is)
    (case k4 => k_is)
    (case a5 => k_is)
    (case l5 => k_is)
    (case c5c => k_is)
    (case k5 => k_is)
    (case a6 => k_is)
    (case l6 => k_is)
    (case c6c => k_is)
    (case k6 => k_is)
    (case a7 => k_is)
    (case l7 => k_is)
    (case c7c => k_is)
    (case k7 => k_is)
    (case a8 => k_is)
    (case l8 => k_is)
    (case c8c => k_is)
    (case k8 => k_is)
    (case a9 => k_is)
    (case l9 => k_is)
    (case c9c => k_is)
    (case k9 => k_is)
    (case a10 => k_is)
    (case l10 => k_is)
    (case c10c => k_is)
    (case k10 => k_is)
    (case a11 => k_is)
    (case l11 => k_is)
    (case c11c => k_is)
    (case k11 => k_is)
    (case a12 => k_is)
    (case l12 => k_is)
    (case c12c => k_is)
    (case k12 => k_is)
    (case a13 => k_is)
    (case l13 => k_is)
    (case c13c => k_is)
    (case k13 => k_is)
    (case a14 => k_is)
    (case l14 => k_is)
    (case c14c => k_is)
    (case k14 => k_is)
    (case a15 => k_is)
    (case l15 => k_is)
    (case c15c => k_is)
    (case k15 => k_is)
    (case a16 => k_is)
    (case l16 => k_is)
    (case c16c => k_is)
    (case k16 => k_is)
    (case a17 => k_is)
    (case l17 => k_is)
    (case c17c => k_is)
    (case k17 => k_is)
    (case a18 => k_is)
    (case l18 => k_is)
    (case c18c => k_is)
    (case k18 => k_is)
    (case a19 => k_is)
    (case l19 => k_is)
    (case c19c => k_is)
    (case k19 => k_is)
    (case a20 => k_is)
    (case l20 => k_is)
    (case c20c => k_is)
    (case k20 => k_is)
    (case a21 => k_is)
    (case l21 => k_is)
    (case c21c => k_is)
    (case k21 => k_is)
    (case a22 => k_is)
    (case l22 => k_is)
    (case c22c => k_is)
    (case k22 => k_is)
    (case a23 => k_is)
    (case l23 => k_is)
    (case c23c => k_is)
    (case k23 => k_is)
    (case a24 => k_is)
    (case l24 => k_is)
    (case c24c => k_is)
    (case k24 => k_is)
    (case a25 => k_is)
    (case l25 => k_is)
    (case c25c => k_is)
    (case k25 => k_is)
    (case a26 => k_is)
    (case l26 => k_is)
    (case c26c => k_is)
    (case k26 => k_is)
    (case a27 => k_is)
    (case l27 => k_is)
    (case c27c => k_is)
    (case k27 => k_is)
    (case a28 => k_is)
    (case l28 => k_is)
    (case c28c => k_is)
    (case k28 => k_is)
    (case a29 => k_is)
    (case l29 => k_is)
    (case c29c => k_is)
    (case k29 => k_is)
    (case a30 => k_is)
    (case l30 => k_is)
    (case c30c => k_is)
    (case k30 => k_is)
    (case a31 => k_is)
    (case l31 => k_is)
    (case c31c => k_is)
    (case k31 => k_is)
    (case a32 => k_is)
    (case l32 => k_is)
    (case c32c => k_is)
    (case k32 => k_is)
    (case pg => k_is)
    (case hd => k_is)
    (case po => k_is)
    (case sa => k_is)
    (case mk => k_is)
    (case kc => k_is)
    (case nN => k_is)
    (case nE => k_is)
    (case z_len => k_is)
    (case z_range => k_is)
    (case z_list => k_is)
    (case z_set => k_is)
    (case z_sorted => k_is)
    (case z_max => k_is)
    (case z_min => k_is)
    (case z_any => k_is)
    (case z_enumerate => k_is)
    (case v_c0 => k_is)
    (case v_c1 => k_is)
    (case v_c2 => k_is)
    (case v_c3 => k_is)
    (case v_c4 => k_is)
    (case v_c5 => k_is)
    (case v_c6 => k_is)
    (case v_c7 => k_is)
    (case v_c8 => k_is)
    (case v_c9 => k_is)
    (case v_ct => k_is)
    (case v_ce => k_is)
    (case v_c10 => k_is)
    (case v_c20 => k_is)
    (case v_m1 => k_is)
    (case v_mK => k_is)
    (case v_m2 => k_is)
    (case v_m3 => k_is)
    (case v_m5 => k_is)
  case S =>
    intro K H xs a hO hwi hask hx
    cases hx with
    | cons h1 h2 =>
      cases h2
      cases h1 with
      | lst hs ha =>
        have e := L2.ints_dw a.1 _ ha
        subst e
        obtain ⟨cs, hr, h40, hp, hlen⟩ := Dp.asked_reads (l := a.1) hask
        rw [hp] at hlen
        refine ⟨_, a.1, cs, rfl, hs, hr, hlen, fun H' p h' => ?_⟩
        show L2.Dw _ _ _ (WData.list ((PyGq06.answers a.1).map WData.int))
        rw [hp]
        exact .lst (L2.SqL.of h') (L2.dw_ints _)

