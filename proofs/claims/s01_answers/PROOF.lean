import PyProof.Rows.All
import Wide.All
import OpenK.AllK
import Wide.FinOn
import Open.SpecLaws
import KE.OsGo
import KE.KMinKey
import HandS.ForSpec
import HandS.ForMost
import HandS.SortKw
import PySem.Challenge.RW_cabinwait_s01_answers
set_option Elab.async false
set_option maxRecDepth 100000
set_option maxHeartbeats 4000000
namespace Cw
open Uw40
/-- the minutes of coming, the first first -/
def came : Nat → List Nat → List Nat
  | _, [] => []
  | m, n :: l => List.replicate n m ++ came (m + 1) l
theorem came_snoc : ∀ (l : List Nat) (m n : Nat), came m (l ++ [n]) = came m l ++ List.replicate n (m + l.length)
  | [], m, n => by simp [came]
  | a :: l, m, n => by
    have e : m + 1 + l.length = m + (l.length + 1) := by omega
    simp only [List.cons_append, came, came_snoc l (m + 1) n, List.append_assoc, List.length_cons, e]
theorem came_app : ∀ (l k : List Nat) (m : Nat), came m (l ++ k) = came m l ++ came (m + l.length) k
  | [], k, m => by simp [came]
  | a :: l, k, m => by
    have e : m + 1 + l.length = m + (l.length + 1) := by omega
    simp only [List.cons_append, came, came_app l k (m + 1), List.append_assoc, List.length_cons, e]
theorem came_ge : ∀ (l : List Nat) (m x : Nat), x ∈ came m l → m ≤ x
  | [], m, x, h => by simp [came] at h
  | a :: l, m, x, h => by
    simp only [came, List.mem_append, List.mem_replicate] at h
    rcases h with h | h
    · omega
    · have := came_ge l (m + 1) x h
      omega
theorem came_lt : ∀ (l : List Nat) (m x : Nat), x ∈ came m l → x < m + l.length
  | [], m, x, h => by simp [came] at h
  | a :: l, m, x, h => by
    simp only [came, List.mem_append, List.mem_replicate, List.length_cons] at h ⊢
    rcases h with h | h
    · omega
    · have := came_lt l (m + 1) x h
      omega
theorem came_len : ∀ (l : List Nat) (m : Nat), (came m l).length = l.sum
  | [], m => rfl
  | a :: l, m => by simp [came, came_len l (m + 1)]
/-- when cabins go by -/
def firsts (r c : Nat) : List Nat := (List.range c).map fun i => i * r / c
/-- how long those had waited who have gone behind so many minutes -/
def gone (r s : Nat) (first all : List Nat) : Nat → List Nat
  | 0 => []
  | t + 1 => if t % r ∈ first then gone r s first all t ++ (((all.drop (gone r s first all t).length).take s).filter (fun m => decide (m ≤ t))).map (fun m => t - m) else gone r s first all t
def best (l : List Nat) : Nat := l.foldl max 0
theorem foldmax : ∀ (l : List Nat) (a : Nat), l.foldl max a = max a (l.foldl max 0)
  | [], a => by simp
  | x :: l, a => by
    rw [List.foldl_cons, List.foldl_cons, foldmax l (max a x), foldmax l (max 0 x)]
    omega
theorem best_app (a b : List Nat) : best (a ++ b) = max (best a) (b.foldl max 0) := by
  unfold best
  rw [List.foldl_append, foldmax]
theorem foldadd : ∀ (l : List Nat) (a : Nat), l.foldl (fun a b => a + b) a = a + l.sum
  | [], a => by simp
  | x :: l, a => by
    rw [List.foldl_cons, foldadd l (a + x), List.sum_cons]
    omega
theorem total_sum (l : List Nat) : total l = l.sum := by
  unfold total
  rw [foldadd]
  omega
theorem best_mem : ∀ (l : List Nat) (x : Nat), x ∈ l → x ≤ best l
  | [], x, h => by simp at h
  | a :: l, x, h => by
    have e : best (a :: l) = max a (best l) := by
      unfold best
      rw [List.foldl_cons, foldmax]
      omega
    rw [e]
    rcases List.mem_cons.mp h with h | h
    · omega
    · have := best_mem l x h
      omega
theorem best_in : ∀ (l : List Nat), l ≠ [] → best l ∈ l
  | [], h => absurd rfl h
  | [a], _ => by simp [best]
  | a :: b :: l, _ => by
    have e : best (a :: b :: l) = max a (best (b :: l)) := by
      unfold best
      rw [List.foldl_cons, foldmax]
      omega
    have ih := best_in (b :: l) (by simp)
    rw [e]
    by_cases c : a ≤ best (b :: l)
    · rw [Nat.max_eq_right c]
      exact List.mem_cons_of_mem _ ih
    · rw [Nat.max_eq_left (by omega)]
      exact List.mem_cons_self
/-- the greatest of a list is its own greatest -/
theorem best_of {l : List Nat} {m : Nat} (h1 : m ∈ l) (h2 : ∀ y, y ∈ l → y ≤ m) : m = best l := by
  have a := best_mem l m h1
  have b := h2 _ (best_in l (List.ne_nil_of_mem h1))
  omega
/-! cabins go by at different minutes -/
theorem step_lt {r c : Nat} (hc : 0 < c) (h : c ≤ r) (i : Nat) : i * r / c < (i + 1) * r / c := by
  have e : (i + 1) * r = i * r + r := Nat.succ_mul i r
  rw [e]
  have : (i * r + c) / c ≤ (i * r + r) / c := Nat.div_le_div_right (by omega)
  rw [Nat.add_div_right _ hc] at this
  omega
theorem mono_lt {r c : Nat} (hc : 0 < c) (h : c ≤ r) (i : Nat) : ∀ k, i * r / c < (i + k + 1) * r / c
  | 0 => step_lt hc h i
  | k + 1 => Nat.lt_trans (mono_lt hc h i k) (step_lt hc h (i + k + 1))
theorem filter_one {f : Nat → Nat} (hf : ∀ i j, i < j → f i < f j) (x : Nat) : ∀ c, ((List.range c).filter fun i => x == f i).length = if x ∈ (List.range c).map f then 1 else 0
  | 0 => rfl
  | c + 1 => by
    rw [List.range_succ, List.filter_append, List.length_append, filter_one hf x c, List.map_append]
    by_cases e : x = f c
    · have n : x ∉ (List.range c).map f := fun h => by
        obtain ⟨i, hi, q⟩ := List.mem_map.mp h
        have := hf i c (List.mem_range.mp hi)
        omega
      rw [if_neg n, if_pos (by simp [e])]
      simp [e]
    · have z : ((List.filter (fun i => x == f i) [c]).length) = 0 := by simp [e]
      rw [z]
      by_cases m : x ∈ (List.range c).map f
      · rw [if_pos m, if_pos (List.mem_append_left _ m)]
      · rw [if_neg m, if_neg]
        intro h
        rcases List.mem_append.mp h with h | h
        · exact m h
        · simp at h
          exact e h
theorem by_is (d : Day) (h1 : 1 ≤ d.cabins) (h2 : d.cabins ≤ d.round) (t : Nat) : d.by_ t = if t % d.round ∈ firsts d.round d.cabins then 1 else 0 := by
  unfold Day.by_ firsts
  have := filter_one (f := fun i => i * d.round / d.cabins) (fun i j hij => by
    have e := mono_lt h1 h2 i (j - i - 1)
    have q : i + (j - i - 1) + 1 = j := by omega
    rw [q] at e
    exact e) (t % d.round) d.cabins
  exact this
/-! the stand behind so many minutes -/
def stand (d : Day) : Nat → Stand
  | 0 => ⟨[], 0, 0, 0⟩
  | t + 1 => d.minute t (d.comes.getD t 0) (stand d t)
theorem from_snoc (d : Day) : ∀ (l : List Nat) (t n : Nat) (s : Stand), d.from_ t (l ++ [n]) s = d.minute (t + l.length) n (d.from_ t l s)
  | [], t, n, s => rfl
  | a :: l, t, n, s => by
    have e : t + 1 + l.length = t + (l.length + 1) := by omega
    show d.from_ (t + 1) (l ++ [n]) _ = _
    rw [from_snoc d l (t + 1) n, e]
    rfl
theorem take_snoc (l : List Nat) (t : Nat) (h : t < l.length) : l.take (t + 1) = l.take t ++ [l.getD t 0] := by
  rw [List.take_add_one, List.getD_eq_getElem?_getD, List.getElem?_eq_getElem h]
  rfl
theorem from_is (d : Day) : ∀ t, t ≤ d.comes.length → d.from_ 0 (d.comes.take t) ⟨[], 0, 0, 0⟩ = stand d t
  | 0, _ => rfl
  | t + 1, h => by
    rw [take_snoc _ _ h, from_snoc, from_is d t (by omega), List.length_take, Nat.min_eq_left (by omega), Nat.zero_add]
    rfl
/-- who came in the first t minutes -/
def cameTo (d : Day) (t : Nat) : List Nat := came 0 (d.comes.take t)
theorem cameTo_succ (d : Day) (t : Nat) : cameTo d (t + 1) = cameTo d t ++ List.replicate (d.comes.getD t 0) t := by
  unfold cameTo
  by_cases h : t < d.comes.length
  · rw [take_snoc _ _ h, came_snoc, List.length_take, Nat.min_eq_left (by omega), Nat.zero_add]
  · have e : d.comes.getD t 0 = 0 := by
      rw [List.getD_eq_getElem?_getD, List.getElem?_eq_none (by omega)]
      rfl
    rw [e, List.take_of_length_le (by omega), List.take_of_length_le (by omega)]
    simp
theorem cameTo_lt {d : Day} {t x : Nat} (h : x ∈ cameTo d t) : x < t := by
  have := came_lt _ _ _ h
  rw [List.length_take] at this
  omega
theorem cameTo_split (d : Day) (t : Nat) : ∃ b, came 0 d.comes = cameTo d t ++ b ∧ ∀ x ∈ b, t ≤ x := by
  by_cases h : t ≤ d.comes.length
  · refine ⟨came (0 + (d.comes.take t).length) (d.comes.drop t), ?_, fun x hx => ?_⟩
    · have e : d.comes = d.comes.take t ++ d.comes.drop t := (List.take_append_drop t d.comes).symm
      unfold cameTo
      rw [← came_app, ← e]
    · have := came_ge _ _ _ hx
      rw [List.length_take] at this
      omega
  · refine ⟨[], ?_, fun x hx => by simp at hx⟩
    unfold cameTo
    rw [List.take_of_length_le (by omega), List.append_nil]
theorem going_is {a b : List Nat} {g s t : Nat} (hg : g ≤ a.length) (ha : ∀ x ∈ a, x < t + 1) (hb : ∀ x ∈ b, t + 1 ≤ x) :
    (((a ++ b).drop g).take s).filter (fun m => decide (m ≤ t)) = (a.drop g).take s := by
  rw [List.drop_append_of_le_length hg, List.take_append, List.filter_append]
  have e1 : List.filter (fun m => decide (m ≤ t)) ((a.drop g).take s) = (a.drop g).take s := by
    apply List.filter_eq_self.mpr
    intro x hx
    have := ha x (List.mem_of_mem_drop (List.mem_of_mem_take hx))
    exact decide_eq_true (by omega)
  have e2 : List.filter (fun m => decide (m ≤ t)) (b.take (s - (a.drop g).length)) = [] := by
    apply List.filter_eq_nil_iff.mpr
    intro x hx
    have := hb x (List.mem_of_mem_take hx)
    simp only [decide_eq_true_eq]
    omega
  rw [e1, e2, List.append_nil]
def waits (d : Day) (t : Nat) : List Nat := gone d.round d.seats (firsts d.round d.cabins) (came 0 d.comes) t
def standOf (d : Day) (t : Nat) : Stand := ⟨((cameTo d t).drop (waits d t).length).map (fun m => t - m), best (waits d t), (waits d t).sum, (waits d t).length⟩
theorem waits_succ (d : Day) (t : Nat) (hg : (waits d t).length ≤ (cameTo d t).length) :
    waits d (t + 1) = if t % d.round ∈ firsts d.round d.cabins then waits d t ++ (((cameTo d (t + 1)).drop (waits d t).length).take d.seats).map (fun m => t - m) else waits d t := by
  obtain ⟨b, e, hb⟩ := cameTo_split d (t + 1)
  have hg2 : (waits d t).length ≤ (cameTo d (t + 1)).length := by
    rw [cameTo_succ, List.length_append]
    omega
  have k := going_is (s := d.seats) (t := t) hg2 (fun x hx => cameTo_lt hx) hb
  rw [← e] at k
  show (if t % d.round ∈ firsts d.round d.cabins then waits d t ++ ((((came 0 d.comes).drop (waits d t).length).take d.seats).filter (fun m => decide (m ≤ t))).map (fun m => t - m) else waits d t) = _
  rw [k]
theorem stand_is (d : Day) (h1 : 1 ≤ d.cabins) (h2 : d.cabins ≤ d.round) : ∀ t, stand d t = standOf d t ∧ (waits d t).length ≤ (cameTo d t).length
  | 0 => ⟨rfl, Nat.zero_le _⟩
  | t + 1 => by
    obtain ⟨ih, hg⟩ := stand_is d h1 h2 t
    have hw := waits_succ d t hg
    have hr : ((cameTo d t).drop (waits d t).length).map (fun m => t - m) ++ List.replicate (d.comes.getD t 0) 0 = ((cameTo d (t + 1)).drop (waits d t).length).map (fun m => t - m) := by
      rw [cameTo_succ, List.drop_append_of_le_length hg, List.map_append, List.map_replicate, Nat.sub_self]
    have hlen : (waits d t).length ≤ (cameTo d (t + 1)).length := by
      rw [cameTo_succ, List.length_append]
      omega
    have hup : ∀ k, ((((cameTo d (t + 1)).drop (waits d t).length).map (fun m => t - m)).drop k).map (fun w => w + 1) = ((cameTo d (t + 1)).drop ((waits d t).length + k)).map (fun m => t + 1 - m) := by
      intro k
      rw [← List.map_drop, List.drop_drop, List.map_map]
      apply List.map_congr_left
      intro x hx
      have := cameTo_lt (List.mem_of_mem_drop hx)
      show t - x + 1 = t + 1 - x
      omega
    have hstep : stand d (t + 1) = d.minute t (d.comes.getD t 0) (standOf d t) := by
      show d.minute t (d.comes.getD t 0) (stand d t) = _
      rw [ih]
    have hmin : ∀ k, k = min (((cameTo d (t + 1)).drop (waits d t).length).map (fun m => t - m)).length (d.by_ t * d.seats) →
        d.minute t (d.comes.getD t 0) (standOf d t) = ⟨((cameTo d (t + 1)).drop ((waits d t).length + k)).map (fun m => t + 1 - m), max (best (waits d t)) (((((cameTo d (t + 1)).drop (waits d t).length).map (fun m => t - m)).take k).foldl max 0), (waits d t).sum + total ((((cameTo d (t + 1)).drop (waits d t).length).map (fun m => t - m)).take k), (waits d t).length + k⟩ := by
      intro k hk
      unfold Day.minute standOf
      dsimp only
      rw [hr, ← hk, hup k]
    rw [hstep, hmin _ rfl, by_is d h1 h2 t]
    by_cases m : t % d.round ∈ firsts d.round d.cabins
    · rw [if_pos m, Nat.one_mul]
      rw [if_pos m] at hw
      have hlw : (waits d (t + 1)).length = (waits d t).length + min (((cameTo d (t + 1)).drop (waits d t).length).map (fun m => t - m)).length d.seats := by
        rw [hw, List.length_append, List.length_map, List.length_take, List.length_map, Nat.min_comm]
      have htk : (((cameTo d (t + 1)).drop (waits d t).length).map (fun m => t - m)).take (min (((cameTo d (t + 1)).drop (waits d t).length).map (fun m => t - m)).length d.seats) = (((cameTo d (t + 1)).drop (waits d t).length).take d.seats).map (fun m => t - m) := by
        rw [Nat.min_comm, ← List.take_take, List.take_length, List.map_take]
      rw [htk, ← hlw]
      refine ⟨?_, ?_⟩
      · unfold standOf
        rw [hw, best_app, List.sum_append, total_sum]
      · rw [hlw, List.length_map, List.length_drop]
        omega
    · rw [if_neg m, Nat.zero_mul, Nat.min_zero, Nat.add_zero, List.take_zero]
      rw [if_neg m] at hw
      refine ⟨?_, by rw [hw]; exact hlen⟩
      unfold standOf
      rw [hw]
      simp [total]
/-- behind the told minutes nobody comes -/
theorem cameTo_all (d : Day) (t : Nat) (h : d.comes.length ≤ t) : cameTo d t = came 0 d.comes := by
  unfold cameTo
  rw [List.take_of_length_le h]
theorem waits_stay (d : Day) {t : Nat} (h : d.comes.length ≤ t) (hw : (waits d t).length = (came 0 d.comes).length) : ∀ f, waits d (t + f) = waits d t
  | 0 => rfl
  | f + 1 => by
    have ih := waits_stay d h hw f
    show waits d (t + f + 1) = _
    rw [waits_succ d (t + f) (by rw [ih, hw, cameTo_all d _ (by omega)]; exact Nat.le_refl _), ih, cameTo_all d _ (by omega), hw]
    simp
theorem row_nil (d : Day) (h1 : 1 ≤ d.cabins) (h2 : d.cabins ≤ d.round) {t : Nat} (h : d.comes.length ≤ t) : (standOf d t).row = [] ↔ (waits d t).length = (came 0 d.comes).length := by
  have := (stand_is d h1 h2 t).2
  rw [cameTo_all d t h] at this
  show ((cameTo d t).drop (waits d t).length).map (fun m => t - m) = [] ↔ _
  rw [cameTo_all d t h, List.map_eq_nil_iff, List.drop_eq_nil_iff]
  omega
theorem empties_is (d : Day) (h1 : 1 ≤ d.cabins) (h2 : d.cabins ≤ d.round) : ∀ f t, d.comes.length ≤ t →
    d.empties f t (standOf d t) = if (waits d (t + f)).length = (came 0 d.comes).length then some ⟨[], best (waits d (t + f)), (waits d (t + f)).sum, (waits d (t + f)).length⟩ else none
  | 0, t, h => by
    show (if (standOf d t).row = [] then some (standOf d t) else none) = _
    by_cases c : (waits d t).length = (came 0 d.comes).length
    · rw [if_pos ((row_nil d h1 h2 h).mpr c), Nat.add_zero, if_pos c]
      have := (row_nil d h1 h2 h).mpr c
      show some (Stand.mk (standOf d t).row _ _ _) = _
      rw [this]
    · rw [if_neg (fun q => c ((row_nil d h1 h2 h).mp q)), Nat.add_zero, if_neg c]
  | f + 1, t, h => by
    show (if (standOf d t).row = [] then some (standOf d t) else d.empties f (t + 1) (d.minute t 0 (standOf d t))) = _
    by_cases c : (waits d t).length = (came 0 d.comes).length
    · rw [if_pos ((row_nil d h1 h2 h).mpr c), waits_stay d h c (f + 1), if_pos c]
      have := (row_nil d h1 h2 h).mpr c
      show some (Stand.mk (standOf d t).row _ _ _) = _
      rw [this]
    · rw [if_neg (fun q => c ((row_nil d h1 h2 h).mp q))]
      have e0 : d.comes.getD t 0 = 0 := by
        rw [List.getD_eq_getElem?_getD, List.getElem?_eq_none h]
        rfl
      have e : d.minute t 0 (standOf d t) = standOf d (t + 1) := by
        rw [← (stand_is d h1 h2 (t + 1)).1, ← (stand_is d h1 h2 t).1]
        show _ = d.minute t (d.comes.getD t 0) (stand d t)
        rw [e0]
      rw [e, empties_is d h1 h2 f (t + 1) (by omega)]
      have q : t + 1 + f = t + (f + 1) := by omega
      rw [q]
/-- the waits till the day's end -/
def endWaits (d : Day) : List Nat := waits d (d.comes.length + 200)
theorem end_is (d : Day) (h1 : 1 ≤ d.cabins) (h2 : d.cabins ≤ d.round) :
    d.end_ = if (endWaits d).length = d.comes.sum then some ⟨[], best (endWaits d), (endWaits d).sum, (endWaits d).length⟩ else none := by
  have e : d.from_ 0 d.comes ⟨[], 0, 0, 0⟩ = standOf d d.comes.length := by
    have := from_is d d.comes.length (Nat.le_refl _)
    rw [List.take_length] at this
    rw [this, (stand_is d h1 h2 _).1]
  unfold Day.end_
  rw [e]
  have := empties_is d h1 h2 200 d.comes.length (Nat.le_refl _)
  rw [came_len] at this
  exact this
/-- the days that are told -/
structure Good (d : Day) : Prop where
  r1 : 1 ≤ d.round
  r2 : d.round ≤ 30
  s1 : 1 ≤ d.seats
  s2 : d.seats ≤ 8
  c1 : 1 ≤ d.cabins
  c2 : d.cabins ≤ 20
  cr : d.cabins ≤ d.round
  len : d.comes.length ≤ 30
  few : ∀ n ∈ d.comes, n ≤ 20
def withC (d : Day) (c : Nat) : Day := { d with cabins := c }
/-- whether so many cabins are enough -/
def enough (d : Day) (w c : Nat) : Prop := (endWaits (withC d c)).length = d.comes.sum ∧ best (endWaits (withC d c)) ≤ w
theorem longest_is (d : Day) (w c : Nat) (h1 : 1 ≤ c) (h2 : c ≤ d.round) : (match (withC d c).longest with
    | none => false
    | some m => decide (m ≤ w)) = true ↔ enough d w c := by
  unfold Day.longest
  rw [end_is (withC d c) h1 h2]
  by_cases e : (endWaits (withC d c)).length = (withC d c).comes.sum
  · rw [if_pos e]
    show decide (best (endWaits (withC d c)) ≤ w) = true ↔ _
    rw [decide_eq_true_eq]
    exact ⟨fun q => ⟨e, q⟩, fun q => q.2⟩
  · rw [if_neg e]
    exact ⟨fun q => Bool.noConfusion q, fun q => absurd q.1 e⟩
theorem fewest_some {d : Day} {w c : Nat} (h1 : 1 ≤ c) (h2 : c ≤ d.round) (h3 : c ≤ 20) (he : enough d w c) (hn : ∀ n, 1 ≤ n → n < c → ¬ enough d w n) : d.fewest w = some c := by
  unfold Day.fewest
  rw [List.find?_range_eq_some]
  refine ⟨?_, ?_, ?_⟩
  · simp only [Bool.and_eq_true, decide_eq_true_eq]
    exact ⟨h1, h2, (longest_is d w c h1 h2).mpr he⟩
  · rw [List.mem_range]
    show c < 20 + 1
    omega
  · intro j hj
    rw [Bool.not_eq_true']
    cases q : decide (1 ≤ j) && (decide (j ≤ d.round) && match ({ d with cabins := j } : Day).longest with
      | none => false
      | some m => decide (m ≤ w)) with
    | false => rfl
    | true =>
      simp only [Bool.and_eq_true, decide_eq_true_eq] at q
      exact absurd ((longest_is d w j q.1 q.2.1).mp q.2.2) (hn j q.1 hj)
theorem fewest_none {d : Day} {w : Nat} (hn : ∀ n, 1 ≤ n → n ≤ d.round → n ≤ 20 → ¬ enough d w n) : d.fewest w = none := by
  unfold Day.fewest
  rw [List.find?_range_eq_none]
  intro j hj
  rw [Bool.not_eq_true']
  cases q : decide (1 ≤ j) && (decide (j ≤ d.round) && match ({ d with cabins := j } : Day).longest with
    | none => false
    | some m => decide (m ≤ w)) with
  | false => rfl
  | true =>
    simp only [Bool.and_eq_true, decide_eq_true_eq] at q
    have hj' : j < 20 + 1 := hj
    exact absurd ((longest_is d w j q.1 q.2.1).mp q.2.2) (hn j q.1 q.2.1 (by omega))
end Cw
namespace Cw
open Uw40 (Day)
theorem good_init : Good Uw40.init := ⟨by decide, by decide, by decide, by decide, by decide, by decide, by decide, by decide, by intro n h; simp [Uw40.init] at h⟩
theorem good_step {d : Day} (G : Good d) (x : Uw40.Call) : Good (Uw40.step d x).1 := by
  cases x with
  | begins r s c =>
    show Good (if r < 1 ∨ 30 < r ∨ s < 1 ∨ 8 < s ∨ c < 1 ∨ 20 < c ∨ r < c then (d, Uw40.ok (-1)) else ((⟨r, s, c, []⟩ : Day), Uw40.ok 0)).1
    split
    · exact G
    · exact ⟨by show 1 ≤ r; omega, by show r ≤ 30; omega, by show 1 ≤ s; omega, by show s ≤ 8; omega, by show 1 ≤ c; omega, by show c ≤ 20; omega, by show c ≤ r; omega, Nat.zero_le _, fun n h => by simp at h⟩
  | come n =>
    show Good (if 20 < n then (d, Uw40.ok (-1)) else if 30 ≤ d.comes.length then (d, Uw40.ok (-5)) else ({ d with comes := d.comes ++ [n] }, Uw40.ok (d.comes.length : Nat))).1
    split
    · exact G
    · split
      · exact G
      · refine ⟨G.r1, G.r2, G.s1, G.s2, G.c1, G.c2, G.cr, ?_, fun m h => ?_⟩
        · show (d.comes ++ [n]).length ≤ 30
          rw [List.length_append]
          simp
          omega
        · rcases List.mem_append.mp h with h | h
          · exact G.few m h
          · rw [List.mem_singleton.mp h]
            omega
  | row t =>
    show Good (if d.comes.length < t then (d, Uw40.ok (-1)) else (d, _)).1
    split <;> exact G
  | times => exact G
  | ends => exact G
  | fewest t =>
    show Good (if 200 < t then (d, Uw40.ok (-1)) else (d, _)).1
    split <;> exact G
/-- which call a number and the numbers behind it are -/
def Says (k : Int) (ns : List Int) : Uw40.Call → Prop
  | .begins r s c => k = 0 ∧ ns = [(r : Int), (s : Int), (c : Int)]
  | .come n => k = 1 ∧ ns = [(n : Int)]
  | .row t => k = 2 ∧ ns = [(t : Int)]
  | .times => k = 3 ∧ ns = []
  | .ends => k = 4 ∧ ns = []
  | .fewest w => k = 5 ∧ ns = [(w : Int)]
theorem back_nums : ∀ {l : List Int}, l.all Uw40Neutral.nat = true → (l.map Int.toNat).map (fun (n : Nat) => (n : Int)) = l
  | [], _ => rfl
  | a :: l, h => by
    rw [List.all_cons, Bool.and_eq_true] at h
    have ha : 0 ≤ a := by
      have := h.1
      unfold Uw40Neutral.nat at this
      simp at this
      exact this.1
    rw [List.map_cons, List.map_cons, back_nums h.2, Int.toNat_of_nonneg ha]
theorem says_of {k : Int} {ns : List Int} {x : Uw40.Call} (h : Uw40Neutral.callOf (k :: ns) = some x) : Says k ns x := by
  unfold Uw40Neutral.callOf at h
  split at h
  · cases h
  · rename_i ha
    have ha' : (k :: ns).all Uw40Neutral.nat = true := by
      cases e : (k :: ns).all Uw40Neutral.nat with
      | true => rfl
      | false => exact absurd e ha
    have e := back_nums ha'
    generalize (k :: ns).map Int.toNat = l at h e
    unfold Uw40Neutral.callIn at h
    split at h
    all_goals (first | (cases h; simp at e; simp [Says, ← e]) | cases h)
theorem call_flat {p : Int} {n : Nat} (hp : PyUw40.shape p = some (n, 0)) (r : List Int) : PyFlat.call PyUw40.shape (p :: r) = if r.length < n then none else some ([p :: r.take n], r.drop n) := by
  show (match PyUw40.shape p with
    | none => none
    | some (n, k) => if r.length < n then none else match PyFlat.rows k (r.drop n) with
      | none => none
      | some (xs, t) => some ((p :: r.take n) :: xs, t)) = _
  rw [hp]
  rfl
/-- how many numbers a call has -/
def manyOf (p : Int) : Nat := if p = 0 then 3 else if p = 1 ∨ p = 2 ∨ p = 5 then 1 else 0
theorem shape_is (p : Int) : (0 ≤ p ∧ p ≤ 5 ∧ PyUw40.shape p = some (manyOf p, 0)) ∨ PyUw40.shape p = none := by
  unfold PyUw40.shape manyOf
  by_cases h0 : p = 0
  · subst h0; exact .inl ⟨by decide, by decide, rfl⟩
  by_cases h1 : p = 1
  · subst h1; exact .inl ⟨by decide, by decide, rfl⟩
  by_cases h2 : p = 2
  · subst h2; exact .inl ⟨by decide, by decide, rfl⟩
  by_cases h3 : p = 3
  · subst h3; exact .inl ⟨by decide, by decide, rfl⟩
  by_cases h4 : p = 4
  · subst h4; exact .inl ⟨by decide, by decide, rfl⟩
  by_cases h5 : p = 5
  · subst h5; exact .inl ⟨by decide, by decide, rfl⟩
  exact .inr (by simp [h0, h1, h2, h3, h4, h5])
theorem whole_is {p : Int} {a : List Int} (h : 0 ≤ p ∧ p ≤ 5) (ha : a.length = manyOf p) : PyUw40.whole [p :: a] = [p :: a] := by
  have hc : p = 0 ∨ p = 1 ∨ p = 2 ∨ p = 3 ∨ p = 4 ∨ p = 5 := by omega
  rcases hc with rfl | rfl | rfl | rfl | rfl | rfl
  · match a, ha with
    | [x, y, z], _ => rfl
  · match a, ha with
    | [x], _ => rfl
  · match a, ha with
    | [x], _ => rfl
  · match a, ha with
    | [], _ => rfl
  · match a, ha with
    | [], _ => rfl
  · match a, ha with
    | [x], _ => rfl
def stepC (s : Day) (c : List (List Int)) : Day × List Int := Uw40Neutral.step s (c.headD [])
/-- what is still to be answered -/
def Rest (l : List Int) (d : Day) (out full : List Int) : Prop := ∃ (f : Nat) (cs : List (List (List Int))), PyFlat.calls PyUw40.shape f l = some cs ∧ (∀ c ∈ cs, (Uw40Neutral.callOf ((PyUw40.whole c).headD [])).isSome = true) ∧
  full = out ++ PyFlat.told (PyFlat.played stepC d (cs.map PyUw40.whole))
theorem rest_nil {d : Day} {out full : List Int} (h : Rest [] d out full) : full = out := by
  obtain ⟨f, cs, h1, _, h3⟩ := h
  have e : cs = [] := by
    cases f <;> exact (Option.some.inj h1).symm
  subst e
  rw [h3]
  show out ++ [] = out
  rw [List.append_nil]
theorem rest_cons {z : Int} {l : List Int} {d : Day} {out full : List Int} (h : Rest (z :: l) d out full) : ∃ x : Uw40.Call, 0 ≤ z ∧ z ≤ 5 ∧ manyOf z ≤ l.length ∧ Says z (l.take (manyOf z)) x ∧
    Rest (l.drop (manyOf z)) (Uw40.step d x).1 (out ++ [((Uw40Neutral.out (Uw40.step d x).2).length : Int)] ++ Uw40Neutral.out (Uw40.step d x).2) full ∧
    out.length + 1 + (Uw40Neutral.out (Uw40.step d x).2).length ≤ full.length := by
  obtain ⟨f, cs, h1, h2, h3⟩ := h
  cases f with
  | zero => cases h1
  | succ f =>
    have h1' : (match PyFlat.call PyUw40.shape (z :: l) with
      | none => none
      | some (c, t) => match PyFlat.calls PyUw40.shape f t with
        | none => none
        | some cs => some (c :: cs)) = some cs := h1
    rcases shape_is z with ⟨z0, z5, hs⟩ | hs
    · rw [call_flat hs] at h1'
      by_cases hl : l.length < manyOf z
      · rw [if_pos hl] at h1'
        cases h1'
      · rw [if_neg hl] at h1'
        dsimp only at h1'
        cases e : PyFlat.calls PyUw40.shape f (l.drop (manyOf z)) with
        | none =>
          rw [e] at h1'
          cases h1'
        | some cs' =>
          rw [e] at h1'
          have e1 : cs = [z :: l.take (manyOf z)] :: cs' := (Option.some.inj h1').symm
          subst e1
          have hlen : (l.take (manyOf z)).length = manyOf z := by
            rw [List.length_take]
            omega
          have hw := whole_is (a := l.take (manyOf z)) ⟨z0, z5⟩ hlen
          have h2a := h2 _ List.mem_cons_self
          rw [hw] at h2a
          obtain ⟨x, hx⟩ := Option.isSome_iff_exists.mp h2a
          have hx' : Uw40Neutral.callOf (z :: l.take (manyOf z)) = some x := hx
          have hst : stepC d [z :: l.take (manyOf z)] = ((Uw40.step d x).1, Uw40Neutral.out (Uw40.step d x).2) := by
            show (match Uw40Neutral.callOf (z :: l.take (manyOf z)) with
              | none => (d, [])
              | some x => ((Uw40.step d x).1, Uw40Neutral.out (Uw40.step d x).2)) = _
            rw [hx']
          have hfull : full = out ++ [((Uw40Neutral.out (Uw40.step d x).2).length : Int)] ++ Uw40Neutral.out (Uw40.step d x).2 ++ PyFlat.told (PyFlat.played stepC (Uw40.step d x).1 (cs'.map PyUw40.whole)) := by
            rw [h3, List.map_cons, hw]
            show out ++ PyFlat.told ((stepC d [z :: l.take (manyOf z)]).2 :: PyFlat.played stepC (stepC d [z :: l.take (manyOf z)]).1 (cs'.map PyUw40.whole)) = _
            rw [hst]
            unfold PyFlat.told
            rw [List.flatMap_cons]
            simp only [List.append_assoc, List.cons_append, List.nil_append]
          refine ⟨x, z0, z5, by omega, says_of hx', ⟨f, cs', e, fun c hc => h2 c (List.mem_cons_of_mem _ hc), hfull⟩, ?_⟩
          rw [hfull]
          simp only [List.length_append, List.length_cons, List.length_nil]
          omega
    · have : PyFlat.call PyUw40.shape (z :: l) = none := by
        show (match PyUw40.shape z with
          | none => none
          | some (n, k) => if l.length < n then none else match PyFlat.rows k (l.drop n) with
            | none => none
            | some (xs, t) => some ((z :: l.take n) :: xs, t)) = none
        rw [hs]
      rw [this] at h1'
      cases h1'
theorem rest_start {ns : List Int} (h : PyUw40.answers_asked ns = true) : Rest ns Uw40.init [] (PyUw40.answers ns) ∧ (PyUw40.answers ns).length ≤ 10000000 := by
  unfold PyUw40.answers_asked at h
  cases e : PyFlat.calls PyUw40.shape ns.length ns with
  | none =>
    rw [e] at h
    cases h
  | some raw =>
    rw [e] at h
    dsimp only at h
    simp only [Bool.and_eq_true] at h
    obtain ⟨⟨⟨⟨_, _⟩, _⟩, h4⟩, h5⟩ := h
    refine ⟨⟨ns.length, raw, e, fun c hc => ?_, ?_⟩, ?_⟩
    · unfold Uw40Neutral.asked at h4
      rw [Bool.and_eq_true, List.all_eq_true] at h4
      exact h4.1 _ (List.mem_map.mpr ⟨_, List.mem_map.mpr ⟨c, hc, rfl⟩, rfl⟩)
    · unfold PyUw40.answers PyUw40.calls
      rw [e]
      rfl
    · unfold PyFlat.short at h5
      exact of_decide_eq_true h5
end Cw
/-! max(xs, default=z) of a list of ints -/
namespace CwMax
open PySem
section
variable {prog : Program} {w : World} {A : Around} {R : Result → Shared → Prop} {I : Addr} {fp wr : List Addr} {n : Nat} {P : Nat → Value → Prop} {St : Nat → Heap → Prop}
theorem nameIs : (toString "max" ++ toString ".loop" : String) = "max.loop" := by decide
def bestObj (vs : Array Value) (c : Nat) : Obj := { cls := .type "list", dict := none, data := .seq vs c, slots := #[] }
/-- the loop from its second item on, whatever keywords it carries -/
theorem goesOn (kw : List (Str × Value)) (W : Walks prog w A.in1 I fp wr n P St) (bt : Nat → Nat → Bool) (cmp : CmpOf prog w A.in1 .Gt P bt) (B : Addr) (nB : B ∉ fp) :
    ∀ (left j : Nat) (s : Shared) (u : Value) (c : Nat), n - (j + 1) = left → j + 1 ≤ n → St (j + 1) s.heap → P (argBest bt j) u → s.heap.get? B = some (bestObj #[u, u] c) →
    (∀ v h' tk, P (argBest bt (n - 1)) v → (∀ b o, b ∉ wr → b ≠ B → s.heap.get? b = some o → h'.get? b = some o) → R (.ok (.ret v)) { s with heap := h', toks := tk }) → codeAny (model prog w) A (.builtin "max.loop" ⟨[.ref I, .none, .ref B], kw⟩) R s := by
  have nW : B ∉ wr := fun z => nB (W.sub _ z)
  intro left
  induction left with
  | zero =>
    intro j s u c e1 e2 st pu hB q
    have e3 : j + 1 = n := by omega
    refine codeAny_builtin F.entry_max_loop ?_; rw [Around.under_plainId F.plain_max_loop _]
    show wpAny _ A.in1 (seqItems? (.ref B) >>= _) _ _ s; refine wpAny_bind (wpAny_seqItems hB rfl ?_)
    show wpAny _ A.in1 (tryCatch (pyNext (.ref I)) _ >>= _) _ _ s; refine wpAny_bind (wpAny_tryCatch (W.done s _ _ (e3 ▸ st) fun g tk kp => ?_))
    have hB2 := kp B _ nW hB
    show wpAny _ A.in1 (updateSeq B (fun _ => #[]) >>= _) _ _ _; refine wpAny_bind (wpAny_updateSeq hB2 rfl (wpAny_bind (wpAny_letGo (wpAny_pure ?_))))
    exact q u _ tk (by rw [← e3]; exact pu) fun b o b1 b2 e => (Heap.get?_update_other _ _ (Ne.symm b2)).trans (kp b o b1 e)
  | succ left ih =>
    intro j s u c e1 e2 st pu hB q
    have e3 : j + 1 < n := by omega
    refine codeAny_builtin F.entry_max_loop ?_; rw [Around.under_plainId F.plain_max_loop _]
    show wpAny _ A.in1 (seqItems? (.ref B) >>= _) _ _ s; refine wpAny_bind (wpAny_seqItems hB rfl ?_)
    show wpAny _ A.in1 (tryCatch (pyNext (.ref I)) _ >>= _) _ _ s; refine wpAny_bind (wpAny_tryCatch (W.item (j + 1) s _ _ e3 st fun v g tk pv st2 kp => ?_))
    have hB2 := kp B _ nW hB
    show wpAny _ A.in1 (tryCatch (holding [v, v] (richCompare .Gt v u >>= _)) _ >>= _) _ _ _; refine wpAny_bind (wpAny_tryCatch (wpAny_holding (wpAny_bind (cmp (j + 1) (argBest bt j) v u _ _ _ pv pu ?_))))
    refine wpAny_bind (wpAny_holding (wpAny_truthy_bool (wpAny_bind (wpAny_letGo (wpAny_pure ?_)))))
    cases hb : bt (j + 1) (argBest bt j) with
    | true =>
      simp only [if_true]
      refine wpAny_bind (wpAny_updateSeq hB2 rfl (wpAny_bind (wpAny_letGo ?_))); rw [nameIs]
      refine wpAny_pure ⟨plainId_quiet F.plain_max_loop _, ih (j + 1) _ v _ (by omega) e3 (W.frame _ _ _ st2 fun b bf o e => (Heap.get?_update_other _ _ (fun z : B = b => nB (by rw [z]; exact bf))).trans e) (by simp only [argBest, hb, if_true]; exact pv) (Heap.get?_update_self _ hB2 rfl) fun v2 g2 tk2 p2 k2 => ?_⟩
      exact q v2 g2 tk2 p2 fun b o b1 b2 e => k2 b o b1 b2 ((Heap.get?_update_other _ _ (Ne.symm b2)).trans (kp b o b1 e))
    | false =>
      simp only [Bool.false_eq_true, if_false]
      refine wpAny_bind (wpAny_letGo ?_); rw [nameIs]
      exact wpAny_pure ⟨plainId_quiet F.plain_max_loop _, ih (j + 1) _ u c (by omega) e3 st2 (by simp only [argBest, hb, Bool.false_eq_true, if_false]; exact pu) hB2 fun v2 g2 tk2 p2 k2 => q v2 g2 tk2 p2 fun b o b1 b2 e => k2 b o b1 b2 (kp b o b1 e)⟩
theorem begins (kw : List (Str × Value)) (W : Walks prog w A.in1 I fp wr n P St) (bt : Nat → Nat → Bool) (cmp : CmpOf prog w A.in1 .Gt P bt) (B : Addr) (nB : B ∉ fp) (hn : 0 < n) {s : Shared} {c : Nat} (st : St 0 s.heap) (hB : s.heap.get? B = some (bestObj #[] c))
    (q : ∀ v h' tk, P (argBest bt (n - 1)) v → (∀ b o, b ∉ wr → b ≠ B → s.heap.get? b = some o → h'.get? b = some o) → R (.ok (.ret v)) { s with heap := h', toks := tk }) : codeAny (model prog w) A (.builtin "max.loop" ⟨[.ref I, .none, .ref B], kw⟩) R s := by
  have nW : B ∉ wr := fun z => nB (W.sub _ z)
  refine codeAny_builtin F.entry_max_loop ?_; rw [Around.under_plainId F.plain_max_loop _]
  show wpAny _ A.in1 (seqItems? (.ref B) >>= _) _ _ s; refine wpAny_bind (wpAny_seqItems hB rfl ?_)
  show wpAny _ A.in1 (tryCatch (pyNext (.ref I)) _ >>= _) _ _ s; refine wpAny_bind (wpAny_tryCatch (W.item 0 s _ _ hn st fun v g tk pv st2 kp => ?_))
  have hB2 := kp B _ nW hB
  show wpAny _ A.in1 (updateSeq B (fun _ => #[v, v]) >>= _) _ _ _; refine wpAny_bind (wpAny_updateSeq hB2 rfl ?_); rw [nameIs]
  refine wpAny_pure ⟨plainId_quiet F.plain_max_loop _, goesOn kw W bt cmp B nB _ 0 _ v _ rfl hn (W.frame _ _ _ st2 fun b bf o e => (Heap.get?_update_other _ _ (fun z : B = b => nB (by rw [z]; exact bf))).trans e) pv (Heap.get?_update_self _ hB2 rfl) fun v2 g2 tk2 p2 k2 => ?_⟩
  exact q v2 g2 tk2 p2 fun b o b1 b2 e => k2 b o b1 b2 ((Heap.get?_update_other _ _ (Ne.symm b2)).trans (kp b o b1 e))
/-- nothing is there: the default -/
theorem empty (x : Str) (z : Value) (W : Walks prog w A.in1 I fp wr n P St) (B : Addr) (hn : n = 0) {s : Shared} {c : Nat} (st : St 0 s.heap) (hB : s.heap.get? B = some (bestObj #[] c))
    (q : ∀ h' tk, (∀ b o, b ∉ wr → b ≠ B → s.heap.get? b = some o → h'.get? b = some o) → R (.ok (.ret z)) { s with heap := h', toks := tk }) : codeAny (model prog w) A (.builtin "max.loop" ⟨[.ref I, .none, .ref B], [(x, z)]⟩) R s := by
  subst hn
  refine codeAny_builtin F.entry_max_loop ?_; rw [Around.under_plainId F.plain_max_loop _]
  show wpAny _ A.in1 (seqItems? (.ref B) >>= _) _ _ s; refine wpAny_bind (wpAny_seqItems hB rfl ?_)
  show wpAny _ A.in1 (tryCatch (pyNext (.ref I)) _ >>= _) _ _ s; refine wpAny_bind (wpAny_tryCatch (W.done s _ _ st fun g tk kp => ?_))
  refine wpAny_bind (wpAny_rule (wpAny_pure ?_))
  exact q g tk fun b o b1 _ e => kp b o b1 e
end
theorem argsDef (a v : Value) : argsOk "max" ⟨[a], [(Str.ofString "default", v)]⟩ := by unfold argsOk; kernel_rfl
section
variable {prog : Program} {w : World} {A : Around} {E : Value → Shared → Prop} {s : Shared} {l : Addr} {xs : Array (Int × Tok)} {z : Value}
theorem ofInts {Q : Value → Shared → Prop} (hh : A.handled = none) (hl : s.heap.IsList l (intItems xs))
    (h0 : xs.size = 0 → ∀ h' tk, (∀ b o, s.heap.get? b = some o → h'.get? b = some o) → Q z { s with heap := h', toks := tk })
    (h1 : 0 < xs.size → ∀ v h' tk, (intItems xs)[argBest (fun i j => decide (numAt xs i > numAt xs j)) (xs.size - 1)]? = some v → (∀ b o, s.heap.get? b = some o → h'.get? b = some o) → Q v { s with heap := h', toks := tk }) :
    wpAny (model prog w) A (call (.builtin "max") [.ref l] [(Str.ofString "default", z)]) Q E s := by
  refine PyProof.Rows.kmk_tree PySem.F.kind_max PySem.F.plain_max PySem.F.entry_max (argsDef _ _) ?_
  show wpAny _ A.in1 (Builtin.Builtins.bindParams "max" ["key", "default"] 0 ⟨[], [(Str.ofString "default", z)]⟩ >>= _) _ _ s
  refine wpAny_bind (wpAny_of_eq (show Builtin.Builtins.bindParams "max" ["key", "default"] 0 ⟨[], [(Str.ofString "default", z)]⟩ = pure [none, some z] from rfl) ?_)
  refine wpAny_bind (wpAny_pure (wpAny_bind (iter_intList hl fun s2 e st fp lI => ?_)))
  subst e
  refine wpAny_bind (wpAny_newObj_type ?_); rw [nameIs]
  have nB : (s.heap.push { cls := .type "list_iterator", data := .fields #[.ref l, .int 0 0] }).objs.size ∉ [s.heap.objs.size, l] := fun m => Nat.lt_irrefl _ (fp _ m)
  have W := Walks.list (prog := prog) (w := w) (A := A.in1) hh s.heap.objs.size l lI (intItems xs)
  have hz : (intItems xs).size = xs.size := by simp [intItems]
  by_cases c : 0 < xs.size
  · refine wpAny_pure ⟨plainId_quiet F.plain_max_loop _, begins _ W (fun i j => decide (numAt xs i > numAt xs j)) (CmpOf.ints_gt (numAt xs) fun _ _ => intItems_at) _ nB (by rw [hz]; exact c) (W.frame _ _ _ st fun b _ o e => Heap.get?_push_of_some _ e) (Heap.get?_push_size _ rfl) fun v h' tk p k => ?_⟩
    exact h1 c v h' tk (by rw [← hz]; exact p) (old_kept fun b o b1 e => k b o b1 (Nat.ne_of_lt (Heap.lt_size e)) (Heap.get?_push_of_some _ e))
  · refine wpAny_pure ⟨plainId_quiet F.plain_max_loop _, empty _ z W _ (by rw [hz]; omega) (W.frame _ _ _ st fun b _ o e => Heap.get?_push_of_some _ e) (Heap.get?_push_size _ rfl) fun h' tk k => ?_⟩
    exact h0 (by omega) h' tk (old_kept fun b o b1 e => k b o b1 (Nat.ne_of_lt (Heap.lt_size e)) (Heap.get?_push_of_some _ e))
end
end CwMax
namespace Cw
open PySem PySem.Spec PyProof.Rows L2
variable {X : Cx}
@[irreducible] def rMaxZ (K : PySem.W.Frag) : List V → List V → Hp → VK → Prop := fun vs zs H Q => ∃ (a : Addr) (ns : List Int) (z : Int), vs = [V.ref a] ∧ zs = [V.int z] ∧ SqL K H a (ns.map V.int) ∧
  (ns = [] → Q (.int z) H) ∧ ∀ m, m ∈ ns → (∀ y, y ∈ ns → y ≤ m) → Q (.int m) H
theorem cr_maxZ (hc : X.calm = true) : CallRK X (.builtin "max") [Str.ofString "default"] (rMaxZ X.K) := by
  intro pins s σ H vs zs us ws Q I r rz h
  unfold rMaxZ at h
  obtain ⟨a, ns, z, rfl, rfl, hs, q0, q1⟩ := h
  obtain rfl := Vals.ref1 r
  obtain ⟨w1, rfl, tz, rfl⟩ := vals1 rz
  obtain ⟨its, rv, hl, _⟩ := I.list hs
  have hi := rv.ints
  have hL := hl.isList
  obtain ⟨ys, e⟩ := hi.allInts.items
  have hn : numsOf (intItems ys).toList = ns := by rw [← e]; exact hi.numsOf
  rw [nums_intItems] at hn
  subst hn
  rw [e] at hL
  refine CwMax.ofInts (I.ok.hd hc) hL (fun hz h' tk hk => ?_) fun hz v h' tk hv hk => ?_
  · exact ⟨.int _, H, I.kept hk, ⟨_, rfl⟩, q0 (by have : ys = #[] := Array.eq_empty_of_size_eq_zero hz; subst this; rfl)⟩
  · obtain ⟨t, rfl⟩ := intItems_at hv
    have hb := argBest_gt (numAt ys) (ys.size - 1)
    refine ⟨.int _, H, I.kept hk, ⟨_, rfl⟩, q1 _ ?_ fun y hy => ?_⟩
    · rw [numAt_eq]; exact PySem.getD_mem (by rw [List.length_map, Array.length_toList]; omega)
    · obtain ⟨j, hj, rfl⟩ := mem_getD hy
      rw [List.length_map, Array.length_toList] at hj; rw [← numAt_eq]; exact hb.2 j (by omega)
end Cw
namespace Cw
open PySem PySem.Spec PyProof.Rows L2
/-! ### the text -/
def top (i : Nat) : Stmt := PySem.Challenge.pw_cabinwait_s01_answers.main.body.getD i (.Pass ⟨0, 0, 0, 0⟩)
abbrev sMost : Stmt := top 14
abbrev sIsDay : Stmt := top 15
abbrev sFirst : Stmt := top 16
abbrev sComing : Stmt := top 17
abbrev sInit : Stmt := inClass (top 18) 0
abbrev sBegins : Stmt := inClass (top 18) 1
abbrev sCome : Stmt := inClass (top 18) 2
abbrev sRow : Stmt := inClass (top 18) 3
abbrev sTimes : Stmt := inClass (top 18) 4
abbrev sEnds : Stmt := inClass (top 18) 5
abbrev sFewest : Stmt := inClass (top 18) 6
abbrev sTill : Stmt := inClass (top 18) 7
abbrev sHave : Stmt := inClass (top 18) 8
abbrev sGone : Stmt := inClass (top 18) 9
abbrev sAnsOf : Stmt := top 19
abbrev sAns : Stmt := top 20
/-! ### lists of numbers -/
def nums (l : List Nat) : List Int := l.map fun (n : Nat) => (n : Int)
def nl (l : List Nat) : List V := (nums l).map V.int
theorem nl_len (l : List Nat) : (nl l).length = l.length := by
  unfold nl nums
  rw [List.length_map, List.length_map]
theorem nl_app (a b : List Nat) : nl (a ++ b) = nl a ++ nl b := by
  unfold nl nums
  rw [List.map_append, List.map_append]
theorem nl_get {l : List Nat} {i : Nat} {x : V} (h : (nl l)[i]? = some x) : ∃ n : Nat, l[i]? = some n ∧ x = V.int (n : Int) := by
  unfold nl nums at h
  rw [List.getElem?_map, List.getElem?_map] at h
  cases e : l[i]? with
  | none =>
    rw [e] at h
    cases h
  | some n =>
    rw [e] at h
    exact ⟨n, rfl, (Option.some.inj h).symm⟩
theorem nl_at {l : List Nat} {i n : Nat} (h : l[i]? = some n) : (nl l)[i]? = some (V.int (n : Int)) := by
  unfold nl nums
  rw [List.getElem?_map, List.getElem?_map, h]
  rfl
theorem small {n : Nat} (h : n ≤ 100000) : n < sizeLine := Nat.lt_of_le_of_lt h (by decide)
theorem smallLe {n : Nat} (h : n ≤ 100000) : n ≤ sizeLine := Nat.le_trans h (by decide)
theorem pe_const {X : Cx} {x : Str} {pos : Pos} {i : Int} {t : Tok} (hg : Gl X x) (hm : X.mg x = some (.int i t)) (h2 : (x == ("__debug__" : Str)) = false := by decide) : PE X (.Name x pos) (tC (.int i)) :=
  have r : RelV (.int i) (.int i t) := ⟨t, rfl⟩
  pe_glob hg hm r h2
/-! ### what the top has written, but for the class -/
structure Top (mg : Str → Option Value) : Prop where
  mrm : ∃ t, mg "MOST_ROUND_MINUTES" = some (.int 30 t)
  mst : ∃ t, mg "MOST_SEATS" = some (.int 8 t)
  mcb : ∃ t, mg "MOST_CABINS" = some (.int 20 t)
  mpp : ∃ t, mg "MOST_PEOPLE" = some (.int 20 t)
  mtm : ∃ t, mg "MOST_TOLD_MINUTES" = some (.int 30 t)
  mmm : ∃ t, mg "MOST_MINUTES_MORE" = some (.int 200 t)
  mwl : ∃ t, mg "MOST_WAIT_LET" = some (.int 200 t)
  kB : ∃ t, mg "BEGINS" = some (.int 0 t)
  kC : ∃ t, mg "COME" = some (.int 1 t)
  kR : ∃ t, mg "ROW" = some (.int 2 t)
  kT : ∃ t, mg "TIMES" = some (.int 3 t)
  kE : ∃ t, mg "ENDS" = some (.int 4 t)
  len : mg "len" = none
  min : mg "min" = none
  max : mg "max" = none
  sum : mg "sum" = none
  range : mg "range" = none
section
variable {P : Program} {w : World} {K : PySem.W.Frag} {mg : Str → Option Value} {base : Heap}
/-! ### most_cabins -/
def spMost : Sp := fun vs H Q _ => ∃ r : Nat, vs = [.int (r : Int)] ∧ Q (.int ((min 20 r : Nat) : Int)) H
theorem scMost : FnScope ["round_minutes"] ["round_minutes"] (defScope sMost) := ⟨rfl, rfl, rfl, by decide +kernel, rfl, by decide +kernel, by decide +kernel⟩
theorem ok_most {f : Addr} {fd : FuncData} (F : Fun K "most_cabins" "most_cabins" sMost f fd) (T : Top mg) : FnOk P w K mg base CX0 1 f fd ["round_minutes"] spMost := by
  obtain ⟨t20, e20⟩ := T.mcb
  refine F.ok scMost (fun vs H Q E h => ?_) (fun cdv A outer s H vs Q E hr h => ⟨_, pss_one (ps_ret (pe_callB (call_min2 rfl) (by rfl) T.min boot_min (pa_cons (pe_const rfl e20) (pa_cons (pv 0) pa_nil)))), ?_⟩)
  · obtain ⟨r, rfl, _⟩ := h
    rfl
  · obtain ⟨r, rfl, q⟩ := h
    refine ⟨_, rfl, _, _, rfl, ?_⟩
    have e : (if (r : Int) < 20 then (r : Int) else 20) = ((min 20 r : Nat) : Int) := by
      split <;> omega
    rw [e]
    exact q
/-! ### is_day -/
def dayOk (r s c : Nat) : Bool := decide (1 ≤ r ∧ r ≤ 30 ∧ 1 ≤ s ∧ s ≤ 8 ∧ 1 ≤ c ∧ c ≤ min 20 r)
def spIsDay : Sp := fun vs H Q _ => ∃ r s c : Nat, vs = [.int (r : Int), .int (s : Int), .int (c : Int)] ∧ Q (.bl (dayOk r s c)) H
theorem scIsDay : FnScope ["round_minutes", "seats", "cabins"] ["round_minutes", "seats", "cabins"] (defScope sIsDay) := ⟨rfl, rfl, rfl, by decide +kernel, rfl, by decide +kernel, by decide +kernel⟩
theorem chain_is {k : Bool} {A B : Prop} (hk : k = true → A) (hn : k = false → B) : if k = true then A else B := by
  cases k with
  | true => exact iteT (hk rfl)
  | false => exact iteF (hn rfl)
theorem ok_isDay {f fM : Addr} {fd fdM : FuncData} (F : Fun K "is_day" "is_day" sIsDay f fd) (T : Top mg) (FM : Fun K "most_cabins" "most_cabins" sMost fM fdM) (bM : Binds K fdM ["round_minutes"] []) (gM : mg "most_cabins" = some (.ref fM)) :
    FnOk P w K mg base CX0 2 f fd ["round_minutes", "seats", "cabins"] spIsDay := by
  obtain ⟨t1, e1⟩ := T.mrm
  obtain ⟨t2, e2⟩ := T.mst
  have GM : FnOk P w K mg base CX0 1 fM fdM ["round_minutes"] spMost := ok_most FM T
  refine F.ok scIsDay (fun vs H Q E h => ?_) (fun cdv A outer s H vs Q E hr h => ⟨_, pss_cons (ps_if (pt_not (pt_chain op_le op_le pe_int (pv 0) (pe_const rfl e1))) (pss_one (ps_ret pe_bl)) pss_nil)
    (pss_cons (ps_if (pt_not (pt_chain op_le op_le pe_int (pv 1) (pe_const rfl e2))) (pss_one (ps_ret pe_bl)) pss_nil)
    (pss_one (ps_ret (pe_chain op_le op_le pe_int (pv 2) (pe_call GM hr rfl gM FM.kp bM .nil pass0 (pa_cons (pv 0) pa_nil)))))), ?_⟩)
  · obtain ⟨r, x, c, rfl, _⟩ := h
    rfl
  · obtain ⟨r, x, c, rfl, q⟩ := h
    have no : ∀ b, dayOk r x c = b → Q (.bl b) H := fun b e => by
      rw [← e]
      exact q
    have q2 : ∀ b : Bool, (b = true ↔ 1 ≤ r ∧ r ≤ 30 ∧ 1 ≤ x ∧ x ≤ 8 ∧ 1 ≤ c ∧ c ≤ min 20 r) → Q (.bl b) H := fun b e => no b (by
      unfold dayOk
      cases b with
      | true => exact decide_eq_true (e.mp rfl)
      | false => exact decide_eq_false fun z => Bool.noConfusion (e.mpr z))
    refine ⟨_, rfl, _, _, rfl, rfl, _, rfl, chain_is (fun k1 => ?_) (fun k1 => ?_)⟩
    · have k1' := of_decide_eq_true k1
      refine ⟨_, _, rfl, rfl, _, rfl, chain_is (fun k2 => ?_) (fun k2 => ?_)⟩
      · simp at k2
        exact q2 false (by simp; omega)
      · simp at k2
        refine ⟨_, rfl, _, _, rfl, rfl, _, rfl, chain_is (fun k3 => ?_) (fun k3 => ?_)⟩
        · have k3' := of_decide_eq_true k3
          refine ⟨_, _, rfl, rfl, _, rfl, chain_is (fun k4 => ?_) (fun k4 => ?_)⟩
          · simp at k4
            exact q2 false (by simp; omega)
          · simp at k4
            refine ⟨_, rfl, _, _, rfl, rfl, _, rfl, chain_is (fun k5 => ?_) (fun k5 => ?_)⟩
            · have k5' := of_decide_eq_true k5
              refine ⟨_, rfl, r, rfl, _, _, rfl, rfl, q2 _ ?_⟩
              rw [decide_eq_true_eq]
              omega
            · have k5' := of_decide_eq_false k5
              exact q2 false (by simp; omega)
        · have k3' := of_decide_eq_false k3
          exact ⟨_, rfl, iteT (q2 false (by simp; omega))⟩
    · have k1' := of_decide_eq_false k1
      exact ⟨_, rfl, iteT (q2 false (by simp; omega))⟩
end
end Cw
namespace Cw
open PySem PySem.Spec PyProof.Rows L2
section
variable {P : Program} {w : World} {K : PySem.W.Frag} {mg : Str → Option Value} {base : Heap}
/-! ### first_minutes -/
def spFirst : Sp := fun vs H Q _ => ∃ r c : Nat, vs = [.int (r : Int), .int (c : Int)] ∧ 1 ≤ c ∧ c ≤ 20 ∧ r ≤ 30 ∧
  ∀ (H' : Hp) (p : Addr), Same H H' → H p = none → H' p = some (.lst (nl (firsts r c))) → Q (.ref p) H'
theorem scFirst : FnScope ["round_minutes", "cabins", "cabin"] ["round_minutes", "cabins"] (defScope sFirst) := ⟨rfl, rfl, rfl, by decide +kernel, rfl, by decide +kernel, by decide +kernel⟩
theorem firsts_part (r c i : Nat) : nl ((List.range (i + 1)).map fun j => j * r / c) = nl ((List.range i).map fun j => j * r / c) ++ [V.int ((i * r / c : Nat) : Int)] := by
  rw [List.range_succ, List.map_append, nl_app]
  rfl
theorem Same.newer {H H' : Hp} {D : Addr} {o : HO} (hD : H D = none) (s : Same H H') : Same H (upd H' D o) := fun b u e => by
  rw [upd_ne (ne_of_none e hD)]
  exact s b u e
theorem yes_of {σ : L2.St} {H : Hp} {A B : Hp → Prop} (h : A H) : tYes σ H (fun b H3 => if b = true then A H3 else B H3) := by
  show if true = true then A H else B H
  exact if_pos rfl ▸ h
theorem ok_first {f : Addr} {fd : FuncData} (F : Fun K "first_minutes" "first_minutes" sFirst f fd) (T : Top mg) : FnOk P w K mg base CX0 1 f fd ["round_minutes", "cabins"] spFirst := by
  refine F.ok scFirst (fun vs H Q E h => ?_) (fun cdv A outer s H vs Q E hr h => ⟨_, pss_one (ps_ret (pe_lc (own := [("cabin", 2)]) (g := gName 2) (tt := tYes) rfl scFirst.nd (pi_range1 rfl T.range (pa_cons (pv 1) pa_nil))
    (blkOk_by (N := ["round_minutes", "cabins", "cabin"]) (sc := defScope sFirst) (by decide +kernel)) (fun _ _ _ _ _ => pg_name (i := 2) scFirst.nd rfl (Or.inl rfl)) (fun _ _ _ _ _ => pts_nil) (fun _ _ _ _ _ => pe_op op_fdiv (pe_op op_mul (pv 2) (pv 0)) (pv 1)))), ?_⟩)
  · obtain ⟨r, c, rfl, _⟩ := h
    rfl
  · obtain ⟨r, c, rfl, h1, h2, h3, q⟩ := h
    refine ⟨_, rfl, (c : Int), rfl, by omega, by omega, fun D hD => ?_⟩
    refine lc_range (lo := 0) (n := (c : Int).toNat) (fun i H' => Same H H' ∧ H' D = some (.lst (nl ((List.range i).map fun j => j * r / c)))) ⟨Same.newer hD (Same.refl H), upd_same⟩ (fun i H' hi p => ?_) (fun H' p => ?_)
    · obtain ⟨p1, p2⟩ := p
      refine ⟨rfl, ?_⟩
      refine yes_of ?_
      refine ⟨_, rfl, _, rfl, _, _, rfl, rfl, .inl ⟨by omega, by omega⟩, _, rfl, _, _, rfl, rfl, ⟨by omega, by omega⟩, _, p2, ?_, Same.newer hD p1, ?_⟩
      · rw [nl_len, List.length_map, List.length_range]
        exact small (by omega)
      · rw [firsts_part]
        have e : ((0 : Int) + (i : Int)) * (r : Int) / (c : Int) = ((i * r / c : Nat) : Int) := by
          rw [Int.zero_add]
          norm_cast
        rw [← e]
        exact upd_same
    · exact q H' D p.1 hD p.2
/-! ### coming_minutes -/
def spComing (K : PySem.W.Frag) : Sp := fun vs H Q _ => ∃ (a : Addr) (l : List Nat), vs = [.ref a] ∧ SqL K H a (nl l) ∧ l.length ≤ 30 ∧ (∀ n ∈ l, n ≤ 20) ∧
  ∀ (H' : Hp) (p : Addr), Same H H' → H p = none → H' p = some (.lst (nl (came 0 l))) → Q (.ref p) H'
theorem scComing : FnScope ["people", "came", "minute"] ["people"] (defScope sComing) := ⟨rfl, rfl, rfl, by decide +kernel, rfl, by decide +kernel, by decide +kernel⟩
theorem rep_nl (m n : Nat) : (List.replicate ((n : Int).toNat) [V.int (m : Int)]).flatten = nl (List.replicate n m) := by
  rw [Int.toNat_natCast]
  unfold nl nums
  rw [List.map_replicate, List.map_replicate]
  induction n with
  | zero => rfl
  | succ n ih => rw [List.replicate_succ, List.replicate_succ, List.flatten_cons, ih]; rfl
theorem sum_few : ∀ (l : List Nat), (∀ n ∈ l, n ≤ 20) → l.sum ≤ 20 * l.length
  | [], _ => by simp
  | a :: l, h => by
    have := sum_few l fun n hn => h n (List.mem_cons_of_mem _ hn)
    have := h a List.mem_cons_self
    rw [List.sum_cons, List.length_cons]
    omega
theorem came_take (l : List Nat) (i n : Nat) (h : l[i]? = some n) : came 0 (l.take (i + 1)) = came 0 (l.take i) ++ List.replicate n i := by
  have hi : i < l.length := (List.getElem?_eq_some_iff.mp h).1
  rw [List.take_add_one, h, Option.toList_some, came_snoc, List.length_take, Nat.min_eq_left (by omega), Nat.zero_add]
theorem ok_coming {f : Addr} {fd : FuncData} (F : Fun K "coming_minutes" "coming_minutes" sComing f fd) (T : Top mg) : FnOk P w K mg base CX0 1 f fd ["people"] (spComing K) := by
  refine F.ok scComing (fun vs H Q E h => ?_) (fun cdv A outer s H vs Q E hr h => ⟨_, pss_cons (ps_set (i := 1) scComing.nd rfl (Or.inl rfl) (pe_lst pa_nil))
    (pss_cons (ps_for PassesOwn.never rfl (pi_range1 rfl T.range (pa_cons (pe_callB call_len_seq (by rfl) T.len PySem.boot_len (pa_cons (pv 0) pa_nil)) pa_nil)) (pg_name (i := 2) scComing.nd rfl (Or.inl rfl))
      (pss_one (ps_expr (pe_bm PySem.F.plainAttrs_list PySem.F.slot_list_extend PySem.F.type_list_extend mt_extend (pv 1) (pa_cons (pe_op op_rep (pe_lst (pa_cons (pv 2) pa_nil)) (pe_ix ix_list (pv 0) (pv 2) (fun _ _ => rfl))) pa_nil)))))
    (pss_one (ps_ret (pv 1)))), ?_⟩)
  · obtain ⟨a, l, rfl, _⟩ := h
    rfl
  · obtain ⟨a, l, rfl, hS, hlen, hfew, q⟩ := h
    refine ⟨Nat.zero_le _, fun D hD => ?_⟩
    have hS1 : SqL K (upd H D (.lst [])) a (nl l) := Same.seq (Same.newer hD (Same.refl H)) hS
    refine ⟨_, rfl, a, _, rfl, .inl hS1, _, rfl, by rw [nl_len]; omega, by rw [nl_len]; omega, ?_⟩
    refine for_range (lo := 0) (fun i σ H' => ∃ v : Option V, σ = [some (.ref a), some (.ref D), v] ∧ Same H H' ∧ H' D = some (.lst (nl (came 0 (l.take i))))) ⟨none, rfl, Same.newer hD (Same.refl H), upd_same⟩ (fun i σ H' hi p => ?_) (fun σ H' p => ?_)
    · obtain ⟨v, rfl, p1, p2⟩ := p
      rw [Int.toNat_natCast, nl_len] at hi
      have hg : l[i]? = some l[i] := List.getElem?_eq_getElem hi
      have hle : l[i] ≤ 20 := hfew _ (List.getElem_mem hi)
      refine ⟨_, rfl, .inl ⟨rfl, _, SqL.of p2⟩, ?_⟩
      refine ⟨_, rfl, (by show 1 ≤ sizeLine; decide), fun B hB => ?_⟩
      have s2 : Same H (upd H' B (.lst [V.int (0 + (i : Int))])) := Same.newer (p1.free hB) p1
      refine ⟨_, rfl, _, rfl, a, nl l, _, V.int ((l[i] : Nat) : Int), rfl, rfl, Same.seq s2 hS, at_of (j := i) (Int.zero_add _) (nl_at hg), ?_⟩
      refine ⟨B, _, _, rfl, rfl, upd_same, by omega, by omega, ?_, fun B2 hB2 => ?_⟩
      · rw [Int.toNat_natCast]
        exact smallLe (by simp; omega)
      · have nDB : D ≠ B := ne_of_none p2 hB
        have p2' : (upd H' B (.lst [V.int (0 + (i : Int))])) D = some (.lst (nl (came 0 (l.take i)))) := by
          rw [upd_ne nDB]
          exact p2
        have nDB2 : D ≠ B2 := ne_of_none p2' hB2
        refine ⟨D, B2, nl (came 0 (l.take i)), _, rfl, rfl, ?_, upd_same, ?_, ?_⟩
        · rw [upd_ne nDB2]
          exact p2'
        · rw [Int.toNat_natCast, nl_len, came_len]
          have := sum_few (l.take i) fun n hn => hfew n (List.mem_of_mem_take hn)
          have : (l.take i).length ≤ 30 := by rw [List.length_take]; omega
          simp
          exact smallLe (by omega)
        · refine ⟨_, rfl, ?_, ?_⟩
          · exact Same.newer hD (Same.newer (s2.free hB2) s2)
          · rw [upd_same, came_take l i _ hg, nl_app, Int.zero_add, rep_nl]
    · obtain ⟨v, rfl, p1, p2⟩ := p
      rw [Int.toNat_natCast, nl_len, List.take_length] at p2
      exact ⟨_, rfl, q H' D p1 hD p2⟩
end
end Cw
namespace Cw
open PySem PySem.Spec PyProof.Rows L2
open Uw40 (Day)
/-! ### the day in the heap -/
def dF (d : Day) (p : Addr) : List (Str × V) := [("round_minutes", .int (d.round : Int)), ("seats", .int (d.seats : Int)), ("cabins", .int (d.cabins : Int)), ("people", .ref p)]
def DayP (C : Addr) (H : Hp) (a p : Addr) (d : Day) : Prop := (∃ dx, H a = some (.ins C dx (dF d p))) ∧ H p = some (.lst (nl d.comes))
theorem DayP.same {C : Addr} {H H' : Hp} {a p : Addr} {d : Day} (s : Same H H') (h : DayP C H a p d) : DayP C H' a p d := by
  obtain ⟨⟨dx, h1⟩, h2⟩ := h
  exact ⟨⟨dx, s _ _ h1⟩, s _ _ h2⟩
theorem lkHere {k : Str} {v : V} {r : List (Str × V)} : List.lookup k ((k, v) :: r) = some v := by
  have e : (k == k) = true := beq_self_eq_true k
  simp only [List.lookup, e]
theorem lkPast {k g : Str} {v : V} {r : List (Str × V)} (h : (k == g) = false) : List.lookup k ((g, v) :: r) = List.lookup k r := by
  simp only [List.lookup, h]
theorem putHere {f : Str} {v x : V} {r : List (Str × V)} : putF f v ((f, x) :: r) = (f, v) :: r := if_pos rfl
theorem putPast {f g : Str} {v x : V} {r : List (Str × V)} (h : ¬ g = f) : putF f v ((g, x) :: r) = (g, x) :: putF f v r := if_neg h
theorem dF_round (d : Day) (p : Addr) : (dF d p).lookup ("round_minutes" : Str) = some (.int (d.round : Int)) := lkHere
theorem dF_seats (d : Day) (p : Addr) : (dF d p).lookup ("seats" : Str) = some (.int (d.seats : Int)) := (lkPast (by decide +kernel)).trans lkHere
theorem dF_cabins (d : Day) (p : Addr) : (dF d p).lookup ("cabins" : Str) = some (.int (d.cabins : Int)) := (lkPast (by decide +kernel)).trans ((lkPast (by decide +kernel)).trans lkHere)
theorem dF_people (d : Day) (p : Addr) : (dF d p).lookup ("people" : Str) = some (.ref p) := (lkPast (by decide +kernel)).trans ((lkPast (by decide +kernel)).trans ((lkPast (by decide +kernel)).trans lkHere))
theorem dF_not {d : Day} {p : Addr} {m : Str} (h1 : (m == ("round_minutes" : Str)) = false) (h2 : (m == ("seats" : Str)) = false) (h3 : (m == ("cabins" : Str)) = false) (h4 : (m == ("people" : Str)) = false) : (dF d p).lookup m = none :=
  (lkPast h1).trans ((lkPast h2).trans ((lkPast h3).trans ((lkPast h4).trans rfl)))
structure Txt (K : PySem.W.Frag) (mg : Str → Option Value) (C : Addr) : Prop where
  cl : Cls K C
  nR : NoAttr K C "round_minutes"
  nS : NoAttr K C "seats"
  nC : NoAttr K C "cabins"
  nP : NoAttr K C "people"
  gC : mg "Day" = some (.ref C)
section
variable {P : Program} {w : World} {K : PySem.W.Frag} {mg : Str → Option Value} {base : Heap} {C : Addr}
/-! ### __init__ -/
def spInit (C : Addr) : Sp := fun vs H Q _ => ∃ (x dx : Addr), vs = [.ref x] ∧ H x = some (.ins C dx []) ∧
  ∀ (H' : Hp) (p : Addr), DayP C H' x p Uw40.init → H p = none → (∀ b o, H b = some o → b ≠ x → H' b = some o) → Q .non H'
theorem scInit : FnScope ["self"] ["self"] (defScope sInit) := ⟨rfl, rfl, rfl, by decide +kernel, rfl, by decide +kernel, by decide +kernel⟩
theorem dF_new (p : Addr) : putF "people" (.ref p) (putF "cabins" (.int 1) (putF "seats" (.int 1) (putF "round_minutes" (.int 1) []))) = dF Uw40.init p := by
  have e1 : putF "seats" (.int 1) (putF "round_minutes" (.int 1) []) = ([("round_minutes", .int 1), ("seats", .int 1)] : List (Str × V)) := (putPast (by decide +kernel)).trans rfl
  have e2 : putF "cabins" (.int 1) ([("round_minutes", .int 1), ("seats", .int 1)] : List (Str × V)) = ([("round_minutes", .int 1), ("seats", .int 1), ("cabins", .int 1)] : List (Str × V)) := (putPast (by decide +kernel)).trans (congrArg _ ((putPast (by decide +kernel)).trans rfl))
  have e3 : putF "people" (.ref p) ([("round_minutes", .int 1), ("seats", .int 1), ("cabins", .int 1)] : List (Str × V)) = ([("round_minutes", .int 1), ("seats", .int 1), ("cabins", .int 1), ("people", .ref p)] : List (Str × V)) :=
    (putPast (by decide +kernel)).trans (congrArg _ ((putPast (by decide +kernel)).trans (congrArg _ ((putPast (by decide +kernel)).trans rfl))))
  rw [e1, e2, e3]
  rfl
theorem ok_init {f : Addr} {fd : FuncData} (F : Fun K "__init__" "Day.__init__" sInit f fd) (T : Txt K mg C) : FnOk P w K mg base CX0 1 f fd ["self"] (spInit C) := by
  refine F.ok scInit (fun vs H Q E h => ?_) (fun cdv A outer s H vs Q E hr h => ⟨_, pss_cons (ps_fld (pv 0) pe_int rfl) (pss_cons (ps_fld (pv 0) pe_int rfl) (pss_cons (ps_fld (pv 0) pe_int rfl) (pss_one (ps_fld (pv 0) (pe_lst pa_nil) rfl)))), ?_⟩)
  · obtain ⟨x, dx, rfl, _⟩ := h
    rfl
  · obtain ⟨x, dx, rfl, hx, q⟩ := h
    refine ⟨_, rfl, x, C, dx, [], rfl, hx, T.cl, T.nR, (by show 0 < 1000; decide), ?_⟩
    refine ⟨_, rfl, x, C, dx, _, rfl, upd_same, T.cl, T.nS, (by show 1 < 1000; decide), ?_⟩
    refine ⟨_, rfl, x, C, dx, _, rfl, upd_same, T.cl, T.nC, (by show 2 < 1000; decide), ?_⟩
    refine ⟨Nat.zero_le _, fun p hp => ?_⟩
    have hpx : x ≠ p := ne_of_none upd_same hp
    rw [upd_ne hpx.symm, upd_ne hpx.symm, upd_ne hpx.symm] at hp
    refine ⟨_, rfl, x, C, dx, _, rfl, (by rw [upd_ne hpx]; exact upd_same), T.cl, T.nP, (by show 3 < 1000; decide), ?_⟩
    refine q _ p ⟨⟨dx, ?_⟩, ?_⟩ hp fun b o e hb => ?_
    · rw [upd_same, dF_new]
    · rw [upd_ne hpx.symm, upd_same]
      rfl
    · rw [upd_ne hb, upd_ne (ne_of_none e hp), upd_ne hb, upd_ne hb, upd_ne hb]
      exact e
end
end Cw
namespace Cw
open PySem PySem.Spec PyProof.Rows L2
open Uw40 (Day)
theorem nl_drop (l : List Nat) (n : Nat) : nl (l.drop n) = (nl l).drop n := by
  unfold nl nums
  rw [List.map_drop, List.map_drop]
theorem nl_take (l : List Nat) (n : Nat) : nl (l.take n) = (nl l).take n := by
  unfold nl nums
  rw [List.map_take, List.map_take]
/-- xs[g:g + s] -/
theorem cut_mid (l : List Nat) (g s : Nat) (hg : g ≤ l.length) : cutV (nl l) (some (g : Int)) (some ((g : Int) + (s : Int))) = nl ((l.drop g).take s) := by
  have e : ((g : Int) + (s : Int)) = ((g + s : Nat) : Int) := by omega
  unfold cutV
  rw [e, HT.sIx_nat, HT.sIx_nat, nl_len, nl_take, nl_drop, Nat.min_eq_left hg]
  by_cases c : g + s ≤ l.length
  · rw [Nat.min_eq_left c]
    congr 1
    omega
  · rw [Nat.min_eq_right (by omega), List.take_of_length_le, List.take_of_length_le]
    · rw [List.length_drop, nl_len]
      omega
    · rw [List.length_drop, nl_len]
      omega
/-- xs[g:] -/
theorem cut_from (l : List Nat) (g : Nat) (hg : g ≤ l.length) : cutV (nl l) (some (g : Int)) none = nl (l.drop g) := by
  unfold cutV
  rw [HT.sIx_nat, HT.sIx_none, nl_len, nl_drop, Nat.min_eq_left hg, List.take_of_length_le]
  rw [List.length_drop, nl_len]
  omega
/-- xs[:g] -/
theorem cut_to (l : List Nat) (g : Nat) : cutV (nl l) none (some (g : Int)) = nl (l.take g) := by
  unfold cutV
  rw [HT.sIx_nat, HT.sIx_none, nl_len, nl_take, List.drop_zero, Nat.sub_zero]
  by_cases c : g ≤ l.length
  · rw [Nat.min_eq_left c]
  · rw [Nat.min_eq_right (by omega), List.take_of_length_le, List.take_of_length_le]
    · rw [nl_len]
      omega
    · rw [nl_len]
      omega
theorem in_nl (x : Nat) (l : List Nat) : inV (.int (x : Int)) (nl l) = decide (x ∈ l) := by
  unfold inV nl nums
  induction l with
  | nil => rfl
  | cons a l ih =>
    rw [List.map_cons, List.map_cons, List.any_cons, ih]
    show (((a : Int) == (x : Int)) || decide (x ∈ l)) = _
    by_cases c : a = x
    · subst c
      simp
    · have c' : ¬ x = a := fun z => c z.symm
      have c2 : ((a : Int) == (x : Int)) = false := by
        rw [beq_eq_false_iff_ne]
        omega
      rw [c2]
      simp [c']
theorem flat_nl (l : List Nat) : (nl l).all flatV = true := by
  unfold nl nums
  induction l with
  | nil => rfl
  | cons a l ih =>
    rw [List.map_cons, List.map_cons, List.all_cons, ih]
    rfl
theorem gone_len (r s : Nat) (first all : List Nat) : ∀ t, (gone r s first all t).length ≤ all.length
  | 0 => Nat.zero_le _
  | t + 1 => by
    have ih := gone_len r s first all t
    unfold gone
    split
    · rw [List.length_append, List.length_map]
      have h1 := List.length_filter_le (fun m => decide (m ≤ t)) ((all.drop (gone r s first all t).length).take s)
      rw [List.length_take, List.length_drop] at h1
      omega
    · exact ih
theorem gone_yes {r s t : Nat} {first all : List Nat} (h : t % r ∈ first) : gone r s first all (t + 1) = gone r s first all t ++ (((all.drop (gone r s first all t).length).take s).filter (fun m => decide (m ≤ t))).map (fun m => t - m) := by
  rw [gone, if_pos h]
theorem gone_no {r s t : Nat} {first all : List Nat} (h : ¬ t % r ∈ first) : gone r s first all (t + 1) = gone r s first all t := by
  rw [gone, if_neg h]
def part (t : Nat) (l : List Nat) : List Nat := (l.filter (fun m => decide (m ≤ t))).map (fun m => t - m)
theorem part_yes {t : Nat} {l : List Nat} {i n : Nat} (h : l[i]? = some n) (c : n ≤ t) : nl (part t (l.take (i + 1))) = nl (part t (l.take i)) ++ [V.int ((t : Int) - (n : Int))] := by
  have e : ((t : Int) - (n : Int)) = ((t - n : Nat) : Int) := by omega
  unfold part
  rw [List.take_add_one, h, Option.toList_some, List.filter_append, List.map_append, nl_app, e]
  congr 1
  simp [c, nl, nums]
theorem part_no {t : Nat} {l : List Nat} {i n : Nat} (h : l[i]? = some n) (c : ¬ n ≤ t) : part t (l.take (i + 1)) = part t (l.take i) := by
  unfold part
  rw [List.take_add_one, h, Option.toList_some, List.filter_append, List.map_append]
  simp [c]
theorem part_len (t : Nat) (l : List Nat) : (part t l).length ≤ l.length := by
  unfold part
  rw [List.length_map]
  exact List.length_filter_le _ _
section
variable {P : Program} {w : World} {K : PySem.W.Frag} {mg : Str → Option Value} {base : Heap} {C : Addr}
/-! ### waits_of_gone -/
def spGone (C : Addr) : Sp := fun vs H Q _ => ∃ (a p : Addr) (d : Day) (c t : Nat), vs = [.ref a, .int (c : Int), .int (t : Int)] ∧ DayP C H a p d ∧ Good d ∧ 1 ≤ c ∧ c ≤ 20 ∧ t ≤ 1000 ∧
  ∀ (H' : Hp) (q : Addr), Same H H' → H q = none → H' q = some (.lst (nl (waits (withC d c) t))) → Q (.ref q) H'
abbrev nGone : List Str := ["self", "cabins", "minutes", "first", "came", "waits", "minute", "going", "coming"]
theorem scGone : FnScope nGone ["self", "cabins", "minutes"] (defScope sGone) := ⟨rfl, rfl, rfl, by decide +kernel, rfl, by decide +kernel, by decide +kernel⟩
theorem ok_gone {f fF fC : Addr} {fd fdF fdC : FuncData} (F : Fun K "waits_of_gone" "Day.waits_of_gone" sGone f fd) (T : Top mg) (U : Txt K mg C)
    (FF : Fun K "first_minutes" "first_minutes" sFirst fF fdF) (bF : Binds K fdF ["round_minutes", "cabins"] []) (gF : mg "first_minutes" = some (.ref fF))
    (FC : Fun K "coming_minutes" "coming_minutes" sComing fC fdC) (bC : Binds K fdC ["people"] []) (gC : mg "coming_minutes" = some (.ref fC)) :
    FnOk P w K mg base CX0 2 f fd ["self", "cabins", "minutes"] (spGone C) := by
  have GF : FnOk P w K mg base CX0 1 fF fdF ["round_minutes", "cabins"] spFirst := ok_first FF T
  have GC : FnOk P w K mg base CX0 1 fC fdC ["people"] (spComing K) := ok_coming FC T
  refine F.ok scGone (fun vs H Q E h => ?_) (fun cdv A outer s H vs Q E hr h => ⟨_, pss_cons (ps_set (i := 3) scGone.nd rfl (Or.inl rfl) (pe_call GF hr rfl gF FF.kp bF .nil pass0 (pa_cons (pe_fld (pv 0) rfl) (pa_cons (pv 1) pa_nil))))
    (pss_cons (ps_set (i := 4) scGone.nd rfl (Or.inl rfl) (pe_call GC hr rfl gC FC.kp bC .nil pass0 (pa_cons (pe_fld (pv 0) rfl) pa_nil)))
    (pss_cons (ps_set (i := 5) scGone.nd rfl (Or.inl rfl) (pe_lst pa_nil))
    (pss_cons (ps_for PassesOwn.never rfl (pi_range1 rfl T.range (pa_cons (pv 2) pa_nil)) (pg_name (i := 6) scGone.nd rfl (Or.inr rfl))
      (pss_one (ps_if (pt_cmpR op_in_seq (pe_op op_mod (pv 6) (pe_fld (pv 0) rfl)) (pv 3) (by with_unfolding_all rfl))
        (pss_cons (ps_set (i := 7) scGone.nd rfl (Or.inl rfl) (pe_slice sl_list (pv 4) (po_some (pe_callB call_len_seq (by rfl) T.len PySem.boot_len (pa_cons (pv 5) pa_nil)))
            (po_some (pe_op op_add (pe_callB call_len_seq (by rfl) T.len PySem.boot_len (pa_cons (pv 5) pa_nil)) (pe_fld (pv 0) rfl)))))
          (pss_one (ps_expr (pe_bm PySem.F.plainAttrs_list PySem.F.slot_list_extend PySem.F.type_list_extend mt_extend (pv 5) (pa_cons
            (pe_lc (own := [("coming", 8)]) (g := gName 8) rfl scGone.nd (pi_list (pv 7)) (blkOk_by (N := nGone) (sc := defScope sGone) (by decide +kernel)) (fun _ _ _ _ _ => pg_name (i := 8) scGone.nd rfl (Or.inl rfl))
              (fun _ _ _ _ _ => pts_one (pt_cmpR op_le (pv 8) (pv 6) (nomark _))) (fun _ _ _ _ _ => pe_op op_sub (pv 6) (pv 8))) pa_nil)))))
        pss_nil)))
    (pss_one (ps_ret (pv 5)))))), ?_⟩)
  · obtain ⟨a, p, d, c, t, rfl, _⟩ := h
    rfl
  · obtain ⟨a, p, d, c, t, rfl, D, G, c1, c2, ht, q⟩ := h
    obtain ⟨⟨dx, ha⟩, hp⟩ := id D
    refine ⟨_, rfl, a, C, dx, _, _, rfl, ha, U.cl, U.nR, dF_round d p, _, rfl, d.round, c, rfl, c1, c2, G.r2, fun H1 Fp s1 nF hF => ?_⟩
    refine ⟨_, rfl, a, C, dx, _, _, rfl, s1 _ _ ha, U.cl, U.nP, dF_people d p, p, d.comes, rfl, SqL.of (s1 _ _ hp), G.len, G.few, fun H2 Cp s2 nC hC => ?_⟩
    refine ⟨Nat.zero_le _, fun Wp nW => ?_⟩
    have hF2 : H2 Fp = some (.lst (nl (firsts d.round c))) := s2 _ _ hF
    have s02 : Same H H2 := s1.trans s2
    have neF : Fp ≠ Wp := ne_of_none hF2 nW
    have neC : Cp ≠ Wp := ne_of_none hC nW
    have nW0 : H Wp = none := s02.free nW
    have hcl : (came 0 d.comes).length ≤ 600 := by
      have := sum_few d.comes G.few
      have := G.len
      rw [came_len]
      omega
    refine ⟨_, rfl, (t : Int), rfl, by omega, by omega, ?_⟩
    refine for_range (lo := 0) (fun i σ H' => ∃ v6 v7 : Option V, σ = [some (.ref a), some (.int (c : Int)), some (.int (t : Int)), some (.ref Fp), some (.ref Cp), some (.ref Wp), v6, v7, none] ∧ Same H H' ∧
      H' Fp = some (.lst (nl (firsts d.round c))) ∧ H' Cp = some (.lst (nl (came 0 d.comes))) ∧ H' Wp = some (.lst (nl (waits (withC d c) i))))
      ⟨none, none, rfl, Same.newer nW0 s02, (by rw [upd_ne neF]; exact hF2), (by rw [upd_ne neC]; exact hC), upd_same⟩ (fun i σ H' hi p' => ?_) (fun σ H' p' => ?_)
    · obtain ⟨v6, v7, rfl, s3, kF, kC, kW⟩ := p'
      have ha3 := s3 _ _ ha
      have hr1 := G.r1
      refine ⟨_, rfl, _, rfl, a, C, dx, _, _, rfl, ha3, U.cl, U.nR, dF_round d p, _, _, rfl, rfl, by omega, _, rfl, Fp, _, rfl, .inl (SqL.of kF), rfl, flat_nl _, _, rfl, ?_⟩
      have e0 : ((0 : Int) + (i : Int)) % ((d.round : Nat) : Int) = ((i % d.round : Nat) : Int) := by
        rw [Int.zero_add]
        norm_cast
      show if inV (.int (((0 : Int) + (i : Int)) % ((d.round : Nat) : Int))) (nl (firsts d.round c)) = true then _ else _
      rw [e0, in_nl]
      refine chain_is (fun k => ?_) (fun k => ?_)
      · have k' := of_decide_eq_true k
        have hg := gone_len d.round d.seats (firsts d.round c) (came 0 d.comes) i
        have hstep : waits (withC d c) (i + 1) = waits (withC d c) i ++ part i (((came 0 d.comes).drop (waits (withC d c) i).length).take d.seats) := gone_yes k'
        have hwl : (waits (withC d c) i).length ≤ (came 0 d.comes).length := hg
        refine ⟨_, rfl, _, rfl, Wp, _, rfl, .inl (SqL.of kW), _, rfl, _, rfl, Wp, _, rfl, .inl (SqL.of kW), _, rfl, a, C, dx, _, _, rfl, ha3, U.cl, U.nS, dF_seats d p, _, _, rfl, rfl, _, rfl, Cp, _, rfl, SqL.of kC, fun Gp nG => ?_⟩
        rw [nl_len, cut_mid _ _ _ hwl]
        generalize hgo : ((came 0 d.comes).drop (waits (withC d c) i).length).take d.seats = go at hstep ⊢
        have gl : go.length ≤ 600 := by
          rw [← hgo, List.length_take, List.length_drop]
          omega
        have nG0 : H Gp = none := s3.free nG
        have neG : Wp ≠ Gp := ne_of_none kW nG
        have s4 : Same H' (upd H' Gp (.lst (nl go))) := Same.newer nG (Same.refl H')
        refine ⟨_, rfl, .inl ⟨rfl, _, SqL.of (s4 _ _ kW)⟩, _, rfl, Gp, rfl, ⟨_, SqL.of upd_same⟩, fun B nB => ?_⟩
        have neB : Wp ≠ B := ne_of_none (s4 _ _ kW) nB
        have neGB : Gp ≠ B := ne_of_none upd_same nB
        refine lc_list (K := K) (a := Gp) (xs := nl go) (fun j H'' => Same (upd H' Gp (.lst (nl go))) H'' ∧ H'' B = some (.lst (nl (part i (go.take j))))) ⟨Same.newer nB (Same.refl _), upd_same⟩ (fun j H'' _ z => SqL.of (z.1 _ _ upd_same)) (fun j x H'' hj z => ?_) (fun H'' z => ?_)
        · obtain ⟨n, hn, rfl⟩ := nl_get hj
          refine ⟨rfl, _, rfl, _, rfl, _, _, rfl, rfl, _, rfl, ?_⟩
          refine chain_is (fun kk => ?_) (fun kk => ?_)
          · have kk' := of_decide_eq_true kk
            refine ⟨_, rfl, _, rfl, _, _, rfl, rfl, _, z.2, ?_, Same.newer nB z.1, ?_⟩
            · rw [nl_len]
              have := part_len i (go.take j)
              rw [List.length_take] at this
              exact small (by omega)
            · rw [part_yes hn (by omega), Int.zero_add]
              exact upd_same
          · have kk' := of_decide_eq_false kk
            refine ⟨z.1, ?_⟩
            rw [part_no hn (by omega)]
            exact z.2
        · obtain ⟨z1, z2⟩ := z
          rw [nl_len, List.take_length] at z2
          have kW2 : H'' Wp = some (.lst (nl (waits (withC d c) i))) := z1 _ _ (s4 _ _ kW)
          refine ⟨Wp, B, _, _, rfl, rfl, kW2, z2, ?_, ?_⟩
          · rw [nl_len, nl_len]
            have := part_len i go
            exact smallLe (by omega)
          · refine ⟨_, _, rfl, Same.newer nW0 ((s3.trans s4).trans z1), ?_, ?_, ?_⟩
            · rw [upd_ne neF]
              exact z1 _ _ (s4 _ _ kF)
            · rw [upd_ne neC]
              exact z1 _ _ (s4 _ _ kC)
            · rw [upd_same, hstep, nl_app]
      · have k' := of_decide_eq_false k
        have hstep : waits (withC d c) (i + 1) = waits (withC d c) i := gone_no k'
        refine ⟨_, _, rfl, s3, kF, kC, ?_⟩
        rw [hstep]
        exact kW
    · obtain ⟨v6, v7, rfl, s3, kF, kC, kW⟩ := p'
      rw [Int.toNat_natCast] at kW
      exact ⟨_, rfl, q H' Wp s3 nW0 kW⟩
end
end Cw
namespace Cw
open PySem PySem.Spec PyProof.Rows L2
open Uw40 (Day)
section
variable {P : Program} {w : World} {K : PySem.W.Frag} {mg : Str → Option Value} {base : Heap} {C : Addr}
/-! ### waits_till_the_end -/
def spTill (C : Addr) : Sp := fun vs H Q _ => ∃ (a p : Addr) (d : Day) (c : Nat), vs = [.ref a, .int (c : Int)] ∧ DayP C H a p d ∧ Good d ∧ 1 ≤ c ∧ c ≤ 20 ∧
  ∀ (H' : Hp) (q : Addr), Same H H' → H q = none → H' q = some (.lst (nl (endWaits (withC d c)))) → Q (.ref q) H'
theorem scTill : FnScope ["self", "cabins"] ["self", "cabins"] (defScope sTill) := ⟨rfl, rfl, rfl, by decide +kernel, rfl, by decide +kernel, by decide +kernel⟩
theorem ok_till {f fG : Addr} {fd fdG : FuncData} (F : Fun K "waits_till_the_end" "Day.waits_till_the_end" sTill f fd) (T : Top mg) (U : Txt K mg C)
    (GG : FnOk P w K mg base CX0 2 fG fdG ["self", "cabins", "minutes"] (spGone C)) (bG : Binds K fdG ["self", "cabins", "minutes"] []) (mG : Meth K C "waits_of_gone" fG) :
    FnOk P w K mg base CX0 3 f fd ["self", "cabins"] (spTill C) := by
  obtain ⟨t1, e1⟩ := T.mmm
  refine F.ok scTill (fun vs H Q E h => ?_) (fun cdv A outer s H vs Q E hr h => ⟨_, pss_one (ps_ret (pe_meth (pv 0) U.cl mG GG hr bG .nil pass0 (pa_cons (pv 1) (pa_cons (pe_op op_add (pe_callB call_len_seq (by rfl) T.len PySem.boot_len (pa_cons (pe_fld (pv 0) rfl) pa_nil)) (pe_const rfl e1)) pa_nil)))), ?_⟩)
  · obtain ⟨a, p, d, c, rfl, _⟩ := h
    rfl
  · obtain ⟨a, p, d, c, rfl, D, G, c1, c2, q⟩ := h
    obtain ⟨⟨dx, ha⟩, hp⟩ := id D
    have hl := G.len
    refine ⟨_, rfl, a, dx, _, rfl, ha, dF_not (by decide +kernel) (by decide +kernel) (by decide +kernel) (by decide +kernel), _, rfl, _, rfl, a, C, dx, _, _, rfl, ha, U.cl, U.nP, dF_people d p, p, _, rfl, .inl (SqL.of hp), _, _, rfl, rfl, ?_⟩
    refine ⟨a, p, d, c, d.comes.length + 200, ?_, D, G, c1, c2, by omega, q⟩
    rw [nl_len]
    rfl
/-! ### have_all_gone -/
def spHave (K : PySem.W.Frag) (C : Addr) : Sp := fun vs H Q _ => ∃ (a p q : Addr) (d : Day) (l : List Nat), vs = [.ref a, .ref q] ∧ DayP C H a p d ∧ SqL K H q (nl l) ∧ Q (.bl (decide (l.length = d.comes.sum))) H
theorem scHave : FnScope ["self", "waits"] ["self", "waits"] (defScope sHave) := ⟨rfl, rfl, rfl, by decide +kernel, rfl, by decide +kernel, by decide +kernel⟩
theorem nums_sum : ∀ l : List Nat, (nums l).sum = ((l.sum : Nat) : Int)
  | [] => rfl
  | a :: l => by
    show ((a : Int) :: nums l).sum = _
    rw [List.sum_cons, nums_sum l, List.sum_cons]
    omega
theorem ok_have {f : Addr} {fd : FuncData} (F : Fun K "have_all_gone" "Day.have_all_gone" sHave f fd) (T : Top mg) (U : Txt K mg C) : FnOk P w K mg base CX0 1 f fd ["self", "waits"] (spHave K C) := by
  refine F.ok scHave (fun vs H Q E h => ?_) (fun cdv A outer s H vs Q E hr h => ⟨_, pss_one (ps_ret (pe_cmpR op_eq (pe_callB call_len_seq (by rfl) T.len PySem.boot_len (pa_cons (pv 1) pa_nil)) (pe_callB (cr_sum rfl) (by rfl) T.sum boot_sum (pa_cons (pe_fld (pv 0) rfl) pa_nil)) (nomark _))), ?_⟩)
  · obtain ⟨a, p, q, d, l, rfl, _⟩ := h
    rfl
  · obtain ⟨a, p, q, d, l, rfl, D, hq, k⟩ := h
    obtain ⟨⟨dx, ha⟩, hp⟩ := id D
    refine ⟨_, rfl, q, _, rfl, .inl hq, _, rfl, a, C, dx, _, _, rfl, ha, U.cl, U.nP, dF_people d p, p, nums d.comes, rfl, SqL.of hp, rfl, ?_⟩
    have e : decide (V.int (((nl l).length : Nat) : Int) = V.int (nums d.comes).sum) = decide (l.length = d.comes.sum) := by
      rw [nums_sum, nl_len]
      by_cases c : l.length = d.comes.sum
      · rw [decide_eq_true c, c]
        exact decide_eq_true rfl
      · rw [decide_eq_false c]
        refine decide_eq_false fun z => c ?_
        injection z with z
        omega
    rw [← e] at k
    exact k
/-! ### an answer -/
def Ans (C : Addr) (H : Hp) (a p : Addr) (y : Day × Uw40.Ans) (Q : VK) : Prop := ∀ (H' : Hp) (p' q : Addr), DayP C H' a p' y.1 → (p' = p ∨ H p' = none) → (∀ b o, H b = some o → b ≠ a → b ≠ p → H' b = some o) → H q = none →
  H' q = some (.lst ((Uw40Neutral.out y.2).map V.int)) → Q (.ref q) H'
theorem Ans.read {H H' : Hp} {a p q : Addr} {d : Day} {y : Uw40.Ans} {Q : VK} {l : List V} (h : Ans C H a p (d, y) Q) (D : DayP C H a p d) (s : Same H H') (hq : H q = none) (e : H' q = some (.lst l)) (hl : l = (Uw40Neutral.out y).map V.int) : Q (.ref q) H' :=
  h H' p q (DayP.same s D) (.inl rfl) (fun b o e _ _ => s b o e) hq (by rw [← hl]; exact e)
/-! ### times -/
def spTimes (C : Addr) : Sp := fun vs H Q _ => ∃ (a p : Addr) (d : Day), vs = [.ref a] ∧ DayP C H a p d ∧ Good d ∧ Ans C H a p (Uw40.step d .times) Q
theorem scTimes : FnScope ["self"] ["self"] (defScope sTimes) := ⟨rfl, rfl, rfl, by decide +kernel, rfl, by decide +kernel, by decide +kernel⟩
theorem ok_times {f fF : Addr} {fd fdF : FuncData} (F : Fun K "times" "Day.times" sTimes f fd) (U : Txt K mg C)
    (GF : FnOk P w K mg base CX0 1 fF fdF ["round_minutes", "cabins"] spFirst) (kF : PySem.W.keepIn K (.ref fF) = true) (bF : Binds K fdF ["round_minutes", "cabins"] []) (gF : mg "first_minutes" = some (.ref fF)) :
    FnOk P w K mg base CX0 2 f fd ["self"] (spTimes C) := by
  refine F.ok scTimes (fun vs H Q E h => ?_) (fun cdv A outer s H vs Q E hr h => ⟨_, pss_one (ps_ret (pe_op op_cat (pe_lst (pa_cons (pe_fld (pv 0) rfl) pa_nil)) (pe_call GF hr rfl gF kF bF .nil pass0 (pa_cons (pe_fld (pv 0) rfl) (pa_cons (pe_fld (pv 0) rfl) pa_nil))))), ?_⟩)
  · obtain ⟨a, p, d, rfl, _⟩ := h
    rfl
  · obtain ⟨a, p, d, rfl, D, G, q⟩ := h
    obtain ⟨⟨dx, ha⟩, hp⟩ := id D
    refine ⟨_, rfl, a, C, dx, _, _, rfl, ha, U.cl, U.nC, dF_cabins d p, (by show 1 ≤ sizeLine; decide), fun A1 n1 => ?_⟩
    have s1 : Same H (upd H A1 (.lst [V.int (d.cabins : Int)])) := Same.newer n1 (Same.refl H)
    refine ⟨_, rfl, a, C, dx, _, _, rfl, s1 _ _ ha, U.cl, U.nR, dF_round d p, _, rfl, a, C, dx, _, _, rfl, s1 _ _ ha, U.cl, U.nC, dF_cabins d p, d.round, d.cabins, rfl, G.c1, G.c2, G.r2, fun H2 Fp s2 nF hF => ?_⟩
    have c2 := G.c2
    refine ⟨A1, Fp, _, _, rfl, rfl, s2 _ _ upd_same, hF, ?_, fun R nR => ?_⟩
    · rw [nl_len]
      unfold firsts
      rw [List.length_map, List.length_range]
      exact smallLe (by simp; omega)
    · have s02 := s1.trans s2
      exact Ans.read q D (Same.newer (s02.free nR) s02) (s02.free nR) upd_same rfl
/-! ### come -/
def spCome (C : Addr) : Sp := fun vs H Q _ => ∃ (a p : Addr) (d : Day) (n : Nat), vs = [.ref a, .int (n : Int)] ∧ DayP C H a p d ∧ Good d ∧ Ans C H a p (Uw40.step d (.come n)) Q
theorem scCome : FnScope ["self", "people"] ["self", "people"] (defScope sCome) := ⟨rfl, rfl, rfl, by decide +kernel, rfl, by decide +kernel, by decide +kernel⟩
theorem ok_come {f : Addr} {fd : FuncData} (F : Fun K "come" "Day.come" sCome f fd) (T : Top mg) (U : Txt K mg C) : FnOk P w K mg base CX0 1 f fd ["self", "people"] (spCome C) := by
  obtain ⟨t1, e1⟩ := T.mpp
  obtain ⟨t2, e2⟩ := T.mtm
  refine F.ok scCome (fun vs H Q E h => ?_) (fun cdv A outer s H vs Q E hr h => ⟨_, pss_cons (ps_if (pt_cmpR op_gt (pv 1) (pe_const rfl e1) (nomark _)) (pss_one (ps_ret (pe_lst (pa_cons (pe_un un_neg pe_int) pa_nil)))) pss_nil)
    (pss_cons (ps_if (pt_cmpR op_ge (pe_callB call_len_seq (by rfl) T.len PySem.boot_len (pa_cons (pe_fld (pv 0) rfl) pa_nil)) (pe_const rfl e2) (nomark _)) (pss_one (ps_ret (pe_lst (pa_cons (pe_un un_neg pe_int) pa_nil)))) pss_nil)
    (pss_cons (ps_expr (pe_bm PySem.F.plainAttrs_list PySem.F.slot_list_append PySem.F.type_list_append mt_append (pe_fld (pv 0) rfl) (pa_cons (pv 1) pa_nil)))
    (pss_one (ps_ret (pe_lst (pa_cons (pe_op op_sub (pe_callB call_len_seq (by rfl) T.len PySem.boot_len (pa_cons (pe_fld (pv 0) rfl) pa_nil)) pe_int) pa_nil)))))), ?_⟩)
  · obtain ⟨a, p, d, n, rfl, _⟩ := h
    rfl
  · obtain ⟨a, p, d, n, rfl, D, G, q⟩ := h
    obtain ⟨⟨dx, ha⟩, hp⟩ := id D
    refine ⟨_, rfl, _, _, rfl, rfl, _, rfl, chain_is (fun k => ?_) (fun k => ?_)⟩
    · have k' := of_decide_eq_true k
      have e : Uw40.step d (.come n) = (d, Uw40.ok (-1)) := if_pos (show Uw40.MANY < n by show 20 < n; omega)
      rw [e] at q
      exact ⟨_, rfl, (by show 1 ≤ sizeLine; decide), fun R nR => Ans.read q D (Same.newer nR (Same.refl H)) nR upd_same rfl⟩
    · have k' := of_decide_eq_false k
      have e0 : Uw40.step d (.come n) = if Uw40.MINUTES ≤ d.comes.length then (d, Uw40.ok (-5)) else ({ d with comes := d.comes ++ [n] }, Uw40.ok (d.comes.length : Nat)) := if_neg (show ¬ Uw40.MANY < n by show ¬ 20 < n; omega)
      rw [e0] at q
      refine ⟨_, rfl, a, C, dx, _, _, rfl, ha, U.cl, U.nP, dF_people d p, p, _, rfl, .inl (SqL.of hp), _, _, rfl, rfl, _, rfl, chain_is (fun k2 => ?_) (fun k2 => ?_)⟩
      · have k2' := of_decide_eq_true k2
        rw [nl_len] at k2'
        rw [if_pos (show Uw40.MINUTES ≤ d.comes.length by show 30 ≤ d.comes.length; omega)] at q
        exact ⟨_, rfl, (by show 1 ≤ sizeLine; decide), fun R nR => Ans.read q D (Same.newer nR (Same.refl H)) nR upd_same rfl⟩
      · have k2' := of_decide_eq_false k2
        rw [nl_len] at k2'
        rw [if_neg (show ¬ Uw40.MINUTES ≤ d.comes.length by show ¬ 30 ≤ d.comes.length; omega)] at q
        have nap : a ≠ p := ne_of ha hp (by intro z; cases z)
        refine ⟨_, rfl, a, C, dx, _, _, rfl, ha, U.cl, U.nP, dF_people d p, .inl ⟨rfl, _, SqL.of hp⟩, _, rfl, p, _, _, rfl, rfl, hp, (by rw [nl_len]; exact small (by omega)), ?_⟩
        have ha2 : (upd H p (.lst (nl d.comes ++ [V.int (n : Int)]))) a = some (.ins C dx (dF d p)) := by
          rw [upd_ne nap]
          exact ha
        refine ⟨_, rfl, a, C, dx, _, _, rfl, ha2, U.cl, U.nP, dF_people d p, p, _, rfl, .inl (SqL.of upd_same), _, _, rfl, rfl, (by show 1 ≤ sizeLine; decide), fun R nR => ?_⟩
        have naR : a ≠ R := ne_of_none ha2 nR
        have npR : p ≠ R := ne_of_none upd_same nR
        refine q _ p R ⟨⟨dx, ?_⟩, ?_⟩ (.inl rfl) (fun b o e b1 b2 => ?_) ?_ ?_
        · rw [upd_ne naR]
          exact ha2
        · rw [upd_ne npR, upd_same]
          show _ = some (HO.lst (nl (d.comes ++ [n])))
          rw [nl_app]
          rfl
        · rw [upd_ne (ne_of_none (show (upd H p (.lst (nl d.comes ++ [V.int (n : Int)]))) b = some o by rw [upd_ne b2]; exact e) nR), upd_ne b2]
          exact e
        · rw [upd_ne npR.symm] at nR
          exact nR
        · rw [upd_same, List.length_append, nl_len]
          have ei : (((d.comes.length + [V.int (n : Int)].length : Nat) : Int)) - 1 = (d.comes.length : Int) := by
            simp
          show some (HO.lst [V.int ((((d.comes.length + [V.int (n : Int)].length : Nat) : Int)) - 1)]) = some (HO.lst [V.int (d.comes.length : Int)])
          rw [ei]
/-! ### begins -/
def spBegins (C : Addr) : Sp := fun vs H Q _ => ∃ (a p : Addr) (d : Day) (r s c : Nat), vs = [.ref a, .int (r : Int), .int (s : Int), .int (c : Int)] ∧ DayP C H a p d ∧ Ans C H a p (Uw40.step d (.begins r s c)) Q
theorem scBegins : FnScope ["self", "round_minutes", "seats", "cabins"] ["self", "round_minutes", "seats", "cabins"] (defScope sBegins) := ⟨rfl, rfl, rfl, by decide +kernel, rfl, by decide +kernel, by decide +kernel⟩
theorem dF_put1 (d : Day) (p : Addr) (n : Nat) : putF "round_minutes" (.int (n : Int)) (dF d p) = dF { d with round := n } p := putHere
theorem dF_put2 (d : Day) (p : Addr) (n : Nat) : putF "seats" (.int (n : Int)) (dF d p) = dF { d with seats := n } p := (putPast (by decide +kernel)).trans (congrArg _ putHere)
theorem dF_put3 (d : Day) (p : Addr) (n : Nat) : putF "cabins" (.int (n : Int)) (dF d p) = dF { d with cabins := n } p := (putPast (by decide +kernel)).trans (congrArg _ ((putPast (by decide +kernel)).trans (congrArg _ putHere)))
theorem dF_all (d : Day) (p q : Addr) (r x c : Nat) : putF "people" (.ref q) (putF "cabins" (.int (c : Int)) (putF "seats" (.int (x : Int)) (putF "round_minutes" (.int (r : Int)) (dF d p)))) = dF ⟨r, x, c, []⟩ q := by
  rw [dF_put1, dF_put2, dF_put3]
  exact (putPast (by decide +kernel)).trans (congrArg _ ((putPast (by decide +kernel)).trans (congrArg _ ((putPast (by decide +kernel)).trans (congrArg _ putHere)))))
theorem ok_begins {f fI : Addr} {fd fdI : FuncData} (F : Fun K "begins" "Day.begins" sBegins f fd) (U : Txt K mg C)
    (GI : FnOk P w K mg base CX0 2 fI fdI ["round_minutes", "seats", "cabins"] spIsDay) (kI : PySem.W.keepIn K (.ref fI) = true) (bI : Binds K fdI ["round_minutes", "seats", "cabins"] []) (gI : mg "is_day" = some (.ref fI)) :
    FnOk P w K mg base CX0 3 f fd ["self", "round_minutes", "seats", "cabins"] (spBegins C) := by
  refine F.ok scBegins (fun vs H Q E h => ?_) (fun cdv A outer s H vs Q E hr h => ⟨_, pss_cons (ps_if (pt_not (pt_val (pe_call GI hr rfl gI kI bI .nil pass0 (pa_cons (pv 1) (pa_cons (pv 2) (pa_cons (pv 3) pa_nil)))))) (pss_one (ps_ret (pe_lst (pa_cons (pe_un un_neg pe_int) pa_nil)))) pss_nil)
    (pss_cons (ps_fld (pv 0) (pv 1) rfl) (pss_cons (ps_fld (pv 0) (pv 2) rfl) (pss_cons (ps_fld (pv 0) (pv 3) rfl) (pss_cons (ps_fld (pv 0) (pe_lst pa_nil) rfl) (pss_one (ps_ret (pe_lst (pa_cons pe_int pa_nil)))))))), ?_⟩)
  · obtain ⟨a, p, d, r, x, c, rfl, _⟩ := h
    rfl
  · obtain ⟨a, p, d, r, x, c, rfl, D, q⟩ := h
    obtain ⟨⟨dx, ha⟩, hp⟩ := id D
    refine ⟨_, rfl, _, rfl, _, rfl, r, x, c, rfl, _, rfl, ?_⟩
    cases k : dayOk r x c with
    | false =>
      have k' := of_decide_eq_false k
      have e : Uw40.step d (.begins r x c) = (d, Uw40.ok (-1)) := if_pos (show r < 1 ∨ 30 < r ∨ x < 1 ∨ 8 < x ∨ c < 1 ∨ 20 < c ∨ r < c by omega)
      rw [e] at q
      exact iteT ⟨_, rfl, (by show 1 ≤ sizeLine; decide), fun R nR => Ans.read q D (Same.newer nR (Same.refl H)) nR upd_same rfl⟩
    | true =>
      have k' := of_decide_eq_true k
      have e : Uw40.step d (.begins r x c) = (⟨r, x, c, []⟩, Uw40.ok 0) := if_neg (show ¬ (r < 1 ∨ 30 < r ∨ x < 1 ∨ 8 < x ∨ c < 1 ∨ 20 < c ∨ r < c) by omega)
      rw [e] at q
      refine iteF ?_
      have nap : a ≠ p := ne_of ha hp (by intro z; cases z)
      refine ⟨_, rfl, _, rfl, a, C, dx, _, rfl, ha, U.cl, U.nR, (by show 4 < 1000; decide), ?_⟩
      refine ⟨_, rfl, _, rfl, a, C, dx, _, rfl, upd_same, U.cl, U.nS, (by rw [dF_put1]; show 4 < 1000; decide), ?_⟩
      refine ⟨_, rfl, _, rfl, a, C, dx, _, rfl, upd_same, U.cl, U.nC, (by rw [dF_put1, dF_put2]; show 4 < 1000; decide), ?_⟩
      refine ⟨Nat.zero_le _, fun B nB => ?_⟩
      have neB : a ≠ B := ne_of_none upd_same nB
      refine ⟨_, rfl, a, C, dx, _, rfl, (by rw [upd_ne neB]; exact upd_same), U.cl, U.nP, (by rw [dF_put1, dF_put2, dF_put3]; show 4 < 1000; decide), ?_⟩
      refine ⟨(by show 1 ≤ sizeLine; decide), fun R nR => ?_⟩
      have nB' := nB
      rw [upd_ne neB.symm, upd_ne neB.symm, upd_ne neB.symm] at nB'
      have neR : a ≠ R := ne_of_none upd_same nR
      have nBR : B ≠ R := ne_of_none ((upd_ne neB.symm).trans upd_same) nR
      rw [upd_ne neR.symm, upd_ne nBR.symm, upd_ne neR.symm, upd_ne neR.symm, upd_ne neR.symm] at nR
      refine q _ B R ⟨⟨dx, ?_⟩, ?_⟩ (.inr nB') (fun b o e b1 b2 => ?_) nR upd_same
      · rw [upd_ne neR, upd_same, dF_all]
      · rw [upd_ne nBR, upd_ne neB.symm, upd_same]
        rfl
      · rw [upd_ne (ne_of_none e nR), upd_ne b1, upd_ne (ne_of_none e nB'), upd_ne b1, upd_ne b1, upd_ne b1]
        exact e
end
end Cw
namespace Cw
open PySem PySem.Spec PyProof.Rows L2
open Uw40 (Day)
theorem withC_own (d : Day) : withC d d.cabins = d := rfl
theorem max_reads {K : PySem.W.Frag} {H : Hp} {a : Addr} {l : List Nat} {Q : VK} (h : SqL K H a (nl l)) (q : Q (.int ((best l : Nat) : Int)) H) : rMaxZ K [.ref a] [.int 0] H Q := by
  unfold rMaxZ
  refine ⟨a, nums l, 0, rfl, rfl, h, fun e => ?_, fun m hm hy => ?_⟩
  · have : l = [] := by
      cases l with
      | nil => rfl
      | cons x l => cases e
    subst this
    exact q
  · obtain ⟨n, hn, rfl⟩ := List.mem_map.mp hm
    have e : n = best l := best_of hn fun y hy' => by
      have := hy (y : Int) (List.mem_map.mpr ⟨y, hy', rfl⟩)
      omega
    rw [e]
    exact q
section
variable {P : Program} {w : World} {K : PySem.W.Frag} {mg : Str → Option Value} {base : Heap} {C : Addr}
/-! ### row -/
def spRow (C : Addr) : Sp := fun vs H Q _ => ∃ (a p : Addr) (d : Day) (t : Nat), vs = [.ref a, .int (t : Int)] ∧ DayP C H a p d ∧ Good d ∧ Ans C H a p (Uw40.step d (.row t)) Q
abbrev nRow : List Str := ["self", "minutes", "came", "gone", "waiting", "coming"]
theorem scRow : FnScope nRow ["self", "minutes"] (defScope sRow) := ⟨rfl, rfl, rfl, by decide +kernel, rfl, by decide +kernel, by decide +kernel⟩
theorem left_part {t : Nat} {l : List Nat} {i n : Nat} (h : l[i]? = some n) (c : n ≤ t) : nl ((l.take (i + 1)).map fun m => t - m) = nl ((l.take i).map fun m => t - m) ++ [V.int ((t : Int) - (n : Int))] := by
  have e : ((t : Int) - (n : Int)) = ((t - n : Nat) : Int) := by omega
  rw [List.take_add_one, h, Option.toList_some, List.map_append, nl_app, e]
  rfl
theorem ok_row {f fC fG : Addr} {fd fdC fdG : FuncData} (F : Fun K "row" "Day.row" sRow f fd) (T : Top mg) (U : Txt K mg C)
    (GC : FnOk P w K mg base CX0 1 fC fdC ["people"] (spComing K)) (kC : PySem.W.keepIn K (.ref fC) = true) (bC : Binds K fdC ["people"] []) (gC : mg "coming_minutes" = some (.ref fC))
    (GG : FnOk P w K mg base CX0 2 fG fdG ["self", "cabins", "minutes"] (spGone C)) (bG : Binds K fdG ["self", "cabins", "minutes"] []) (mG : Meth K C "waits_of_gone" fG) :
    FnOk P w K mg base CX0 3 f fd ["self", "minutes"] (spRow C) := by
  refine F.ok scRow (fun vs H Q E h => ?_) (fun cdv A outer s H vs Q E hr h => ⟨_, pss_cons (ps_if (pt_cmpR op_gt (pv 1) (pe_callB call_len_seq (by rfl) T.len PySem.boot_len (pa_cons (pe_fld (pv 0) rfl) pa_nil)) (nomark _)) (pss_one (ps_ret (pe_lst (pa_cons (pe_un un_neg pe_int) pa_nil)))) pss_nil)
    (pss_cons (ps_set (i := 2) scRow.nd rfl (Or.inl rfl) (pe_call GC (hr.mono (by decide)) rfl gC kC bC .nil pass0 (pa_cons (pe_slice sl_list (pe_fld (pv 0) rfl) po_none (po_some (pv 1))) pa_nil)))
    (pss_cons (ps_set (i := 3) scRow.nd rfl (Or.inl rfl) (pe_callB call_len_seq (by rfl) T.len PySem.boot_len (pa_cons (pe_meth (pv 0) U.cl mG GG hr bG .nil pass0 (pa_cons (pe_fld (pv 0) rfl) (pa_cons (pv 1) pa_nil))) pa_nil)))
    (pss_cons (ps_set (i := 4) scRow.nd rfl (Or.inl rfl) (pe_slice sl_list (pv 2) (po_some (pv 3)) po_none))
    (pss_one (ps_ret (pe_op op_cat (pe_lst (pa_cons (pe_callB call_len_seq (by rfl) T.len PySem.boot_len (pa_cons (pv 4) pa_nil)) (pa_cons (pv 3) pa_nil)))
      (pe_lc (own := [("coming", 5)]) (g := gName 5) (tt := tYes) rfl scRow.nd (pi_list (pv 4)) (blkOk_by (N := nRow) (sc := defScope sRow) (by decide +kernel)) (fun _ _ _ _ _ => pg_name (i := 5) scRow.nd rfl (Or.inl rfl))
        (fun _ _ _ _ _ => pts_nil) (fun _ _ _ _ _ => pe_op op_sub (pv 1) (pv 5))))))))), ?_⟩)
  · obtain ⟨a, p, d, t, rfl, _⟩ := h
    rfl
  · obtain ⟨a, p, d, t, rfl, D, G, q⟩ := h
    obtain ⟨⟨dx, ha⟩, hp⟩ := id D
    refine ⟨_, rfl, _, rfl, a, C, dx, _, _, rfl, ha, U.cl, U.nP, dF_people d p, p, _, rfl, .inl (SqL.of hp), _, _, rfl, rfl, _, rfl, chain_is (fun k => ?_) (fun k => ?_)⟩
    · have k' := of_decide_eq_true k
      rw [nl_len] at k'
      have e : Uw40.step d (.row t) = (d, Uw40.ok (-1)) := if_pos (show d.comes.length < t by omega)
      rw [e] at q
      exact ⟨_, rfl, (by show 1 ≤ sizeLine; decide), fun R nR => Ans.read q D (Same.newer nR (Same.refl H)) nR upd_same rfl⟩
    · have k' := of_decide_eq_false k
      rw [nl_len] at k'
      have hl := G.len
      have ht : t ≤ d.comes.length := by omega
      obtain ⟨st, sg⟩ := stand_is d G.c1 G.cr t
      have e : Uw40.step d (.row t) = (d, ⟨((standOf d t).row.length : Nat), (standOf d t).taken :: (standOf d t).row⟩) := by
        have e1 := from_is d t ht
        rw [st] at e1
        have e2 : Uw40.step d (.row t) = (d, (⟨((d.from_ 0 (d.comes.take t) ⟨[], 0, 0, 0⟩).row.length : Nat), (d.from_ 0 (d.comes.take t) ⟨[], 0, 0, 0⟩).taken :: (d.from_ 0 (d.comes.take t) ⟨[], 0, 0, 0⟩).row⟩ : Uw40.Ans)) := if_neg (show ¬ d.comes.length < t by omega)
        rw [e1] at e2
        exact e2
      rw [e] at q
      have hcl : (cameTo d t).length ≤ 600 := by
        have h1 := sum_few (d.comes.take t) fun n hn => G.few n (List.mem_of_mem_take hn)
        have h2 : (d.comes.take t).length ≤ 30 := by rw [List.length_take]; omega
        unfold cameTo
        rw [came_len]
        omega
      refine ⟨_, rfl, a, C, dx, _, _, rfl, ha, U.cl, U.nP, dF_people d p, _, rfl, _, rfl, p, _, rfl, SqL.of hp, fun S1 n1 => ?_⟩
      rw [cut_to]
      have s1 : Same H (upd H S1 (.lst (nl (d.comes.take t)))) := Same.newer n1 (Same.refl H)
      refine ⟨S1, d.comes.take t, rfl, SqL.of upd_same, by rw [List.length_take]; omega, fun n hn => G.few n (List.mem_of_mem_take hn), fun H2 Cp s2 nC hC => ?_⟩
      have s02 := s1.trans s2
      refine ⟨_, rfl, a, dx, _, rfl, s02 _ _ ha, dF_not (by decide +kernel) (by decide +kernel) (by decide +kernel) (by decide +kernel), _, rfl, a, C, dx, _, _, rfl, s02 _ _ ha, U.cl, U.nC, dF_cabins d p, _, rfl, ?_⟩
      refine ⟨a, p, d, d.cabins, t, rfl, DayP.same s02 D, G, G.c1, G.c2, by omega, fun H3 Gp s3 nG hG => ?_⟩
      rw [withC_own] at hG
      have s03 := s02.trans s3
      refine ⟨Gp, _, rfl, .inl (SqL.of hG), ?_⟩
      rw [nl_len]
      refine ⟨_, rfl, _, rfl, _, rfl, Cp, _, rfl, SqL.of (s3 _ _ hC), fun Wp nW => ?_⟩
      have ec : cutV (nl (came 0 (d.comes.take t))) (some ((waits d t).length : Int)) none = nl ((cameTo d t).drop (waits d t).length) := cut_from _ _ sg
      rw [ec]
      generalize hwt : (cameTo d t).drop (waits d t).length = wt
      have hwl : wt.length ≤ 600 := by
        rw [← hwt, List.length_drop]
        omega
      have hlt : ∀ n ∈ wt, n ≤ t := fun n hn => by
        rw [← hwt] at hn
        exact Nat.le_of_lt (cameTo_lt (List.mem_of_mem_drop hn))
      have s04 : Same H (upd H3 Wp (.lst (nl wt))) := Same.newer (s03.free nW) s03
      refine ⟨_, rfl, Wp, _, rfl, .inl (SqL.of upd_same), _, rfl, (by show 2 ≤ sizeLine; decide), fun A1 nA => ?_⟩
      have neWA : Wp ≠ A1 := ne_of_none upd_same nA
      have s05 := Same.newer (o := .lst [V.int (((nl wt).length : Nat) : Int), V.int ((waits d t).length : Int)]) (s04.free nA) s04
      have hW5 : (upd (upd H3 Wp (.lst (nl wt))) A1 (.lst [V.int (((nl wt).length : Nat) : Int), V.int ((waits d t).length : Int)])) Wp = some (.lst (nl wt)) := by
        rw [upd_ne neWA]
        exact upd_same
      refine ⟨_, rfl, Wp, rfl, ⟨_, SqL.of hW5⟩, fun B nB => ?_⟩
      refine lc_list (K := K) (a := Wp) (xs := nl wt) (fun j H'' => Same (upd (upd H3 Wp (.lst (nl wt))) A1 (.lst [V.int (((nl wt).length : Nat) : Int), V.int ((waits d t).length : Int)])) H'' ∧ H'' B = some (.lst (nl ((wt.take j).map fun m => t - m))))
        ⟨Same.newer nB (Same.refl _), upd_same⟩ (fun j H'' _ z => SqL.of (z.1 _ _ hW5)) (fun j x H'' hj z => ?_) (fun H'' z => ?_)
      · obtain ⟨n, hn, rfl⟩ := nl_get hj
        have hnt : n ≤ t := hlt n (List.mem_of_getElem? hn)
        refine ⟨rfl, ?_⟩
        refine yes_of ?_
        refine ⟨_, rfl, _, rfl, _, _, rfl, rfl, _, z.2, ?_, Same.newer nB z.1, ?_⟩
        · rw [nl_len, List.length_map, List.length_take]
          exact small (by omega)
        · rw [left_part hn hnt]
          exact upd_same
      · obtain ⟨z1, z2⟩ := z
        rw [nl_len, List.take_length] at z2
        refine ⟨A1, B, _, _, rfl, rfl, z1 _ _ upd_same, z2, ?_, fun R nR => ?_⟩
        · rw [nl_len (wt.map fun m => t - m), List.length_map]
          exact smallLe (by simp; omega)
        · have s06 := s05.trans z1
          refine Ans.read q D (Same.newer (s06.free nR) s06) (s06.free nR) upd_same ?_
          rw [nl_len]
          have er : (standOf d t).row = wt.map fun m => t - m := by
            rw [← hwt]
            rfl
          rw [er]
          show _ = (((((wt.map fun m => t - m).length : Nat) : Int) :: (((waits d t).length :: wt.map fun m => t - m).map fun (n : Nat) => (n : Int))) : List Int).map V.int
          rw [List.length_map]
          rfl
/-! ### ends -/
def spEnds (C : Addr) : Sp := fun vs H Q _ => ∃ (a p : Addr) (d : Day), vs = [.ref a] ∧ DayP C H a p d ∧ Good d ∧ Ans C H a p (Uw40.step d .ends) Q
theorem scEnds : FnScope ["self", "waits"] ["self"] (defScope sEnds) := ⟨rfl, rfl, rfl, by decide +kernel, rfl, by decide +kernel, by decide +kernel⟩
theorem ok_ends {f fT fH : Addr} {fd fdT fdH : FuncData} (F : Fun K "ends" "Day.ends" sEnds f fd) (T : Top mg) (U : Txt K mg C)
    (GT : FnOk P w K mg base CX0 3 fT fdT ["self", "cabins"] (spTill C)) (bT : Binds K fdT ["self", "cabins"] []) (mT : Meth K C "waits_till_the_end" fT)
    (GH : FnOk P w K mg base CX0 1 fH fdH ["self", "waits"] (spHave K C)) (bH : Binds K fdH ["self", "waits"] []) (mH : Meth K C "have_all_gone" fH) :
    FnOk P w K mg base CX0 4 f fd ["self"] (spEnds C) := by
  refine F.ok scEnds (fun vs H Q E h => ?_) (fun cdv A outer s H vs Q E hr h => ⟨_, pss_cons (ps_set (i := 1) scEnds.nd rfl (Or.inl rfl) (pe_meth (pv 0) U.cl mT GT hr bT .nil pass0 (pa_cons (pe_fld (pv 0) rfl) pa_nil)))
    (pss_cons (ps_if (pt_not (pt_val (pe_meth (pv 0) U.cl mH GH (hr.mono (by decide)) bH .nil pass0 (pa_cons (pv 1) pa_nil)))) (pss_one (ps_ret (pe_lst (pa_cons (pe_un un_neg pe_int) pa_nil)))) pss_nil)
    (pss_one (ps_ret (pe_lst (pa_cons (pe_callBK (cr_maxZ rfl) (by rfl) T.max boot_max (pa_cons (pv 1) pa_nil) (pk_cons pe_int pk_nil)) (pa_cons (pe_callB (cr_sum rfl) (by rfl) T.sum boot_sum (pa_cons (pv 1) pa_nil)) (pa_cons (pe_callB call_len_seq (by rfl) T.len PySem.boot_len (pa_cons (pv 1) pa_nil)) pa_nil))))))), ?_⟩)
  · obtain ⟨a, p, d, rfl, _⟩ := h
    rfl
  · obtain ⟨a, p, d, rfl, D, G, q⟩ := h
    obtain ⟨⟨dx, ha⟩, hp⟩ := id D
    have hend := end_is d G.c1 G.cr
    refine ⟨_, rfl, a, dx, _, rfl, ha, dF_not (by decide +kernel) (by decide +kernel) (by decide +kernel) (by decide +kernel), _, rfl, a, C, dx, _, _, rfl, ha, U.cl, U.nC, dF_cabins d p, ?_⟩
    refine ⟨a, p, d, d.cabins, rfl, D, G, G.c1, G.c2, fun H1 Wp s1 nW hW => ?_⟩
    rw [withC_own] at hW
    refine ⟨_, rfl, a, dx, _, rfl, s1 _ _ ha, dF_not (by decide +kernel) (by decide +kernel) (by decide +kernel) (by decide +kernel), _, rfl, a, p, Wp, d, endWaits d, rfl, DayP.same s1 D, SqL.of hW, _, rfl, ?_⟩
    by_cases c : (endWaits d).length = d.comes.sum
    · rw [if_pos c] at hend
      have e : Uw40.step d .ends = (d, ⟨((best (endWaits d) : Nat) : Int), [(endWaits d).sum, (endWaits d).length]⟩) := by
        show (d, match d.end_ with
          | none => Uw40.ok (-6)
          | some s => (⟨(s.longest : Nat), [s.sum, s.taken]⟩ : Uw40.Ans)) = _
        rw [hend]
      rw [e] at q
      rw [decide_eq_true c]
      refine iteF ?_
      refine ⟨_, rfl, ?_⟩
      show rMaxZ K [.ref Wp] [.int 0] H1 _
      refine max_reads (SqL.of hW) ?_
      refine ⟨_, rfl, Wp, nums (endWaits d), rfl, SqL.of hW, ?_⟩
      refine ⟨_, rfl, Wp, _, rfl, .inl (SqL.of hW), (by show 3 ≤ sizeLine; decide), fun R nR => ?_⟩
      refine Ans.read q D (Same.newer (s1.free nR) s1) (s1.free nR) upd_same ?_
      rw [nl_len, nums_sum]
      rfl
    · rw [if_neg c] at hend
      have e : Uw40.step d .ends = (d, Uw40.ok (-6)) := by
        show (d, match d.end_ with
          | none => Uw40.ok (-6)
          | some s => (⟨(s.longest : Nat), [s.sum, s.taken]⟩ : Uw40.Ans)) = _
        rw [hend]
      rw [e] at q
      rw [decide_eq_false c]
      exact iteT ⟨_, rfl, (by show 1 ≤ sizeLine; decide), fun R nR => Ans.read q D (Same.newer (s1.free nR) s1) (s1.free nR) upd_same rfl⟩
/-! ### fewest -/
def spFewest (C : Addr) : Sp := fun vs H Q _ => ∃ (a p : Addr) (d : Day) (t : Nat), vs = [.ref a, .int (t : Int)] ∧ DayP C H a p d ∧ Good d ∧ Ans C H a p (Uw40.step d (.fewest t)) Q
theorem scFewest : FnScope ["self", "minutes", "cabins", "waits"] ["self", "minutes"] (defScope sFewest) := ⟨rfl, rfl, rfl, by decide +kernel, rfl, by decide +kernel, by decide +kernel⟩
theorem ok_fewest {f fM fT fH : Addr} {fd fdM fdT fdH : FuncData} (F : Fun K "fewest" "Day.fewest" sFewest f fd) (T : Top mg) (U : Txt K mg C)
    (GM : FnOk P w K mg base CX0 1 fM fdM ["round_minutes"] spMost) (kM : PySem.W.keepIn K (.ref fM) = true) (bM : Binds K fdM ["round_minutes"] []) (gM : mg "most_cabins" = some (.ref fM))
    (GT : FnOk P w K mg base CX0 3 fT fdT ["self", "cabins"] (spTill C)) (bT : Binds K fdT ["self", "cabins"] []) (mT : Meth K C "waits_till_the_end" fT)
    (GH : FnOk P w K mg base CX0 1 fH fdH ["self", "waits"] (spHave K C)) (bH : Binds K fdH ["self", "waits"] []) (mH : Meth K C "have_all_gone" fH) :
    FnOk P w K mg base CX0 4 f fd ["self", "minutes"] (spFewest C) := by
  obtain ⟨t1, e1⟩ := T.mwl
  refine F.ok scFewest (fun vs H Q E h => ?_) (fun cdv A outer s H vs Q E hr h => ⟨_, pss_cons (ps_if (pt_cmpR op_gt (pv 1) (pe_const rfl e1) (nomark _)) (pss_one (ps_ret (pe_lst (pa_cons (pe_un un_neg pe_int) pa_nil)))) pss_nil)
    (pss_cons (ps_for PassesOwn.never rfl (pi_range2 rfl T.range (pa_cons pe_int (pa_cons (pe_op op_add (pe_call GM (hr.mono (by decide)) rfl gM kM bM .nil pass0 (pa_cons (pe_fld (pv 0) rfl) pa_nil)) pe_int) pa_nil))) (pg_name (i := 2) scFewest.nd rfl (Or.inl rfl))
      (pss_cons (ps_set (i := 3) scFewest.nd rfl (Or.inl rfl) (pe_meth (pv 0) U.cl mT GT hr bT .nil pass0 (pa_cons (pv 2) pa_nil)))
      (pss_one (ps_if (pw_and (pt_val (pe_meth (pv 0) U.cl mH GH (hr.mono (by decide)) bH .nil pass0 (pa_cons (pv 3) pa_nil))) (pw_and1 (pt_cmpR op_le (pe_callBK (cr_maxZ rfl) (by rfl) T.max boot_max (pa_cons (pv 3) pa_nil) (pk_cons pe_int pk_nil)) (pv 1) (nomark _)))).pt
        (pss_one (ps_ret (pe_lst (pa_cons (pv 2) pa_nil)))) pss_nil))))
    (pss_one (ps_ret (pe_lst (pa_cons (pe_un un_neg pe_int) pa_nil))))), ?_⟩)
  · obtain ⟨a, p, d, t, rfl, _⟩ := h
    rfl
  · obtain ⟨a, p, d, t, rfl, D, G, q⟩ := h
    obtain ⟨⟨dx, ha⟩, hp⟩ := id D
    have r1 := G.r1
    have r2 := G.r2
    refine ⟨_, rfl, _, _, rfl, rfl, _, rfl, chain_is (fun k => ?_) (fun k => ?_)⟩
    · have k' := of_decide_eq_true k
      have e : Uw40.step d (.fewest t) = (d, Uw40.ok (-1)) := if_pos (show Uw40.LATE < t by show 200 < t; omega)
      rw [e] at q
      exact ⟨_, rfl, (by show 1 ≤ sizeLine; decide), fun R nR => Ans.read q D (Same.newer nR (Same.refl H)) nR upd_same rfl⟩
    · have k' := of_decide_eq_false k
      have e0 : Uw40.step d (.fewest t) = (d, match d.fewest t with
        | none => Uw40.ok (-6)
        | some n => Uw40.ok (n : Nat)) := if_neg (show ¬ Uw40.LATE < t by show ¬ 200 < t; omega)
      rw [e0] at q
      refine ⟨_, rfl, a, C, dx, _, _, rfl, ha, U.cl, U.nR, dF_round d p, d.round, rfl, _, _, rfl, rfl, _, _, rfl, ⟨by decide, by decide, by omega, by omega⟩, ?_⟩
      refine for_range (lo := 1) (fun i σ H' => ∃ v2 v3 : Option V, σ = [some (.ref a), some (.int (t : Int)), v2, v3] ∧ Same H H' ∧ ∀ n, 1 ≤ n → n ≤ i → ¬ enough d t n) ⟨none, none, rfl, Same.refl H, fun n h1 h2 => by omega⟩ (fun i σ H' hi p' => ?_) (fun σ H' p' => ?_)
      · obtain ⟨v2, v3, rfl, s1, hn⟩ := p'
        have hi' : i + 1 ≤ 20 ∧ i + 1 ≤ d.round := by omega
        have ec : (1 : Int) + (i : Int) = ((i + 1 : Nat) : Int) := by omega
        refine ⟨_, rfl, a, dx, _, rfl, s1 _ _ ha, dF_not (by decide +kernel) (by decide +kernel) (by decide +kernel) (by decide +kernel), _, rfl, ?_⟩
        refine ⟨a, p, d, i + 1, by rw [ec]; rfl, DayP.same s1 D, G, by omega, hi'.1, fun H1 Wp s2 nW hW => ?_⟩
        have s02 := s1.trans s2
        refine ⟨_, rfl, a, dx, _, rfl, s02 _ _ ha, dF_not (by decide +kernel) (by decide +kernel) (by decide +kernel) (by decide +kernel), _, rfl, a, p, Wp, d, endWaits (withC d (i + 1)), rfl, DayP.same s02 D, SqL.of hW, _, rfl, ?_⟩
        have no : ¬ enough d t (i + 1) → ∀ n, 1 ≤ n → n ≤ i + 1 → ¬ enough d t n := fun z n h1 h2 => by
          by_cases c : n = i + 1
          · rw [c]
            exact z
          · exact hn n h1 (by omega)
        by_cases c : (endWaits (withC d (i + 1))).length = d.comes.sum
        · rw [decide_eq_true c]
          refine iteT ?_
          refine ⟨_, rfl, ?_⟩
          show rMaxZ K [.ref Wp] [.int 0] H1 _
          refine max_reads (SqL.of hW) ?_
          refine ⟨_, rfl, _, _, rfl, rfl, _, rfl, chain_is (fun k2 => ?_) (fun k2 => ?_)⟩
          · have k2' := of_decide_eq_true k2
            have ef := fewest_some (d := d) (w := t) (c := i + 1) (by omega) hi'.2 hi'.1 ⟨c, by omega⟩ fun n h1 h2 => hn n h1 (by omega)
            rw [ef] at q
            refine ⟨_, rfl, (by show 1 ≤ sizeLine; decide), fun R nR => ?_⟩
            refine Ans.read q D (Same.newer (s02.free nR) s02) (s02.free nR) upd_same ?_
            rw [ec]
            rfl
          · have k2' := of_decide_eq_false k2
            exact ⟨_, _, rfl, s02, no fun z => k2' (by have := z.2; omega)⟩
        · rw [decide_eq_false c]
          refine iteF ?_
          exact iteF ⟨_, _, rfl, s02, no fun z => c z.1⟩
      · obtain ⟨v2, v3, rfl, s1, hn⟩ := p'
        have ef : d.fewest t = none := fewest_none fun n h1 h2 h3 => hn n h1 (by omega)
        rw [ef] at q
        exact ⟨_, rfl, (by show 1 ≤ sizeLine; decide), fun R nR => Ans.read q D (Same.newer (s1.free nR) s1) (s1.free nR) upd_same rfl⟩
end
end Cw
namespace Cw
open PySem PySem.Spec PyProof.Rows L2
open Uw40 (Day)
theorem v_ne {i j : Int} (h : i ≠ j) : V.int i ≠ V.int j := fun z => by
  injection z with z
  exact h z
theorem if_is {c : Prop} [Decidable c] {A B : Prop} (hc : c) (h : A) : if decide c = true then A else B := by
  rw [decide_eq_true hc]
  exact iteT h
theorem if_not {c : Prop} [Decidable c] {A B : Prop} (hc : ¬ c) (h : B) : if decide c = true then A else B := by
  rw [decide_eq_false hc]
  exact iteF h
theorem pe_obj {X : Cx} {x : Str} {pos : Pos} {a : Addr} (hg : Gl X x) (hm : X.mg x = some (.ref a)) (h2 : (x == ("__debug__" : Str)) = false := by decide) : PE X (.Name x pos) (tC (.ref a)) :=
  have r : RelV (.ref a) (.ref a) := rfl
  pe_glob hg hm r h2
section
variable {P : Program} {w : World} {K : PySem.W.Frag} {mg : Str → Option Value} {base : Heap} {C : Addr}
/-! ### answer_of -/
def spAnsOf (K : PySem.W.Frag) (C : Addr) : Sp := fun vs H Q _ => ∃ (a p nm : Addr) (d : Day) (k : Int) (ns : List Int) (x : Uw40.Call), vs = [.ref a, .int k, .ref nm] ∧ DayP C H a p d ∧ Good d ∧ SqL K H nm (ns.map V.int) ∧ Says k ns x ∧ Ans C H a p (Uw40.step d x) Q
theorem scAnsOf : FnScope ["day", "call", "numbers"] ["day", "call", "numbers"] (defScope sAnsOf) := ⟨rfl, rfl, rfl, by decide +kernel, rfl, by decide +kernel, by decide +kernel⟩
/-- the methods as answer_of finds them -/
structure Six (P : Program) (w : World) (K : PySem.W.Frag) (mg : Str → Option Value) (base : Heap) (C f0 f1 f2 f3 f4 f5 : Addr) (d0 d1 d2 d3 d4 d5 : FuncData) : Prop where
  g0 : FnOk P w K mg base CX0 3 f0 d0 ["self", "round_minutes", "seats", "cabins"] (spBegins C)
  b0 : Binds K d0 ["self", "round_minutes", "seats", "cabins"] []
  m0 : Meth K C "begins" f0
  g1 : FnOk P w K mg base CX0 1 f1 d1 ["self", "people"] (spCome C)
  b1 : Binds K d1 ["self", "people"] []
  m1 : Meth K C "come" f1
  g2 : FnOk P w K mg base CX0 3 f2 d2 ["self", "minutes"] (spRow C)
  b2 : Binds K d2 ["self", "minutes"] []
  m2 : Meth K C "row" f2
  g3 : FnOk P w K mg base CX0 2 f3 d3 ["self"] (spTimes C)
  b3 : Binds K d3 ["self"] []
  m3 : Meth K C "times" f3
  g4 : FnOk P w K mg base CX0 4 f4 d4 ["self"] (spEnds C)
  b4 : Binds K d4 ["self"] []
  m4 : Meth K C "ends" f4
  g5 : FnOk P w K mg base CX0 4 f5 d5 ["self", "minutes"] (spFewest C)
  b5 : Binds K d5 ["self", "minutes"] []
  m5 : Meth K C "fewest" f5
theorem ok_ansOf {f f0 f1 f2 f3 f4 f5 : Addr} {fd d0 d1 d2 d3 d4 d5 : FuncData} (F : Fun K "answer_of" "answer_of" sAnsOf f fd) (T : Top mg) (U : Txt K mg C) (M : Six P w K mg base C f0 f1 f2 f3 f4 f5 d0 d1 d2 d3 d4 d5) :
    FnOk P w K mg base CX0 5 f fd ["day", "call", "numbers"] (spAnsOf K C) := by
  obtain ⟨t0, e0⟩ := T.kB
  obtain ⟨t1, e1⟩ := T.kC
  obtain ⟨t2, e2⟩ := T.kR
  obtain ⟨t3, e3⟩ := T.kT
  obtain ⟨t4, e4⟩ := T.kE
  refine F.ok scAnsOf (fun vs H Q E h => ?_) (fun cdv A outer s H vs Q E hr h => ⟨_,
    pss_cons (ps_if (pt_cmpR op_eq (pv 1) (pe_const rfl e0) (nomark _)) (pss_one (ps_ret (pe_meth (pv 0) U.cl M.m0 M.g0 (hr.mono (by decide)) M.b0 .nil pass0 (pa_cons (pe_ix ix_list (pv 2) pe_int (fun _ _ => rfl)) (pa_cons (pe_ix ix_list (pv 2) pe_int (fun _ _ => rfl)) (pa_cons (pe_ix ix_list (pv 2) pe_int (fun _ _ => rfl)) pa_nil)))))) pss_nil)
    (pss_cons (ps_if (pt_cmpR op_eq (pv 1) (pe_const rfl e1) (nomark _)) (pss_one (ps_ret (pe_meth (pv 0) U.cl M.m1 M.g1 (hr.mono (by decide)) M.b1 .nil pass0 (pa_cons (pe_ix ix_list (pv 2) pe_int (fun _ _ => rfl)) pa_nil)))) pss_nil)
    (pss_cons (ps_if (pt_cmpR op_eq (pv 1) (pe_const rfl e2) (nomark _)) (pss_one (ps_ret (pe_meth (pv 0) U.cl M.m2 M.g2 (hr.mono (by decide)) M.b2 .nil pass0 (pa_cons (pe_ix ix_list (pv 2) pe_int (fun _ _ => rfl)) pa_nil)))) pss_nil)
    (pss_cons (ps_if (pt_cmpR op_eq (pv 1) (pe_const rfl e3) (nomark _)) (pss_one (ps_ret (pe_meth0 (pv 0) U.cl M.m3 M.g3 (hr.mono (by decide)) M.b3 .nil pass0))) pss_nil)
    (pss_cons (ps_if (pt_cmpR op_eq (pv 1) (pe_const rfl e4) (nomark _)) (pss_one (ps_ret (pe_meth0 (pv 0) U.cl M.m4 M.g4 hr M.b4 .nil pass0))) pss_nil)
    (pss_one (ps_ret (pe_meth (pv 0) U.cl M.m5 M.g5 hr M.b5 .nil pass0 (pa_cons (pe_ix ix_list (pv 2) pe_int (fun _ _ => rfl)) pa_nil)))))))), ?_⟩)
  · obtain ⟨a, p, nm, d, k, ns, x, rfl, _⟩ := h
    rfl
  · obtain ⟨a, p, nm, d, k, ns, x, rfl, D, G, hn, hs, q⟩ := h
    obtain ⟨⟨dx, ha⟩, hp⟩ := id D
    cases x with
    | begins r s c =>
      obtain ⟨rfl, rfl⟩ := hs
      refine ⟨_, rfl, rfl, _, rfl, if_is rfl ?_⟩
      exact ⟨_, rfl, a, dx, _, rfl, ha, dF_not (by decide +kernel) (by decide +kernel) (by decide +kernel) (by decide +kernel), _, rfl, nm, _, _, _, rfl, rfl, hn, at_of (j := 0) rfl rfl, _, rfl, nm, _, _, _, rfl, rfl, hn, at_of (j := 1) rfl rfl, _, rfl, nm, _, _, _, rfl, rfl, hn, at_of (j := 2) rfl rfl, a, p, d, r, s, c, rfl, D, q⟩
    | come n =>
      obtain ⟨rfl, rfl⟩ := hs
      refine ⟨_, rfl, rfl, _, rfl, if_not (v_ne (by decide)) ?_⟩
      refine ⟨_, rfl, rfl, _, rfl, if_is rfl ?_⟩
      exact ⟨_, rfl, a, dx, _, rfl, ha, dF_not (by decide +kernel) (by decide +kernel) (by decide +kernel) (by decide +kernel), _, rfl, nm, _, _, _, rfl, rfl, hn, at_of (j := 0) rfl rfl, a, p, d, n, rfl, D, G, q⟩
    | row t =>
      obtain ⟨rfl, rfl⟩ := hs
      refine ⟨_, rfl, rfl, _, rfl, if_not (v_ne (by decide)) ?_⟩
      refine ⟨_, rfl, rfl, _, rfl, if_not (v_ne (by decide)) ?_⟩
      refine ⟨_, rfl, rfl, _, rfl, if_is rfl ?_⟩
      exact ⟨_, rfl, a, dx, _, rfl, ha, dF_not (by decide +kernel) (by decide +kernel) (by decide +kernel) (by decide +kernel), _, rfl, nm, _, _, _, rfl, rfl, hn, at_of (j := 0) rfl rfl, a, p, d, t, rfl, D, G, q⟩
    | times =>
      obtain ⟨rfl, rfl⟩ := hs
      refine ⟨_, rfl, rfl, _, rfl, if_not (v_ne (by decide)) ?_⟩
      refine ⟨_, rfl, rfl, _, rfl, if_not (v_ne (by decide)) ?_⟩
      refine ⟨_, rfl, rfl, _, rfl, if_not (v_ne (by decide)) ?_⟩
      refine ⟨_, rfl, rfl, _, rfl, if_is rfl ?_⟩
      exact ⟨_, rfl, a, dx, _, rfl, ha, dF_not (by decide +kernel) (by decide +kernel) (by decide +kernel) (by decide +kernel), a, p, d, rfl, D, G, q⟩
    | ends =>
      obtain ⟨rfl, rfl⟩ := hs
      refine ⟨_, rfl, rfl, _, rfl, if_not (v_ne (by decide)) ?_⟩
      refine ⟨_, rfl, rfl, _, rfl, if_not (v_ne (by decide)) ?_⟩
      refine ⟨_, rfl, rfl, _, rfl, if_not (v_ne (by decide)) ?_⟩
      refine ⟨_, rfl, rfl, _, rfl, if_not (v_ne (by decide)) ?_⟩
      refine ⟨_, rfl, rfl, _, rfl, if_is rfl ?_⟩
      exact ⟨_, rfl, a, dx, _, rfl, ha, dF_not (by decide +kernel) (by decide +kernel) (by decide +kernel) (by decide +kernel), a, p, d, rfl, D, G, q⟩
    | fewest t =>
      obtain ⟨rfl, rfl⟩ := hs
      refine ⟨_, rfl, rfl, _, rfl, if_not (v_ne (by decide)) ?_⟩
      refine ⟨_, rfl, rfl, _, rfl, if_not (v_ne (by decide)) ?_⟩
      refine ⟨_, rfl, rfl, _, rfl, if_not (v_ne (by decide)) ?_⟩
      refine ⟨_, rfl, rfl, _, rfl, if_not (v_ne (by decide)) ?_⟩
      refine ⟨_, rfl, rfl, _, rfl, if_not (v_ne (by decide)) ?_⟩
      exact ⟨_, rfl, a, dx, _, rfl, ha, dF_not (by decide +kernel) (by decide +kernel) (by decide +kernel) (by decide +kernel), _, rfl, nm, _, _, _, rfl, rfl, hn, at_of (j := 0) rfl rfl, a, p, d, t, rfl, D, G, q⟩
/-! ### answers -/
def spAns (K : PySem.W.Frag) : Sp := fun vs H Q _ => ∃ (a : Addr) (ns : List Int), vs = [.ref a] ∧ SqL K H a (ns.map V.int) ∧ ns.length ≤ 400 ∧ PyUw40.answers_asked ns = true ∧
  ∀ (H' : Hp) (p : Addr), H' p = some (.lst ((PyUw40.answers ns).map V.int)) → Q (.ref p) H'
theorem scAns : FnScope ["calls", "day", "answered", "place", "call", "end", "answer"] ["calls"] (defScope sAns) := ⟨rfl, rfl, rfl, by decide +kernel, rfl, by decide +kernel, by decide +kernel⟩
def six : List V := [.int 3, .int 1, .int 1, .int 0, .int 0, .int 1]
theorem six_at {z : Int} (h0 : 0 ≤ z) (h5 : z ≤ 5) : atI six z = some (.int ((manyOf z : Nat) : Int)) := by
  have hc : z = 0 ∨ z = 1 ∨ z = 2 ∨ z = 3 ∨ z = 4 ∨ z = 5 := by omega
  rcases hc with rfl | rfl | rfl | rfl | rfl | rfl <;> rfl
/-- xs[k + 1:k + 1 + n] -/
theorem cut_call {ns l : List Int} {z : Int} {k n : Nat} (h : ns.drop k = z :: l) (hn : n ≤ l.length) : cutV (ns.map V.int) (some ((k : Int) + 1)) (some ((k : Int) + 1 + (n : Int))) = (l.take n).map V.int := by
  have hl : ns.length = k + 1 + l.length := by
    have := congrArg List.length h
    rw [List.length_drop, List.length_cons] at this
    omega
  have hd : ns.drop (k + 1) = l := by
    have e : ns.drop (k + 1) = (ns.drop k).drop 1 := by rw [List.drop_drop]
    rw [e, h]
    rfl
  have e1 : ((k : Int) + 1) = ((k + 1 : Nat) : Int) := by omega
  have e2 : ((k : Int) + 1 + (n : Int)) = ((k + 1 + n : Nat) : Int) := by omega
  unfold cutV
  rw [e2, e1, HT.sIx_nat, HT.sIx_nat, List.length_map, Nat.min_eq_left (by omega), Nat.min_eq_left (by omega), ← List.map_drop, hd, ← List.map_take]
  congr 2
  omega
theorem ok_ans {f fI fA : Addr} {fd fdI fdA : FuncData} {N : Addr} (F : Fun K "answers" "answers" sAns f fd) (T : Top mg) (U : Txt K mg C) (M : Mk K C fI) (GI : FnOk P w K mg base CX0 1 fI fdI ["self"] (spInit C)) (bI : Binds K fdI ["self"] [])
    (GA : FnOk P w K mg base CX0 5 fA fdA ["day", "call", "numbers"] (spAnsOf K C)) (kA : PySem.W.keepIn K (.ref fA) = true) (bA : Binds K fdA ["day", "call", "numbers"] []) (gA : mg "answer_of" = some (.ref fA))
    (gN : mg "NUMBERS_OF_CALL" = some (.ref N)) (hN : ∀ H : Hp, SqT K H N six) : FnOk P w K mg base CX0 6 f fd ["calls"] (spAns K) := by
  refine F.ok scAns (fun vs H Q E h => ?_) (fun cdv A outer s H vs Q E hr h => ⟨_,
    pss_cons (ps_set (i := 1) scAns.nd rfl (Or.inl rfl) (pe_make0 M GI (hr.mono (by decide)) rfl U.gC bI .nil pass0))
    (pss_cons (ps_set (i := 2) scAns.nd rfl (Or.inl rfl) (pe_lst pa_nil))
    (pss_cons (ps_set (i := 3) scAns.nd rfl (Or.inl rfl) pe_int)
    (pss_cons (ps_while PassesOwn.never (pt_cmpR op_lt (pv 3) (pe_callB call_len_seq (by rfl) T.len PySem.boot_len (pa_cons (pv 0) pa_nil)) (nomark _))
      (pss_cons (ps_set (i := 4) scAns.nd rfl (Or.inl rfl) (pe_ix ix_list (pv 0) (pv 3) (fun _ _ => rfl)))
      (pss_cons (ps_set (i := 5) scAns.nd rfl (Or.inl rfl) (pe_op op_add (pe_op op_add (pv 3) pe_int) (pe_ix ix_tup (pe_obj rfl gN) (pv 4) (fun _ _ => rfl))))
      (pss_cons (ps_set (i := 6) scAns.nd rfl (Or.inl rfl) (pe_call GA hr rfl gA kA bA .nil pass0 (pa_cons (pv 1) (pa_cons (pv 4) (pa_cons (pe_slice sl_list (pv 0) (po_some (pe_op op_add (pv 3) pe_int)) (po_some (pv 5))) pa_nil)))))
      (pss_cons (ps_expr (pe_bm PySem.F.plainAttrs_list PySem.F.slot_list_append PySem.F.type_list_append mt_append (pv 2) (pa_cons (pe_callB call_len_seq (by rfl) T.len PySem.boot_len (pa_cons (pv 6) pa_nil)) pa_nil)))
      (pss_cons (ps_expr (pe_bm PySem.F.plainAttrs_list PySem.F.slot_list_extend PySem.F.type_list_extend mt_extend (pv 2) (pa_cons (pv 6) pa_nil)))
      (pss_one (ps_set (i := 3) scAns.nd rfl (Or.inl rfl) (pv 5)))))))))
    (pss_one (ps_ret (pv 2)))))), ?_⟩)
  · obtain ⟨a, ns, rfl, _⟩ := h
    rfl
  · obtain ⟨a, ns, rfl, hS, hlen, hask, q⟩ := h
    obtain ⟨R0, hfull⟩ := rest_start hask
    intro x dx nx nd ne
    refine ⟨x, dx, rfl, upd_same, fun H1 p D1 np kp => ⟨rfl, ?_⟩⟩
    have s1 : Same H H1 := Same.made nx nd kp
    have np0 : H p = none := by
      have nxp : x ≠ p := ne_of_none upd_same np
      rw [upd_ne nxp.symm] at np
      have ndp : dx ≠ p := ne_of_none upd_same np
      rw [upd_ne ndp.symm] at np
      exact np
    refine ⟨Nat.zero_le _, fun An nAn => ?_⟩
    obtain ⟨⟨dx1, hx1⟩, hp1⟩ := id D1
    have neX : x ≠ An := ne_of_none hx1 nAn
    have neP : p ≠ An := ne_of_none hp1 nAn
    refine ⟨fun m σ H' => ∃ (k : Nat) (d : Day) (out : List Int) (p : Addr) (v4 v5 v6 : Option V), m = ns.length - k ∧ k ≤ ns.length ∧ σ = [some (.ref a), some (.ref x), some (.ref An), some (.int (k : Int)), v4, v5, v6] ∧ Same H H' ∧ DayP C H' x p d ∧ Good d ∧
      H' An = some (.lst (out.map V.int)) ∧ p ≠ An ∧ H p = none ∧ Rest (ns.drop k) d out (PyUw40.answers ns), ⟨ns.length, 0, Uw40.init, [], p, none, none, none, rfl, Nat.zero_le _, rfl, Same.newer (s1.free nAn) s1, ⟨⟨dx1, by rw [upd_ne neX]; exact hx1⟩, by rw [upd_ne neP]; exact hp1⟩, good_init, upd_same, neP, np0, R0⟩, ?_⟩
    rintro m σ H2 ⟨k, d, out, p, v4, v5, v6, rfl, hk, rfl, s2, D2, G, hA, nepA, np, R⟩
    refine ⟨_, rfl, _, rfl, a, _, rfl, .inl (s2.seq hS), _, _, rfl, rfl, _, rfl, chain_is (fun c => ?_) (fun c => ?_)⟩
    · have c' := of_decide_eq_true c
      rw [List.length_map] at c'
      have hk2 : k < ns.length := by omega
      have hdrop : ns.drop k = ns[k] :: ns.drop (k + 1) := List.drop_eq_getElem_cons hk2
      generalize hz : ns[k] = z at hdrop
      generalize hl : ns.drop (k + 1) = l at hdrop
      rw [hdrop] at R
      obtain ⟨y, z0, z5, hm, hsay, R2, hroom⟩ := rest_cons R
      have hget : (ns.map V.int)[k]? = some (V.int z) := by
        rw [List.getElem?_map, List.getElem?_eq_getElem hk2, hz]
        rfl
      have hns : ns.length = k + 1 + l.length := by
        have := congrArg List.length hdrop
        rw [List.length_drop, List.length_cons] at this
        omega
      refine ⟨fun σ' H' => ∃ (k' : Nat) (d : Day) (out : List Int) (p : Addr) (v4 v5 v6 : Option V), k < k' ∧ k' ≤ ns.length ∧ σ' = [some (.ref a), some (.ref x), some (.ref An), some (.int (k' : Int)), v4, v5, v6] ∧ Same H H' ∧ DayP C H' x p d ∧ Good d ∧
        H' An = some (.lst (out.map V.int)) ∧ p ≠ An ∧ H p = none ∧ Rest (ns.drop k') d out (PyUw40.answers ns), ?_, ?_⟩
      · rintro σ' H' ⟨k', d, out, p, v4, v5, v6, e1, e2, e3, rest⟩
        exact ⟨ns.length - k', by omega, k', d, out, p, v4, v5, v6, rfl, e2, e3, rest⟩
      · refine ⟨_, rfl, _, rfl, a, _, _, _, rfl, rfl, s2.seq hS, at_of (j := k) rfl hget, ?_⟩
        refine ⟨_, rfl, _, _, rfl, rfl, _, rfl, N, six, z, _, rfl, rfl, hN _, six_at z0 z5, _, _, rfl, rfl, ?_⟩
        refine ⟨_, rfl, _, rfl, _, rfl, _, rfl, _, _, rfl, rfl, _, rfl, _, rfl, _, rfl, a, _, rfl, s2.seq hS, fun Nm nNm => ?_⟩
        rw [cut_call hdrop hm]
        have s3 : Same H2 (upd H2 Nm (.lst ((l.take (manyOf z)).map V.int))) := Same.newer nNm (Same.refl H2)
        refine ⟨x, p, Nm, d, z, l.take (manyOf z), y, rfl, DayP.same s3 D2, G, SqL.of upd_same, hsay, fun H4 p' Rp D4 hp' keep nR hR => ?_⟩
        generalize hans : Uw40Neutral.out (Uw40.step d y).2 = ans at hR R2 hroom
        have neNA : An ≠ Nm := ne_of_none hA nNm
        have neAx : An ≠ x := by
          intro e0
          obtain ⟨⟨dx3, h3⟩, _⟩ := D2
          rw [e0, h3] at hA
          cases hA
        have hA4 : H4 An = some (.lst (out.map V.int)) := keep An _ (s3 _ _ hA) neAx (Ne.symm nepA)
        have neRA : An ≠ Rp := ne_of_none (s3 _ _ hA) nR
        have np4 : p' ≠ An ∧ H p' = none := by
          rcases hp' with rfl | e0
          · exact ⟨nepA, np⟩
          · exact ⟨fun z1 => (by rw [z1, s3 _ _ hA] at e0; cases e0), (s2.trans s3).free e0⟩
        have s4 : Same H H4 := fun b o e => by
          refine keep b o (s3 _ _ (s2 _ _ e)) (fun z1 => ?_) (fun z1 => ?_)
          · rw [z1, nx] at e
            cases e
          · rw [z1, np] at e
            cases e
        have nA0 : H An = none := s1.free nAn
        refine ⟨_, rfl, .inl ⟨rfl, _, SqL.of hA4⟩, _, rfl, Rp, _, rfl, .inl (SqL.of hR), An, _, _, rfl, rfl, hA4, ?_, ?_⟩
        · rw [List.length_map]
          exact Nat.lt_of_le_of_lt (show out.length ≤ 10000000 by omega) (by decide)
        · refine ⟨_, rfl, .inl ⟨rfl, _, SqL.of upd_same⟩, _, rfl, An, Rp, _, _, rfl, rfl, upd_same, (by rw [upd_ne neRA.symm]; exact hR), ?_, ?_⟩
          · rw [List.length_append, List.length_map, List.length_map]
            exact Nat.le_trans (show out.length + 1 + ans.length ≤ 10000000 by omega) (by decide)
          · refine ⟨_, rfl, ?_⟩
            have ek : ((k : Int) + 1 + ((manyOf z : Nat) : Int)) = ((k + 1 + manyOf z : Nat) : Int) := by omega
            obtain ⟨⟨dx4, h4⟩, h5⟩ := D4
            refine ⟨k + 1 + manyOf z, (Uw40.step d y).1, out ++ [(ans.length : Int)] ++ ans, p', some (V.int z), some (V.int ((k : Int) + 1 + ((manyOf z : Nat) : Int))), some (V.ref Rp), by omega, by omega, ?_, ?_, ⟨⟨dx4, ?_⟩, ?_⟩, good_step G y, ?_, np4.1, np4.2, ?_⟩
            · show _ = [some (V.ref a), some (V.ref x), some (V.ref An), some (V.int ((k + 1 + manyOf z : Nat) : Int)), some (V.int z), some (V.int ((k : Int) + 1 + ((manyOf z : Nat) : Int))), some (V.ref Rp)]
              rw [← ek]
              rfl
            · exact Same.newer nA0 (Same.newer nA0 s4)
            · rw [upd_ne (Ne.symm neAx), upd_ne (Ne.symm neAx)]
              exact h4
            · rw [upd_ne np4.1, upd_ne np4.1]
              exact h5
            · rw [upd_same, List.map_append, List.map_append, List.length_map]
              rfl
            · have e6 : ns.drop (k + 1 + manyOf z) = l.drop (manyOf z) := by
                rw [← hl, List.drop_drop]
              rw [e6]
              exact R2
    · have c' := of_decide_eq_false c
      rw [List.length_map] at c'
      have ek : k = ns.length := by omega
      rw [ek, List.drop_length] at R
      have er := rest_nil R
      refine ⟨_, rfl, q _ An ?_⟩
      rw [er]
      exact hA
end
end Cw
namespace Cw
open PySem PySem.Spec PyProof.Rows L2
open PySem.W (Codec)
theorem six_in {K : PySem.W.Frag} {N : Addr} {od : Option Addr} {sl : Array (Option Value)} {u1 u2 u3 u4 u5 u6 : Tok} {n : Nat} (l : K.lookup N = some ⟨.type "tuple", od, .seq #[.int 3 u1, .int 1 u2, .int 1 u3, .int 0 u4, .int 0 u5, .int 1 u6] n, sl⟩) (H : Hp) : SqT K H N six :=
  .inr ⟨_, _, _, l, rfl, rfl, by show 6 ≤ sizeLine; decide, .cons ⟨_, rfl⟩ (.cons ⟨_, rfl⟩ (.cons ⟨_, rfl⟩ (.cons ⟨_, rfl⟩ (.cons ⟨_, rfl⟩ (.cons ⟨_, rfl⟩ .nil)))))⟩
theorem all_mk {P : Program} {w : World} {K : PySem.W.Frag} {h : Heap} {mg : Str → Option Value} {fa C N f1 f2 f3 f4 f5 f6 f7 f8 f9 f10 f11 f12 f13 f14 f15 f16 : Addr} (X : K.In h) (G : h.Ns mainGlobals mg) (hfa : mg "answers" = some (.ref fa))
    {odN od1 an1 od2 an2 od3 an3 od4 an4 od5 an5 od6 an6 od7 an7 od8 an8 od9 an9 od10 an10 od11 an11 od12 an12 od13 an13 od14 an14 od15 an15 od16 an16 : Option Addr} {slN sl1 sl2 sl3 sl4 sl5 sl6 sl7 sl8 sl9 sl10 sl11 sl12 sl13 sl14 sl15 sl16 : Array (Option Value)} {oc1 kV1 dc1 pm1 cd1 ct1 oc2 kV2 dc2 pm2 cd2 ct2 oc3 kV3 dc3 pm3 cd3 ct3 oc4 kV4 dc4 pm4 cd4 ct4 oc5 kV5 dc5 pm5 cd5 ct5 oc6 kV6 dc6 pm6 cd6 ct6 oc7 kV7 dc7 pm7 cd7 ct7 oc8 kV8 dc8 pm8 cd8 ct8 oc9 kV9 dc9 pm9 cd9 ct9 oc10 kV10 dc10 pm10 cd10 ct10 oc11 kV11 dc11 pm11 cd11 ct11 oc12 kV12 dc12 pm12 cd12 ct12 oc13 kV13 dc13 pm13 cd13 ct13 oc14 kV14 dc14 pm14 cd14 ct14 oc15 kV15 dc15 pm15 cd15 ct15 oc16 kV16 dc16 pm16 cd16 ct16 : Value} {u1 u2 u3 u4 u5 u6 t_mrm t_mst t_mcb t_mpp t_mtm t_mmm t_mwl t_kB t_kC t_kR t_kT t_kE : Tok} {nN : Nat}
    (aC : PySem.W.nsIn K mainGlobals "Day" = some (some (.ref C))) (aN : PySem.W.nsIn K mainGlobals "NUMBERS_OF_CALL" = some (some (.ref N)))
    (lN : K.lookup N = some ⟨.type "tuple", odN, .seq #[.int 3 u1, .int 1 u2, .int 1 u3, .int 0 u4, .int 0 u5, .int 1 u6] nN, slN⟩)
    (a1 : PySem.W.nsIn K mainGlobals "most_cabins" = some (some (.ref f1))) (l1 : K.lookup f1 = some ⟨oc1, od1, .func (PySem.W.fnOf "most_cabins" "most_cabins" (defArgs sMost) (defBody sMost) (defScope sMost) .none kV1 dc1 pm1 an1 cd1 ct1), sl1⟩) (c1 : PySem.W.codeIn K cd1 "most_cabins" = true) (k1 : PySem.W.keepIn K (.ref f1) = true)
    (a2 : PySem.W.nsIn K mainGlobals "is_day" = some (some (.ref f2))) (l2 : K.lookup f2 = some ⟨oc2, od2, .func (PySem.W.fnOf "is_day" "is_day" (defArgs sIsDay) (defBody sIsDay) (defScope sIsDay) .none kV2 dc2 pm2 an2 cd2 ct2), sl2⟩) (c2 : PySem.W.codeIn K cd2 "is_day" = true) (k2 : PySem.W.keepIn K (.ref f2) = true)
    (a3 : PySem.W.nsIn K mainGlobals "first_minutes" = some (some (.ref f3))) (l3 : K.lookup f3 = some ⟨oc3, od3, .func (PySem.W.fnOf "first_minutes" "first_minutes" (defArgs sFirst) (defBody sFirst) (defScope sFirst) .none kV3 dc3 pm3 an3 cd3 ct3), sl3⟩) (c3 : PySem.W.codeIn K cd3 "first_minutes" = true) (k3 : PySem.W.keepIn K (.ref f3) = true)
    (a4 : PySem.W.nsIn K mainGlobals "coming_minutes" = some (some (.ref f4))) (l4 : K.lookup f4 = some ⟨oc4, od4, .func (PySem.W.fnOf "coming_minutes" "coming_minutes" (defArgs sComing) (defBody sComing) (defScope sComing) .none kV4 dc4 pm4 an4 cd4 ct4), sl4⟩) (c4 : PySem.W.codeIn K cd4 "coming_minutes" = true) (k4 : PySem.W.keepIn K (.ref f4) = true)
    (a5 : PySem.W.findIn K (.ref C) "__init__" = some (some (.ref f5))) (i5 : PySem.W.isFn K (.ref f5) = true) (l5 : K.lookup f5 = some ⟨oc5, od5, .func (PySem.W.fnOf "__init__" "Day.__init__" (defArgs sInit) (defBody sInit) (defScope sInit) .none kV5 dc5 pm5 an5 cd5 ct5), sl5⟩) (c5 : PySem.W.codeIn K cd5 "Day.__init__" = true) (k5 : PySem.W.keepIn K (.ref f5) = true)
    (a6 : PySem.W.findIn K (.ref C) "begins" = some (some (.ref f6))) (i6 : PySem.W.isFn K (.ref f6) = true) (l6 : K.lookup f6 = some ⟨oc6, od6, .func (PySem.W.fnOf "begins" "Day.begins" (defArgs sBegins) (defBody sBegins) (defScope sBegins) .none kV6 dc6 pm6 an6 cd6 ct6), sl6⟩) (c6 : PySem.W.codeIn K cd6 "Day.begins" = true) (k6 : PySem.W.keepIn K (.ref f6) = true)
    (a7 : PySem.W.findIn K (.ref C) "come" = some (some (.ref f7))) (i7 : PySem.W.isFn K (.ref f7) = true) (l7 : K.lookup f7 = some ⟨oc7, od7, .func (PySem.W.fnOf "come" "Day.come" (defArgs sCome) (defBody sCome) (defScope sCome) .none kV7 dc7 pm7 an7 cd7 ct7), sl7⟩) (c7 : PySem.W.codeIn K cd7 "Day.come" = true) (k7 : PySem.W.keepIn K (.ref f7) = true)
    (a8 : PySem.W.findIn K (.ref C) "row" = some (some (.ref f8))) (i8 : PySem.W.isFn K (.ref f8) = true) (l8 : K.lookup f8 = some ⟨oc8, od8, .func (PySem.W.fnOf "row" "Day.row" (defArgs sRow) (defBody sRow) (defScope sRow) .none kV8 dc8 pm8 an8 cd8 ct8), sl8⟩) (c8 : PySem.W.codeIn K cd8 "Day.row" = true) (k8 : PySem.W.keepIn K (.ref f8) = true)
    (a9 : PySem.W.findIn K (.ref C) "times" = some (some (.ref f9))) (i9 : PySem.W.isFn K (.ref f9) = true) (l9 : K.lookup f9 = some ⟨oc9, od9, .func (PySem.W.fnOf "times" "Day.times" (defArgs sTimes) (defBody sTimes) (defScope sTimes) .none kV9 dc9 pm9 an9 cd9 ct9), sl9⟩) (c9 : PySem.W.codeIn K cd9 "Day.times" = true) (k9 : PySem.W.keepIn K (.ref f9) = true)
    (a10 : PySem.W.findIn K (.ref C) "ends" = some (some (.ref f10))) (i10 : PySem.W.isFn K (.ref f10) = true) (l10 : K.lookup f10 = some ⟨oc10, od10, .func (PySem.W.fnOf "ends" "Day.ends" (defArgs sEnds) (defBody sEnds) (defScope sEnds) .none kV10 dc10 pm10 an10 cd10 ct10), sl10⟩) (c10 : PySem.W.codeIn K cd10 "Day.ends" = true) (k10 : PySem.W.keepIn K (.ref f10) = true)
    (a11 : PySem.W.findIn K (.ref C) "fewest" = some (some (.ref f11))) (i11 : PySem.W.isFn K (.ref f11) = true) (l11 : K.lookup f11 = some ⟨oc11, od11, .func (PySem.W.fnOf "fewest" "Day.fewest" (defArgs sFewest) (defBody sFewest) (defScope sFewest) .none kV11 dc11 pm11 an11 cd11 ct11), sl11⟩) (c11 : PySem.W.codeIn K cd11 "Day.fewest" = true) (k11 : PySem.W.keepIn K (.ref f11) = true)
    (a12 : PySem.W.findIn K (.ref C) "waits_till_the_end" = some (some (.ref f12))) (i12 : PySem.W.isFn K (.ref f12) = true) (l12 : K.lookup f12 = some ⟨oc12, od12, .func (PySem.W.fnOf "waits_till_the_end" "Day.waits_till_the_end" (defArgs sTill) (defBody sTill) (defScope sTill) .none kV12 dc12 pm12 an12 cd12 ct12), sl12⟩) (c12 : PySem.W.codeIn K cd12 "Day.waits_till_the_end" = true) (k12 : PySem.W.keepIn K (.ref f12) = true)
    (a13 : PySem.W.findIn K (.ref C) "have_all_gone" = some (some (.ref f13))) (i13 : PySem.W.isFn K (.ref f13) = true) (l13 : K.lookup f13 = some ⟨oc13, od13, .func (PySem.W.fnOf "have_all_gone" "Day.have_all_gone" (defArgs sHave) (defBody sHave) (defScope sHave) .none kV13 dc13 pm13 an13 cd13 ct13), sl13⟩) (c13 : PySem.W.codeIn K cd13 "Day.have_all_gone" = true) (k13 : PySem.W.keepIn K (.ref f13) = true)
    (a14 : PySem.W.findIn K (.ref C) "waits_of_gone" = some (some (.ref f14))) (i14 : PySem.W.isFn K (.ref f14) = true) (l14 : K.lookup f14 = some ⟨oc14, od14, .func (PySem.W.fnOf "waits_of_gone" "Day.waits_of_gone" (defArgs sGone) (defBody sGone) (defScope sGone) .none kV14 dc14 pm14 an14 cd14 ct14), sl14⟩) (c14 : PySem.W.codeIn K cd14 "Day.waits_of_gone" = true) (k14 : PySem.W.keepIn K (.ref f14) = true)
    (a15 : PySem.W.nsIn K mainGlobals "answer_of" = some (some (.ref f15))) (l15 : K.lookup f15 = some ⟨oc15, od15, .func (PySem.W.fnOf "answer_of" "answer_of" (defArgs sAnsOf) (defBody sAnsOf) (defScope sAnsOf) .none kV15 dc15 pm15 an15 cd15 ct15), sl15⟩) (c15 : PySem.W.codeIn K cd15 "answer_of" = true) (k15 : PySem.W.keepIn K (.ref f15) = true)
    (a16 : PySem.W.nsIn K mainGlobals "answers" = some (some (.ref f16))) (l16 : K.lookup f16 = some ⟨oc16, od16, .func (PySem.W.fnOf "answers" "answers" (defArgs sAns) (defBody sAns) (defScope sAns) .none kV16 dc16 pm16 an16 cd16 ct16), sl16⟩) (c16 : PySem.W.codeIn K cd16 "answers" = true) (k16 : PySem.W.keepIn K (.ref f16) = true)
    (pg : PySem.W.plainGet K C Str.empty = true) (hd : PySem.W.hasDictIn K C = true) (po : PySem.W.plainOver K C = true) (sa : PySem.W.findIn K (.ref C) "__setattr__" = some (some (.builtin "object.__setattr__"))) (mk : PySem.W.makesIn K C = true) (kc : PySem.W.keepIn K (.ref C) = true)
    (nR : PySem.W.findIn K (.ref C) "round_minutes" = some none) (nS : PySem.W.findIn K (.ref C) "seats" = some none) (nC : PySem.W.findIn K (.ref C) "cabins" = some none) (nP : PySem.W.findIn K (.ref C) "people" = some none)
    (q_mrm : PySem.W.nsIn K mainGlobals "MOST_ROUND_MINUTES" = some (some (.int 30 t_mrm))) (q_mst : PySem.W.nsIn K mainGlobals "MOST_SEATS" = some (some (.int 8 t_mst))) (q_mcb : PySem.W.nsIn K mainGlobals "MOST_CABINS" = some (some (.int 20 t_mcb))) (q_mpp : PySem.W.nsIn K mainGlobals "MOST_PEOPLE" = some (some (.int 20 t_mpp))) (q_mtm : PySem.W.nsIn K mainGlobals "MOST_TOLD_MINUTES" = some (some (.int 30 t_mtm))) (q_mmm : PySem.W.nsIn K mainGlobals "MOST_MINUTES_MORE" = some (some (.int 200 t_mmm))) (q_mwl : PySem.W.nsIn K mainGlobals "MOST_WAIT_LET" = some (some (.int 200 t_mwl))) (q_kB : PySem.W.nsIn K mainGlobals "BEGINS" = some (some (.int 0 t_kB))) (q_kC : PySem.W.nsIn K mainGlobals "COME" = some (some (.int 1 t_kC))) (q_kR : PySem.W.nsIn K mainGlobals "ROW" = some (some (.int 2 t_kR))) (q_kT : PySem.W.nsIn K mainGlobals "TIMES" = some (some (.int 3 t_kT))) (q_kE : PySem.W.nsIn K mainGlobals "ENDS" = some (some (.int 4 t_kE)))
    (z_len : PySem.W.nsIn K mainGlobals "len" = some none) (z_min : PySem.W.nsIn K mainGlobals "min" = some none) (z_max : PySem.W.nsIn K mainGlobals "max" = some none) (z_sum : PySem.W.nsIn K mainGlobals "sum" = some none) (z_range : PySem.W.nsIn K mainGlobals "range" = some none) :
    ∃ fd : FuncData, (∀ (s : Shared) (us : List Value), us.length = (["calls"] : List Str).length → BindsTo s fd ⟨us, []⟩ ((["calls"] : List Str).zip us)) ∧ ∀ base : Heap, K.In base → base.Ns mainGlobals mg → FnOk P w K mg base CX0 6 fa fd ["calls"] (spAns K) := by
  have e := hfa.symm.trans (PySem.W.mg_of X G a16)
  cases e
  have U : Txt K mg C := ⟨⟨pg, hd, po, sa⟩, nR, nS, nC, nP, PySem.W.mg_of X G aC⟩
  have T : Top mg := ⟨⟨_, PySem.W.mg_of X G q_mrm⟩, ⟨_, PySem.W.mg_of X G q_mst⟩, ⟨_, PySem.W.mg_of X G q_mcb⟩, ⟨_, PySem.W.mg_of X G q_mpp⟩, ⟨_, PySem.W.mg_of X G q_mtm⟩, ⟨_, PySem.W.mg_of X G q_mmm⟩, ⟨_, PySem.W.mg_of X G q_mwl⟩, ⟨_, PySem.W.mg_of X G q_kB⟩, ⟨_, PySem.W.mg_of X G q_kC⟩, ⟨_, PySem.W.mg_of X G q_kR⟩, ⟨_, PySem.W.mg_of X G q_kT⟩, ⟨_, PySem.W.mg_of X G q_kE⟩, PySem.W.mg_none_of X G z_len, PySem.W.mg_none_of X G z_min, PySem.W.mg_none_of X G z_max, PySem.W.mg_none_of X G z_sum, PySem.W.mg_none_of X G z_range⟩
  have F1 := fun_mk (st := sMost) l1 c1 k1
  have b1 := F1.binds (ps := ["round_minutes"]) fun _ _ _ _ _ _ us hl => match us, hl with | [_], _ => rfl
  have F2 := fun_mk (st := sIsDay) l2 c2 k2
  have b2 := F2.binds (ps := ["round_minutes", "seats", "cabins"]) fun _ _ _ _ _ _ us hl => match us, hl with | [_, _, _], _ => rfl
  have F3 := fun_mk (st := sFirst) l3 c3 k3
  have b3 := F3.binds (ps := ["round_minutes", "cabins"]) fun _ _ _ _ _ _ us hl => match us, hl with | [_, _], _ => rfl
  have F4 := fun_mk (st := sComing) l4 c4 k4
  have b4 := F4.binds (ps := ["people"]) fun _ _ _ _ _ _ us hl => match us, hl with | [_], _ => rfl
  have F5 := fun_mk (st := sInit) l5 c5 k5
  have b5 := F5.binds (ps := ["self"]) fun _ _ _ _ _ _ us hl => match us, hl with | [_], _ => rfl
  have F6 := fun_mk (st := sBegins) l6 c6 k6
  have b6 := F6.binds (ps := ["self", "round_minutes", "seats", "cabins"]) fun _ _ _ _ _ _ us hl => match us, hl with | [_, _, _, _], _ => rfl
  have F7 := fun_mk (st := sCome) l7 c7 k7
  have b7 := F7.binds (ps := ["self", "people"]) fun _ _ _ _ _ _ us hl => match us, hl with | [_, _], _ => rfl
  have F8 := fun_mk (st := sRow) l8 c8 k8
  have b8 := F8.binds (ps := ["self", "minutes"]) fun _ _ _ _ _ _ us hl => match us, hl with | [_, _], _ => rfl
  have F9 := fun_mk (st := sTimes) l9 c9 k9
  have b9 := F9.binds (ps := ["self"]) fun _ _ _ _ _ _ us hl => match us, hl with | [_], _ => rfl
  have F10 := fun_mk (st := sEnds) l10 c10 k10
  have b10 := F10.binds (ps := ["self"]) fun _ _ _ _ _ _ us hl => match us, hl with | [_], _ => rfl
  have F11 := fun_mk (st := sFewest) l11 c11 k11
  have b11 := F11.binds (ps := ["self", "minutes"]) fun _ _ _ _ _ _ us hl => match us, hl with | [_, _], _ => rfl
  have F12 := fun_mk (st := sTill) l12 c12 k12
  have b12 := F12.binds (ps := ["self", "cabins"]) fun _ _ _ _ _ _ us hl => match us, hl with | [_, _], _ => rfl
  have F13 := fun_mk (st := sHave) l13 c13 k13
  have b13 := F13.binds (ps := ["self", "waits"]) fun _ _ _ _ _ _ us hl => match us, hl with | [_, _], _ => rfl
  have F14 := fun_mk (st := sGone) l14 c14 k14
  have b14 := F14.binds (ps := ["self", "cabins", "minutes"]) fun _ _ _ _ _ _ us hl => match us, hl with | [_, _, _], _ => rfl
  have F15 := fun_mk (st := sAnsOf) l15 c15 k15
  have b15 := F15.binds (ps := ["day", "call", "numbers"]) fun _ _ _ _ _ _ us hl => match us, hl with | [_, _, _], _ => rfl
  have F16 := fun_mk (st := sAns) l16 c16 k16
  refine ⟨PySem.W.fnOf "answers" "answers" (defArgs sAns) (defBody sAns) (defScope sAns) .none kV16 dc16 pm16 an16 cd16 ct16, fun s us hu => match us, hu with | [_], _ => .of_eq rfl, fun base _ _ => ?_⟩
  have G1 : FnOk P w K mg base CX0 1 _ _ _ spMost := ok_most F1 T
  have G2 : FnOk P w K mg base CX0 2 _ _ _ spIsDay := ok_isDay F2 T F1 b1 (PySem.W.mg_of X G a1)
  have G3 : FnOk P w K mg base CX0 1 _ _ _ spFirst := ok_first F3 T
  have G4 : FnOk P w K mg base CX0 1 _ _ _ (spComing K) := ok_coming F4 T
  have G5 : FnOk P w K mg base CX0 1 _ _ _ (spInit C) := ok_init F5 U
  have G14 : FnOk P w K mg base CX0 2 _ _ _ (spGone C) := ok_gone F14 T U F3 b3 (PySem.W.mg_of X G a3) F4 b4 (PySem.W.mg_of X G a4)
  have G12 : FnOk P w K mg base CX0 3 _ _ _ (spTill C) := ok_till F12 T U G14 b14 ⟨a14, i14, k14⟩
  have G13 : FnOk P w K mg base CX0 1 _ _ _ (spHave K C) := ok_have F13 T U
  have G6 : FnOk P w K mg base CX0 3 _ _ _ (spBegins C) := ok_begins F6 U G2 k2 b2 (PySem.W.mg_of X G a2)
  have G7 : FnOk P w K mg base CX0 1 _ _ _ (spCome C) := ok_come F7 T U
  have G8 : FnOk P w K mg base CX0 3 _ _ _ (spRow C) := ok_row F8 T U G4 k4 b4 (PySem.W.mg_of X G a4) G14 b14 ⟨a14, i14, k14⟩
  have G9 : FnOk P w K mg base CX0 2 _ _ _ (spTimes C) := ok_times F9 U G3 k3 b3 (PySem.W.mg_of X G a3)
  have G10 : FnOk P w K mg base CX0 4 _ _ _ (spEnds C) := ok_ends F10 T U G12 b12 ⟨a12, i12, k12⟩ G13 b13 ⟨a13, i13, k13⟩
  have G11 : FnOk P w K mg base CX0 4 _ _ _ (spFewest C) := ok_fewest F11 T U G1 k1 b1 (PySem.W.mg_of X G a1) G12 b12 ⟨a12, i12, k12⟩ G13 b13 ⟨a13, i13, k13⟩
  have G15 : FnOk P w K mg base CX0 5 _ _ _ (spAnsOf K C) := ok_ansOf F15 T U ⟨G6, b6, ⟨a6, i6, k6⟩, G7, b7, ⟨a7, i7, k7⟩, G8, b8, ⟨a8, i8, k8⟩, G9, b9, ⟨a9, i9, k9⟩, G10, b10, ⟨a10, i10, k10⟩, G11, b11, ⟨a11, i11, k11⟩⟩
  exact ok_ans F16 T U ⟨mk, a5, i5, kc⟩ G5 b5 G15 k15 b15 (PySem.W.mg_of X G a15) (PySem.W.mg_of X G aN) (six_in lN)
end Cw
open PySem PySem.W PyProof.Rows
set_option maxRecDepth 100000 in
set_option maxHeartbeats 8000000 in
theorem PySem.Challenge.cw_cabinwait_s01_answers_holds : PySem.Challenge.rw_cabinwait_s01_answers.Holds := by
  w_on; k_headS; (case hw => exact ⟨[.list [.int 3]], by decide +kernel, by decide +kernel⟩)
  k_fillS
  refine L2.walk_specK (r := PySem.Challenge.rw_cabinwait_s01_answers) (k := 6) (CX := L2.CX0) (ps := ["calls"]) (sp := Cw.spAns) (by decide +kernel) rfl rfl ⟨rfl, by decide, by decide⟩ (fun w h Y => PySem.W.kIn_of Y) ?F ?S (fun _ _ _ _ z => z)
  case F =>
    intro w mg fa h Y KX G hmg
    refine' Cw.all_mk KX G hmg ?aC ?aN ?lN ?a1 ?l1 ?c1 ?k1 ?a2 ?l2 ?c2 ?k2 ?a3 ?l3 ?c3 ?k3 ?a4 ?l4 ?c4 ?k4 ?a5 ?i5 ?l5 ?c5 ?k5 ?a6 ?i6 ?l6 ?c6 ?k6 ?a7 ?i7 ?l7 ?c7 ?k7 ?a8 ?i8 ?l8 ?c8 ?k8 ?a9 ?i9 ?l9 ?c9 ?k9 ?a10 ?i10 ?l10 ?c10 ?k10 ?a11 ?i11 ?l11 ?c11 ?k11 ?a12 ?i12 ?l12 ?c12 ?k12 ?a13 ?i13 ?l13 ?c13 ?k13 ?a14 ?i14 ?l14 ?c14 ?k14 ?a15 ?l15 ?c15 ?k15 ?a16 ?l16 ?c16 ?k16 ?pg ?hd ?po ?sa ?mk ?kc ?nR ?nS ?nC ?nP ?q_mrm ?q_mst ?q_mcb ?q_mpp ?q_mtm ?q_mmm ?q_mwl ?q_kB ?q_kC ?q_kR ?q_kT ?q_kE ?z_len ?z_min ?z_max ?z_sum ?z_range
    (case aC => k_is); (case aN => k_is); (case lN => k_is); (case a1 => k_is); (case l1 => k_is); (case c1 => k_is); (case k1 => k_is); (case a2 => k_is)
    (case l2 => k_is); (case c2 => k_is); (case k2 => k_is); (case a3 => k_is); (case l3 => k_is); (case c3 => k_is); (case k3 => k_is); (case a4 => k_is)
    (case l4 => k_is); (case c4 => k_is); (case k4 => k_is); (case a5 => k_is); (case i5 => k_is); (case l5 => k_is); (case c5 => k_is); (case k5 => k_is)
    (case a6 => k_is); (case i6 => k_is); (case l6 => k_is); (case c6 => k_is); (case k6 => k_is); (case a7 => k_is); (case i7 => k_is); (case l7 => k_is)
    (case c7 => k_is); (case k7 => k_is); (case a8 => k_is); (case i8 => k_is); (case l8 => k_is); (case c8 => k_is); (case k8 => k_is); (case a9 => k_is)
    (case i9 => k_is); (case l9 => k_is); (case c9 => k_is); (case k9 => k_is); (case a10 => k_is); (case i10 => k_is); (case l10 => k_is); (case c10 => k_is)
    (case k10 => k_is); (case a11 => k_is); (case i11 => k_is); (case l11 => k_is); (case c11 => k_is); (case k11 => k_is); (case a12 => k_is); (case i12 => k_is)
    (case l12 => k_is); (case c12 => k_is); (case k12 => k_is); (case a13 => k_is); (case i13 => k_is); (case l13 => k_is); (case c13 => k_is); (case k13 => k_is)
    (case a14 => k_is); (case i14 => k_is); (case l14 => k_is); (case c14 => k_is); (case k14 => k_is); (case a15 => k_is); (case l15 => k_is); (case c15 => k_is)
    (case k15 => k_is); (case a16 => k_is); (case l16 => k_is); (case c16 => k_is); (case k16 => k_is); (case pg => k_is); (case hd => k_is); (case po => k_is)
    (case sa => k_is); (case mk => k_is); (case kc => k_is); (case nR => k_is); (case nS => k_is); (case nC => k_is); (case nP => k_is); (case q_mrm => k_is)
    (case q_mst => k_is); (case q_mcb => k_is); (case q_mpp => k_is); (case q_mtm => k_is); (case q_mmm => k_is); (case q_mwl => k_is); (case q_kB => k_is); (case q_kC => k_is)
    (case q_kR => k_is); (case q_kT => k_is); (case q_kE => k_is); (case z_len => k_is); (case z_min => k_is); (case z_max => k_is); (case z_sum => k_is); (case z_range => k_is)
  case S =>
    intro K H xs a hO hwi hask hx
    cases hx with
    | cons h1 h2 =>
      cases h2
      cases h1 with
      | lst hs ha =>
        have e := L2.ints_dw a.1 _ ha
        subst e
        have q : ((Codec.inLen 0 400 a.1 && a.1.all (Codec.inInt 0 4294967295)) && true) = true := hwi
        rw [Bool.and_eq_true, Bool.and_eq_true] at q
        exact ⟨_, a.1, rfl, hs, (Codec.inNat_iff.mp q.1.1).2, hask, fun H' p hp => .lst (L2.SqL.of hp) (L2.dw_ints _)⟩
#print axioms PySem.Challenge.cw_cabinwait_s01_answers_holds
