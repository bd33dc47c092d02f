import PyProof.Rows.All
import Wide.All
import OpenK.AllK
import Wide.FinOn
import Open.SpecLaws
import KE.OsGo
import HandS.ForSpec
import HandS.ForMost
import HandS.Zip
import HandS.Walk
import PySem.Challenge.RW_stormgate_s01_answers
/-! The mathematics of stormgate: nothing of the library is needed. -/
namespace Sg
open Sj03

/-! ### A. A list of numbers as calls, told as the document's machine goes through it -/
/-- the numbers that a call takes in the list -/
def toks : Call → List Int
  | .begins a b c d e f => [0, (a : Int), (b : Int), (c : Int), (d : Int), (e : Int), (f : Int)]
  | .hour h => [1, (h.rain : Int), (h.sea : Int), (h.power : Int)]
  | .check l => 2 :: (l.length : Int) :: Sj03.ints l
  | .best => [3]
  | .shut => [4]
  | .still => [5]
  | .needs => [6]
def out (a : Ans) : List Int := a.v :: a.l
/-- what the statement asks of a call's numbers -/
def Small : Call → Prop
  | .check l => l.length ≤ 14
  | _ => True
/-- a line from a state on: its numbers, and what is due for them -/
inductive Line : Storm → List Int → List Int → Prop
  | nil {s : Storm} : Line s [] []
  | call {s : Storm} (q : Call) {t d : List Int} : Small q → Line (step s q).1 t d →
      Line s (toks q ++ t) (((out (step s q).2).length : Int) :: out (step s q).2 ++ d)

theorem nat_of {z : Int} (h : Sj03Neutral.natural z 32 = true) : ((z.toNat : Nat) : Int) = z := by
  unfold Sj03Neutral.natural at h
  rw [Bool.and_eq_true, decide_eq_true_eq] at h
  exact Int.toNat_of_nonneg h.1
theorem ints_toNat : ∀ {l : List Int}, l.all (fun (z : Int) => Sj03Neutral.natural z 32) = true → Sj03.ints (l.map Int.toNat) = l
  | [], _ => rfl
  | z :: r, h => by
    rw [List.all_cons, Bool.and_eq_true] at h
    have ih := ints_toNat h.2
    unfold Sj03.ints at ih ⊢
    rw [List.map_cons, List.map_cons, nat_of h.1, ih]

theorem shape_none {p : Int} (h0 : p ≠ 0) (h1 : p ≠ 1) (h2 : p ≠ 2) (h3 : p ≠ 3) (h4 : p ≠ 4) (h5 : p ≠ 5) (h6 : p ≠ 6) : PySj03.shape p = none := by
  unfold PySj03.shape
  rw [if_neg h0, if_neg h1, if_neg h2, if_neg h3, if_neg h4, if_neg h5, if_neg h6]
/-- a call without rows -/
theorem call_plain {p : Int} {r t : List Int} {c : List (List Int)} {k : Nat} (e : PySj03.shape p = some (k, 0)) (h : PyFlat.call PySj03.shape (p :: r) = some (c, t)) :
    ∃ x, x.length = k ∧ r = x ++ t ∧ c = [p :: x] := by
  unfold PyFlat.call at h
  simp only [e] at h
  split at h
  · cases h
  · rename_i hk
    simp only [PyFlat.rows, Option.some.injEq, Prod.mk.injEq] at h
    obtain ⟨h1, h2⟩ := h
    refine ⟨r.take k, ?_, ?_, h1.symm⟩
    · rw [List.length_take]; omega
    · rw [← h2, List.take_append_drop]
/-- check's -/
theorem call_check {r t : List Int} {c : List (List Int)} (h : PyFlat.call PySj03.shape (2 :: r) = some (c, t)) :
    ∃ x : List Int, r = (x.length : Int) :: x ++ t ∧ c = [[2], x] := by
  have e : PySj03.shape 2 = some (0, 1) := by decide
  unfold PyFlat.call at h
  simp only [e, Nat.not_lt_zero, if_false, List.drop_zero, List.take_zero] at h
  cases r with
  | nil => simp [PyFlat.rows, PyFlat.row] at h
  | cons n r =>
    simp only [PyFlat.rows, PyFlat.row] at h
    split at h
    · cases h
    · rename_i q hq
      split at hq
      · cases hq
      · rename_i x s' hx
        split at hx
        · rename_i hn
          simp only [Option.some.injEq, Prod.mk.injEq] at hx hq h
          obtain ⟨rfl, rfl⟩ := hx
          obtain ⟨rfl, rfl⟩ := hq
          obtain ⟨rfl, rfl⟩ := h
          refine ⟨r.take n.toNat, ?_, rfl⟩
          rw [List.length_take, Nat.min_eq_left hn.2, Int.toNat_of_nonneg hn.1, List.cons_append, List.take_append_drop]
        · cases hx
theorem len6 {x : List Int} (h : x.length = 6) : ∃ a b c d e f, x = [a, b, c, d, e, f] := by
  match x, h with
  | [a, b, c, d, e, f], _ => exact ⟨a, b, c, d, e, f, rfl⟩
theorem len3 {x : List Int} (h : x.length = 3) : ∃ a b c, x = [a, b, c] := by
  match x, h with
  | [a, b, c], _ => exact ⟨a, b, c, rfl⟩
/-- one call of the list: which it is, by its numbers -/
theorem one_call {p : Int} {r : List Int} {c : List (List Int)} {t : List Int} (h : PyFlat.call PySj03.shape (p :: r) = some (c, t))
    (ha : Sj03Neutral.asked1 (PySj03.whole c) = true) :
    ∃ q, Small q ∧ p :: r = toks q ++ t ∧ Sj03Neutral.callOf ((PySj03.whole c).headD []) = some q := by
  unfold Sj03Neutral.asked1 at ha
  rw [Bool.and_eq_true, Bool.and_eq_true] at ha
  obtain ⟨-, hn, hs⟩ := ha
  by_cases h0 : p = 0
  · subst h0
    obtain ⟨x, hx, rfl, rfl⟩ := call_plain (k := 6) (by decide) h
    obtain ⟨a, b, c, d, e, f, rfl⟩ := len6 hx
    simp only [PySj03.whole, List.headD_cons, List.all_cons, List.all_nil, Bool.and_eq_true] at hn
    obtain ⟨-, ha, hb, hc, hd, he, hf, -⟩ := hn
    refine ⟨.begins a.toNat b.toNat c.toNat d.toNat e.toNat f.toNat, trivial, ?_, rfl⟩
    simp only [toks, nat_of ha, nat_of hb, nat_of hc, nat_of hd, nat_of he, nat_of hf, List.cons_append, List.nil_append]
  by_cases h1 : p = 1
  · subst h1
    obtain ⟨x, hx, rfl, rfl⟩ := call_plain (k := 3) (by decide) h
    obtain ⟨a, b, c, rfl⟩ := len3 hx
    simp only [PySj03.whole, List.headD_cons, List.all_cons, List.all_nil, Bool.and_eq_true] at hn
    obtain ⟨-, ha, hb, hc, -⟩ := hn
    refine ⟨.hour ⟨a.toNat, b.toNat, c.toNat⟩, trivial, ?_, rfl⟩
    simp only [toks, nat_of ha, nat_of hb, nat_of hc, List.cons_append, List.nil_append]
  by_cases h2 : p = 2
  · subst h2
    obtain ⟨x, rfl, rfl⟩ := call_check h
    have e : PySj03.whole [[2], x] = [2 :: x] := rfl
    rw [e] at hn hs ⊢
    simp only [List.headD_cons, List.all_cons, Bool.and_eq_true] at hn hs ⊢
    have co : Sj03Neutral.callOf (2 :: x) = if (x.map Int.toNat).length ≤ 14 then some (.check (x.map Int.toNat)) else none := by
      unfold Sj03Neutral.callOf
      rfl
    by_cases hl : (x.map Int.toNat).length ≤ 14
    · rw [if_pos hl] at co
      refine ⟨.check (x.map Int.toNat), hl, ?_, co⟩
      simp only [toks, ints_toNat hn.2, List.length_map, List.cons_append]
    · rw [co, if_neg hl] at hs
      cases hs
  by_cases h3 : p = 3
  · subst h3
    obtain ⟨x, hx, rfl, rfl⟩ := call_plain (k := 0) (by decide) h
    obtain rfl := List.eq_nil_of_length_eq_zero hx
    exact ⟨.best, trivial, rfl, rfl⟩
  by_cases h4 : p = 4
  · subst h4
    obtain ⟨x, hx, rfl, rfl⟩ := call_plain (k := 0) (by decide) h
    obtain rfl := List.eq_nil_of_length_eq_zero hx
    exact ⟨.shut, trivial, rfl, rfl⟩
  by_cases h5 : p = 5
  · subst h5
    obtain ⟨x, hx, rfl, rfl⟩ := call_plain (k := 0) (by decide) h
    obtain rfl := List.eq_nil_of_length_eq_zero hx
    exact ⟨.still, trivial, rfl, rfl⟩
  by_cases h6 : p = 6
  · subst h6
    obtain ⟨x, hx, rfl, rfl⟩ := call_plain (k := 0) (by decide) h
    obtain rfl := List.eq_nil_of_length_eq_zero hx
    exact ⟨.needs, trivial, rfl, rfl⟩
  · simp only [PyFlat.call, shape_none h0 h1 h2 h3 h4 h5 h6] at h
    cases h
/-- what is due for calls, from a state on -/
def dueOf (s : Storm) (cs : List (List (List Int))) : List Int := PyFlat.told (PyFlat.played Sj03Neutral.step s cs)
theorem due_cons (s : Storm) (c : List (List Int)) (cs : List (List (List Int))) (q : Call) (h : Sj03Neutral.callOf (c.headD []) = some q) :
    dueOf s (c :: cs) = ((out (step s q).2).length : Int) :: out (step s q).2 ++ dueOf (step s q).1 cs := by
  have e : Sj03Neutral.step s c = ((step s q).1, out (step s q).2) := by
    unfold Sj03Neutral.step
    rw [h]
    rfl
  have e2 : PyFlat.played Sj03Neutral.step s (c :: cs) = out (step s q).2 :: PyFlat.played Sj03Neutral.step (step s q).1 cs := by
    show (Sj03Neutral.step s c).2 :: PyFlat.played Sj03Neutral.step (Sj03Neutral.step s c).1 cs = _
    rw [e]
  unfold dueOf PyFlat.told
  rw [e2, List.flatMap_cons]
theorem line_of : ∀ (f : Nat) (s : Storm) (ns : List Int) (raw : List (List (List Int))), PyFlat.calls PySj03.shape f ns = some raw →
    (raw.map PySj03.whole).all Sj03Neutral.asked1 = true → Line s ns (dueOf s (raw.map PySj03.whole))
  | f, s, [], raw, h, _ => by
    have e : raw = [] := by
      cases f <;> simp [PyFlat.calls] at h <;> exact h
    subst e
    exact .nil
  | 0, s, p :: r, raw, h, _ => by simp [PyFlat.calls] at h
  | f + 1, s, p :: r, raw, h, ha => by
    unfold PyFlat.calls at h
    split at h
    · cases h
    · rename_i c t hc
      split at h
      · cases h
      · rename_i cs hcs
        cases h
        rw [List.map_cons, List.all_cons, Bool.and_eq_true] at ha
        obtain ⟨q, hq, e, hcall⟩ := one_call hc ha.1
        rw [List.map_cons, due_cons s _ _ q hcall, e]
        exact .call q hq (line_of f _ t cs hcs ha.2)
/-- **what is asked, as a line** -/
theorem asked_line {ns : List Int} (h : PySj03.answers_asked ns = true) : Line init ns (PySj03.answers ns) := by
  unfold PySj03.answers_asked at h
  unfold PySj03.answers PySj03.calls
  split at h
  · cases h
  · rename_i raw hr
    simp only [Bool.and_eq_true] at h
    have ha := h.1.2
    unfold Sj03Neutral.asked at ha
    rw [Bool.and_eq_true] at ha
    exact line_of _ _ _ _ hr ha.1
theorem asked_short {ns : List Int} (h : PySj03.answers_asked ns = true) : (PySj03.answers ns).length ≤ 10000000 := by
  unfold PySj03.answers_asked at h
  split at h
  · cases h
  · simp only [Bool.and_eq_true] at h
    exact of_decide_eq_true h.2

/-! ### B. What a storm's numbers may be -/
structure Fine (s : Storm) : Prop where
  st : s.stands ≤ 60
  lh : s.low ≤ s.high
  hi : s.high ≤ 60
  pu : s.pumps ≤ 12
  wi : s.wide ≤ 100
  sa : s.salt ≤ 100
  hn : s.hours.length ≤ 6
  hs : ∀ h ∈ s.hours, h.rain ≤ 30 ∧ h.sea ≤ 100 ∧ h.power ≤ 100
theorem fine_init : Fine init := ⟨by decide, by decide, by decide, by decide, by decide, by decide, by decide, fun h hh => by cases hh⟩
theorem fine_shut {s : Storm} (F : Fine s) : Fine s.shut := ⟨F.st, F.lh, F.hi, F.pu, Nat.zero_le _, F.sa, F.hn, F.hs⟩
theorem fine_still {s : Storm} (F : Fine s) : Fine s.still := ⟨F.st, F.lh, F.hi, Nat.zero_le _, F.wi, F.sa, F.hn, F.hs⟩
theorem fine_high {s : Storm} (F : Fine s) {n : Nat} (h1 : s.low ≤ n) (h2 : n ≤ 60) : Fine { s with high := n } := ⟨F.st, h1, h2, F.pu, F.wi, F.sa, F.hn, F.hs⟩
theorem fine_begins {a l h c w t : Nat} (e : ¬ (Si97.MOST < a ∨ Si97.MOST < h ∨ h < l ∨ Si97.PUMPS < c ∨ Si99.SEA < w ∨ POWER < t)) : Fine ⟨a, l, h, c, w, t, []⟩ := by
  simp only [Si97.MOST, Si97.PUMPS, Si99.SEA, POWER, not_or, Nat.not_lt] at e
  obtain ⟨e1, e2, e3, e4, e5, e6⟩ := e
  exact ⟨e1, e3, e2, e4, e5, e6, Nat.zero_le _, fun h hh => by cases hh⟩
theorem fine_hour {s : Storm} (F : Fine s) {h : Hour} (e : ¬ (Si97.RAIN < h.rain ∨ Si99.SEA < h.sea ∨ POWER < h.power)) (hl : ¬ HOURS ≤ s.hours.length) : Fine { s with hours := s.hours ++ [h] } := by
  simp only [Si97.RAIN, Si99.SEA, POWER, not_or, Nat.not_lt] at e
  simp only [HOURS] at hl
  refine ⟨F.st, F.lh, F.hi, F.pu, F.wi, F.sa, ?_, fun x hx => ?_⟩
  · simp only [List.length_append, List.length_cons, List.length_nil]
    omega
  · rcases List.mem_append.mp hx with hx | hx
    · exact F.hs x hx
    · rw [List.mem_singleton.mp hx]
      exact ⟨e.1, e.2.1, e.2.2⟩
/-- each call keeps it -/
theorem fine_step {s : Storm} (F : Fine s) (q : Call) : Fine (step s q).1 := by
  cases q with
  | begins a l h c w t =>
    simp only [step]
    split
    · exact F
    · rename_i e
      exact fine_begins e
  | hour h =>
    simp only [step]
    split
    · exact F
    · rename_i e
      split
      · exact F
      · rename_i e2
        exact fine_hour F e e2
  | check l =>
    simp only [step]
    split <;> exact F
  | best => exact F
  | shut => exact F
  | still => exact F
  | needs => exact F

/-! ### C. An hour -/
/-- how much runs through the gate: above 0 in, below 0 out -/
def runs (s : Storm) (h : Hour) (w g : Nat) : Int :=
  if g = 0 then 0 else if (h.sea : Int) ≤ (w : Int) + h.rain then -(min ((w : Int) + h.rain - h.sea) s.wide) else min ((h.sea : Int) - ((w : Int) + h.rain)) s.wide
/-- how high it stands behind an hour, with so much pumped -/
def behind (s : Storm) (h : Hour) (w g x : Nat) : Int := (w : Int) + h.rain + runs s h w g - x
theorem gate_fst (s : Storm) (h : Hour) (w g : Nat) : ((s.gate w h g).1 : Int) = (w : Int) + h.rain + runs s h w g := by
  unfold Storm.gate Si99.after runs Si99.opened Storm.sluice
  by_cases hg : g = 0
  · simp only [hg, if_true]
    omega
  · simp only [hg, if_false]
    by_cases hs : h.sea ≤ w + h.rain
    · have hs' : (h.sea : Int) ≤ (w : Int) + h.rain := by omega
      simp only [hs, hs', if_true]
      omega
    · have hs' : ¬ (h.sea : Int) ≤ (w : Int) + h.rain := by omega
      simp only [hs, hs', if_false]
      omega
theorem gate_snd (s : Storm) (h : Hour) (w g : Nat) : ((s.gate w h g).2 : Int) = max (runs s h w g) 0 := by
  unfold Storm.gate Si99.after runs Si99.opened Storm.sluice
  by_cases hg : g = 0
  · simp only [hg, if_true]
    omega
  · simp only [hg, if_false]
    by_cases hs : h.sea ≤ w + h.rain
    · have hs' : (h.sea : Int) ≤ (w : Int) + h.rain := by omega
      simp only [hs, hs', if_true]
      omega
    · have hs' : ¬ (h.sea : Int) ≤ (w : Int) + h.rain := by omega
      simp only [hs, hs', if_false]
      omega
theorem pays_int (s : Storm) (h : Hour) (w g x : Nat) : ((s.pays w h g x : Nat) : Int) = (h.power : Int) * x + (s.salt : Int) * max (runs s h w g) 0 := by
  unfold Storm.pays
  rw [← gate_snd]
  simp only [Int.natCast_add, Int.natCast_mul]
/-- what is wrong, as the program asks it -/
def wrongI (s : Storm) (b : Int) (x : Nat) : Nat := if s.pumps < x then 1 else if b < s.low then 2 else if (s.high : Int) < b then 3 else 0
theorem wrong_is (s : Storm) (h : Hour) (w g x : Nat) : s.wrong w h g x = wrongI s (behind s h w g x) x := by
  unfold Storm.wrong wrongI behind
  have e := gate_fst s h w g
  simp only []
  generalize (s.gate w h g).1 = u at e ⊢
  have e1 : (u < s.low + x) ↔ ((w : Int) + h.rain + runs s h w g - x < s.low) := by omega
  have e2 : (s.high + x < u) ↔ ((s.high : Int) < (w : Int) + h.rain + runs s h w g - x) := by omega
  simp only [e1, e2]
/-- nothing wrong: the height behind is a number from low to high -/
theorem behind_fine {s : Storm} {h : Hour} {w g x : Nat} (e : s.wrong w h g x = 0) :
    (((s.gate w h g).1 - x : Nat) : Int) = behind s h w g x ∧ s.low ≤ (s.gate w h g).1 - x ∧ (s.gate w h g).1 - x ≤ s.high ∧ x ≤ s.pumps := by
  have e1 := gate_fst s h w g
  unfold Storm.wrong at e
  unfold behind
  simp only [] at e
  generalize (s.gate w h g).1 = u at e e1 ⊢
  split at e
  · cases e
  · split at e
    · cases e
    · split at e
      · cases e
      · omega

/-! ### D. The table, for all heights from 0 to 60 -/
/-- one choice of gate and pumps, ahead of what is best from there on -/
def withO (s : Storm) (later : Table) (h : Hour) (w o x : Nat) : Option Si97.Best :=
  if s.wrong w h o x ≠ 0 then none else (later.getD ((s.gate w h o).1 - x) none).map fun b => ⟨s.pays w h o x + b.cost, b.many, o :: x :: b.row⟩
def pumpF (s : Storm) (later : Table) (h : Hour) (w o : Nat) (f : Option Si97.Best) (n : Nat) : Option Si97.Best :=
  (List.range n).foldl (fun f x => Si97.lesser f (withO s later h w o x)) f
theorem pumpF_zero (s : Storm) (later : Table) (h : Hour) (w o : Nat) (f : Option Si97.Best) : pumpF s later h w o f 0 = f := rfl
theorem pumpF_succ (s : Storm) (later : Table) (h : Hour) (w o : Nat) (f : Option Si97.Best) (n : Nat) :
    pumpF s later h w o f (n + 1) = Si97.lesser (pumpF s later h w o f n) (withO s later h w o n) := by
  unfold pumpF
  rw [List.range_succ, List.foldl_append]
  rfl
theorem from_is (s : Storm) (later : Table) (h : Hour) (w : Nat) :
    s.from_ later h w = pumpF s later h w 1 (pumpF s later h w 0 none (s.pumps + 1)) (s.pumps + 1) := by
  unfold Storm.from_ pumpF
  have e : List.range 2 = [0, 1] := by decide
  rw [e, List.flatMap_cons, List.flatMap_cons, List.flatMap_nil, List.append_nil, List.foldl_append, List.foldl_map, List.foldl_map]
  rfl
theorem from_congr {s : Storm} {l1 l2 : Table} (e : ∀ u, u ≤ s.high → l1.getD u none = l2.getD u none) (h : Hour) (w : Nat) : s.from_ l1 h w = s.from_ l2 h w := by
  have k : ∀ o x, withO s l1 h w o x = withO s l2 h w o x := by
    intro o x
    unfold withO
    by_cases hw : s.wrong w h o x = 0
    · rw [e _ (behind_fine hw).2.2.1]
    · rw [if_pos hw, if_pos hw]
  rw [from_is, from_is]
  unfold pumpF
  simp only [k]
/-- the table of the heights 0 to 60 -/
def tab (s : Storm) : List Hour → Table
  | [] => List.replicate 61 (some ⟨0, 1, []⟩)
  | h :: hs => (List.range 61).map fun w => s.from_ (tab s hs) h w
theorem tab_length (s : Storm) : ∀ hs, (tab s hs).length = 61
  | [] => List.length_replicate
  | h :: hs => by
    unfold tab
    rw [List.length_map, List.length_range]
theorem getD_replicate {α : Type} {n w : Nat} {x d : α} (h : w < n) : (List.replicate n x).getD w d = x := by
  rw [List.getD_eq_getElem?_getD, List.getElem?_replicate, if_pos h]
  rfl
theorem getD_range {α : Type} {n w : Nat} {f : Nat → α} {d : α} (h : w < n) : ((List.range n).map f).getD w d = f w := by
  rw [List.getD_eq_getElem?_getD, List.getElem?_map, List.getElem?_range h]
  rfl
theorem tab_table {s : Storm} (F : Fine s) : ∀ (hs : List Hour) (w : Nat), w < s.levels → (s.table hs).getD w none = (tab s hs).getD w none
  | [], w, hw => by
    have h2 : w < 61 := by
      have := F.st
      have := F.hi
      unfold Storm.levels at hw
      omega
    unfold Storm.table tab
    rw [getD_replicate hw, getD_replicate h2]
  | h :: hs, w, hw => by
    have h2 : w < 61 := by
      have := F.st
      have := F.hi
      unfold Storm.levels at hw
      omega
    unfold Storm.table tab
    rw [getD_range hw, getD_range h2]
    refine from_congr (fun u hu => tab_table F hs u ?_) h w
    unfold Storm.levels
    omega
theorem best_is {s : Storm} (F : Fine s) : s.best = (tab s s.hours).getD s.stands none := by
  unfold Storm.best
  exact tab_table F _ _ (by unfold Storm.levels; omega)

/-! ### E. check -/
theorem gates_all : ∀ (n : Nat) (l : List Nat), l.length = 2 * n → ((∀ j, j < n → l.getD (2 * j) 0 ≤ 1) ↔ ((gates l).all fun o => decide (o < 2)) = true)
  | 0, l, h => by
    obtain rfl := List.eq_nil_of_length_eq_zero h
    simp [gates]
  | n + 1, [], h => by simp at h
  | n + 1, [a], h => by simp at h; omega
  | n + 1, o :: x :: l, h => by
    have ih := gates_all n l (by simp at h; omega)
    rw [gates, List.all_cons, Bool.and_eq_true, ← ih, decide_eq_true_eq]
    constructor
    · intro k
      refine ⟨Nat.lt_succ_of_le (k 0 (Nat.succ_pos n)), fun j hj => ?_⟩
      have := k (j + 1) (by omega)
      rwa [show 2 * (j + 1) = 2 * j + 2 from by omega] at this
    · intro k j hj
      cases j with
      | zero => exact Nat.le_of_lt_succ k.1
      | succ j =>
        rw [show 2 * (j + 1) = 2 * j + 2 from by omega]
        exact k.2 j (by omega)
/-- behind i hours of a plan: what goes on from here, told of the whole -/
def Walked (s : Storm) (l : List Nat) (i w : Nat) (done : List (Nat × Nat)) : Prop :=
  s.goes 0 s.stands s.hours l = (match s.goes i w (s.hours.drop i) (l.drop (2 * i)) with
    | .error e => .error e
    | .ok r => .ok (done ++ r))
theorem walked_start (s : Storm) (l : List Nat) : Walked s l 0 s.stands [] := by
  unfold Walked
  simp only [List.drop_zero, Nat.mul_zero, List.nil_append]
  split <;> rename_i e <;> exact e
theorem drop_two {l : List Nat} {i : Nat} (h : 2 * i + 1 < l.length) : l.drop (2 * i) = l.getD (2 * i) 0 :: l.getD (2 * i + 1) 0 :: l.drop (2 * (i + 1)) := by
  have g : ∀ j (hj : j < l.length), l.getD j 0 = l[j] := fun j hj => by
    rw [List.getD_eq_getElem?_getD, List.getElem?_eq_getElem hj]
    rfl
  rw [List.drop_eq_getElem_cons (by omega), List.drop_eq_getElem_cons h, g _ (by omega), g _ h]
  rfl
theorem walked_wrong {s : Storm} {l : List Nat} {i w : Nat} {done : List (Nat × Nat)} {h : Hour} (W : Walked s l i w done) (hh : s.hours[i]? = some h) (hl : 2 * i + 1 < l.length)
    (e : s.wrong w h (l.getD (2 * i) 0) (l.getD (2 * i + 1) 0) ≠ 0) : s.goes 0 s.stands s.hours l = .error (i, s.wrong w h (l.getD (2 * i) 0) (l.getD (2 * i + 1) 0)) := by
  obtain ⟨hi, rfl⟩ := List.getElem?_eq_some_iff.mp hh
  unfold Walked at W
  rw [W, drop_two hl, List.drop_eq_getElem_cons hi, Storm.goes, if_pos e]
theorem walked_on {s : Storm} {l : List Nat} {i w : Nat} {done : List (Nat × Nat)} {h : Hour} (W : Walked s l i w done) (hh : s.hours[i]? = some h) (hl : 2 * i + 1 < l.length)
    (e : s.wrong w h (l.getD (2 * i) 0) (l.getD (2 * i + 1) 0) = 0) :
    Walked s l (i + 1) ((s.gate w h (l.getD (2 * i) 0)).1 - l.getD (2 * i + 1) 0) (done ++ [((s.gate w h (l.getD (2 * i) 0)).1 - l.getD (2 * i + 1) 0, s.pays w h (l.getD (2 * i) 0) (l.getD (2 * i + 1) 0))]) := by
  obtain ⟨hi, rfl⟩ := List.getElem?_eq_some_iff.mp hh
  unfold Walked at W ⊢
  rw [W, drop_two hl, List.drop_eq_getElem_cons hi, Storm.goes, if_neg (fun q => q e)]
  simp only []
  cases s.goes (i + 1) ((s.gate w s.hours[i] (l.getD (2 * i) 0)).1 - l.getD (2 * i + 1) 0) (s.hours.drop (i + 1)) (l.drop (2 * (i + 1))) with
  | error e => rfl
  | ok r => simp only [List.append_assoc, List.cons_append, List.nil_append]
theorem walked_end {s : Storm} {l : List Nat} {w : Nat} {done : List (Nat × Nat)} (W : Walked s l s.hours.length w done) : s.goes 0 s.stands s.hours l = .ok done := by
  unfold Walked at W
  have e : ∀ (i : Nat) (l : List Nat), s.goes i w [] l = .ok [] := fun i l => by
    unfold Storm.goes
    rfl
  rw [W, List.drop_length, e]
  simp only [List.append_nil]
theorem step_check_no {s : Storm} {l : List Nat} (h : s.told l = false) : step s (.check l) = (s, ok (-1)) := by
  simp only [step, h, if_true]
theorem step_check_wrong {s : Storm} {l : List Nat} {i k : Nat} (h : s.told l = true) (e : s.goes 0 s.stands s.hours l = .error (i, k)) : step s (.check l) = (s, ⟨-6, [(i : Int), (k : Int)]⟩) := by
  simp only [step, h, e, Bool.true_eq_false, if_false]
  rfl
theorem step_check_ok {s : Storm} {l : List Nat} {done : List (Nat × Nat)} (h : s.told l = true) (e : s.goes 0 s.stands s.hours l = .ok done) :
    step s (.check l) = (s, ⟨(((done.map fun x => x.2).sum : Nat) : Int), Sj03.ints (done.map fun x => x.1)⟩) := by
  simp only [step, h, e, Bool.true_eq_false, if_false, Storm.cost]

/-! ### F. needs -/
theorem find_first {p : Nat → Bool} {m n : Nat} (hn : n < m) (h1 : ∀ j, j < n → p j = false) (h2 : p n = true) : (List.range m).find? p = some n := by
  rw [List.find?_range_eq_some]
  exact ⟨h2, List.mem_range.mpr hn, fun j hj => by rw [h1 j hj]; rfl⟩
theorem find_none {p : Nat → Bool} {m : Nat} (h : ∀ j, j < m → p j = false) : (List.range m).find? p = none := by
  rw [List.find?_eq_none]
  intro x hx
  rw [h x (List.mem_range.mp hx)]
  exact Bool.false_ne_true
theorem needs_some {s : Storm} {n : Nat} (h1 : s.low ≤ n) (h2 : n ≤ 60) (h3 : ∀ j, s.low ≤ j → j < n → ({ s with high := j } : Storm).best = none) (h4 : ({ s with high := n } : Storm).best.isSome = true) : s.needs = some n := by
  refine find_first (show n < 60 + 1 by omega) (fun j hj => ?_) ?_
  · by_cases c : s.low ≤ j
    · rw [h3 j c hj]
      simp
    · simp [c]
  · simp [h1, h4]
theorem needs_none {s : Storm} (h : ∀ j, s.low ≤ j → j ≤ 60 → ({ s with high := j } : Storm).best = none) : s.needs = none := by
  refine find_none fun j hj => ?_
  have hj' : j < 60 + 1 := hj
  by_cases c : s.low ≤ j
  · rw [h j c (by omega)]
    simp
  · simp [c]

/-! ### G. How long a plan is -/
def Short (n : Nat) (o : Option Si97.Best) : Prop := ∀ c, o = some c → c.row.length ≤ n
theorem short_none (n : Nat) : Short n none := fun _ h => nomatch h
theorem short_lesser {n : Nat} : ∀ {a b : Option Si97.Best}, Short n a → Short n b → Short n (Si97.lesser a b)
  | none, _, _, hb => by
    show Short n (Si97.lesser none _)
    unfold Si97.lesser
    exact hb
  | some x, none, ha, _ => ha
  | some x, some y, ha, hb => by
    intro c hc
    unfold Si97.lesser at hc
    simp only [] at hc
    split at hc
    · exact hb c hc
    · split at hc
      · cases hc
        exact ha x rfl
      · exact ha c hc
theorem short_with {s : Storm} {t : Table} {n : Nat} (ht : ∀ u, Short n (t.getD u none)) (h : Hour) (w o x : Nat) : Short (n + 2) (withO s t h w o x) := by
  intro c hc
  unfold withO at hc
  split at hc
  · cases hc
  · have q := ht ((s.gate w h o).1 - x)
    cases e : t.getD ((s.gate w h o).1 - x) none with
    | none =>
      rw [e] at hc
      cases hc
    | some b =>
      rw [e] at hc q
      cases hc
      have := q b rfl
      simp only [List.length_cons]
      omega
theorem short_pump {s : Storm} {t : Table} {n : Nat} (ht : ∀ u, Short n (t.getD u none)) (h : Hour) (w o : Nat) {f : Option Si97.Best} (hf : Short (n + 2) f) : ∀ m, Short (n + 2) (pumpF s t h w o f m)
  | 0 => hf
  | m + 1 => by
    rw [pumpF_succ]
    exact short_lesser (short_pump ht h w o hf m) (short_with ht h w o m)
theorem short_from {s : Storm} {t : Table} {n : Nat} (ht : ∀ u, Short n (t.getD u none)) (h : Hour) (w : Nat) : Short (n + 2) (s.from_ t h w) := by
  rw [from_is]
  exact short_pump ht h w 1 (short_pump ht h w 0 (short_none _) _) _
theorem short_out {α : Type} {n u : Nat} {f : Nat → α} {d : α} (h : ¬ u < n) : ((List.range n).map f).getD u d = d := by
  rw [List.getD_eq_getElem?_getD, List.getElem?_eq_none (by rw [List.length_map, List.length_range]; omega)]
  rfl
theorem short_tab (s : Storm) : ∀ (hs : List Hour) (u : Nat), Short (2 * hs.length) ((tab s hs).getD u none)
  | [], u => by
    intro c hc
    unfold tab at hc
    by_cases hu : u < 61
    · rw [getD_replicate hu] at hc
      cases hc
      exact Nat.zero_le _
    · rw [List.getD_eq_getElem?_getD, List.getElem?_eq_none (by rw [List.length_replicate]; omega)] at hc
      cases hc
  | h :: hs, u => by
    unfold tab
    by_cases hu : u < 61
    · rw [getD_range hu]
      exact short_from (short_tab s hs) h u
    · rw [short_out hu]
      exact short_none _
theorem getD_at {α : Type} {l : List α} {i : Nat} {d : α} (h : i < l.length) : l[i]? = some (l.getD i d) := by
  rw [List.getD_eq_getElem?_getD, List.getElem?_eq_getElem h]
  rfl
end Sg
set_option Elab.async false
set_option linter.all false
set_option maxRecDepth 100000
set_option maxHeartbeats 4000000
/-! The text of the program by places; how a storm, an hour and a best plan lie in the heap. -/
namespace Sg
open PySem PySem.Spec PyProof.Rows L2

/-! ### 1. The text by places -/
def top (i : Nat) : Stmt := PySem.Challenge.pw_stormgate_s01_answers.main.body.getD i (.Pass ⟨0, 0, 0, 0⟩)
abbrev xNot : Stmt := top 1
abbrev xMore : Stmt := top 2
abbrev xNone : Stmt := top 3
abbrev xRuns : Stmt := top 5
abbrev xBehind : Stmt := top 6
abbrev xCosts : Stmt := top 7
abbrev xWrong : Stmt := top 8
abbrev xTold : Stmt := top 9
abbrev xCheck : Stmt := top 10
abbrev xStorm : Stmt := inClass (top 14) 0
abbrev xHour : Stmt := inClass (top 15) 0
abbrev xWithWidth : Stmt := top 16
abbrev xWithPumps : Stmt := top 17
abbrev xWithHigh : Stmt := top 18
abbrev xStormTold : Stmt := top 19
abbrev xHourTold : Stmt := top 20
abbrev xBeyond : Stmt := top 21
abbrev xCheapest : Stmt := inClass (top 23) 0
abbrev xBest : Stmt := top 24
abbrev xByHeight : Stmt := top 25
abbrev xFrom : Stmt := top 26
abbrev xWith : Stmt := top 27
abbrev xCheaper : Stmt := top 28
abbrev xLeast : Stmt := top 30
abbrev xLeastBy : Stmt := top 31
abbrev xLeastFrom : Stmt := top 32
abbrev xLine : Stmt := inClass (top 34) 0
abbrev xLBegins : Stmt := inClass (top 34) 1
abbrev xLHour : Stmt := inClass (top 34) 2
abbrev xLCheck : Stmt := inClass (top 34) 3
abbrev xLBest : Stmt := inClass (top 34) 4
abbrev xLShut : Stmt := inClass (top 34) 5
abbrev xLStill : Stmt := inClass (top 34) 6
abbrev xLNeeds : Stmt := inClass (top 34) 7
abbrev xAnswers : Stmt := top 42
abbrev xEnd : Stmt := top 43
abbrev xAnswer : Stmt := top 44

/-! ### 2. Fields by name -/
theorem lk_here {k : Str} {v : V} {r : List (Str × V)} : List.lookup k ((k, v) :: r) = some v := by
  have e : (k == k) = true := beq_self_eq_true k
  simp only [List.lookup, e]
theorem lk_past {k g : Str} {v : V} {r : List (Str × V)} (h : (k == g) = false) : List.lookup k ((g, v) :: r) = List.lookup k r := by
  simp only [List.lookup, h]
theorem put_here {f : Str} {v x : V} {r : List (Str × V)} : putF f v ((f, x) :: r) = (f, v) :: r := if_pos rfl
theorem put_past {f g : Str} {v x : V} {r : List (Str × V)} (h : ¬ g = f) : putF f v ((g, x) :: r) = (g, x) :: putF f v r := if_neg h
def n_ (n : Nat) : V := .int (n : Int)

/-- a storm's fields -/
def sF (s : Sj03.Storm) : List (Str × V) := [("stands", n_ s.stands), ("low", n_ s.low), ("high", n_ s.high), ("pumps", n_ s.pumps), ("width", n_ s.wide), ("salt", n_ s.salt)]
theorem sF_stands (s : Sj03.Storm) : (sF s).lookup ("stands" : Str) = some (n_ s.stands) := lk_here
theorem sF_low (s : Sj03.Storm) : (sF s).lookup ("low" : Str) = some (n_ s.low) := (lk_past (by decide +kernel)).trans lk_here
theorem sF_high (s : Sj03.Storm) : (sF s).lookup ("high" : Str) = some (n_ s.high) := (lk_past (by decide +kernel)).trans ((lk_past (by decide +kernel)).trans lk_here)
theorem sF_pumps (s : Sj03.Storm) : (sF s).lookup ("pumps" : Str) = some (n_ s.pumps) := (lk_past (by decide +kernel)).trans ((lk_past (by decide +kernel)).trans ((lk_past (by decide +kernel)).trans lk_here))
theorem sF_width (s : Sj03.Storm) : (sF s).lookup ("width" : Str) = some (n_ s.wide) := (lk_past (by decide +kernel)).trans ((lk_past (by decide +kernel)).trans ((lk_past (by decide +kernel)).trans ((lk_past (by decide +kernel)).trans lk_here)))
theorem sF_salt (s : Sj03.Storm) : (sF s).lookup ("salt" : Str) = some (n_ s.salt) := (lk_past (by decide +kernel)).trans ((lk_past (by decide +kernel)).trans ((lk_past (by decide +kernel)).trans ((lk_past (by decide +kernel)).trans ((lk_past (by decide +kernel)).trans lk_here))))
/-- an hour's -/
def hF (h : Sj03.Hour) : List (Str × V) := [("rain", n_ h.rain), ("sea", n_ h.sea), ("price", n_ h.power)]
theorem hF_rain (h : Sj03.Hour) : (hF h).lookup ("rain" : Str) = some (n_ h.rain) := lk_here
theorem hF_sea (h : Sj03.Hour) : (hF h).lookup ("sea" : Str) = some (n_ h.sea) := (lk_past (by decide +kernel)).trans lk_here
theorem hF_price (h : Sj03.Hour) : (hF h).lookup ("price" : Str) = some (n_ h.power) := (lk_past (by decide +kernel)).trans ((lk_past (by decide +kernel)).trans lk_here)
/-- a best plan's: its row is a list of its own -/
def cF (b : Si97.Best) (l : Addr) : List (Str × V) := [("cost", n_ b.cost), ("plans", n_ b.many), ("doings", .ref l)]
theorem cF_cost (b : Si97.Best) (l : Addr) : (cF b l).lookup ("cost" : Str) = some (n_ b.cost) := lk_here
theorem cF_plans (b : Si97.Best) (l : Addr) : (cF b l).lookup ("plans" : Str) = some (n_ b.many) := (lk_past (by decide +kernel)).trans lk_here
theorem cF_doings (b : Si97.Best) (l : Addr) : (cF b l).lookup ("doings" : Str) = some (.ref l) := (lk_past (by decide +kernel)).trans ((lk_past (by decide +kernel)).trans lk_here)
/-- a line's: where its storm is, where its hours are -/
def lF (a l : Addr) : List (Str × V) := [("storm", .ref a), ("hours", .ref l)]
theorem lF_storm (a l : Addr) : (lF a l).lookup ("storm" : Str) = some (.ref a) := lk_here
theorem lF_hours (a l : Addr) : (lF a l).lookup ("hours" : Str) = some (.ref l) := (lk_past (by decide +kernel)).trans lk_here

/-! ### 3. In the heap -/
def ns (l : List Nat) : List V := l.map n_
def StormAt (C : Addr) (H : Hp) (a : Addr) (s : Sj03.Storm) : Prop := ∃ dx, H a = some (.ins C dx (sF s))
def HourAt (C : Addr) (H : Hp) (a : Addr) (h : Sj03.Hour) : Prop := ∃ dx, H a = some (.ins C dx (hF h))
/-- hours, one behind the other -/
def HourVs (C : Addr) (H : Hp) : List V → List Sj03.Hour → Prop
  | [], [] => True
  | v :: vs, h :: hs => (∃ a, v = .ref a ∧ HourAt C H a h) ∧ HourVs C H vs hs
  | _, _ => False
def HoursAt (C : Addr) (H : Hp) (l : Addr) (hs : List Sj03.Hour) : Prop := ∃ vs, H l = some (.lst vs) ∧ HourVs C H vs hs
/-- a best plan, or None; N: where its list may lie -/
def BestAt (N : Addr → Prop) (C : Addr) (H : Hp) (v : V) : Option Si97.Best → Prop
  | none => v = .non
  | some b => ∃ a dx l, v = .ref a ∧ H a = some (.ins C dx (cF b l)) ∧ H l = some (.lst (ns b.row)) ∧ N l
def TableAt (N : Addr → Prop) (C : Addr) (H : Hp) (l : Addr) (t : List (Option Si97.Best)) : Prop := ∃ vs, H l = some (.lst vs) ∧ vs.length = t.length ∧ ∀ (i : Nat) (b : Option Si97.Best), t[i]? = some b → ∃ v, vs[i]? = some v ∧ BestAt N C H v b
abbrev Any : Addr → Prop := fun _ => True
abbrev Off (D : Addr) : Addr → Prop := fun l => l ≠ D
/-- what is new may be used -/
def NewOk (N : Addr → Prop) (H : Hp) : Prop := ∀ p, H p = none → N p
theorem newOk_any (H : Hp) : NewOk Any H := fun _ _ => trivial
theorem newOk_off {H : Hp} {D : Addr} {o : HO} (h : H D = some o) : NewOk (Off D) H := fun p hp e => by
  rw [e, h] at hp
  cases hp
theorem NewOk.same {N : Addr → Prop} {H H' : Hp} (h : NewOk N H) (k : Same H H') : NewOk N H' := fun p hp => h p (k.free hp)

theorem StormAt.same {C : Addr} {H H' : Hp} {a : Addr} {s : Sj03.Storm} (h : StormAt C H a s) (k : Same H H') : StormAt C H' a s := h.elim fun dx e => ⟨dx, k _ _ e⟩
theorem HourAt.same {C : Addr} {H H' : Hp} {a : Addr} {s : Sj03.Hour} (h : HourAt C H a s) (k : Same H H') : HourAt C H' a s := h.elim fun dx e => ⟨dx, k _ _ e⟩
theorem HourVs.same {C : Addr} {H H' : Hp} (k : Same H H') : ∀ {vs : List V} {hs : List Sj03.Hour}, HourVs C H vs hs → HourVs C H' vs hs
  | [], [], _ => trivial
  | v :: vs, h :: hs, ⟨⟨a, e, q⟩, r⟩ => ⟨⟨a, e, q.same k⟩, HourVs.same k r⟩
  | [], _ :: _, h => h.elim
  | _ :: _, [], h => h.elim
theorem HourVs.length {C : Addr} {H : Hp} : ∀ {vs : List V} {hs : List Sj03.Hour}, HourVs C H vs hs → vs.length = hs.length
  | [], [], _ => rfl
  | v :: vs, h :: hs, ⟨_, r⟩ => congrArg (· + 1) (HourVs.length r)
  | [], _ :: _, h => h.elim
  | _ :: _, [], h => h.elim
theorem HourVs.at {C : Addr} {H : Hp} : ∀ {vs : List V} {hs : List Sj03.Hour} {i : Nat} {v : V}, HourVs C H vs hs → vs[i]? = some v → ∃ a h, v = .ref a ∧ hs[i]? = some h ∧ HourAt C H a h
  | v :: vs, h :: hs, 0, x, ⟨⟨a, e, q⟩, _⟩, g => ⟨a, h, (Option.some.inj g).symm.trans e, rfl, q⟩
  | v :: vs, h :: hs, i + 1, x, ⟨_, r⟩, g => by
    rw [List.getElem?_cons_succ] at g ⊢
    exact HourVs.at r g
  | [], _, _, _, _, g => by simp at g
  | _ :: _, [], _, _, h, _ => h.elim
theorem HourVs.more {C : Addr} {H : Hp} {x : V} {h : Sj03.Hour} (e : ∃ a, x = .ref a ∧ HourAt C H a h) : ∀ {vs : List V} {hs : List Sj03.Hour}, HourVs C H vs hs → HourVs C H (vs ++ [x]) (hs ++ [h])
  | [], [], _ => ⟨e, trivial⟩
  | v :: vs, g :: hs, ⟨q, r⟩ => ⟨q, HourVs.more e r⟩
  | [], _ :: _, h => h.elim
  | _ :: _, [], h => h.elim
theorem HoursAt.same {C : Addr} {H H' : Hp} {l : Addr} {hs : List Sj03.Hour} (h : HoursAt C H l hs) (k : Same H H') : HoursAt C H' l hs :=
  h.elim fun vs e => ⟨vs, k _ _ e.1, e.2.same k⟩
theorem BestAt.same {N : Addr → Prop} {C : Addr} {H H' : Hp} {v : V} (k : Same H H') : ∀ {b : Option Si97.Best}, BestAt N C H v b → BestAt N C H' v b
  | none, h => h
  | some _, ⟨a, dx, l, e, h1, h2, h3⟩ => ⟨a, dx, l, e, k _ _ h1, k _ _ h2, h3⟩
theorem BestAt.mono {N N' : Addr → Prop} {C : Addr} {H : Hp} {v : V} (k : ∀ l vs, H l = some (.lst vs) → N l → N' l) : ∀ {b : Option Si97.Best}, BestAt N C H v b → BestAt N' C H v b
  | none, h => h
  | some _, ⟨a, dx, l, e, h1, h2, h3⟩ => ⟨a, dx, l, e, h1, h2, k _ _ h2 h3⟩
theorem TableAt.same {N : Addr → Prop} {C : Addr} {H H' : Hp} {l : Addr} {t : List (Option Si97.Best)} (h : TableAt N C H l t) (k : Same H H') : TableAt N C H' l t := by
  obtain ⟨vs, h1, h2, h3⟩ := h
  refine ⟨vs, k _ _ h1, h2, fun i b e => ?_⟩
  obtain ⟨v, e1, e2⟩ := h3 i b e
  exact ⟨v, e1, e2.same k⟩
theorem TableAt.mono {N N' : Addr → Prop} {C : Addr} {H : Hp} {l : Addr} {t : List (Option Si97.Best)} (h : TableAt N C H l t) (k : ∀ l vs, H l = some (.lst vs) → N l → N' l) : TableAt N' C H l t := by
  obtain ⟨vs, h1, h2, h3⟩ := h
  refine ⟨vs, h1, h2, fun i b e => ?_⟩
  obtain ⟨v, e1, e2⟩ := h3 i b e
  exact ⟨v, e1, e2.mono k⟩
/-- a new object -/
theorem same_new {H : Hp} {p : Addr} {o : HO} (h : H p = none) : Same H (upd H p o) := fun b x e => by
  rw [upd_ne (ne_of_none e h)]
  exact e

/-! ### 4. What the top has written: the classes, and that the names of Python's own still stand -/
structure Txt (K : PySem.W.Frag) (mg : Str → Option Value) (CS CH CB CL : Addr) : Prop where
  clS : Cls K CS
  clH : Cls K CH
  clB : Cls K CB
  clL : Cls K CL
  sStands : NoAttr K CS "stands"
  sLow : NoAttr K CS "low"
  sHigh : NoAttr K CS "high"
  sPumps : NoAttr K CS "pumps"
  sWidth : NoAttr K CS "width"
  sSalt : NoAttr K CS "salt"
  hRain : NoAttr K CH "rain"
  hSea : NoAttr K CH "sea"
  hPrice : NoAttr K CH "price"
  bCost : NoAttr K CB "cost"
  bPlans : NoAttr K CB "plans"
  bDoings : NoAttr K CB "doings"
  lStorm : NoAttr K CL "storm"
  lHours : NoAttr K CL "hours"
  gS : mg "Storm" = some (.ref CS)
  gH : mg "Hour" = some (.ref CH)
  gB : mg "Cheapest" = some (.ref CB)
  gL : mg "Line" = some (.ref CL)
  len : mg "len" = none
  min : mg "min" = none
  max : mg "max" = none
  range : mg "range" = none
  zip : mg "zip" = none
  enumerate : mg "enumerate" = none
  reversed : mg "reversed" = none
  highest : ∃ t, mg "HIGHEST" = some (.int 60 t)
  most : ∃ t, mg "MOST_HOURS" = some (.int 6 t)
  cBegins : ∃ t, mg "BEGINS" = some (.int 0 t)
  cHour : ∃ t, mg "HOUR" = some (.int 1 t)
  cCheck : ∃ t, mg "CHECK" = some (.int 2 t)
  cBest : ∃ t, mg "BEST" = some (.int 3 t)
  cShut : ∃ t, mg "SHUT" = some (.int 4 t)
  cStill : ∃ t, mg "STILL" = some (.int 5 t)
end Sg
set_option Elab.async false
set_option linter.all false
set_option maxRecDepth 100000
set_option maxHeartbeats 4000000
namespace Sg
open PySem PySem.Spec PyProof.Rows L2
section
variable {P : Program} {w : World} {K : PySem.W.Frag} {mg : Str → Option Value} {base : Heap} {CS CH CB CL : Addr}
/-! ### the refusals -/
def spList (l : List Int) : Sp := fun vs H Q _ => vs = [] ∧ ∀ p, H p = none → Q (.ref p) (upd H p (.lst (l.map V.int)))
theorem scNot : FnScope [] [] (defScope xNot) := ⟨rfl, rfl, rfl, by decide +kernel, rfl, by decide +kernel, by decide +kernel⟩
theorem ok_not {f : Addr} {fd : FuncData} (F : Fun K "not_as_told" "not_as_told" xNot f fd) : FnOk P w K mg base CX0 1 f fd [] (spList [-1]) := by
  refine F.ok scNot (fun vs H Q E h => ?_) (fun cdv A outer s H vs Q E hr h => ?_)
  · obtain ⟨rfl, _⟩ := h
    rfl
  · obtain ⟨rfl, k⟩ := h
    refine ⟨_, pss_one (ps_ret (pe_lst (pa_cons (pe_un un_neg pe_int) pa_nil))), ?_⟩
    exact ⟨_, rfl, by decide, fun p hp => k p hp⟩
theorem scMore : FnScope [] [] (defScope xMore) := ⟨rfl, rfl, rfl, by decide +kernel, rfl, by decide +kernel, by decide +kernel⟩
theorem ok_more {f : Addr} {fd : FuncData} (F : Fun K "no_more_hours" "no_more_hours" xMore f fd) : FnOk P w K mg base CX0 1 f fd [] (spList [-5]) := by
  refine F.ok scMore (fun vs H Q E h => ?_) (fun cdv A outer s H vs Q E hr h => ?_)
  · obtain ⟨rfl, _⟩ := h
    rfl
  · obtain ⟨rfl, k⟩ := h
    refine ⟨_, pss_one (ps_ret (pe_lst (pa_cons (pe_un un_neg pe_int) pa_nil))), ?_⟩
    exact ⟨_, rfl, by decide, fun p hp => k p hp⟩
theorem scNone : FnScope [] [] (defScope xNone) := ⟨rfl, rfl, rfl, by decide +kernel, rfl, by decide +kernel, by decide +kernel⟩
theorem ok_none {f : Addr} {fd : FuncData} (F : Fun K "no_plan_can_be" "no_plan_can_be" xNone f fd) : FnOk P w K mg base CX0 1 f fd [] (spList [-6]) := by
  refine F.ok scNone (fun vs H Q E h => ?_) (fun cdv A outer s H vs Q E hr h => ?_)
  · obtain ⟨rfl, _⟩ := h
    rfl
  · obtain ⟨rfl, k⟩ := h
    refine ⟨_, pss_one (ps_ret (pe_lst (pa_cons (pe_un un_neg pe_int) pa_nil))), ?_⟩
    exact ⟨_, rfl, by decide, fun p hp => k p hp⟩

/-! ### runs_in -/
def spRuns (CS CH : Addr) : Sp := fun vs H Q _ => ∃ (a b : Addr) (s : Sj03.Storm) (h : Sj03.Hour) (u g : Nat), vs = [.ref a, .ref b, n_ u, n_ g] ∧ StormAt CS H a s ∧ HourAt CH H b h ∧ Q (.int (runs s h u g)) H
abbrev nRuns : List Str := ["storm", "hour", "height", "gate", "raised"]
theorem scRuns : FnScope nRuns ["storm", "hour", "height", "gate"] (defScope xRuns) := ⟨rfl, rfl, rfl, by decide +kernel, rfl, by decide +kernel, by decide +kernel⟩
theorem ok_runs {f : Addr} {fd : FuncData} (F : Fun K "runs_in" "runs_in" xRuns f fd) (T : Txt K mg CS CH CB CL) : FnOk P w K mg base CX0 1 f fd ["storm", "hour", "height", "gate"] (spRuns CS CH) := by
  refine F.ok scRuns (fun vs H Q E h => ?_) (fun cdv A outer s H vs Q E hr h => ?_)
  · obtain ⟨a, b, s, h, u, g, rfl, _⟩ := h
    rfl
  · obtain ⟨a, b, st, ho, u, g, rfl, ⟨da, hA⟩, ⟨db, hB⟩, k⟩ := h
    refine ⟨_, pss_cons (ps_if (pt_cmpR op_eq (pv 3) pe_int (nomark _)) (pss_one (ps_ret pe_int)) pss_nil)
      (pss_cons (ps_set (i := 4) scRuns.nd rfl (Or.inl rfl) (pe_op op_add (pv 2) (pe_fld (pv 1) rfl)))
      (pss_cons (ps_if (pt_cmpR op_ge (pv 4) (pe_fld (pv 1) rfl) (nomark _))
        (pss_one (ps_ret (pe_un un_neg (pe_callB (call_min2 rfl) (by rfl) T.min (by decide +kernel) (pa_cons (pe_op op_sub (pv 4) (pe_fld (pv 1) rfl)) (pa_cons (pe_fld (pv 0) rfl) pa_nil)))))) pss_nil)
      (pss_one (ps_ret (pe_callB (call_min2 rfl) (by rfl) T.min (by decide +kernel) (pa_cons (pe_op op_sub (pe_fld (pv 1) rfl) (pv 4)) (pa_cons (pe_fld (pv 0) rfl) pa_nil))))))), ?_⟩
    refine ⟨_, rfl, rfl, _, rfl, ite2 (fun e => ?_) (fun e => ?_)⟩
    · have eg : g = 0 := by have q := V.int.inj (of_decide_eq_true e); omega
      subst eg
      exact k
    · have eg : ¬ g = 0 := fun z => e (decide_eq_true (by rw [z]; rfl))
      refine ⟨_, rfl, _, rfl, b, CH, db, _, _, rfl, hB, T.clH, T.hRain, hF_rain ho, _, _, rfl, rfl, ?_⟩
      refine ⟨_, rfl, _, rfl, b, CH, db, _, _, rfl, hB, T.clH, T.hSea, hF_sea ho, _, _, rfl, rfl, _, rfl, ite2 (fun e2 => ?_) (fun e2 => ?_)⟩
      · have q2 : (ho.sea : Int) ≤ (u : Int) + ho.rain := of_decide_eq_true e2
        refine ⟨_, rfl, _, rfl, b, CH, db, _, _, rfl, hB, T.clH, T.hSea, hF_sea ho, _, _, rfl, rfl, _, rfl, a, CS, da, _, _, rfl, hA, T.clS, T.sWidth, sF_width st, _, _, rfl, _, rfl, ?_⟩
        have er : runs st ho u g = -(if (st.wide : Int) < (u : Int) + ho.rain - ho.sea then (st.wide : Int) else (u : Int) + ho.rain - ho.sea) := by
          unfold runs
          rw [if_neg eg, if_pos q2]
          split <;> omega
        rw [er] at k
        exact k
      · have q2 : ¬ (ho.sea : Int) ≤ (u : Int) + ho.rain := fun z => e2 (decide_eq_true z)
        refine ⟨_, rfl, b, CH, db, _, _, rfl, hB, T.clH, T.hSea, hF_sea ho, _, rfl, _, _, rfl, rfl, _, rfl, a, CS, da, _, _, rfl, hA, T.clS, T.sWidth, sF_width st, _, _, rfl, ?_⟩
        have er : runs st ho u g = (if (st.wide : Int) < (ho.sea : Int) - ((u : Int) + ho.rain) then (st.wide : Int) else (ho.sea : Int) - ((u : Int) + ho.rain)) := by
          unfold runs
          rw [if_neg eg, if_neg q2]
          split <;> omega
        rw [er] at k
        exact k
/-! ### height_behind -/
def spBehind (CS CH : Addr) : Sp := fun vs H Q _ => ∃ (a b : Addr) (s : Sj03.Storm) (h : Sj03.Hour) (u g x : Nat), vs = [.ref a, .ref b, n_ u, n_ g, n_ x] ∧ StormAt CS H a s ∧ HourAt CH H b h ∧ Q (.int (behind s h u g x)) H
abbrev nBehind : List Str := ["storm", "hour", "height", "gate", "pumped"]
theorem scBehind : FnScope nBehind nBehind (defScope xBehind) := ⟨rfl, rfl, rfl, by decide +kernel, rfl, by decide +kernel, by decide +kernel⟩
theorem ok_behind {f fR : Addr} {fd fdR : FuncData} (F : Fun K "height_behind" "height_behind" xBehind f fd) (T : Txt K mg CS CH CB CL)
    (G : FnOk P w K mg base CX0 1 fR fdR ["storm", "hour", "height", "gate"] (spRuns CS CH)) (kR : PySem.W.keepIn K (.ref fR) = true) (bR : Binds K fdR ["storm", "hour", "height", "gate"] []) (gR : mg "runs_in" = some (.ref fR)) :
    FnOk P w K mg base CX0 2 f fd nBehind (spBehind CS CH) := by
  refine F.ok scBehind (fun vs H Q E h => ?_) (fun cdv A outer s H vs Q E hr h => ?_)
  · obtain ⟨a, b, s, h, u, g, x, rfl, _⟩ := h
    rfl
  · obtain ⟨a, b, st, ho, u, g, x, rfl, hA, hB, k⟩ := h
    refine ⟨_, pss_one (ps_ret (pe_op op_sub (pe_op op_add (pe_op op_add (pv 2) (pe_fld (pv 1) rfl))
      (pe_call G hr (by rfl) gR kR bR .nil pass0 (pa_cons (pv 0) (pa_cons (pv 1) (pa_cons (pv 2) (pa_cons (pv 3) pa_nil)))))) (pv 4))), ?_⟩
    obtain ⟨db, hB'⟩ := hB
    refine ⟨_, rfl, _, rfl, b, CH, db, _, _, rfl, hB', T.clH, T.hRain, hF_rain ho, _, _, rfl, rfl, ?_⟩
    refine ⟨_, rfl, _, rfl, _, rfl, _, rfl, a, b, st, ho, u, g, rfl, hA, ⟨db, hB'⟩, _, _, rfl, rfl, _, rfl, _, _, rfl, rfl, k⟩
/-! ### hour_costs -/
def spCosts (CS CH : Addr) : Sp := fun vs H Q _ => ∃ (a b : Addr) (s : Sj03.Storm) (h : Sj03.Hour) (u g x : Nat), vs = [.ref a, .ref b, n_ u, n_ g, n_ x] ∧ StormAt CS H a s ∧ HourAt CH H b h ∧ h.power ≤ 100 ∧ s.salt ≤ 100 ∧ Q (n_ (s.pays u h g x)) H
abbrev nCosts : List Str := ["storm", "hour", "height", "gate", "pumped", "salt_water"]
theorem scCosts : FnScope nCosts nBehind (defScope xCosts) := ⟨rfl, rfl, rfl, by decide +kernel, rfl, by decide +kernel, by decide +kernel⟩
theorem ok_costs {f fR : Addr} {fd fdR : FuncData} (F : Fun K "hour_costs" "hour_costs" xCosts f fd) (T : Txt K mg CS CH CB CL)
    (G : FnOk P w K mg base CX0 1 fR fdR ["storm", "hour", "height", "gate"] (spRuns CS CH)) (kR : PySem.W.keepIn K (.ref fR) = true) (bR : Binds K fdR ["storm", "hour", "height", "gate"] []) (gR : mg "runs_in" = some (.ref fR)) :
    FnOk P w K mg base CX0 2 f fd nBehind (spCosts CS CH) := by
  refine F.ok scCosts (fun vs H Q E h => ?_) (fun cdv A outer s H vs Q E hr h => ?_)
  · obtain ⟨a, b, s, h, u, g, x, rfl, _⟩ := h
    rfl
  · obtain ⟨a, b, st, ho, u, g, x, rfl, hA, hB, hp, hs, k⟩ := h
    refine ⟨_, pss_cons (ps_set (i := 5) scCosts.nd rfl (Or.inl rfl) (pe_callB (call_max2 rfl) (by rfl) T.max (by decide +kernel)
        (pa_cons (pe_call G hr (by rfl) gR kR bR .nil pass0 (pa_cons (pv 0) (pa_cons (pv 1) (pa_cons (pv 2) (pa_cons (pv 3) pa_nil))))) (pa_cons pe_int pa_nil))))
      (pss_one (ps_ret (pe_op op_add (pe_op op_mul (pe_fld (pv 1) rfl) (pv 4)) (pe_op op_mul (pe_fld (pv 0) rfl) (pv 5))))), ?_⟩
    refine ⟨_, rfl, _, rfl, _, rfl, _, rfl, a, b, st, ho, u, g, rfl, hA, hB, _, _, rfl, ?_⟩
    obtain ⟨da, hA'⟩ := hA
    obtain ⟨db, hB'⟩ := hB
    refine ⟨_, rfl, b, CH, db, _, _, rfl, hB', T.clH, T.hPrice, hF_price ho, _, rfl, _, _, rfl, rfl, .inl ⟨by omega, by omega⟩, ?_⟩
    refine ⟨_, rfl, a, CS, da, _, _, rfl, hA', T.clS, T.sSalt, sF_salt st, _, rfl, _, _, rfl, rfl, .inl ⟨by omega, by omega⟩, _, _, rfl, rfl, ?_⟩
    have ep := pays_int st ho u g x
    have em : (if (0 : Int) > runs st ho u g then (0 : Int) else runs st ho u g) = max (runs st ho u g) 0 := by
      split <;> omega
    show Q (V.int ((ho.power : Int) * x + (st.salt : Int) * (if (0 : Int) > runs st ho u g then (0 : Int) else runs st ho u g))) H
    rw [em, ← ep]
    exact k
/-! ### what_is_wrong -/
def spWrong (CS : Addr) : Sp := fun vs H Q _ => ∃ (a : Addr) (s : Sj03.Storm) (z : Int) (x : Nat), vs = [.ref a, .int z, n_ x] ∧ StormAt CS H a s ∧ Q (n_ (wrongI s z x)) H
abbrev nWrong : List Str := ["storm", "behind", "pumped"]
theorem scWrong : FnScope nWrong nWrong (defScope xWrong) := ⟨rfl, rfl, rfl, by decide +kernel, rfl, by decide +kernel, by decide +kernel⟩
theorem ok_wrong {f : Addr} {fd : FuncData} (F : Fun K "what_is_wrong" "what_is_wrong" xWrong f fd) (T : Txt K mg CS CH CB CL) : FnOk P w K mg base CX0 1 f fd nWrong (spWrong CS) := by
  refine F.ok scWrong (fun vs H Q E h => ?_) (fun cdv A outer s H vs Q E hr h => ?_)
  · obtain ⟨a, s, z, x, rfl, _⟩ := h
    rfl
  · obtain ⟨a, st, z, x, rfl, ⟨da, hA⟩, k⟩ := h
    refine ⟨_, pss_cons (ps_if (pt_cmpR op_gt (pv 2) (pe_fld (pv 0) rfl) (nomark _)) (pss_one (ps_ret pe_int)) pss_nil)
      (pss_cons (ps_if (pt_cmpR op_lt (pv 1) (pe_fld (pv 0) rfl) (nomark _)) (pss_one (ps_ret pe_int)) pss_nil)
      (pss_cons (ps_if (pt_cmpR op_gt (pv 1) (pe_fld (pv 0) rfl) (nomark _)) (pss_one (ps_ret pe_int)) pss_nil)
      (pss_one (ps_ret pe_int)))), ?_⟩
    unfold wrongI at k
    refine ⟨_, rfl, _, rfl, a, CS, da, _, _, rfl, hA, T.clS, T.sPumps, sF_pumps st, _, _, rfl, rfl, _, rfl, ite2 (fun e => ?_) (fun e => ?_)⟩
    · have q := of_decide_eq_true e
      rw [if_pos (by omega)] at k
      exact k
    · have q : ¬ (st.pumps : Int) < x := fun z => e (decide_eq_true z)
      rw [if_neg (by omega)] at k
      refine ⟨_, rfl, _, rfl, a, CS, da, _, _, rfl, hA, T.clS, T.sLow, sF_low st, _, _, rfl, rfl, _, rfl, ite2 (fun e2 => ?_) (fun e2 => ?_)⟩
      · have q2 := of_decide_eq_true e2
        rw [if_pos (by omega)] at k
        exact k
      · have q2 : ¬ z < (st.low : Int) := fun y => e2 (decide_eq_true y)
        rw [if_neg q2] at k
        refine ⟨_, rfl, _, rfl, a, CS, da, _, _, rfl, hA, T.clS, T.sHigh, sF_high st, _, _, rfl, rfl, _, rfl, ite2 (fun e3 => ?_) (fun e3 => ?_)⟩
        · have q3 := of_decide_eq_true e3
          rw [if_pos q3] at k
          exact k
        · have q3 : ¬ (st.high : Int) < z := fun y => e3 (decide_eq_true y)
          rw [if_neg q3] at k
          exact k
end
end Sg
set_option Elab.async false
set_option linter.all false
set_option maxRecDepth 100000
set_option maxHeartbeats 4000000
namespace Sg
open PySem PySem.Spec PyProof.Rows L2
section
variable {P : Program} {w : World} {K : PySem.W.Frag} {mg : Str → Option Value} {base : Heap} {CS CH CB CL : Addr}
/-! ### Cheapest -/
def spCheapest (CB : Addr) : Sp := fun vs H Q _ => ∃ (p dx l : Addr) (b : Si97.Best), vs = [.ref p, n_ b.cost, n_ b.many, .ref l] ∧ H p = some (.ins CB dx []) ∧
  ∀ H' : Hp, H' p = some (.ins CB dx (cF b l)) → (∀ q o, H q = some o → q ≠ p → H' q = some o) → Q .non H'
abbrev nCheapest : List Str := ["self", "cost", "plans", "doings"]
theorem scCheapest : FnScope nCheapest nCheapest (defScope xCheapest) := ⟨rfl, rfl, rfl, by decide +kernel, rfl, by decide +kernel, by decide +kernel⟩
theorem putF_len (f : Str) (v : V) : ∀ fs : List (Str × V), (putF f v fs).length ≤ fs.length + 1
  | [] => Nat.le_refl _
  | (g, x) :: r => by
    unfold putF
    split
    · simp
    · have := putF_len f v r
      simp only [List.length_cons]
      omega
theorem few_put {f : Str} {v : V} {fs : List (Str × V)} {n : Nat} (h : fs.length ≤ n) (hn : n < 900) : (putF f v fs).length < 1000 := by
  have := putF_len f v fs
  omega
theorem cF_new (b : Si97.Best) (l : Addr) : putF "doings" (.ref l) (putF "plans" (n_ b.many) (putF "cost" (n_ b.cost) [])) = cF b l := by
  show putF "doings" (.ref l) (putF "plans" (n_ b.many) [("cost", n_ b.cost)]) = cF b l
  rw [put_past (by decide +kernel)]
  show putF "doings" (.ref l) [("cost", n_ b.cost), ("plans", n_ b.many)] = cF b l
  rw [put_past (by decide +kernel), put_past (by decide +kernel)]
  rfl
theorem ok_cheapest {f : Addr} {fd : FuncData} (F : Fun K "__init__" "Cheapest.__init__" xCheapest f fd) (T : Txt K mg CS CH CB CL) : FnOk P w K mg base CX0 1 f fd nCheapest (spCheapest CB) := by
  refine F.ok scCheapest (fun vs H Q E h => ?_) (fun cdv A outer s H vs Q E hr h => ?_)
  · obtain ⟨p, dx, l, b, rfl, _⟩ := h
    rfl
  · obtain ⟨p, dx, l, b, rfl, hp, k⟩ := h
    refine ⟨_, pss_cons (ps_fld (pv 0) (pv 1) rfl) (pss_cons (ps_fld (pv 0) (pv 2) rfl) (pss_one (ps_fld (pv 0) (pv 3) rfl))), ?_⟩
    refine ⟨_, rfl, _, rfl, p, CB, dx, _, rfl, hp, T.clB, T.bCost, (by show 0 < 1000; decide), ?_⟩
    refine ⟨_, rfl, _, rfl, p, CB, dx, _, rfl, upd_same, T.clB, T.bPlans, (by show 1 < 1000; decide), ?_⟩
    refine ⟨_, rfl, _, rfl, p, CB, dx, _, rfl, upd_same, T.clB, T.bDoings, (few_put (n := 1) (Nat.le_refl 1) (by decide)), ?_⟩
    refine k _ (upd_same.trans (congrArg (fun z => some (HO.ins CB dx z)) (cF_new b l))) fun q o e hq => ?_
    rw [upd_ne hq, upd_ne hq, upd_ne hq]
    exact e
/-! ### cheaper -/
def spCheaper (CB : Addr) : Sp := fun vs H Q _ => ∃ (N : Addr → Prop) (x y : V) (f o : Option Si97.Best), vs = [x, y] ∧ BestAt N CB H x f ∧ BestAt N CB H y o ∧
  ∀ (H' : Hp) (z : V), Same H H' → BestAt N CB H' z (Si97.lesser f o) → Q z H'
abbrev nCheaper : List Str := ["found", "other"]
theorem scCheaper : FnScope nCheaper nCheaper (defScope xCheaper) := ⟨rfl, rfl, rfl, by decide +kernel, rfl, by decide +kernel, by decide +kernel⟩
theorem ok_cheaper {f fI : Addr} {fd fdI : FuncData} (F : Fun K "cheaper" "cheaper" xCheaper f fd) (T : Txt K mg CS CH CB CL) (M : Mk K CB fI) (G : FnOk P w K mg base CX0 1 fI fdI nCheapest (spCheapest CB)) (bI : Binds K fdI nCheapest []) :
    FnOk P w K mg base CX0 3 f fd nCheaper (spCheaper CB) := by
  refine F.ok scCheaper (fun vs H Q E h => ?_) (fun cdv A outer s H vs Q E hr h => ?_)
  · obtain ⟨N, x, y, f, o, rfl, _⟩ := h
    rfl
  · obtain ⟨N, x, y, f, o, rfl, hf, ho, k⟩ := h
    refine ⟨_, pss_cons (ps_if (pt_cmpR op_isN (pv 1) pe_non (nomark _)) (pss_one (ps_ret (pv 0))) pss_nil)
      (pss_cons (ps_if (PW.pt (pw_or (pt_cmpR op_isN (pv 0) pe_non (nomark _)) (pw_or1 (pt_cmpR op_lt (pe_fld (pv 1) rfl) (pe_fld (pv 0) rfl) (nomark _))))) (pss_one (ps_ret (pv 1))) pss_nil)
      (pss_cons (ps_if (pt_cmpR op_gt (pe_fld (pv 1) rfl) (pe_fld (pv 0) rfl) (nomark _)) (pss_one (ps_ret (pv 0))) pss_nil)
      (pss_one (ps_ret (pe_make M G hr (by rfl) T.gB bI .nil pass0 (pa_cons (pe_fld (pv 0) rfl) (pa_cons (pe_op op_add (pe_fld (pv 0) rfl) (pe_fld (pv 1) rfl)) (pa_cons (pe_fld (pv 0) rfl) pa_nil)))))))), ?_⟩
    cases o with
    | none =>
      obtain rfl : y = .non := ho
      refine ⟨_, rfl, rfl, _, rfl, ite2 (fun _ => ?_) (fun e => absurd (decide_eq_true rfl) e)⟩
      refine ⟨_, rfl, k _ _ (Same.refl _) ?_⟩
      cases f <;> exact hf
    | some b =>
      obtain ⟨ay, dy, ly, rfl, hy, hyl, hyn⟩ := id ho
      refine ⟨_, rfl, rfl, _, rfl, ite2 (fun e => nomatch of_decide_eq_true e) (fun _ => ?_)⟩
      cases f with
      | none =>
        obtain rfl : x = .non := hf
        refine ⟨_, rfl, rfl, _, rfl, ite2 (fun _ => ?_) (fun e => absurd (decide_eq_true rfl) e)⟩
        exact iteT ⟨_, rfl, k _ _ (Same.refl _) ho⟩
      | some c =>
        obtain ⟨ax, dx, lx, rfl, hx, hxl, hxn⟩ := id hf
        refine ⟨_, rfl, rfl, _, rfl, ite2 (fun e => nomatch of_decide_eq_true e) (fun _ => ?_)⟩
        refine ⟨_, rfl, ay, CB, dy, _, _, rfl, hy, T.clB, T.bCost, cF_cost b ly, _, rfl, ax, CB, dx, _, _, rfl, hx, T.clB, T.bCost, cF_cost c lx, _, _, rfl, rfl, _, rfl, ite2 (fun e => ?_) (fun e => ?_)⟩
        · have q := of_decide_eq_true e
          refine ⟨_, rfl, k _ _ (Same.refl _) ?_⟩
          have el : Si97.lesser (some c) (some b) = some b := if_pos (by omega)
          rw [el]
          exact ho
        · have q : ¬ (b.cost : Int) < c.cost := fun z => e (decide_eq_true z)
          refine ⟨_, rfl, ay, CB, dy, _, _, rfl, hy, T.clB, T.bCost, cF_cost b ly, _, rfl, ax, CB, dx, _, _, rfl, hx, T.clB, T.bCost, cF_cost c lx, _, _, rfl, rfl, _, rfl, ite2 (fun e2 => ?_) (fun e2 => ?_)⟩
          · have q2 := of_decide_eq_true e2
            refine ⟨_, rfl, k _ _ (Same.refl _) ?_⟩
            have el : Si97.lesser (some c) (some b) = some c := (if_neg (by omega)).trans (if_neg (by omega))
            rw [el]
            exact hf
          · have q2 : ¬ (c.cost : Int) < b.cost := fun z => e2 (decide_eq_true z)
            have el : Si97.lesser (some c) (some b) = some { c with many := c.many + b.many } := (if_neg (by omega)).trans (if_pos (by omega))
            rw [el] at k
            refine ⟨_, rfl, ax, CB, dx, _, _, rfl, hx, T.clB, T.bCost, cF_cost c lx, _, rfl, ax, CB, dx, _, _, rfl, hx, T.clB, T.bPlans, cF_plans c lx, _, rfl, ay, CB, dy, _, _, rfl, hy, T.clB, T.bPlans, cF_plans b ly, _, _, rfl, rfl,
              _, rfl, ax, CB, dx, _, _, rfl, hx, T.clB, T.bDoings, cF_doings c lx, ?_⟩
            intro p dp np nd ne
            refine ⟨p, dp, lx, { c with many := c.many + b.many }, rfl, upd_same, fun H' e1 e2 => ⟨rfl, ?_⟩⟩
            have sm : Same H H' := Same.made np nd e2
            exact k _ _ sm ⟨p, dp, lx, rfl, e1, sm _ _ hxl, hxn⟩
end
end Sg
set_option Elab.async false
set_option linter.all false
set_option maxRecDepth 100000
set_option maxHeartbeats 4000000
namespace Sg
open PySem PySem.Spec PyProof.Rows L2
section
variable {P : Program} {w : World} {K : PySem.W.Frag} {mg : Str → Option Value} {base : Heap} {CS CH CB CL : Addr}
/-- what the functions of best ask of the numbers -/
structure Calm (s : Sj03.Storm) (h : Sj03.Hour) (t : List (Option Si97.Best)) : Prop where
  hi : s.high ≤ 60
  pu : s.pumps ≤ 12
  sa : s.salt ≤ 100
  po : h.power ≤ 100
  len : t.length = 61
  short : ∀ u, Short 12 (t.getD u none)
/-! ### cheapest_with -/
def spWith (CS CH CB : Addr) : Sp := fun vs H Q _ => ∃ (N : Addr → Prop) (a b l : Addr) (s : Sj03.Storm) (h : Sj03.Hour) (t : List (Option Si97.Best)) (u g x : Nat), NewOk N H ∧ vs = [.ref a, .ref b, n_ u, n_ g, n_ x, .ref l] ∧ StormAt CS H a s ∧ HourAt CH H b h ∧ TableAt N CB H l t ∧ Calm s h t ∧
  ∀ (H' : Hp) (z : V), Same H H' → BestAt N CB H' z (withO s t h u g x) → Q z H'
abbrev pWith : List Str := ["storm", "hour", "height", "gate", "pumped", "rest"]
abbrev nWith : List Str := ["storm", "hour", "height", "gate", "pumped", "rest", "behind", "ahead", "cost"]
theorem scWith : FnScope nWith pWith (defScope xWith) := ⟨rfl, rfl, rfl, by decide +kernel, rfl, by decide +kernel, by decide +kernel⟩
theorem ok_with {f fB fW fC fI : Addr} {fd fdB fdW fdC fdI : FuncData} (F : Fun K "cheapest_with" "cheapest_with" xWith f fd) (T : Txt K mg CS CH CB CL)
    (GB : FnOk P w K mg base CX0 2 fB fdB nBehind (spBehind CS CH)) (kB : PySem.W.keepIn K (.ref fB) = true) (bB : Binds K fdB nBehind []) (gB : mg "height_behind" = some (.ref fB))
    (GW : FnOk P w K mg base CX0 1 fW fdW nWrong (spWrong CS)) (kW : PySem.W.keepIn K (.ref fW) = true) (bW : Binds K fdW nWrong []) (gW : mg "what_is_wrong" = some (.ref fW))
    (GC : FnOk P w K mg base CX0 2 fC fdC nBehind (spCosts CS CH)) (kC : PySem.W.keepIn K (.ref fC) = true) (bC : Binds K fdC nBehind []) (gC : mg "hour_costs" = some (.ref fC))
    (M : Mk K CB fI) (GI : FnOk P w K mg base CX0 1 fI fdI nCheapest (spCheapest CB)) (bI : Binds K fdI nCheapest []) :
    FnOk P w K mg base CX0 3 f fd pWith (spWith CS CH CB) := by
  refine F.ok scWith (fun vs H Q E h => ?_) (fun cdv A outer s H vs Q E hr h => ?_)
  · obtain ⟨N, a, b, l, s, h, t, u, g, x, _, rfl, _⟩ := h
    rfl
  · obtain ⟨N, a, b, l, st, ho, t, u, g, x, hN, rfl, hA, hB, hL, C, k⟩ := h
    have hr1 : Room 1 _ := hr.mono (by decide)
    have hr2 : Room 2 _ := hr
    refine ⟨_, pss_cons (ps_set (i := 6) scWith.nd rfl (Or.inl rfl) (pe_call GB hr2 (by rfl) gB kB bB .nil pass0 (pa_cons (pv 0) (pa_cons (pv 1) (pa_cons (pv 2) (pa_cons (pv 3) (pa_cons (pv 4) pa_nil)))))))
      (pss_cons (ps_if (pt_cmpR op_gt (pe_call GW hr1 (by rfl) gW kW bW .nil pass0 (pa_cons (pv 0) (pa_cons (pv 6) (pa_cons (pv 4) pa_nil)))) pe_int (nomark _)) (pss_one (ps_ret pe_non)) pss_nil)
      (pss_cons (ps_set (i := 7) scWith.nd rfl (Or.inl rfl) (pe_ix ix_list (pv 5) (pv 6) (fun _ _ => rfl)))
      (pss_cons (ps_if (pt_cmpR op_isN (pv 7) pe_non (nomark _)) (pss_one (ps_ret pe_non)) pss_nil)
      (pss_cons (ps_set (i := 8) scWith.nd rfl (Or.inl rfl) (pe_op op_add (pe_call GC hr2 (by rfl) gC kC bC .nil pass0 (pa_cons (pv 0) (pa_cons (pv 1) (pa_cons (pv 2) (pa_cons (pv 3) (pa_cons (pv 4) pa_nil)))))) (pe_fld (pv 7) rfl)))
      (pss_one (ps_ret (pe_make M GI hr2 (by rfl) T.gB bI .nil pass0 (pa_cons (pv 8) (pa_cons (pe_fld (pv 7) rfl) (pa_cons (pe_op op_cat (pe_lst (pa_cons (pv 3) (pa_cons (pv 4) pa_nil))) (pe_fld (pv 7) rfl)) pa_nil)))))))))), ?_⟩
    refine ⟨_, rfl, _, rfl, _, rfl, _, rfl, _, rfl, a, b, st, ho, u, g, x, rfl, hA, hB, ?_⟩
    refine ⟨_, rfl, _, rfl, _, rfl, a, st, _, x, rfl, hA, _, _, rfl, rfl, _, rfl, ite2 (fun e => ?_) (fun e => ?_)⟩
    · have q := of_decide_eq_true e
      have ew : withO st t ho u g x = none := by
        unfold withO
        rw [if_pos (by rw [wrong_is]; omega)]
      rw [ew] at k
      exact k _ _ (Same.refl _) rfl
    · have q : ¬ ((0 : Int) < (wrongI st (behind st ho u g x) x : Nat)) := fun z => e (decide_eq_true z)
      have q0 : st.wrong u ho g x = 0 := by rw [wrong_is]; omega
      obtain ⟨e1, e2, e3, e4⟩ := behind_fine q0
      have hi := C.hi
      obtain ⟨vs, hl, hn, hv⟩ := id hL
      have hlt : (st.gate u ho g).1 - x < t.length := by rw [C.len]; omega
      obtain ⟨v, hvi, hb⟩ := hv _ _ (getD_at (d := none) hlt)
      refine ⟨_, rfl, _, rfl, l, vs, _, v, rfl, rfl, SqL.of hl, at_of e1.symm hvi, ?_⟩
      cases e0 : t.getD ((st.gate u ho g).1 - x) none with
      | none =>
        rw [e0] at hb
        obtain rfl : v = .non := hb
        have ew : withO st t ho u g x = none := by
          unfold withO
          rw [if_neg (by omega), e0]
          rfl
        rw [ew] at k
        refine ⟨_, rfl, rfl, _, rfl, ite2 (fun _ => ?_) (fun e => absurd (decide_eq_true rfl) e)⟩
        exact k _ _ (Same.refl _) rfl
      | some c =>
        rw [e0] at hb
        obtain ⟨ay, dy, ly, rfl, hy, hyl, _⟩ := id hb
        have ew : withO st t ho u g x = some ⟨st.pays u ho g x + c.cost, c.many, g :: x :: c.row⟩ := by
          unfold withO
          rw [if_neg (by omega), e0]
          rfl
        rw [ew] at k
        have hrow : c.row.length ≤ 12 := C.short _ c e0
        refine ⟨_, rfl, rfl, _, rfl, ite2 (fun e => nomatch of_decide_eq_true e) (fun _ => ?_)⟩
        refine ⟨_, rfl, _, rfl, _, rfl, _, rfl, _, rfl, a, b, st, ho, u, g, x, rfl, hA, hB, C.po, C.sa, ?_⟩
        refine ⟨_, rfl, ay, CB, dy, _, _, rfl, hy, T.clB, T.bCost, cF_cost c ly, _, _, rfl, rfl, ?_⟩
        refine ⟨_, rfl, _, rfl, ay, CB, dy, _, _, rfl, hy, T.clB, T.bPlans, cF_plans c ly, _, rfl, _, rfl, (by show 2 ≤ sizeLine; decide), fun p1 hp1 => ?_⟩
        have s1 : Same H (upd H p1 (.lst [n_ g, n_ x])) := same_new hp1
        refine ⟨_, rfl, ay, CB, dy, _, _, rfl, s1 _ _ hy, T.clB, T.bDoings, cF_doings c ly, _, _, _, _, rfl, rfl, upd_same, s1 _ _ hyl, ?_, fun p2 hp2 => ?_⟩
        · have e : (ns c.row).length = c.row.length := List.length_map ..
          rw [e]
          show 2 + c.row.length ≤ sizeLine
          exact Nat.le_trans (show 2 + c.row.length ≤ 1000 by omega) (by decide)
        · intro p dp np nd ne
          refine ⟨p, dp, p2, ⟨st.pays u ho g x + c.cost, c.many, g :: x :: c.row⟩, ?_, upd_same, fun H' h1 h2 => ⟨rfl, ?_⟩⟩
          · show [V.ref p, V.int ((st.pays u ho g x : Int) + (c.cost : Int)), n_ c.many, V.ref p2] = [V.ref p, V.int ((st.pays u ho g x + c.cost : Nat) : Int), n_ c.many, V.ref p2]
            rw [Int.natCast_add]
          · have s2 := Same.made np nd h2
            refine k _ _ (s1.trans ((same_new hp2).trans s2)) ⟨p, dp, p2, rfl, h1, s2 _ _ upd_same, hN _ (s1.free hp2)⟩
/-! ### cheapest_from -/
/-- behind so many of the gate's two -/
def outF (s : Sj03.Storm) (t : List (Option Si97.Best)) (h : Sj03.Hour) (u : Nat) : Nat → Option Si97.Best
  | 0 => none
  | i + 1 => pumpF s t h u i (outF s t h u i) (s.pumps + 1)
theorem outF_succ (s : Sj03.Storm) (t : List (Option Si97.Best)) (h : Sj03.Hour) (u i : Nat) : outF s t h u (i + 1) = pumpF s t h u i (outF s t h u i) (s.pumps + 1) := rfl
theorem outF_two (s : Sj03.Storm) (t : List (Option Si97.Best)) (h : Sj03.Hour) (u : Nat) : outF s t h u 2 = s.from_ t h u := (from_is s t h u).symm
def spFrom (CS CH CB : Addr) : Sp := fun vs H Q _ => ∃ (N : Addr → Prop) (a b l : Addr) (s : Sj03.Storm) (h : Sj03.Hour) (t : List (Option Si97.Best)) (u : Nat), NewOk N H ∧ vs = [.ref a, .ref b, n_ u, .ref l] ∧ StormAt CS H a s ∧ HourAt CH H b h ∧ TableAt N CB H l t ∧ Calm s h t ∧
  ∀ (H' : Hp) (z : V), Same H H' → BestAt N CB H' z (s.from_ t h u) → Q z H'
abbrev pFrom : List Str := ["storm", "hour", "height", "rest"]
abbrev nFrom : List Str := ["storm", "hour", "height", "rest", "found", "gate", "pumped", "other"]
theorem scFrom : FnScope nFrom pFrom (defScope xFrom) := ⟨rfl, rfl, rfl, by decide +kernel, rfl, by decide +kernel, by decide +kernel⟩
theorem ok_from {f fW fC : Addr} {fd fdW fdC : FuncData} (F : Fun K "cheapest_from" "cheapest_from" xFrom f fd) (T : Txt K mg CS CH CB CL)
    (GW : FnOk P w K mg base CX0 3 fW fdW pWith (spWith CS CH CB)) (kW : PySem.W.keepIn K (.ref fW) = true) (bW : Binds K fdW pWith []) (gW : mg "cheapest_with" = some (.ref fW))
    (GC : FnOk P w K mg base CX0 3 fC fdC nCheaper (spCheaper CB)) (kC : PySem.W.keepIn K (.ref fC) = true) (bC : Binds K fdC nCheaper []) (gC : mg "cheaper" = some (.ref fC)) :
    FnOk P w K mg base CX0 4 f fd pFrom (spFrom CS CH CB) := by
  refine F.ok scFrom (fun vs H Q E h => ?_) (fun cdv A outer s H vs Q E hr h => ?_)
  · obtain ⟨N, a, b, l, s, h, t, u, _, rfl, _⟩ := h
    rfl
  · obtain ⟨N, a, b, l, st, ho, t, u, hN, rfl, hA, hB, hL, C, k⟩ := h
    refine ⟨_, pss_cons (ps_set (i := 4) scFrom.nd rfl (Or.inl rfl) pe_non)
      (pss_cons (ps_for PassesOwn.never rfl (pi_tup (pe_tup (pa_cons pe_int (pa_cons pe_int pa_nil)))) (pg_name (i := 5) scFrom.nd rfl (Or.inl rfl))
        (pss_one (ps_for PassesOwn.never rfl (pi_range1 (by rfl) T.range (pa_cons (pe_op op_add (pe_fld (pv 0) rfl) pe_int) pa_nil)) (pg_name (i := 6) scFrom.nd rfl (Or.inl rfl))
          (pss_cons (ps_set (i := 7) scFrom.nd rfl (Or.inl rfl) (pe_call GW hr (by rfl) gW kW bW .nil pass0 (pa_cons (pv 0) (pa_cons (pv 1) (pa_cons (pv 2) (pa_cons (pv 5) (pa_cons (pv 6) (pa_cons (pv 3) pa_nil))))))))
          (pss_one (ps_set (i := 4) scFrom.nd rfl (Or.inl rfl) (pe_call GC hr (by rfl) gC kC bC .nil pass0 (pa_cons (pv 4) (pa_cons (pv 7) pa_nil)))))))))
      (pss_one (ps_ret (pv 4)))), ?_⟩
    refine ⟨(by show 2 ≤ sizeLine; decide), fun p hp => ?_⟩
    have s0 : Same H (upd H p (.tup [V.int 0, V.int 1])) := same_new hp
    generalize hG : upd H p (.tup [V.int 0, V.int 1]) = G at s0
    have eG : G p = some (.tup [V.int 0, V.int 1]) := by rw [← hG]; exact upd_same
    have sm0 : Same G G := Same.refl G
    refine ⟨p, rfl, ⟨_, SqT.of eG⟩, for_tup (K := K) (a := p) (xs := [V.int 0, V.int 1]) (fun i σ H' => ∃ (z : V) (v5 v6 v7 : Option V), σ = [some (.ref a), some (.ref b), some (n_ u), some (.ref l), some z, v5, v6, v7] ∧ Same G H' ∧ BestAt N CB H' z (outF st t ho u i))
      ⟨.non, none, none, none, rfl, sm0, rfl⟩ (fun i σ H' _ ⟨_, _, _, _, _, s5, _⟩ => SqT.of (s5 _ _ eG)) ?_ ?_⟩
    · rintro i y σ H' hi ⟨z, v5, v6, v7, rfl, s5, hz⟩
      have ey : y = n_ i := by
        match i, hi with
        | 0, hi => exact (Option.some.inj hi).symm
        | 1, hi => exact (Option.some.inj hi).symm
      subst ey
      obtain ⟨da, hA'⟩ := hA
      have hpu := C.pu
      refine ⟨_, rfl, a, CS, da, _, _, rfl, s5 _ _ (s0 _ _ hA'), T.clS, T.sPumps, sF_pumps st, _, _, rfl, rfl, _, rfl, (by omega), (by omega), ?_⟩
      refine for_range (lo := 0) (n := st.pumps + 1) (fun j σ H2 => ∃ (z : V) (v6 v7 : Option V), σ = [some (.ref a), some (.ref b), some (n_ u), some (.ref l), some z, some (n_ i), v6, v7] ∧ Same G H2 ∧ BestAt N CB H2 z (pumpF st t ho u i (outF st t ho u i) j))
        ⟨z, v6, v7, rfl, s5, hz⟩ ?_ ?_
      · rintro j σ H2 hj ⟨z, v6, v7, rfl, s6, hz⟩
        have e0 : (0 : Int) + (j : Int) = (j : Int) := Int.zero_add _
        rw [e0]
        refine ⟨_, rfl, _, rfl, _, rfl, _, rfl, _, rfl, _, rfl, N, a, b, l, st, ho, t, u, i, j, hN.same (s0.trans s6), rfl, ⟨da, s6 _ _ (s0 _ _ hA')⟩, hB.same (s0.trans s6), hL.same (s0.trans s6), C, fun H3 y s7 hy => ?_⟩
        refine ⟨_, rfl, _, rfl, N, z, y, _, _, rfl, BestAt.same s7 hz, hy, fun H4 z2 s8 hz2 => ?_⟩
        refine ⟨z2, some (n_ j), some y, rfl, (s6.trans s7).trans s8, ?_⟩
        rw [pumpF_succ]
        exact hz2
      · rintro σ H2 ⟨z, v6, v7, rfl, s6, hz⟩
        refine ⟨z, _, v6, v7, rfl, s6, ?_⟩
        rw [outF_succ]
        exact hz
    · rintro σ H' ⟨z, v5, v6, v7, rfl, s5, hz⟩
      exact ⟨_, rfl, k _ _ (s0.trans s5) (by rw [← outF_two]; exact hz)⟩
/-! ### cheapest_by_height -/
theorem tab_cons (s : Sj03.Storm) (h : Sj03.Hour) (hs : List Sj03.Hour) : tab s (h :: hs) = (List.range 61).map fun w => s.from_ (tab s hs) h w := rfl
end
end Sg
set_option Elab.async false
set_option linter.all false
set_option maxRecDepth 100000
set_option maxHeartbeats 4000000
namespace Sg
open PySem PySem.Spec PyProof.Rows L2
/-! ### a table that grows -/
def GrowAt (C : Addr) (H : Hp) (D : Addr) (f : Nat → Option Si97.Best) (n : Nat) : Prop := ∃ vs : List V, H D = some (.lst vs) ∧ vs.length = n ∧ ∀ i, i < n → ∃ v, vs[i]? = some v ∧ BestAt (Off D) C H v (f i)
theorem grow_zero {C : Addr} {H : Hp} {D : Addr} {f : Nat → Option Si97.Best} (h : H D = some (.lst [])) : GrowAt C H D f 0 := ⟨[], h, rfl, fun i hi => absurd hi (Nat.not_lt_zero i)⟩
theorem BestAt.store {C : Addr} {H : Hp} {D : Addr} {vs us : List V} {v : V} (hl : H D = some (.lst vs)) : ∀ {b : Option Si97.Best}, BestAt (Off D) C H v b → BestAt (Off D) C (upd H D (.lst us)) v b
  | none, h => h
  | some b, ⟨a, dx, q, e, h1, h2, h3⟩ => ⟨a, dx, q, e, by rw [upd_ne (ne_of h1 hl (by intro z; cases z))]; exact h1, by rw [upd_ne h3]; exact h2, h3⟩
theorem grow_more {C : Addr} {H H4 : Hp} {D : Addr} {f : Nat → Option Si97.Best} {n : Nat} {y : V} (g : GrowAt C H D f n) (k : Same H H4) (hy : BestAt (Off D) C H4 y (f n)) :
    ∃ vs : List V, H4 D = some (.lst vs) ∧ vs.length = n ∧ GrowAt C (upd H4 D (.lst (vs ++ [y]))) D f (n + 1) := by
  obtain ⟨vs, h1, h2, h3⟩ := g
  have e4 := k _ _ h1
  refine ⟨vs, e4, h2, vs ++ [y], upd_same, by rw [List.length_append, h2]; rfl, fun i hi => ?_⟩
  by_cases hn : i < n
  · obtain ⟨v, e, hb⟩ := h3 i hn
    refine ⟨v, ?_, BestAt.store e4 (BestAt.same k hb)⟩
    rw [List.getElem?_append_left (by omega)]
    exact e
  · obtain rfl : i = n := by omega
    refine ⟨y, ?_, BestAt.store e4 hy⟩
    rw [List.getElem?_append_right (by omega), h2, Nat.sub_self]
    rfl
theorem grow_table {C : Addr} {H : Hp} {D : Addr} {f : Nat → Option Si97.Best} {n : Nat} (g : GrowAt C H D f n) : TableAt Any C H D ((List.range n).map f) := by
  obtain ⟨vs, h1, h2, h3⟩ := g
  refine ⟨vs, h1, by rw [h2, List.length_map, List.length_range], fun i b e => ?_⟩
  by_cases hi : i < n
  · rw [List.getElem?_map, List.getElem?_range hi] at e
    cases e
    obtain ⟨v, e1, e2⟩ := h3 i hi
    exact ⟨v, e1, e2.mono fun _ _ _ _ => trivial⟩
  · rw [List.getElem?_eq_none (by rw [List.length_map, List.length_range]; omega)] at e
    cases e
theorem same_store {H H' : Hp} {D : Addr} {o : HO} (k : Same H H') (h : H D = none) : Same H (upd H' D o) := fun b x e => by
  rw [upd_ne (ne_of_none e h)]
  exact k _ _ e
section
variable {P : Program} {w : World} {K : PySem.W.Frag} {mg : Str → Option Value} {base : Heap} {CS CH CB CL : Addr}
/-! ### cheapest_by_height -/
def spByHeight (CS CH CB : Addr) : Sp := fun vs H Q _ => ∃ (a b l : Addr) (s : Sj03.Storm) (h : Sj03.Hour) (t : List (Option Si97.Best)), vs = [.ref a, .ref b, .ref l] ∧ StormAt CS H a s ∧ HourAt CH H b h ∧ TableAt Any CB H l t ∧ Calm s h t ∧
  ∀ (H' : Hp) (p : Addr), Same H H' → TableAt Any CB H' p ((List.range 61).map fun w => s.from_ t h w) → Q (.ref p) H'
abbrev pByHeight : List Str := ["storm", "hour", "rest"]
abbrev nByHeight : List Str := ["storm", "hour", "rest", "height"]
theorem scByHeight : FnScope nByHeight pByHeight (defScope xByHeight) := ⟨rfl, rfl, rfl, by decide +kernel, rfl, by decide +kernel, by decide +kernel⟩
theorem ok_byHeight {f fF : Addr} {fd fdF : FuncData} (F : Fun K "cheapest_by_height" "cheapest_by_height" xByHeight f fd) (T : Txt K mg CS CH CB CL)
    (GF : FnOk P w K mg base CX0 4 fF fdF pFrom (spFrom CS CH CB)) (kF : PySem.W.keepIn K (.ref fF) = true) (bF : Binds K fdF pFrom []) (gF : mg "cheapest_from" = some (.ref fF)) :
    FnOk P w K mg base CX0 5 f fd pByHeight (spByHeight CS CH CB) := by
  refine F.ok scByHeight (fun vs H Q E h => ?_) (fun cdv A outer s H vs Q E hr h => ?_)
  · obtain ⟨a, b, l, s, h, t, rfl, _⟩ := h
    rfl
  · obtain ⟨a, b, l, st, ho, t, rfl, hA, hB, hL, C, k⟩ := h
    obtain ⟨tH, hH⟩ := T.highest
    refine ⟨_, pss_one (ps_ret (pe_lc (own := [("height", 3)]) (g := gName 3) (tt := tYes) rfl scByHeight.nd
      (pi_range1 (by rfl) T.range (pa_cons (pe_op op_add (pe_glob (v := .int 60) (by rfl) hH ⟨_, rfl⟩) pe_int) pa_nil))
      (blkOk_by (own := [("height", 3)]) (N := nByHeight) (sc := defScope xByHeight) (by decide +kernel))
      (fun _ _ _ _ _ => pg_name (i := 3) scByHeight.nd rfl (Or.inl rfl)) (fun _ _ _ _ _ => pts_nil)
      (fun _ _ _ _ _ => pe_call GF hr (by rfl) gF kF bF .nil pass0 (pa_cons (pv 0) (pa_cons (pv 1) (pa_cons (pv 3) (pa_cons (pv 2) pa_nil))))))), ?_⟩
    refine ⟨_, _, rfl, rfl, _, rfl, by decide, by decide, fun D hD => lc_range (lo := 0) (n := 61) (fun i H' => Same H H' ∧ GrowAt CB H' D (fun w => st.from_ t ho w) i) ⟨same_new hD, grow_zero upd_same⟩ ?_ ?_⟩
    · rintro i H' hi ⟨s1, g⟩
      have e0 : (0 : Int) + (i : Int) = (i : Int) := Int.zero_add _
      rw [e0]
      refine ⟨rfl, ?_⟩
      refine iteT (B := Same H H' ∧ GrowAt CB H' D (fun w => st.from_ t ho w) (i + 1)) ?_
      obtain ⟨vs, hvs, _, _⟩ := id g
      refine ⟨_, rfl, _, rfl, _, rfl, _, rfl, Off D, a, b, l, st, ho, t, i, newOk_off hvs, rfl, hA.same s1, hB.same s1, TableAt.same (hL.mono fun q us hq _ => ne_of_none hq hD) s1, C, fun H4 y s4 hy => ?_⟩
      obtain ⟨ws, h1, h2, h3⟩ := grow_more g s4 hy
      exact ⟨ws, h1, by rw [h2]; exact Nat.lt_of_lt_of_le hi (by decide), same_store (s1.trans s4) hD, h3⟩
    · rintro H' ⟨s1, g⟩
      exact k _ _ s1 (grow_table g)
end
end Sg
set_option Elab.async false
set_option linter.all false
set_option maxRecDepth 100000
set_option maxHeartbeats 4000000
namespace Sg
open PySem PySem.Spec PyProof.Rows L2
theorem short_more {n m : Nat} (h : n ≤ m) {o : Option Si97.Best} (k : Short n o) : Short m o := fun c e => Nat.le_trans (k c e) h
theorem calm_of {s : Sj03.Storm} (F : Fine s) {h : Sj03.Hour} (hh : h ∈ s.hours) (hs : List Sj03.Hour) (hl : hs.length ≤ 6) : Calm s h (tab s hs) :=
  ⟨F.hi, F.pu, F.sa, (F.hs h hh).2.2, tab_length s hs, fun u => short_more (by omega) (short_tab s hs u)⟩
/-- what best answers -/
theorem told_none : out (Sj03.toldBest none) = [-6] := rfl
theorem told_some (b : Si97.Best) : (out (Sj03.toldBest (some b))).map V.int = [n_ b.cost, n_ b.many] ++ ns b.row := by
  show V.int (b.cost : Int) :: V.int (b.many : Int) :: ((b.row.map fun (n : Nat) => (n : Int)).map V.int) = n_ b.cost :: n_ b.many :: ns b.row
  rw [List.map_map]
  rfl
section
variable {P : Program} {w : World} {K : PySem.W.Frag} {mg : Str → Option Value} {base : Heap} {CS CH CB CL : Addr}
/-! ### best_plan -/
def spBestPlan (CS CH : Addr) : Sp := fun vs H Q _ => ∃ (a l : Addr) (s : Sj03.Storm), vs = [.ref a, .ref l] ∧ StormAt CS H a s ∧ HoursAt CH H l s.hours ∧ Fine s ∧
  ∀ (H' : Hp) (p : Addr), Same H H' → H p = none → H' p = some (.lst ((out (Sj03.toldBest s.best)).map V.int)) → Q (.ref p) H'
abbrev pBestPlan : List Str := ["storm", "hours"]
abbrev nBestPlan : List Str := ["storm", "hours", "rest", "hour", "best", "height"]
theorem scBestPlan : FnScope nBestPlan pBestPlan (defScope xBest) := ⟨rfl, rfl, rfl, by decide +kernel, rfl, by decide +kernel, by decide +kernel⟩
theorem ok_bestPlan {f fT fN fI : Addr} {fd fdT fdN fdI : FuncData} (F : Fun K "best_plan" "best_plan" xBest f fd) (T : Txt K mg CS CH CB CL)
    (GT : FnOk P w K mg base CX0 5 fT fdT pByHeight (spByHeight CS CH CB)) (kT : PySem.W.keepIn K (.ref fT) = true) (bT : Binds K fdT pByHeight []) (gT : mg "cheapest_by_height" = some (.ref fT))
    (GN : FnOk P w K mg base CX0 1 fN fdN [] (spList [-6])) (kN : PySem.W.keepIn K (.ref fN) = true) (bN : Binds K fdN [] []) (gN : mg "no_plan_can_be" = some (.ref fN))
    (M : Mk K CB fI) (GI : FnOk P w K mg base CX0 1 fI fdI nCheapest (spCheapest CB)) (bI : Binds K fdI nCheapest []) :
    FnOk P w K mg base CX0 6 f fd pBestPlan (spBestPlan CS CH) := by
  refine F.ok scBestPlan (fun vs H Q E h => ?_) (fun cdv A outer s H vs Q E hr h => ?_)
  · obtain ⟨a, l, s, rfl, _⟩ := h
    rfl
  · obtain ⟨a, l, st, rfl, hA, hL, Fi, k⟩ := h
    obtain ⟨tH, hH⟩ := T.highest
    have hr5 : Room 5 _ := hr
    have hr2 : Room 2 _ := hr.mono (by decide)
    have hr1 : Room 1 _ := hr.mono (by decide)
    refine ⟨_, pss_cons (ps_setLc (i := 2) (own := [("height", 5)]) (g := gName 5) (tt := tYes) rfl scBestPlan.nd rfl rfl (sw_true rfl rfl rfl (by decide +kernel))
        (pi_range1 (by rfl) T.range (pa_cons (pe_op op_add (pe_glob (v := .int 60) (by rfl) hH ⟨_, rfl⟩) pe_int) pa_nil))
        (blkOk_by (own := [("height", 5)]) (N := nBestPlan) (sc := defScope xBest) (by decide +kernel))
        (fun _ _ _ _ _ => pg_name (i := 5) scBestPlan.nd rfl (Or.inl rfl)) (fun _ _ _ _ _ => pts_nil)
        (fun _ _ _ _ _ => pe_make M GI hr2 (by rfl) T.gB bI .nil pass0 (pa_cons pe_int (pa_cons pe_int (pa_cons (pe_lst pa_nil) pa_nil)))))
      (pss_cons (ps_for PassesOwn.never rfl (pi_reversed (by rfl) T.reversed (pa_cons (pv 1) pa_nil)) (pg_name (i := 3) scBestPlan.nd rfl (Or.inl rfl))
        (pss_one (ps_set (i := 2) scBestPlan.nd rfl (Or.inl rfl) (pe_call GT hr5 (by rfl) gT kT bT .nil pass0 (pa_cons (pv 0) (pa_cons (pv 3) (pa_cons (pv 2) pa_nil)))))))
      (pss_cons (ps_set (i := 4) scBestPlan.nd rfl (Or.inl rfl) (pe_ix ix_list (pv 2) (pe_fld (pv 0) rfl) (fun _ _ => rfl)))
      (pss_cons (ps_if (pt_cmpR op_isN (pv 4) pe_non (nomark _)) (pss_one (ps_ret (pe_call0 GN hr1 (by rfl) gN kN bN .nil pass0))) pss_nil)
      (pss_one (ps_ret (pe_op op_cat (pe_lst (pa_cons (pe_fld (pv 4) rfl) (pa_cons (pe_fld (pv 4) rfl) pa_nil))) (pe_fld (pv 4) rfl))))))), ?_⟩
    refine ⟨_, _, rfl, rfl, _, rfl, by decide, by decide, fun D hD => lc_range (lo := 0) (n := 61) (fun i H' => Same H H' ∧ GrowAt CB H' D (fun _ => some ⟨0, 1, []⟩) i) ⟨same_new hD, grow_zero upd_same⟩ ?_ ?_⟩
    · rintro i H' hi ⟨s1, g⟩
      refine ⟨rfl, ?_⟩
      refine iteT (B := Same H H' ∧ GrowAt CB H' D (fun _ => some ⟨0, 1, []⟩) (i + 1)) ?_
      obtain ⟨vs, hvs, _, _⟩ := id g
      refine ⟨Nat.zero_le _, fun q hq => ?_⟩
      intro p dp np nd ne
      have s2 : Same H' (upd H' q (.lst [])) := same_new hq
      refine ⟨p, dp, q, ⟨0, 1, []⟩, rfl, upd_same, fun H4 h1 h2 => ⟨rfl, ?_⟩⟩
      have s3 := Same.made np nd h2
      have s4 := s2.trans s3
      obtain ⟨ws, e1, e2, e3⟩ := grow_more (y := .ref p) g s4 ⟨p, dp, q, rfl, h1, s3 _ _ upd_same, newOk_off hvs q hq⟩
      exact ⟨ws, e1, by rw [e2]; exact Nat.lt_of_lt_of_le hi (by decide), same_store (s1.trans s4) hD, e3⟩
    · rintro H1 ⟨s1, g⟩
      have hT0 := grow_table g
      have eT0 : (List.range 61).map (fun _ => (some ⟨0, 1, []⟩ : Option Si97.Best)) = tab st [] := by
        show _ = List.replicate 61 _
        decide
      rw [eT0] at hT0
      obtain ⟨vs, hvs, hv⟩ := hL
      have hlen : vs.length = st.hours.length := hv.length
      have hn6 := Fi.hn
      refine ⟨_, rfl, l, vs, rfl, SqL.of (s1 _ _ hvs), ?_⟩
      refine for_it (walk_rev (K := K) (a := l) (xs := vs)) (fun i σ H' => i ≤ vs.length ∧ ∃ (p : Addr) (v3 v4 v5 : Option V), σ = [some (.ref a), some (.ref l), some (.ref p), v3, v4, v5] ∧ Same H H' ∧ TableAt Any CB H' p (tab st (st.hours.drop (vs.length - i))))
        ⟨Nat.zero_le _, D, none, none, none, rfl, s1, by rw [Nat.sub_zero, hlen, List.drop_length]; exact hT0⟩ (fun i σ H' _ ⟨_, _, _, _, _, _, s5, _⟩ => SqL.of (s5 _ _ hvs)) ?_ ?_
      · rintro i y σ H' H2 hi ⟨_, p, v3, v4, v5, rfl, s5, hT⟩ ⟨rfl, hy⟩
        obtain ⟨b, ho, rfl, hho, hB⟩ := hv.at hy
        obtain ⟨hlt, hge⟩ := List.getElem?_eq_some_iff.mp hho
        have hmem : ho ∈ st.hours := by rw [← hge]; exact List.getElem_mem hlt
        refine ⟨_, rfl, _, rfl, _, rfl, a, b, p, st, ho, _, rfl, hA.same s5, hB.same s5, hT, calm_of Fi hmem _ (by rw [List.length_drop]; omega), fun H3 p3 s6 hT3 => ?_⟩
        refine ⟨hi, p3, _, v4, v5, rfl, s5.trans s6, ?_⟩
        have ed : st.hours.drop (vs.length - (i + 1)) = ho :: st.hours.drop (vs.length - i) := by
          have e1 : vs.length - (i + 1) = vs.length - 1 - i := by omega
          have e2 : vs.length - i = vs.length - 1 - i + 1 := by omega
          rw [e1, e2, List.drop_eq_getElem_cons hlt, hge]
        rw [ed, tab_cons]
        exact hT3
      · rintro σ H' ⟨_, p, v3, v4, v5, rfl, s5, hT⟩
        rw [Nat.sub_self, List.drop_zero] at hT
        obtain ⟨us, hus, hun, hu⟩ := id hT
        have hst := Fi.st
        have hlt : st.stands < (tab st st.hours).length := by rw [tab_length]; omega
        obtain ⟨v, hvi, hb⟩ := hu _ _ (getD_at (d := none) hlt)
        rw [← best_is Fi] at hb
        obtain ⟨da, hA'⟩ := hA
        refine ⟨_, rfl, _, rfl, a, CS, da, _, _, rfl, s5 _ _ hA', T.clS, T.sStands, sF_stands st, p, us, _, v, rfl, rfl, SqL.of hus, atI_nat hvi, ?_⟩
        cases eb : st.best with
        | none =>
          rw [eb] at hb k
          obtain rfl : v = .non := hb
          refine ⟨_, rfl, rfl, _, rfl, ite2 (fun _ => ?_) (fun e => absurd (decide_eq_true rfl) e)⟩
          exact ⟨rfl, fun q hq => k _ _ (s5.trans (same_new hq)) (s5.free hq) upd_same⟩
        | some c =>
          rw [eb] at hb k
          obtain ⟨ay, dy, ly, rfl, hy, hyl, _⟩ := id hb
          have hrow : c.row.length ≤ 12 := by
            have q := short_tab st st.hours st.stands c (by rw [← best_is Fi]; exact eb)
            omega
          refine ⟨_, rfl, rfl, _, rfl, ite2 (fun e => nomatch of_decide_eq_true e) (fun _ => ?_)⟩
          refine ⟨_, rfl, ay, CB, dy, _, _, rfl, hy, T.clB, T.bCost, cF_cost c ly, _, rfl, ay, CB, dy, _, _, rfl, hy, T.clB, T.bPlans, cF_plans c ly, (by show 2 ≤ sizeLine; decide), fun p1 hp1 => ?_⟩
          have s6 : Same H' (upd H' p1 (.lst [n_ c.cost, n_ c.many])) := same_new hp1
          refine ⟨_, rfl, ay, CB, dy, _, _, rfl, s6 _ _ hy, T.clB, T.bDoings, cF_doings c ly, _, _, _, _, rfl, rfl, upd_same, s6 _ _ hyl, ?_, fun p2 hp2 => ?_⟩
          · have e : (ns c.row).length = c.row.length := List.length_map ..
            rw [e]
            show 2 + c.row.length ≤ sizeLine
            exact Nat.le_trans (show 2 + c.row.length ≤ 1000 by omega) (by decide)
          · refine k _ _ (s5.trans (s6.trans (same_new hp2))) (s5.free (s6.free hp2)) ?_
            rw [told_some]
            exact upd_same
end
end Sg
set_option Elab.async false
set_option linter.all false
set_option maxRecDepth 100000
set_option maxHeartbeats 4000000
namespace Sg
open PySem PySem.Spec PyProof.Rows L2
theorem ns_at {ps : List Nat} {i : Nat} (h : i < ps.length) : (ns ps)[i]? = some (n_ (ps.getD i 0)) := by
  unfold ns
  rw [List.getElem?_map, getD_at (d := 0) h]
  rfl
theorem ns_len (ps : List Nat) : (ns ps).length = ps.length := List.length_map ..
theorem told_len {s : Sj03.Storm} {ps : List Nat} (h : ¬ ps.length = 2 * s.hours.length) : s.told ps = false := by
  unfold Sj03.Storm.told
  rw [beq_eq_false_iff_ne.mpr h]
  rfl
theorem told_yes {s : Sj03.Storm} {ps : List Nat} (h : ps.length = 2 * s.hours.length) (k : ∀ j, j < s.hours.length → ps.getD (2 * j) 0 ≤ 1) : s.told ps = true := by
  unfold Sj03.Storm.told
  rw [(gates_all _ ps h).mp k, h, beq_self_eq_true]
  rfl
theorem told_no {s : Sj03.Storm} {ps : List Nat} (h : ps.length = 2 * s.hours.length) {j : Nat} (hj : j < s.hours.length) (k : ¬ ps.getD (2 * j) 0 ≤ 1) : s.told ps = false := by
  unfold Sj03.Storm.told
  have e : ((Sj03.gates ps).all fun o => decide (o < 2)) = false := by
    cases q : (Sj03.gates ps).all fun o => decide (o < 2) with
    | false => rfl
    | true => exact absurd ((gates_all _ ps h).mpr q j hj) k
  rw [e, Bool.and_false]
theorem told_length {s : Sj03.Storm} {ps : List Nat} (h : s.told ps = true) : ps.length = 2 * s.hours.length := by
  unfold Sj03.Storm.told at h
  rw [Bool.and_eq_true] at h
  exact beq_iff_eq.mp h.1
section
variable {P : Program} {w : World} {K : PySem.W.Frag} {mg : Str → Option Value} {base : Heap} {CS CH CB CL : Addr}
/-! ### plan_is_as_told -/
def spTold (CH : Addr) : Sp := fun vs H Q _ => ∃ (l d : Addr) (s : Sj03.Storm) (ps : List Nat), vs = [.ref l, .ref d] ∧ HoursAt CH H l s.hours ∧ H d = some (.lst (ns ps)) ∧ s.hours.length ≤ 6 ∧ ps.length ≤ 14 ∧ Q (.bl (s.told ps)) H
abbrev pTold : List Str := ["hours", "doings"]
abbrev nTold : List Str := ["hours", "doings", "number"]
theorem scTold : FnScope nTold pTold (defScope xTold) := ⟨rfl, rfl, rfl, by decide +kernel, rfl, by decide +kernel, by decide +kernel⟩
theorem ok_told {f : Addr} {fd : FuncData} (F : Fun K "plan_is_as_told" "plan_is_as_told" xTold f fd) (T : Txt K mg CS CH CB CL) : FnOk P w K mg base CX0 1 f fd pTold (spTold CH) := by
  refine F.ok scTold (fun vs H Q E h => ?_) (fun cdv A outer s H vs Q E hr h => ?_)
  · obtain ⟨l, d, s, ps, rfl, _⟩ := h
    rfl
  · obtain ⟨l, d, st, ps, rfl, ⟨vs, hvs, hv⟩, hd, hn, hm, k⟩ := h
    have hlen : vs.length = st.hours.length := hv.length
    refine ⟨_, pss_cons (ps_if (pt_cmpR op_ne (pe_callB call_len_seq (by rfl) T.len PySem.boot_len (pa_cons (pv 1) pa_nil)) (pe_op op_mul pe_int (pe_callB call_len_seq (by rfl) T.len PySem.boot_len (pa_cons (pv 0) pa_nil))) (nomark _)) (pss_one (ps_ret pe_bl)) pss_nil)
      (pss_cons (ps_for PassesOwn.never rfl (pi_range1 (by rfl) T.range (pa_cons (pe_callB call_len_seq (by rfl) T.len PySem.boot_len (pa_cons (pv 0) pa_nil)) pa_nil)) (pg_name (i := 2) scTold.nd rfl (Or.inl rfl))
        (pss_one (ps_if (pt_cmpR op_gt (pe_ix ix_list (pv 1) (pe_op op_mul pe_int (pv 2)) (fun _ _ => rfl)) pe_int (nomark _)) (pss_one (ps_ret pe_bl)) pss_nil)))
      (pss_one (ps_ret pe_bl))), ?_⟩
    refine ⟨_, rfl, d, _, rfl, .inl (SqL.of hd), _, rfl, l, _, rfl, .inl (SqL.of hvs), _, _, rfl, rfl, .inl ⟨by decide, by decide⟩, rfl, _, rfl, ite2 (fun e => ?_) (fun e => ?_)⟩
    · have q : ¬ ps.length = 2 * st.hours.length := by
        intro z
        rw [Bool.not_eq_true'] at e
        refine absurd ?_ (of_decide_eq_false e)
        show V.int _ = V.int _
        rw [ns_len, z, hlen, Int.natCast_mul]
        rfl
      rw [told_len q] at k
      exact k
    · have q : ps.length = 2 * st.hours.length := by
        have e2 : decide (V.int ((ns ps).length : Int) = V.int (2 * (vs.length : Int))) = true := by
          cases z : decide (V.int ((ns ps).length : Int) = V.int (2 * (vs.length : Int))) with
          | true => rfl
          | false => exact absurd (by rw [Bool.not_eq_true']; exact z) e
        have e3 := V.int.inj (of_decide_eq_true e2)
        rw [ns_len] at e3
        omega
      refine ⟨_, rfl, l, _, rfl, .inl (SqL.of hvs), _, rfl, (by omega), (by omega), ?_⟩
      refine for_range (lo := 0) (n := vs.length) (fun i σ H' => H' = H ∧ (∃ v2 : Option V, σ = [some (.ref l), some (.ref d), v2]) ∧ ∀ j, j < i → ps.getD (2 * j) 0 ≤ 1)
        ⟨rfl, ⟨none, rfl⟩, fun j hj => absurd hj (Nat.not_lt_zero j)⟩ ?_ ?_
      · rintro i σ H' hi ⟨rfl, ⟨v2, rfl⟩, hj⟩
        have e0 : (0 : Int) + (i : Int) = (i : Int) := Int.zero_add _
        rw [e0]
        have hi2 : 2 * i < ps.length := by omega
        refine ⟨_, rfl, _, rfl, _, _, rfl, rfl, .inl ⟨by decide, by decide⟩, d, _, _, _, rfl, rfl, SqL.of hd, at_of (j := 2 * i) (by rw [Int.natCast_mul]; rfl) (ns_at hi2), _, _, rfl, rfl, _, rfl, ite2 (fun e => ?_) (fun e => ?_)⟩
        · have z := of_decide_eq_true e
          rw [told_no q (j := i) (by omega) (by omega)] at k
          exact k
        · have z : ¬ (1 : Int) < (ps.getD (2 * i) 0 : Nat) := fun y => e (decide_eq_true y)
          refine ⟨rfl, ⟨_, rfl⟩, fun j hji => ?_⟩
          by_cases c : j < i
          · exact hj j c
          · obtain rfl : j = i := by omega
            omega
      · rintro σ H' ⟨rfl, ⟨v2, rfl⟩, hj⟩
        rw [told_yes q (by rw [← hlen]; exact hj)] at k
        exact k
/-! ### check_plan -/
def spCheckPlan (CS CH : Addr) : Sp := fun vs H Q _ => ∃ (a l d : Addr) (s : Sj03.Storm) (ps : List Nat), vs = [.ref a, .ref l, .ref d] ∧ StormAt CS H a s ∧ HoursAt CH H l s.hours ∧ H d = some (.lst (ns ps)) ∧ Fine s ∧ ps.length ≤ 14 ∧
  ∀ (H' : Hp) (p : Addr), Same H H' → H p = none → H' p = some (.lst ((out (Sj03.step s (.check ps)).2).map V.int)) → Q (.ref p) H'
abbrev pCheckPlan : List Str := ["storm", "hours", "doings"]
abbrev nCheckPlan : List Str := ["storm", "hours", "doings", "cost", "height", "heights", "number", "hour", "gate", "pumped", "behind", "wrong"]
theorem scCheckPlan : FnScope nCheckPlan pCheckPlan (defScope xCheck) := ⟨rfl, rfl, rfl, by decide +kernel, rfl, by decide +kernel, by decide +kernel⟩
theorem ok_checkPlan {f fO fN fP fB fW fC : Addr} {fd fdO fdN fdP fdB fdW fdC : FuncData} (F : Fun K "check_plan" "check_plan" xCheck f fd) (T : Txt K mg CS CH CB CL)
    (GO : FnOk P w K mg base CX0 1 fO fdO pTold (spTold CH)) (kO : PySem.W.keepIn K (.ref fO) = true) (bO : Binds K fdO pTold []) (gO : mg "plan_is_as_told" = some (.ref fO))
    (GN : FnOk P w K mg base CX0 1 fN fdN [] (spList [-1])) (kN : PySem.W.keepIn K (.ref fN) = true) (bN : Binds K fdN [] []) (gN : mg "not_as_told" = some (.ref fN))
    (GP : FnOk P w K mg base CX0 1 fP fdP [] (spList [-6])) (kP : PySem.W.keepIn K (.ref fP) = true) (bP : Binds K fdP [] []) (gP : mg "no_plan_can_be" = some (.ref fP))
    (GB : FnOk P w K mg base CX0 2 fB fdB nBehind (spBehind CS CH)) (kB : PySem.W.keepIn K (.ref fB) = true) (bB : Binds K fdB nBehind []) (gB : mg "height_behind" = some (.ref fB))
    (GW : FnOk P w K mg base CX0 1 fW fdW nWrong (spWrong CS)) (kW : PySem.W.keepIn K (.ref fW) = true) (bW : Binds K fdW nWrong []) (gW : mg "what_is_wrong" = some (.ref fW))
    (GC : FnOk P w K mg base CX0 2 fC fdC nBehind (spCosts CS CH)) (kC : PySem.W.keepIn K (.ref fC) = true) (bC : Binds K fdC nBehind []) (gC : mg "hour_costs" = some (.ref fC)) :
    FnOk P w K mg base CX0 3 f fd pCheckPlan (spCheckPlan CS CH) := by
  refine F.ok scCheckPlan (fun vs H Q E h => ?_) (fun cdv A outer s H vs Q E hr h => ?_)
  · obtain ⟨a, l, d, s, ps, rfl, _⟩ := h
    rfl
  · obtain ⟨a, l, d, st, ps, rfl, hA, hL, hd, Fi, hm, k⟩ := h
    have hr1 : Room 1 _ := hr.mono (by decide)
    have hr2 : Room 2 _ := hr
    refine ⟨_, pss_cons (ps_if (pt_not (pt_val (pe_call GO hr1 (by rfl) gO kO bO .nil pass0 (pa_cons (pv 1) (pa_cons (pv 2) pa_nil))))) (pss_one (ps_ret (pe_call0 GN hr1 (by rfl) gN kN bN .nil pass0))) pss_nil)
      (pss_cons (ps_set (i := 3) scCheckPlan.nd rfl (Or.inl rfl) pe_int)
      (pss_cons (ps_set (i := 4) scCheckPlan.nd rfl (Or.inl rfl) (pe_fld (pv 0) rfl))
      (pss_cons (ps_set (i := 5) scCheckPlan.nd rfl (Or.inl rfl) (pe_lst pa_nil))
      (pss_cons (ps_for PassesOwn.never rfl (pi_enum (by rfl) T.enumerate (pa_cons (pv 1) pa_nil)) (pg_tup rfl (pgs_cons (pg_name (i := 6) scCheckPlan.nd rfl (Or.inl rfl)) (pgs_cons (pg_name (i := 7) scCheckPlan.nd rfl (Or.inl rfl)) pgs_nil)))
        (pss_cons (ps_set (i := 8) scCheckPlan.nd rfl (Or.inl rfl) (pe_ix ix_list (pv 2) (pe_op op_mul pe_int (pv 6)) (fun _ _ => rfl)))
        (pss_cons (ps_set (i := 9) scCheckPlan.nd rfl (Or.inl rfl) (pe_ix ix_list (pv 2) (pe_op op_add (pe_op op_mul pe_int (pv 6)) pe_int) (fun _ _ => rfl)))
        (pss_cons (ps_set (i := 10) scCheckPlan.nd rfl (Or.inl rfl) (pe_call GB hr2 (by rfl) gB kB bB .nil pass0 (pa_cons (pv 0) (pa_cons (pv 7) (pa_cons (pv 4) (pa_cons (pv 8) (pa_cons (pv 9) pa_nil)))))))
        (pss_cons (ps_set (i := 11) scCheckPlan.nd rfl (Or.inl rfl) (pe_call GW hr1 (by rfl) gW kW bW .nil pass0 (pa_cons (pv 0) (pa_cons (pv 10) (pa_cons (pv 9) pa_nil)))))
        (pss_cons (ps_if (pt_cmpR op_gt (pv 11) pe_int (nomark _)) (pss_one (ps_ret (pe_op op_cat (pe_call0 GP hr1 (by rfl) gP kP bP .nil pass0) (pe_lst (pa_cons (pv 6) (pa_cons (pv 11) pa_nil)))))) pss_nil)
        (pss_cons (ps_set (i := 3) scCheckPlan.nd rfl (Or.inl rfl) (pe_op op_add (pv 3) (pe_call GC hr2 (by rfl) gC kC bC .nil pass0 (pa_cons (pv 0) (pa_cons (pv 7) (pa_cons (pv 4) (pa_cons (pv 8) (pa_cons (pv 9) pa_nil))))))))
        (pss_cons (ps_set (i := 4) scCheckPlan.nd rfl (Or.inl rfl) (pv 10))
        (pss_one (ps_expr (pe_bm PySem.F.plainAttrs_list PySem.F.slot_list_append PySem.F.type_list_append mt_append (pv 5) (pa_cons (pv 4) pa_nil))))))))))))
      (pss_one (ps_ret (pe_op op_cat (pe_lst (pa_cons (pv 3) pa_nil)) (pv 5)))))))), ?_⟩
    refine ⟨_, rfl, _, rfl, l, d, st, ps, rfl, hL, hd, Fi.hn, hm, _, rfl, ?_⟩
    cases et : st.told ps with
    | false =>
      rw [step_check_no et] at k
      exact iteT ⟨rfl, fun p hp => k _ p (same_new hp) hp upd_same⟩
    | true =>
      have hlen2 := told_length et
      obtain ⟨vs, hvs, hv⟩ := hL
      have hlen : vs.length = st.hours.length := hv.length
      have hn6 := Fi.hn
      obtain ⟨da, hA'⟩ := id hA
      refine iteF ?_
      refine ⟨_, rfl, a, CS, da, _, _, rfl, hA', T.clS, T.sStands, sF_stands st, Nat.zero_le _, fun z hz => ?_⟩
      have s1 : Same H (upd H z (.lst [])) := same_new hz
      refine ⟨_, rfl, l, vs, rfl, SqL.of (s1 _ _ hvs), ?_⟩
      refine for_it (walk_enum (K := K) (a := l) (xs := vs)) (fun i σ H' => ∃ (u : Nat) (done : List (Nat × Nat)) (v6 v7 v8 v9 v10 v11 : Option V),
          σ = [some (.ref a), some (.ref l), some (.ref d), some (n_ (done.map fun x => x.2).sum), some (n_ u), some (.ref z), v6, v7, v8, v9, v10, v11] ∧ Same H H' ∧ H' z = some (.lst (ns (done.map fun x => x.1))) ∧ Walked st ps i u done ∧ done.length = i)
        ⟨st.stands, [], none, none, none, none, none, none, rfl, s1, upd_same, walked_start st ps, rfl⟩ (fun i σ H' _ ⟨_, _, _, _, _, _, _, _, _, s5, _⟩ => SqL.of (s5 _ _ hvs)) ?_ ?_
      · rintro i y σ H' H2 hi ⟨u, done, v6, v7, v8, v9, v10, v11, rfl, s5, ez, W, hdn⟩ ⟨T1, x1, x2, rfl, nT, rfl, ex1, ex2⟩
        obtain rfl := Option.some.inj ex1
        obtain ⟨b, ho, rfl, hho, hB⟩ := hv.at ex2
        obtain ⟨hlt, hge⟩ := List.getElem?_eq_some_iff.mp hho
        have hmem : ho ∈ st.hours := by rw [← hge]; exact List.getElem_mem hlt
        have s6 : Same H' (upd H' T1 (.tup [.int (i : Nat), .ref b])) := same_new nT
        have s7 := s5.trans s6
        have hi1 : 2 * i + 1 < ps.length := by omega
        refine ⟨T1, [_, _], rfl, SqT.of upd_same, rfl, _, [_], rfl, _, [], rfl, rfl, ?_⟩
        refine ⟨_, rfl, _, rfl, _, _, rfl, rfl, .inl ⟨by decide, by decide⟩, d, _, _, _, rfl, rfl, SqL.of (s7 _ _ hd), at_of (j := 2 * i) (by rw [Int.natCast_mul]; rfl) (ns_at (by omega)), ?_⟩
        refine ⟨_, rfl, _, rfl, _, _, rfl, rfl, .inl ⟨by decide, by decide⟩, _, _, rfl, rfl, d, _, _, _, rfl, rfl, SqL.of (s7 _ _ hd), at_of (j := 2 * i + 1) (by rw [Int.natCast_add, Int.natCast_mul]; rfl) (ns_at hi1), ?_⟩
        generalize eg : ps.getD (2 * i) 0 = g
        generalize ep : ps.getD (2 * i + 1) 0 = x
        refine ⟨_, rfl, _, rfl, _, rfl, _, rfl, _, rfl, a, b, st, ho, u, g, x, rfl, hA.same s7, hB.same s7, ?_⟩
        refine ⟨_, rfl, _, rfl, _, rfl, a, st, _, x, rfl, hA.same s7, _, rfl, _, _, rfl, rfl, _, rfl, ite2 (fun e => ?_) (fun e => ?_)⟩
        · have q := of_decide_eq_true e
          have q0 : st.wrong u ho g x ≠ 0 := by rw [wrong_is]; omega
          have ew := walked_wrong W hho hi1 (by rw [eg, ep]; exact q0)
          rw [eg, ep] at ew
          rw [step_check_wrong et ew, wrong_is] at k
          refine ⟨rfl, fun p hp => ?_⟩
          have s8 := same_new (o := .lst [V.int (-6)]) hp
          refine ⟨_, rfl, _, rfl, (by show 2 ≤ sizeLine; decide), fun q1 hq1 => ?_⟩
          have s9 := same_new (o := .lst [n_ i, n_ (wrongI st (behind st ho u g x) x)]) hq1
          refine ⟨_, _, _, _, rfl, rfl, s9 _ _ upd_same, upd_same, (by show 1 + 2 ≤ sizeLine; decide), fun r hr => ?_⟩
          have s10 := s7.trans (s8.trans s9)
          exact k _ _ (s10.trans (same_new hr)) (s10.free hr) upd_same
        · have q : ¬ ((0 : Int) < (wrongI st (behind st ho u g x) x : Nat)) := fun z => e (decide_eq_true z)
          have q0 : st.wrong u ho g x = 0 := by rw [wrong_is]; omega
          obtain ⟨e1, e2, e3, e4⟩ := behind_fine q0
          have W2 := walked_on W hho hi1 (by rw [eg, ep]; exact q0)
          rw [eg, ep] at W2
          refine ⟨_, rfl, _, rfl, _, rfl, _, rfl, _, rfl, _, rfl, a, b, st, ho, u, g, x, rfl, hA.same s7, hB.same s7, (Fi.hs ho hmem).2.2, Fi.sa, _, _, rfl, rfl, ?_⟩
          refine ⟨_, rfl, _, rfl, .inl ⟨rfl, _, SqL.of (s6 _ _ ez)⟩, _, rfl, z, _, _, rfl, rfl, s6 _ _ ez, ?_, ?_⟩
          · rw [ns_len, List.length_map, hdn]
            exact Nat.lt_of_lt_of_le (show i < 100 by omega) (by decide)
          · have eA : n_ (((done ++ [((st.gate u ho g).1 - x, st.pays u ho g x)]).map fun x => x.2).sum) = V.int (((done.map fun x => x.2).sum : Nat) + (st.pays u ho g x : Nat) : Int) := by
              rw [List.map_append, List.sum_append]
              show V.int (((done.map fun x => x.2).sum + (st.pays u ho g x + 0) : Nat) : Int) = _
              rw [Int.natCast_add, Nat.add_zero]
            have eB : n_ ((st.gate u ho g).1 - x) = V.int (behind st ho u g x) := congrArg V.int e1
            refine ⟨(st.gate u ho g).1 - x, done ++ [((st.gate u ho g).1 - x, st.pays u ho g x)], some (.int (i : Nat)), some (.ref b), some (n_ g), some (n_ x), some (.int (behind st ho u g x)), some (n_ (wrongI st (behind st ho u g x) x)), ?_, same_store s7 hz, ?_, W2, ?_⟩
            · rw [eA, eB]
              rfl
            · rw [upd_same, List.map_append]
              unfold ns
              rw [List.map_append]
              show some (HO.lst (_ ++ [V.int (behind st ho u g x)])) = some (HO.lst (_ ++ [n_ ((st.gate u ho g).1 - x)]))
              rw [eB]
            · rw [List.length_append, hdn]
              rfl
      · rintro σ H' ⟨u, done, v6, v7, v8, v9, v10, v11, rfl, s5, ez, W, hdn⟩
        rw [hlen] at W
        rw [step_check_ok et (walked_end W)] at k
        refine ⟨_, rfl, (by show 1 ≤ sizeLine; decide), fun p hp => ?_⟩
        have s6 := same_new (o := .lst [n_ (done.map fun x => x.2).sum]) hp
        refine ⟨_, rfl, _, _, _, _, rfl, rfl, upd_same, s6 _ _ ez, ?_, fun r hr => ?_⟩
        · rw [ns_len, List.length_map, hdn]
          show 1 + vs.length ≤ sizeLine
          exact Nat.le_trans (show 1 + vs.length ≤ 100 by omega) (by decide)
        · refine k _ _ (s5.trans (s6.trans (same_new hr))) (s5.free (s6.free hr)) ?_
          rw [upd_same]
          show some (HO.lst (n_ (done.map fun x => x.2).sum :: ns (done.map fun x => x.1))) = some (HO.lst (V.int _ :: (((done.map fun x => x.1).map fun (n : Nat) => (n : Int)).map V.int)))
          rw [List.map_map]
          rfl
end
end Sg
set_option Elab.async false
set_option linter.all false
set_option maxRecDepth 100000
set_option maxHeartbeats 4000000
namespace Sg
open PySem PySem.Spec PyProof.Rows L2
/-- each number at most the end at its place -/
def noneB : List Nat → List Nat → Bool
  | x :: xs, e :: es => decide (x ≤ e) && noneB xs es
  | _, _ => true
theorem noneB_yes : ∀ (xs es : List Nat), xs.length = es.length → (∀ j, j < xs.length → xs.getD j 0 ≤ es.getD j 0) → noneB xs es = true
  | [], _, _, _ => by unfold noneB; rfl
  | x :: xs, [], h, _ => by simp at h
  | x :: xs, e :: es, h, k => by
    unfold noneB
    rw [Bool.and_eq_true, decide_eq_true_eq]
    exact ⟨k 0 (Nat.succ_pos _), noneB_yes xs es (Nat.succ.inj h) fun j hj => k (j + 1) (Nat.succ_lt_succ hj)⟩
theorem noneB_no : ∀ (xs es : List Nat) (j : Nat), xs.length = es.length → j < xs.length → ¬ xs.getD j 0 ≤ es.getD j 0 → noneB xs es = false
  | [], _, _, _, hj, _ => absurd hj (Nat.not_lt_zero _)
  | x :: xs, [], _, h, _, _ => by simp at h
  | x :: xs, e :: es, 0, h, _, k => by
    unfold noneB
    rw [show decide (x ≤ e) = false from decide_eq_false k]
    rfl
  | x :: xs, e :: es, j + 1, h, hj, k => by
    unfold noneB
    rw [noneB_no xs es j (Nat.succ.inj h) (Nat.lt_of_succ_lt_succ hj) k, Bool.and_false]
theorem noneB_nil : noneB [] [] = true := by unfold noneB; rfl
theorem noneB_cons (x e : Nat) (xs es : List Nat) : noneB (x :: xs) (e :: es) = (decide (x ≤ e) && noneB xs es) := by
  rw [noneB]
abbrev Bad6 (a l h c w t : Nat) : Prop := Si97.MOST < a ∨ Si97.MOST < h ∨ h < l ∨ Si97.PUMPS < c ∨ Si99.SEA < w ∨ Sj03.POWER < t
abbrev Bad3 (r s p : Nat) : Prop := Si97.RAIN < r ∨ Si99.SEA < s ∨ Sj03.POWER < p
theorem bad6_is (a l h c w t : Nat) : (if noneB [a, l, h, c, w, t] [60, 60, 60, 12, 100, 100] = true then decide (l ≤ h) else false) = !decide (Bad6 a l h c w t) := by
  by_cases q : noneB [a, l, h, c, w, t] [60, 60, 60, 12, 100, 100] = true
  · rw [if_pos q]
    simp only [noneB_cons, noneB_nil, Bool.and_true, Bool.and_eq_true, decide_eq_true_eq] at q
    by_cases z : l ≤ h
    · rw [decide_eq_true z, decide_eq_false (by simp only [Bad6, Si97.MOST, Si97.PUMPS, Si99.SEA, Sj03.POWER]; omega)]
      rfl
    · rw [decide_eq_false z, decide_eq_true (by simp only [Bad6]; omega)]
      rfl
  · rw [if_neg q, decide_eq_true]
    · rfl
    · simp only [noneB_cons, noneB_nil, Bool.and_true, Bool.and_eq_true, decide_eq_true_eq] at q
      simp only [Bad6, Si97.MOST, Si97.PUMPS, Si99.SEA, Sj03.POWER]
      omega
theorem bad3_is (r s p : Nat) : noneB [r, s, p] [30, 100, 100] = !decide (Bad3 r s p) := by
  by_cases z : Bad3 r s p
  · rw [decide_eq_true z]
    simp only [Bad3, Si97.RAIN, Si99.SEA, Sj03.POWER] at z
    cases q : noneB [r, s, p] [30, 100, 100] with
    | false => rfl
    | true =>
      simp only [noneB_cons, noneB_nil, Bool.and_true, Bool.and_eq_true, decide_eq_true_eq] at q
      omega
  · rw [decide_eq_false z]
    simp only [Bad3, Si97.RAIN, Si99.SEA, Sj03.POWER] at z
    simp only [noneB_cons, noneB_nil, Bool.and_true, Bool.not_false, Bool.and_eq_true, decide_eq_true_eq]
    omega
section
variable {P : Program} {w : World} {K : PySem.W.Frag} {mg : Str → Option Value} {base : Heap} {CS CH CB CL : Addr}
/-! ### none_is_beyond -/
def spBeyond : Sp := fun vs H Q _ => ∃ (a b : Addr) (xs es : List Nat), vs = [.ref a, .ref b] ∧ H a = some (.lst (ns xs)) ∧ H b = some (.lst (ns es)) ∧ xs.length = es.length ∧ ∀ H' : Hp, Same H H' → Q (.bl (noneB xs es)) H'
abbrev pBeyond : List Str := ["numbers", "ends"]
abbrev nBeyond : List Str := ["numbers", "ends", "number", "end"]
theorem scBeyond : FnScope nBeyond pBeyond (defScope xBeyond) := ⟨rfl, rfl, rfl, by decide +kernel, rfl, by decide +kernel, by decide +kernel⟩
theorem ok_beyond {f : Addr} {fd : FuncData} (F : Fun K "none_is_beyond" "none_is_beyond" xBeyond f fd) (T : Txt K mg CS CH CB CL) : FnOk P w K mg base CX0 1 f fd pBeyond spBeyond := by
  refine F.ok scBeyond (fun vs H Q E h => ?_) (fun cdv A outer s H vs Q E hr h => ?_)
  · obtain ⟨a, b, xs, es, rfl, _⟩ := h
    rfl
  · obtain ⟨a, b, xs, es, rfl, hA, hB, hl, k⟩ := h
    refine ⟨_, pss_cons (ps_for PassesOwn.never rfl (pi_zip (by rfl) T.zip (pa_cons (pv 0) (pa_cons (pv 1) pa_nil))) (pg_tup rfl (pgs_cons (pg_name (i := 2) scBeyond.nd rfl (Or.inl rfl)) (pgs_cons (pg_name (i := 3) scBeyond.nd rfl (Or.inl rfl)) pgs_nil)))
        (pss_one (ps_if (pt_cmpR op_gt (pv 2) (pv 3) (nomark _)) (pss_one (ps_ret pe_bl)) pss_nil)))
      (pss_one (ps_ret pe_bl)), ?_⟩
    refine ⟨_, rfl, _, rfl, a, b, _, _, rfl, SqL.of hA, SqL.of hB, ?_⟩
    refine for_it (walk_zip (K := K) (a := a) (b := b) (xs := ns xs) (ys := ns es) (n := xs.length) (by rw [ns_len, ns_len]; omega)) (fun i σ H' => (∃ v2 v3 : Option V, σ = [some (.ref a), some (.ref b), v2, v3]) ∧ Same H H' ∧ ∀ j, j < i → xs.getD j 0 ≤ es.getD j 0)
      ⟨⟨none, none, rfl⟩, Same.refl _, fun j hj => absurd hj (Nat.not_lt_zero j)⟩ (fun i σ H' _ ⟨_, s5, _⟩ => ⟨SqL.of (s5 _ _ hA), SqL.of (s5 _ _ hB)⟩) ?_ ?_
    · rintro i y σ H' H2 hi ⟨⟨v2, v3, rfl⟩, s5, hj⟩ ⟨T1, x1, x2, rfl, nT, rfl, ex1, ex2⟩
      have q1 := Option.some.inj ((ns_at hi).symm.trans ex1)
      have q2 := Option.some.inj ((ns_at (by omega)).symm.trans ex2)
      subst q1 q2
      have s6 := s5.trans (same_new (o := .tup [n_ (xs.getD i 0), n_ (es.getD i 0)]) nT)
      refine ⟨T1, [_, _], rfl, SqT.of upd_same, rfl, _, [_], rfl, _, [], rfl, rfl, ?_⟩
      refine ⟨_, rfl, _, rfl, _, _, rfl, rfl, _, rfl, ite2 (fun e => ?_) (fun e => ?_)⟩
      · have z := of_decide_eq_true e
        rw [noneB_no xs es i hl hi (by omega)] at k
        exact k _ s6
      · have z : ¬ ((es.getD i 0 : Nat) : Int) < (xs.getD i 0 : Nat) := fun y => e (decide_eq_true y)
        refine ⟨⟨_, _, rfl⟩, s6, fun j hji => ?_⟩
        by_cases c : j < i
        · exact hj j c
        · obtain rfl : j = i := by omega
          omega
    · rintro σ H' ⟨⟨v2, v3, rfl⟩, s5, hj⟩
      rw [noneB_yes xs es hl hj] at k
      exact k _ s5
/-! ### storm_is_as_told, hour_is_as_told -/
def spStormTold : Sp := fun vs H Q _ => ∃ (d : Addr) (a l h c w t : Nat), vs = [.ref d] ∧ H d = some (.lst (ns [a, l, h, c, w, t])) ∧ ∀ H' : Hp, Same H H' → Q (.bl (!decide (Bad6 a l h c w t))) H'
abbrev nStormTold : List Str := ["numbers", "ends"]
theorem scStormTold : FnScope nStormTold ["numbers"] (defScope xStormTold) := ⟨rfl, rfl, rfl, by decide +kernel, rfl, by decide +kernel, by decide +kernel⟩
theorem ok_stormTold {f fB : Addr} {fd fdB : FuncData} (F : Fun K "storm_is_as_told" "storm_is_as_told" xStormTold f fd) (T : Txt K mg CS CH CB CL)
    (GB : FnOk P w K mg base CX0 1 fB fdB pBeyond spBeyond) (kB : PySem.W.keepIn K (.ref fB) = true) (bB : Binds K fdB pBeyond []) (gB : mg "none_is_beyond" = some (.ref fB)) :
    FnOk P w K mg base CX0 2 f fd ["numbers"] spStormTold := by
  refine F.ok scStormTold (fun vs H Q E h => ?_) (fun cdv A outer s H vs Q E hr h => ?_)
  · obtain ⟨d, a, l, h, c, w, t, rfl, _⟩ := h
    rfl
  · obtain ⟨d, a, l, h, c, w, t, rfl, hd, k⟩ := h
    obtain ⟨tH, hH⟩ := T.highest
    refine ⟨_, pss_cons (ps_set (i := 1) scStormTold.nd rfl (Or.inl rfl) (pe_lst (pa_cons (pe_glob (v := .int 60) (by rfl) hH ⟨_, rfl⟩) (pa_cons (pe_glob (v := .int 60) (by rfl) hH ⟨_, rfl⟩) (pa_cons (pe_glob (v := .int 60) (by rfl) hH ⟨_, rfl⟩) (pa_cons pe_int (pa_cons pe_int (pa_cons pe_int pa_nil))))))))
      (pss_one (ps_ret (pe_and (pe_call GB hr (by rfl) gB kB bB .nil pass0 (pa_cons (pv 0) (pa_cons (pv 1) pa_nil))) (pe_one (pe_cmpR op_le (pe_ix ix_list (pv 0) pe_int (fun _ _ => rfl)) (pe_ix ix_list (pv 0) pe_int (fun _ _ => rfl)) (nomark _)))))), ?_⟩
    refine ⟨(by show 6 ≤ sizeLine; decide), fun p hp => ?_⟩
    have s1 := same_new (o := .lst (ns [60, 60, 60, 12, 100, 100])) hp
    refine ⟨_, rfl, _, rfl, d, p, _, [60, 60, 60, 12, 100, 100], rfl, s1 _ _ hd, upd_same, rfl, fun H' s2 => ⟨_, rfl, ?_⟩⟩
    have e := bad6_is a l h c w t
    have s3 := s1.trans s2
    refine ite2 (fun q => ?_) (fun q => ?_)
    · rw [if_pos q] at e
      refine ⟨_, rfl, d, _, _, n_ l, rfl, rfl, SqL.of (s3 _ _ hd), rfl, _, rfl, d, _, _, n_ h, rfl, rfl, SqL.of (s3 _ _ hd), rfl, _, _, rfl, rfl, ?_⟩
      have e2 : decide ((l : Int) ≤ (h : Int)) = decide (l ≤ h) := by
        by_cases z : l ≤ h
        · rw [decide_eq_true z, decide_eq_true (by omega)]
        · rw [decide_eq_false z, decide_eq_false (by omega)]
      show Q (V.bl (decide ((l : Int) ≤ (h : Int)))) H'
      rw [e2, e]
      exact k _ s3
    · rw [if_neg q] at e
      rw [← e] at k
      exact k _ s3
def spHourTold : Sp := fun vs H Q _ => ∃ (d : Addr) (r z p : Nat), vs = [.ref d] ∧ H d = some (.lst (ns [r, z, p])) ∧ ∀ H' : Hp, Same H H' → Q (.bl (!decide (Bad3 r z p))) H'
theorem scHourTold : FnScope ["numbers"] ["numbers"] (defScope xHourTold) := ⟨rfl, rfl, rfl, by decide +kernel, rfl, by decide +kernel, by decide +kernel⟩
theorem ok_hourTold {f fB : Addr} {fd fdB : FuncData} (F : Fun K "hour_is_as_told" "hour_is_as_told" xHourTold f fd) (T : Txt K mg CS CH CB CL)
    (GB : FnOk P w K mg base CX0 1 fB fdB pBeyond spBeyond) (kB : PySem.W.keepIn K (.ref fB) = true) (bB : Binds K fdB pBeyond []) (gB : mg "none_is_beyond" = some (.ref fB)) :
    FnOk P w K mg base CX0 2 f fd ["numbers"] spHourTold := by
  refine F.ok scHourTold (fun vs H Q E h => ?_) (fun cdv A outer s H vs Q E hr h => ?_)
  · obtain ⟨d, r, z, p, rfl, _⟩ := h
    rfl
  · obtain ⟨d, r, z, p, rfl, hd, k⟩ := h
    refine ⟨_, pss_one (ps_ret (pe_call GB hr (by rfl) gB kB bB .nil pass0 (pa_cons (pv 0) (pa_cons (pe_lst (pa_cons pe_int (pa_cons pe_int (pa_cons pe_int pa_nil)))) pa_nil)))), ?_⟩
    refine ⟨_, rfl, (by show 3 ≤ sizeLine; decide), fun q hq => ?_⟩
    have s1 := same_new (o := .lst (ns [30, 100, 100])) hq
    refine ⟨d, q, _, [30, 100, 100], rfl, s1 _ _ hd, upd_same, rfl, fun H' s2 => ?_⟩
    rw [bad3_is]
    exact k _ (s1.trans s2)
end
end Sg
set_option Elab.async false
set_option linter.all false
set_option maxRecDepth 100000
set_option maxHeartbeats 4000000
namespace Sg
open PySem PySem.Spec PyProof.Rows L2
theorem put_new {f : Str} {v : V} : putF f v [] = [(f, v)] := rfl
theorem len_put {f : Str} {v : V} {fs : List (Str × V)} {n : Nat} (h : fs.length ≤ n) : (putF f v fs).length ≤ n + 1 := Nat.le_trans (putF_len f v fs) (Nat.succ_le_succ h)
theorem few_of {fs : List (Str × V)} {n : Nat} (h : fs.length ≤ n) (hn : n < 900) : fs.length < 1000 := by omega
theorem sF_new (s : Sj03.Storm) : putF "salt" (n_ s.salt) (putF "width" (n_ s.wide) (putF "pumps" (n_ s.pumps) (putF "high" (n_ s.high) (putF "low" (n_ s.low) (putF "stands" (n_ s.stands) []))))) = sF s := by
  repeat (first | rw [put_new] | rw [put_past (by decide +kernel)])
  rfl
theorem hF_new (h : Sj03.Hour) : putF "price" (n_ h.power) (putF "sea" (n_ h.sea) (putF "rain" (n_ h.rain) [])) = hF h := by
  repeat (first | rw [put_new] | rw [put_past (by decide +kernel)])
  rfl
section
variable {P : Program} {w : World} {K : PySem.W.Frag} {mg : Str → Option Value} {base : Heap} {CS CH CB CL : Addr}
/-! ### Storm, Hour -/
def spStorm (CS : Addr) : Sp := fun vs H Q _ => ∃ (p dx : Addr) (s : Sj03.Storm), vs = [.ref p, n_ s.stands, n_ s.low, n_ s.high, n_ s.pumps, n_ s.wide, n_ s.salt] ∧ H p = some (.ins CS dx []) ∧
  ∀ H' : Hp, H' p = some (.ins CS dx (sF s)) → (∀ q o, H q = some o → q ≠ p → H' q = some o) → Q .non H'
abbrev nStorm : List Str := ["self", "stands", "low", "high", "pumps", "width", "salt"]
theorem scStorm : FnScope nStorm nStorm (defScope xStorm) := ⟨rfl, rfl, rfl, by decide +kernel, rfl, by decide +kernel, by decide +kernel⟩
theorem ok_storm {f : Addr} {fd : FuncData} (F : Fun K "__init__" "Storm.__init__" xStorm f fd) (T : Txt K mg CS CH CB CL) : FnOk P w K mg base CX0 1 f fd nStorm (spStorm CS) := by
  refine F.ok scStorm (fun vs H Q E h => ?_) (fun cdv A outer s H vs Q E hr h => ?_)
  · obtain ⟨p, dx, s, rfl, _⟩ := h
    rfl
  · obtain ⟨p, dx, st, rfl, hp, k⟩ := h
    refine ⟨_, pss_cons (ps_fld (pv 0) (pv 1) rfl) (pss_cons (ps_fld (pv 0) (pv 2) rfl) (pss_cons (ps_fld (pv 0) (pv 3) rfl) (pss_cons (ps_fld (pv 0) (pv 4) rfl) (pss_cons (ps_fld (pv 0) (pv 5) rfl) (pss_one (ps_fld (pv 0) (pv 6) rfl)))))), ?_⟩
    refine ⟨_, rfl, _, rfl, p, CS, dx, _, rfl, hp, T.clS, T.sStands, (by show 0 < 1000; decide), ?_⟩
    refine ⟨_, rfl, _, rfl, p, CS, dx, _, rfl, upd_same, T.clS, T.sLow, (by show 1 < 1000; decide), ?_⟩
    refine ⟨_, rfl, _, rfl, p, CS, dx, _, rfl, upd_same, T.clS, T.sHigh, few_of (n := 2) (len_put (n := 1) (Nat.le_refl 1)) (by decide), ?_⟩
    refine ⟨_, rfl, _, rfl, p, CS, dx, _, rfl, upd_same, T.clS, T.sPumps, few_of (n := 3) (len_put (len_put (n := 1) (Nat.le_refl 1))) (by decide), ?_⟩
    refine ⟨_, rfl, _, rfl, p, CS, dx, _, rfl, upd_same, T.clS, T.sWidth, few_of (n := 4) (len_put (len_put (len_put (n := 1) (Nat.le_refl 1)))) (by decide), ?_⟩
    refine ⟨_, rfl, _, rfl, p, CS, dx, _, rfl, upd_same, T.clS, T.sSalt, few_of (n := 5) (len_put (len_put (len_put (len_put (n := 1) (Nat.le_refl 1))))) (by decide), ?_⟩
    refine k _ (upd_same.trans (congrArg (fun z => some (HO.ins CS dx z)) (sF_new st))) fun q o e hq => ?_
    rw [upd_ne hq, upd_ne hq, upd_ne hq, upd_ne hq, upd_ne hq, upd_ne hq]
    exact e
def spHour (CH : Addr) : Sp := fun vs H Q _ => ∃ (p dx : Addr) (h : Sj03.Hour), vs = [.ref p, n_ h.rain, n_ h.sea, n_ h.power] ∧ H p = some (.ins CH dx []) ∧
  ∀ H' : Hp, H' p = some (.ins CH dx (hF h)) → (∀ q o, H q = some o → q ≠ p → H' q = some o) → Q .non H'
abbrev nHour : List Str := ["self", "rain", "sea", "price"]
theorem scHour : FnScope nHour nHour (defScope xHour) := ⟨rfl, rfl, rfl, by decide +kernel, rfl, by decide +kernel, by decide +kernel⟩
theorem ok_hour {f : Addr} {fd : FuncData} (F : Fun K "__init__" "Hour.__init__" xHour f fd) (T : Txt K mg CS CH CB CL) : FnOk P w K mg base CX0 1 f fd nHour (spHour CH) := by
  refine F.ok scHour (fun vs H Q E h => ?_) (fun cdv A outer s H vs Q E hr h => ?_)
  · obtain ⟨p, dx, s, rfl, _⟩ := h
    rfl
  · obtain ⟨p, dx, ho, rfl, hp, k⟩ := h
    refine ⟨_, pss_cons (ps_fld (pv 0) (pv 1) rfl) (pss_cons (ps_fld (pv 0) (pv 2) rfl) (pss_one (ps_fld (pv 0) (pv 3) rfl))), ?_⟩
    refine ⟨_, rfl, _, rfl, p, CH, dx, _, rfl, hp, T.clH, T.hRain, (by show 0 < 1000; decide), ?_⟩
    refine ⟨_, rfl, _, rfl, p, CH, dx, _, rfl, upd_same, T.clH, T.hSea, (by show 1 < 1000; decide), ?_⟩
    refine ⟨_, rfl, _, rfl, p, CH, dx, _, rfl, upd_same, T.clH, T.hPrice, few_of (n := 2) (len_put (n := 1) (Nat.le_refl 1)) (by decide), ?_⟩
    refine k _ (upd_same.trans (congrArg (fun z => some (HO.ins CH dx z)) (hF_new ho))) fun q o e hq => ?_
    rw [upd_ne hq, upd_ne hq, upd_ne hq]
    exact e
/-! ### with_width, with_pumps, with_high -/
def spOther (CS : Addr) (g : Sj03.Storm → Nat → Sj03.Storm) : Sp := fun vs H Q _ => ∃ (a : Addr) (s : Sj03.Storm) (x : Nat), vs = [.ref a, n_ x] ∧ StormAt CS H a s ∧
  ∀ (H' : Hp) (p : Addr), Same H H' → StormAt CS H' p (g s x) → Q (.ref p) H'
abbrev nWidth : List Str := ["storm", "width"]
theorem scWidth : FnScope nWidth nWidth (defScope xWithWidth) := ⟨rfl, rfl, rfl, by decide +kernel, rfl, by decide +kernel, by decide +kernel⟩
theorem ok_width {f fI : Addr} {fd fdI : FuncData} (F : Fun K "with_width" "with_width" xWithWidth f fd) (T : Txt K mg CS CH CB CL) (M : Mk K CS fI) (GI : FnOk P w K mg base CX0 1 fI fdI nStorm (spStorm CS)) (bI : Binds K fdI nStorm []) :
    FnOk P w K mg base CX0 3 f fd nWidth (spOther CS fun s x => { s with wide := x }) := by
  refine F.ok scWidth (fun vs H Q E h => ?_) (fun cdv A outer s H vs Q E hr h => ?_)
  · obtain ⟨a, s, x, rfl, _⟩ := h
    rfl
  · obtain ⟨a, st, x, rfl, ⟨da, hA⟩, k⟩ := h
    have hr2 : Room 2 _ := hr
    refine ⟨_, pss_one (ps_ret (pe_make M GI hr2 (by rfl) T.gS bI .nil pass0 (pa_cons (pe_fld (pv 0) rfl) (pa_cons (pe_fld (pv 0) rfl) (pa_cons (pe_fld (pv 0) rfl) (pa_cons (pe_fld (pv 0) rfl) (pa_cons (pv 1) (pa_cons (pe_fld (pv 0) rfl) pa_nil)))))))), ?_⟩
    refine ⟨_, rfl, a, CS, da, _, _, rfl, hA, T.clS, T.sStands, sF_stands st, _, rfl, a, CS, da, _, _, rfl, hA, T.clS, T.sLow, sF_low st, _, rfl, a, CS, da, _, _, rfl, hA, T.clS, T.sHigh, sF_high st,
      _, rfl, a, CS, da, _, _, rfl, hA, T.clS, T.sPumps, sF_pumps st, _, rfl, _, rfl, a, CS, da, _, _, rfl, hA, T.clS, T.sSalt, sF_salt st, ?_⟩
    intro p dp np nd ne
    exact ⟨p, dp, { st with wide := x }, rfl, upd_same, fun H' h1 h2 => ⟨rfl, k _ _ (Same.made np nd h2) ⟨dp, h1⟩⟩⟩
abbrev nPumps : List Str := ["storm", "pumps"]
theorem scPumps : FnScope nPumps nPumps (defScope xWithPumps) := ⟨rfl, rfl, rfl, by decide +kernel, rfl, by decide +kernel, by decide +kernel⟩
theorem ok_pumps {f fI : Addr} {fd fdI : FuncData} (F : Fun K "with_pumps" "with_pumps" xWithPumps f fd) (T : Txt K mg CS CH CB CL) (M : Mk K CS fI) (GI : FnOk P w K mg base CX0 1 fI fdI nStorm (spStorm CS)) (bI : Binds K fdI nStorm []) :
    FnOk P w K mg base CX0 3 f fd nPumps (spOther CS fun s x => { s with pumps := x }) := by
  refine F.ok scPumps (fun vs H Q E h => ?_) (fun cdv A outer s H vs Q E hr h => ?_)
  · obtain ⟨a, s, x, rfl, _⟩ := h
    rfl
  · obtain ⟨a, st, x, rfl, ⟨da, hA⟩, k⟩ := h
    have hr2 : Room 2 _ := hr
    refine ⟨_, pss_one (ps_ret (pe_make M GI hr2 (by rfl) T.gS bI .nil pass0 (pa_cons (pe_fld (pv 0) rfl) (pa_cons (pe_fld (pv 0) rfl) (pa_cons (pe_fld (pv 0) rfl) (pa_cons (pv 1) (pa_cons (pe_fld (pv 0) rfl) (pa_cons (pe_fld (pv 0) rfl) pa_nil)))))))), ?_⟩
    refine ⟨_, rfl, a, CS, da, _, _, rfl, hA, T.clS, T.sStands, sF_stands st, _, rfl, a, CS, da, _, _, rfl, hA, T.clS, T.sLow, sF_low st, _, rfl, a, CS, da, _, _, rfl, hA, T.clS, T.sHigh, sF_high st,
      _, rfl, _, rfl, a, CS, da, _, _, rfl, hA, T.clS, T.sWidth, sF_width st, _, rfl, a, CS, da, _, _, rfl, hA, T.clS, T.sSalt, sF_salt st, ?_⟩
    intro p dp np nd ne
    exact ⟨p, dp, { st with pumps := x }, rfl, upd_same, fun H' h1 h2 => ⟨rfl, k _ _ (Same.made np nd h2) ⟨dp, h1⟩⟩⟩
abbrev nHigh : List Str := ["storm", "high"]
theorem scHigh : FnScope nHigh nHigh (defScope xWithHigh) := ⟨rfl, rfl, rfl, by decide +kernel, rfl, by decide +kernel, by decide +kernel⟩
theorem ok_high {f fI : Addr} {fd fdI : FuncData} (F : Fun K "with_high" "with_high" xWithHigh f fd) (T : Txt K mg CS CH CB CL) (M : Mk K CS fI) (GI : FnOk P w K mg base CX0 1 fI fdI nStorm (spStorm CS)) (bI : Binds K fdI nStorm []) :
    FnOk P w K mg base CX0 3 f fd nHigh (spOther CS fun s x => { s with high := x }) := by
  refine F.ok scHigh (fun vs H Q E h => ?_) (fun cdv A outer s H vs Q E hr h => ?_)
  · obtain ⟨a, s, x, rfl, _⟩ := h
    rfl
  · obtain ⟨a, st, x, rfl, ⟨da, hA⟩, k⟩ := h
    have hr2 : Room 2 _ := hr
    refine ⟨_, pss_one (ps_ret (pe_make M GI hr2 (by rfl) T.gS bI .nil pass0 (pa_cons (pe_fld (pv 0) rfl) (pa_cons (pe_fld (pv 0) rfl) (pa_cons (pv 1) (pa_cons (pe_fld (pv 0) rfl) (pa_cons (pe_fld (pv 0) rfl) (pa_cons (pe_fld (pv 0) rfl) pa_nil)))))))), ?_⟩
    refine ⟨_, rfl, a, CS, da, _, _, rfl, hA, T.clS, T.sStands, sF_stands st, _, rfl, a, CS, da, _, _, rfl, hA, T.clS, T.sLow, sF_low st, _, rfl,
      _, rfl, a, CS, da, _, _, rfl, hA, T.clS, T.sPumps, sF_pumps st, _, rfl, a, CS, da, _, _, rfl, hA, T.clS, T.sWidth, sF_width st, _, rfl, a, CS, da, _, _, rfl, hA, T.clS, T.sSalt, sF_salt st, ?_⟩
    intro p dp np nd ne
    exact ⟨p, dp, { st with high := x }, rfl, upd_same, fun H' h1 h2 => ⟨rfl, k _ _ (Same.made np nd h2) ⟨dp, h1⟩⟩⟩
end
end Sg
/-! How high the water has to be let stand at the least: the program's table, and that it is the specification's. -/
namespace Sg
open Sj03
/-- one choice of gate and pumps, ahead of what is needed from there on -/
def candO (s : Storm) (later : List (Option Nat)) (h : Hour) (w o x : Nat) : Option Nat :=
  if s.wrong w h o x ≠ 0 then none else (later.getD ((s.gate w h o).1 - x) none).map fun m => max ((s.gate w h o).1 - x) m
def lessN : Option Nat → Option Nat → Option Nat
  | f, none => f
  | none, some y => some y
  | some x, some y => if y < x then some y else some x
def pumpN (s : Storm) (later : List (Option Nat)) (h : Hour) (w o : Nat) (f : Option Nat) (n : Nat) : Option Nat :=
  (List.range n).foldl (fun f x => lessN f (candO s later h w o x)) f
theorem pumpN_succ (s : Storm) (later : List (Option Nat)) (h : Hour) (w o : Nat) (f : Option Nat) (n : Nat) :
    pumpN s later h w o f (n + 1) = lessN (pumpN s later h w o f n) (candO s later h w o n) := by
  unfold pumpN
  rw [List.range_succ, List.foldl_append]
  rfl
/-- behind so many of the gate's two -/
def outN (s : Storm) (t : List (Option Nat)) (h : Hour) (u : Nat) : Nat → Option Nat
  | 0 => none
  | i + 1 => pumpN s t h u i (outN s t h u i) (s.pumps + 1)
theorem outN_succ (s : Storm) (t : List (Option Nat)) (h : Hour) (u i : Nat) : outN s t h u (i + 1) = pumpN s t h u i (outN s t h u i) (s.pumps + 1) := rfl
/-- the table of the heights 0 to 60 -/
def lowT (s : Storm) : List Hour → List (Option Nat)
  | [] => List.replicate 61 (some s.low)
  | h :: hs => (List.range 61).map fun w => outN s (lowT s hs) h w 2
theorem lowT_cons (s : Storm) (h : Hour) (hs : List Hour) : lowT s (h :: hs) = (List.range 61).map fun w => outN s (lowT s hs) h w 2 := rfl
theorem lowT_length (s : Storm) : ∀ hs, (lowT s hs).length = 61
  | [] => List.length_replicate
  | h :: hs => by
    unfold lowT
    rw [List.length_map, List.length_range]

/-! ### at most so high -/
def Le (n : Nat) (o : Option Nat) : Prop := ∃ m, o = some m ∧ m ≤ n
theorem le_none {n : Nat} : ¬ Le n none := fun ⟨_, e, _⟩ => nomatch e
theorem le_some {n m : Nat} : Le n (some m) ↔ m ≤ n := ⟨fun ⟨_, e, h⟩ => by cases e; exact h, fun h => ⟨m, rfl, h⟩⟩
theorem le_less {n : Nat} : ∀ {a b : Option Nat}, Le n (lessN a b) ↔ Le n a ∨ Le n b
  | a, none => by
    have e : lessN a none = a := by cases a <;> rfl
    rw [e]
    exact ⟨.inl, fun h => h.elim id fun q => absurd q le_none⟩
  | none, some y => ⟨.inr, fun h => h.elim (fun q => absurd q le_none) id⟩
  | some x, some y => by
    unfold lessN
    simp only []
    split
    · simp only [le_some]
      omega
    · simp only [le_some]
      omega
theorem le_pump {s : Storm} {t : List (Option Nat)} {h : Hour} {w o : Nat} {f : Option Nat} {n : Nat} : ∀ k, Le n (pumpN s t h w o f k) ↔ Le n f ∨ ∃ x, x < k ∧ Le n (candO s t h w o x)
  | 0 => ⟨.inl, fun q => q.elim id fun ⟨x, hx, _⟩ => absurd hx (Nat.not_lt_zero x)⟩
  | k + 1 => by
    rw [pumpN_succ, le_less, le_pump k]
    constructor
    · rintro ((q | ⟨x, hx, q⟩) | q)
      · exact .inl q
      · exact .inr ⟨x, by omega, q⟩
      · exact .inr ⟨k, by omega, q⟩
    · rintro (q | ⟨x, hx, q⟩)
      · exact .inl (.inl q)
      · by_cases c : x = k
        · subst c
          exact .inr q
        · exact .inl (.inr ⟨x, by omega, q⟩)
theorem le_out {s : Storm} {t : List (Option Nat)} {h : Hour} {w n : Nat} : Le n (outN s t h w 2) ↔ ∃ o x, o < 2 ∧ x < s.pumps + 1 ∧ Le n (candO s t h w o x) := by
  rw [outN_succ, le_pump, outN_succ, le_pump]
  constructor
  · rintro ((q | ⟨x, hx, q⟩) | ⟨x, hx, q⟩)
    · exact absurd q le_none
    · exact ⟨0, x, by omega, hx, q⟩
    · exact ⟨1, x, by omega, hx, q⟩
  · rintro ⟨o, x, ho, hx, q⟩
    match o, ho, q with
    | 0, _, q => exact .inl (.inr ⟨x, hx, q⟩)
    | 1, _, q => exact .inr ⟨x, hx, q⟩

/-! ### whether there is a best -/
theorem some_less : ∀ {a b : Option Si97.Best}, (Si97.lesser a b).isSome = true ↔ a.isSome = true ∨ b.isSome = true
  | none, none => by decide
  | none, some y => by simp [Si97.lesser]
  | some x, none => by simp [Si97.lesser]
  | some x, some y => by
    unfold Si97.lesser
    simp only []
    split
    · simp
    · split <;> simp
theorem some_pump {s : Storm} {t : Table} {h : Hour} {w o : Nat} {f : Option Si97.Best} : ∀ k, (pumpF s t h w o f k).isSome = true ↔ f.isSome = true ∨ ∃ x, x < k ∧ (withO s t h w o x).isSome = true
  | 0 => ⟨.inl, fun q => q.elim id fun ⟨x, hx, _⟩ => absurd hx (Nat.not_lt_zero x)⟩
  | k + 1 => by
    rw [pumpF_succ, some_less, some_pump k]
    constructor
    · rintro ((q | ⟨x, hx, q⟩) | q)
      · exact .inl q
      · exact .inr ⟨x, by omega, q⟩
      · exact .inr ⟨k, by omega, q⟩
    · rintro (q | ⟨x, hx, q⟩)
      · exact .inl (.inl q)
      · by_cases c : x = k
        · subst c
          exact .inr q
        · exact .inl (.inr ⟨x, by omega, q⟩)
theorem some_from {s : Storm} {t : Table} {h : Hour} {w : Nat} : (s.from_ t h w).isSome = true ↔ ∃ o x, o < 2 ∧ x < s.pumps + 1 ∧ (withO s t h w o x).isSome = true := by
  rw [from_is, some_pump, some_pump]
  constructor
  · rintro ((q | ⟨x, hx, q⟩) | ⟨x, hx, q⟩)
    · cases q
    · exact ⟨0, x, by omega, hx, q⟩
    · exact ⟨1, x, by omega, hx, q⟩
  · rintro ⟨o, x, ho, hx, q⟩
    match o, ho, q with
    | 0, _, q => exact .inl (.inr ⟨x, hx, q⟩)
    | 1, _, q => exact .inr ⟨x, hx, q⟩

/-! ### the one is the other -/
abbrev hi (s : Storm) (n : Nat) : Storm := { s with high := n }
theorem gate_hi (s : Storm) (n w : Nat) (h : Hour) (o : Nat) : (hi s n).gate w h o = s.gate w h o := rfl
theorem wrong_zero {s : Storm} {w : Nat} {h : Hour} {o x : Nat} : s.wrong w h o x = 0 ↔ x ≤ s.pumps ∧ s.low + x ≤ (s.gate w h o).1 ∧ (s.gate w h o).1 ≤ s.high + x := by
  unfold Storm.wrong
  simp only []
  generalize (s.gate w h o).1 = u
  split
  · constructor
    · intro z
      cases z
    · omega
  · split
    · constructor
      · intro z
        cases z
      · omega
    · split
      · constructor
        · intro z
          cases z
        · omega
      · constructor
        · omega
        · intro _
          rfl
theorem wrong_hi {s : Storm} {n w : Nat} {h : Hour} {o x : Nat} (hn : n ≤ 60) : (hi s n).wrong w h o x = 0 ↔ (hi s 60).wrong w h o x = 0 ∧ (s.gate w h o).1 - x ≤ n := by
  rw [wrong_zero, wrong_zero, gate_hi, gate_hi]
  show (x ≤ s.pumps ∧ s.low + x ≤ (s.gate w h o).1 ∧ (s.gate w h o).1 ≤ n + x) ↔ ((x ≤ s.pumps ∧ s.low + x ≤ (s.gate w h o).1 ∧ (s.gate w h o).1 ≤ 60 + x) ∧ (s.gate w h o).1 - x ≤ n)
  generalize (s.gate w h o).1 = u
  omega
theorem cand_with {s : Storm} {n : Nat} (hn : n ≤ 60) {t : Table} {l : List (Option Nat)} (e : ∀ u, (t.getD u none).isSome = true ↔ Le n (l.getD u none)) {h : Hour} {w o x : Nat} :
    (withO (hi s n) t h w o x).isSome = true ↔ Le n (candO (hi s 60) l h w o x) := by
  have e1 := e ((s.gate w h o).1 - x)
  unfold withO candO
  rw [gate_hi s n, gate_hi s 60]
  have ew := wrong_hi (s := s) (w := w) (h := h) (o := o) (x := x) hn
  by_cases c : (hi s n).wrong w h o x = 0
  · obtain ⟨c2, c3⟩ := ew.mp c
    rw [if_neg (fun q => q c), if_neg (fun q => q c2), Option.isSome_map, e1]
    cases hq : l.getD ((s.gate w h o).1 - x) none with
    | none => exact ⟨fun q => absurd q le_none, fun q => absurd q le_none⟩
    | some m =>
      show Le n (some m) ↔ Le n (some (max ((s.gate w h o).1 - x) m))
      rw [le_some, le_some]
      omega
  · rw [if_pos c]
    constructor
    · intro q
      cases q
    · by_cases c2 : (hi s 60).wrong w h o x = 0
      · rw [if_neg (fun q => q c2)]
        cases hq : l.getD ((s.gate w h o).1 - x) none with
        | none => exact fun q => absurd q le_none
        | some m =>
          intro q
          have q2 : max ((s.gate w h o).1 - x) m ≤ n := le_some.mp q
          exact absurd (ew.mpr ⟨c2, by omega⟩) c
      · rw [if_pos c2]
        exact fun q => absurd q le_none
theorem getD_out {α : Type} {l : List α} {u : Nat} {d : α} (h : l.length ≤ u) : l.getD u d = d := by
  rw [List.getD_eq_getElem?_getD, List.getElem?_eq_none h]
  rfl
theorem tab_low {s : Storm} {n : Nat} (h1 : s.low ≤ n) (hn : n ≤ 60) : ∀ (hs : List Hour) (u : Nat), ((tab (hi s n) hs).getD u none).isSome = true ↔ Le n ((lowT (hi s 60) hs).getD u none)
  | [], u => by
    by_cases hu : u < 61
    · unfold tab lowT
      rw [getD_replicate hu, getD_replicate hu, le_some]
      exact ⟨fun _ => h1, fun _ => rfl⟩
    · rw [getD_out (by rw [tab_length]; omega), getD_out (by rw [lowT_length]; omega)]
      exact ⟨fun q => by (cases q), fun q => absurd q le_none⟩
  | h :: hs, u => by
    by_cases hu : u < 61
    · unfold tab lowT
      rw [getD_range hu, getD_range hu, some_from, le_out]
      constructor
      · rintro ⟨o, x, ho, hx, q⟩
        exact ⟨o, x, ho, hx, (cand_with hn (tab_low h1 hn hs)).mp q⟩
      · rintro ⟨o, x, ho, hx, q⟩
        exact ⟨o, x, ho, hx, (cand_with hn (tab_low h1 hn hs)).mpr q⟩
    · rw [getD_out (by rw [tab_length]; omega), getD_out (by rw [lowT_length]; omega)]
      exact ⟨fun q => by (cases q), fun q => absurd q le_none⟩

/-! ### how far its numbers go -/
def Btw (a b : Nat) (o : Option Nat) : Prop := ∀ m, o = some m → a ≤ m ∧ m ≤ b
theorem btw_none {a b : Nat} : Btw a b none := fun _ h => nomatch h
theorem btw_less {a b : Nat} : ∀ {x y : Option Nat}, Btw a b x → Btw a b y → Btw a b (lessN x y)
  | x, none, hx, _ => by
    have e : lessN x none = x := by cases x <;> rfl
    rw [e]
    exact hx
  | none, some y, _, hy => hy
  | some x, some y, hx, hy => by
    unfold lessN
    simp only []
    split
    · exact hy
    · exact hx
theorem btw_cand {s : Storm} {t : List (Option Nat)} (ht : ∀ u, Btw s.low s.high (t.getD u none)) (h : Hour) (w o x : Nat) : Btw s.low s.high (candO s t h w o x) := by
  intro m hm
  unfold candO at hm
  by_cases c : s.wrong w h o x = 0
  · rw [if_neg (fun q => q c)] at hm
    have q := ht ((s.gate w h o).1 - x)
    obtain ⟨-, c2, c3, -⟩ := behind_fine c
    cases e : t.getD ((s.gate w h o).1 - x) none with
    | none =>
      rw [e] at hm
      cases hm
    | some k =>
      rw [e] at hm q
      have := q k rfl
      have em : max ((s.gate w h o).1 - x) k = m := Option.some.inj hm
      omega
  · rw [if_pos c] at hm
    cases hm
theorem btw_pump {s : Storm} {t : List (Option Nat)} (ht : ∀ u, Btw s.low s.high (t.getD u none)) (h : Hour) (w o : Nat) {f : Option Nat} (hf : Btw s.low s.high f) : ∀ k, Btw s.low s.high (pumpN s t h w o f k)
  | 0 => hf
  | k + 1 => by
    rw [pumpN_succ]
    exact btw_less (btw_pump ht h w o hf k) (btw_cand ht h w o k)
theorem btw_out {s : Storm} {t : List (Option Nat)} (ht : ∀ u, Btw s.low s.high (t.getD u none)) (h : Hour) (w : Nat) : ∀ i, Btw s.low s.high (outN s t h w i)
  | 0 => btw_none
  | i + 1 => by
    rw [outN_succ]
    exact btw_pump ht h w i (btw_out ht h w i) _
theorem btw_low {s : Storm} (hl : s.low ≤ s.high) : ∀ (hs : List Hour) (u : Nat), Btw s.low s.high ((lowT s hs).getD u none)
  | [], u => by
    by_cases hu : u < 61
    · unfold lowT
      rw [getD_replicate hu]
      intro m hm
      cases hm
      exact ⟨Nat.le_refl _, hl⟩
    · rw [getD_out (by rw [lowT_length]; omega)]
      exact btw_none
  | h :: hs, u => by
    by_cases hu : u < 61
    · unfold lowT
      rw [getD_range hu]
      exact btw_out (btw_low hl hs) h u 2
    · rw [getD_out (by rw [lowT_length]; omega)]
      exact btw_none

/-! ### needs -/
theorem needs_is {s : Storm} (F : Fine s) : s.needs = (lowT (hi s 60) s.hours).getD s.stands none := by
  have hlo : s.low ≤ 60 := Nat.le_trans F.lh F.hi
  have key : ∀ j, s.low ≤ j → j ≤ 60 → ((hi s j).best.isSome = true ↔ Le j ((lowT (hi s 60) s.hours).getD s.stands none)) := fun j h1 h2 => by
    rw [best_is (fine_high F h1 h2)]
    exact tab_low h1 h2 s.hours s.stands
  have none_of : ∀ {o : Option Si97.Best}, ¬ o.isSome = true → o = none := fun {o} h => by
    cases o with
    | none => rfl
    | some x => exact absurd rfl h
  cases e : (lowT (hi s 60) s.hours).getD s.stands none with
  | none =>
    rw [e] at key
    exact needs_none fun j h1 h2 => none_of fun q => absurd ((key j h1 h2).mp q) le_none
  | some m =>
    rw [e] at key
    have hb := btw_low (s := hi s 60) hlo s.hours s.stands m e
    have h1 : s.low ≤ m := hb.1
    have h2 : m ≤ 60 := hb.2
    refine needs_some h1 h2 (fun j k1 k2 => none_of fun q => ?_) ((key m h1 h2).mpr (le_some.mpr (Nat.le_refl _)))
    have := le_some.mp ((key j k1 (by omega)).mp q)
    omega
theorem step_needs (s : Storm) : step s .needs = (s, match s.needs with
    | none => ok (-6)
    | some n => ok ((n : Nat) : Int)) := rfl
end Sg
set_option Elab.async false
set_option linter.all false
set_option maxRecDepth 100000
set_option maxHeartbeats 4000000
namespace Sg
open PySem PySem.Spec PyProof.Rows L2
/-- a height, or None -/
def vo : Option Nat → V
  | none => .non
  | some n => n_ n
def os (t : List (Option Nat)) : List V := t.map vo
theorem os_len (t : List (Option Nat)) : (os t).length = t.length := List.length_map ..
theorem os_at {t : List (Option Nat)} {i : Nat} (h : i < t.length) : (os t)[i]? = some (vo (t.getD i none)) := by
  unfold os
  rw [List.getElem?_map, getD_at (d := none) h]
  rfl
structure CalmN (s : Sj03.Storm) (t : List (Option Nat)) : Prop where
  hi : s.high ≤ 60
  pu : s.pumps ≤ 12
  len : t.length = 61
theorem lessN_none (f : Option Nat) : lessN f none = f := by cases f <;> rfl
theorem cand_wrong {s : Sj03.Storm} {t : List (Option Nat)} {h : Sj03.Hour} {w o x : Nat} (q : s.wrong w h o x ≠ 0) : candO s t h w o x = none := if_pos q
theorem cand_none {s : Sj03.Storm} {t : List (Option Nat)} {h : Sj03.Hour} {w o x : Nat} (q : s.wrong w h o x = 0) (e : t.getD ((s.gate w h o).1 - x) none = none) : candO s t h w o x = none := by
  unfold candO
  rw [if_neg (fun z => z q), e]
  rfl
theorem cand_some {s : Sj03.Storm} {t : List (Option Nat)} {h : Sj03.Hour} {w o x m : Nat} (q : s.wrong w h o x = 0) (e : t.getD ((s.gate w h o).1 - x) none = some m) : candO s t h w o x = some (max ((s.gate w h o).1 - x) m) := by
  unfold candO
  rw [if_neg (fun z => z q), e]
  rfl
section
variable {P : Program} {w : World} {K : PySem.W.Frag} {mg : Str → Option Value} {base : Heap} {CS CH CB CL : Addr}
/-! ### least_from -/
def spLeastFrom (CS CH : Addr) : Sp := fun vs H Q _ => ∃ (a b l : Addr) (s : Sj03.Storm) (h : Sj03.Hour) (t : List (Option Nat)) (u : Nat), vs = [.ref a, .ref b, n_ u, .ref l] ∧ StormAt CS H a s ∧ HourAt CH H b h ∧ H l = some (.lst (os t)) ∧ CalmN s t ∧
  ∀ H' : Hp, Same H H' → Q (vo (outN s t h u 2)) H'
abbrev nLeastFrom : List Str := ["storm", "hour", "height", "rest", "found", "gate", "pumped", "behind", "needed"]
theorem scLeastFrom : FnScope nLeastFrom pFrom (defScope xLeastFrom) := ⟨rfl, rfl, rfl, by decide +kernel, rfl, by decide +kernel, by decide +kernel⟩
theorem ok_leastFrom {f fB fW : Addr} {fd fdB fdW : FuncData} (F : Fun K "least_from" "least_from" xLeastFrom f fd) (T : Txt K mg CS CH CB CL)
    (GB : FnOk P w K mg base CX0 2 fB fdB nBehind (spBehind CS CH)) (kB : PySem.W.keepIn K (.ref fB) = true) (bB : Binds K fdB nBehind []) (gB : mg "height_behind" = some (.ref fB))
    (GW : FnOk P w K mg base CX0 1 fW fdW nWrong (spWrong CS)) (kW : PySem.W.keepIn K (.ref fW) = true) (bW : Binds K fdW nWrong []) (gW : mg "what_is_wrong" = some (.ref fW)) :
    FnOk P w K mg base CX0 3 f fd pFrom (spLeastFrom CS CH) := by
  refine F.ok scLeastFrom (fun vs H Q E h => ?_) (fun cdv A outer s H vs Q E hr h => ?_)
  · obtain ⟨a, b, l, s, h, t, u, rfl, _⟩ := h
    rfl
  · obtain ⟨a, b, l, st, ho, t, u, rfl, hA, hB, hL, C, k⟩ := h
    have hr1 : Room 1 _ := hr.mono (by decide)
    have hr2 : Room 2 _ := hr
    refine ⟨_, pss_cons (ps_set (i := 4) scLeastFrom.nd rfl (Or.inl rfl) pe_non)
      (pss_cons (ps_for PassesOwn.never rfl (pi_tup (pe_tup (pa_cons pe_int (pa_cons pe_int pa_nil)))) (pg_name (i := 5) scLeastFrom.nd rfl (Or.inl rfl))
        (pss_one (ps_for PassesOwn.never rfl (pi_range1 (by rfl) T.range (pa_cons (pe_op op_add (pe_fld (pv 0) rfl) pe_int) pa_nil)) (pg_name (i := 6) scLeastFrom.nd rfl (Or.inl rfl))
          (pss_cons (ps_set (i := 7) scLeastFrom.nd rfl (Or.inl rfl) (pe_call GB hr2 (by rfl) gB kB bB .nil pass0 (pa_cons (pv 0) (pa_cons (pv 1) (pa_cons (pv 2) (pa_cons (pv 5) (pa_cons (pv 6) pa_nil)))))))
          (pss_cons (ps_if (PW.pt (pw_or (pt_cmpR op_gt (pe_call GW hr1 (by rfl) gW kW bW .nil pass0 (pa_cons (pv 0) (pa_cons (pv 7) (pa_cons (pv 6) pa_nil)))) pe_int (nomark _)) (pw_or1 (pt_cmpR op_isN (pe_ix ix_list (pv 3) (pv 7) (fun _ _ => rfl)) pe_non (nomark _))))) (pss_one ps_continue) pss_nil)
          (pss_cons (ps_set (i := 8) scLeastFrom.nd rfl (Or.inl rfl) (pe_callB (call_max2 rfl) (by rfl) T.max (by decide +kernel) (pa_cons (pv 7) (pa_cons (pe_ix ix_list (pv 3) (pv 7) (fun _ _ => rfl)) pa_nil))))
          (pss_one (ps_if (PW.pt (pw_or (pt_cmpR op_isN (pv 4) pe_non (nomark _)) (pw_or1 (pt_cmpR op_lt (pv 8) (pv 4) (nomark _))))) (pss_one (ps_set (i := 4) scLeastFrom.nd rfl (Or.inl rfl) (pv 8))) pss_nil))))))))
      (pss_one (ps_ret (pv 4)))), ?_⟩
    refine ⟨(by show 2 ≤ sizeLine; decide), fun p hp => ?_⟩
    have s0 : Same H (upd H p (.tup [V.int 0, V.int 1])) := same_new hp
    generalize hG : upd H p (.tup [V.int 0, V.int 1]) = G at s0
    have eG : G p = some (.tup [V.int 0, V.int 1]) := by rw [← hG]; exact upd_same
    have hA1 := hA.same s0
    have hB1 := hB.same s0
    have hL1 := s0 _ _ hL
    obtain ⟨da, hA2⟩ := id hA1
    refine ⟨p, rfl, ⟨_, SqT.of eG⟩, for_tup (K := K) (a := p) (xs := [V.int 0, V.int 1]) (fun i σ H' => H' = G ∧ ∃ (v5 v6 v7 v8 : Option V), σ = [some (.ref a), some (.ref b), some (n_ u), some (.ref l), some (vo (outN st t ho u i)), v5, v6, v7, v8])
      ⟨rfl, none, none, none, none, rfl⟩ (fun i σ H' _ ⟨eH, _⟩ => by rw [eH]; exact SqT.of eG) ?_ ?_⟩
    · rintro i y σ H' hi ⟨eH, v5, v6, v7, v8, rfl⟩
      subst H'
      have ey : y = n_ i := by
        match i, hi with
        | 0, hi => exact (Option.some.inj hi).symm
        | 1, hi => exact (Option.some.inj hi).symm
      subst ey
      have hpu := C.pu
      refine ⟨_, rfl, a, CS, da, _, _, rfl, hA2, T.clS, T.sPumps, sF_pumps st, _, _, rfl, rfl, _, rfl, (by omega), (by omega), ?_⟩
      refine for_range (lo := 0) (n := st.pumps + 1) (fun j σ H2 => H2 = G ∧ ∃ (v6 v7 v8 : Option V), σ = [some (.ref a), some (.ref b), some (n_ u), some (.ref l), some (vo (pumpN st t ho u i (outN st t ho u i) j)), some (n_ i), v6, v7, v8])
        ⟨rfl, v6, v7, v8, rfl⟩ ?_ ?_
      · rintro j σ H2 hj ⟨eH, v6, v7, v8, rfl⟩
        subst H2
        have e0 : (0 : Int) + (j : Int) = (j : Int) := Int.zero_add _
        rw [e0]
        generalize ef : pumpN st t ho u i (outN st t ho u i) j = fo
        refine ⟨_, rfl, _, rfl, _, rfl, _, rfl, _, rfl, a, b, st, ho, u, i, j, rfl, hA1, hB1, ?_⟩
        refine ⟨_, rfl, _, rfl, _, rfl, a, st, _, j, rfl, hA1, _, _, rfl, rfl, _, rfl, ite2 (fun e => ?_) (fun e => ?_)⟩
        · have q := of_decide_eq_true e
          have q0 : st.wrong u ho i j ≠ 0 := by rw [wrong_is]; omega
          refine iteT ⟨rfl, some (n_ j), some (.int (behind st ho u i j)), v8, ?_⟩
          rw [pumpN_succ, cand_wrong q0, lessN_none, ef]
          rfl
        · have q : ¬ ((0 : Int) < (wrongI st (behind st ho u i j) j : Nat)) := fun z => e (decide_eq_true z)
          have q0 : st.wrong u ho i j = 0 := by rw [wrong_is]; omega
          obtain ⟨e1, e2, e3, e4⟩ := behind_fine q0
          have hi60 := C.hi
          have hlt : (st.gate u ho i).1 - j < t.length := by rw [C.len]; omega
          have hvi := os_at hlt
          refine ⟨_, rfl, _, rfl, l, _, _, _, rfl, rfl, SqL.of hL1, at_of e1.symm hvi, ?_⟩
          cases em : t.getD ((st.gate u ho i).1 - j) none with
          | none =>
            refine ⟨rfl, _, rfl, ite2 (fun _ => ?_) (fun z => absurd (decide_eq_true rfl) z)⟩
            refine ⟨rfl, some (n_ j), some (.int (behind st ho u i j)), v8, ?_⟩
            rw [pumpN_succ, cand_none q0 em, lessN_none, ef]
            rfl
          | some m =>
            rw [em] at hvi
            refine ⟨rfl, _, rfl, ite2 (fun z => nomatch of_decide_eq_true z) (fun _ => ?_)⟩
            refine ⟨_, rfl, _, rfl, _, rfl, l, _, _, _, rfl, rfl, SqL.of hL1, at_of e1.symm hvi, _, _, rfl, ?_⟩
            have eM : (if (m : Int) > behind st ho u i j then (m : Int) else behind st ho u i j) = ((max ((st.gate u ho i).1 - j) m : Nat) : Int) := by
              rw [← e1]
              split <;> omega
            rw [pumpN_succ, cand_some q0 em, ef]
            generalize eN : (if (m : Int) > behind st ho u i j then (m : Int) else behind st ho u i j) = zN
            obtain rfl : zN = ((max ((st.gate u ho i).1 - j) m : Nat) : Int) := eN.symm.trans eM
            generalize max ((st.gate u ho i).1 - j) m = c
            cases fo with
            | none =>
              refine ⟨_, rfl, rfl, _, rfl, ite2 (fun _ => ?_) (fun z => absurd (decide_eq_true rfl) z)⟩
              exact iteT ⟨_, rfl, rfl, some (n_ j), some (.int (behind st ho u i j)), some (n_ c), rfl⟩
            | some d =>
              refine ⟨_, rfl, rfl, _, rfl, ite2 (fun z => nomatch of_decide_eq_true z) (fun _ => ?_)⟩
              refine ⟨_, rfl, _, rfl, _, _, rfl, rfl, _, rfl, ite2 (fun z => ?_) (fun z => ?_)⟩
              · have z2 := of_decide_eq_true z
                have el : lessN (some d) (some c) = some c := if_pos (by omega)
                rw [el]
                exact ⟨_, rfl, rfl, some (n_ j), some (.int (behind st ho u i j)), some (n_ c), rfl⟩
              · have z2 : ¬ (c : Int) < d := fun y => z (decide_eq_true y)
                have el : lessN (some d) (some c) = some d := if_neg (by omega)
                rw [el]
                exact ⟨rfl, some (n_ j), some (.int (behind st ho u i j)), some (n_ c), rfl⟩
      · rintro σ H2 ⟨eH, v6, v7, v8, rfl⟩
        subst H2
        exact ⟨rfl, some (n_ i), v6, v7, v8, by rw [outN_succ]⟩
    · rintro σ H' ⟨eH, v5, v6, v7, v8, rfl⟩
      subst H'
      exact ⟨_, rfl, k _ s0⟩
/-! ### least_by_height -/
def spLeastBy (CS CH : Addr) : Sp := fun vs H Q _ => ∃ (a b l : Addr) (s : Sj03.Storm) (h : Sj03.Hour) (t : List (Option Nat)), vs = [.ref a, .ref b, .ref l] ∧ StormAt CS H a s ∧ HourAt CH H b h ∧ H l = some (.lst (os t)) ∧ CalmN s t ∧
  ∀ (H' : Hp) (p : Addr), Same H H' → H' p = some (.lst (os ((List.range 61).map fun w => outN s t h w 2))) → Q (.ref p) H'
theorem scLeastBy : FnScope nByHeight pByHeight (defScope xLeastBy) := ⟨rfl, rfl, rfl, by decide +kernel, rfl, by decide +kernel, by decide +kernel⟩
theorem os_more (f : Nat → Option Nat) (i : Nat) : os ((List.range i).map f) ++ [vo (f i)] = os ((List.range (i + 1)).map f) := by
  unfold os
  rw [List.range_succ, List.map_append, List.map_append]
  rfl
theorem os_range_len (f : Nat → Option Nat) (i : Nat) : (os ((List.range i).map f)).length = i := by rw [os_len, List.length_map, List.length_range]
theorem ok_leastBy {f fF : Addr} {fd fdF : FuncData} (F : Fun K "least_by_height" "least_by_height" xLeastBy f fd) (T : Txt K mg CS CH CB CL)
    (GF : FnOk P w K mg base CX0 3 fF fdF pFrom (spLeastFrom CS CH)) (kF : PySem.W.keepIn K (.ref fF) = true) (bF : Binds K fdF pFrom []) (gF : mg "least_from" = some (.ref fF)) :
    FnOk P w K mg base CX0 4 f fd pByHeight (spLeastBy CS CH) := by
  refine F.ok scLeastBy (fun vs H Q E h => ?_) (fun cdv A outer s H vs Q E hr h => ?_)
  · obtain ⟨a, b, l, s, h, t, rfl, _⟩ := h
    rfl
  · obtain ⟨a, b, l, st, ho, t, rfl, hA, hB, hL, C, k⟩ := h
    obtain ⟨tH, hH⟩ := T.highest
    refine ⟨_, pss_one (ps_ret (pe_lc (own := [("height", 3)]) (g := gName 3) (tt := tYes) rfl scLeastBy.nd
      (pi_range1 (by rfl) T.range (pa_cons (pe_op op_add (pe_glob (v := .int 60) (by rfl) hH ⟨_, rfl⟩) pe_int) pa_nil))
      (blkOk_by (own := [("height", 3)]) (N := nByHeight) (sc := defScope xLeastBy) (by decide +kernel))
      (fun _ _ _ _ _ => pg_name (i := 3) scLeastBy.nd rfl (Or.inl rfl)) (fun _ _ _ _ _ => pts_nil)
      (fun _ _ _ _ _ => pe_call GF hr (by rfl) gF kF bF .nil pass0 (pa_cons (pv 0) (pa_cons (pv 1) (pa_cons (pv 3) (pa_cons (pv 2) pa_nil))))))), ?_⟩
    refine ⟨_, _, rfl, rfl, _, rfl, by decide, by decide, fun D hD => lc_range (lo := 0) (n := 61) (fun i H' => Same H H' ∧ H' D = some (.lst (os ((List.range i).map fun w => outN st t ho w 2)))) ⟨same_new hD, upd_same⟩ ?_ ?_⟩
    · rintro i H' hi ⟨s1, g⟩
      have e0 : (0 : Int) + (i : Int) = (i : Int) := Int.zero_add _
      rw [e0]
      refine ⟨rfl, ?_⟩
      refine iteT (B := Same H H' ∧ H' D = some (.lst (os ((List.range (i + 1)).map fun w => outN st t ho w 2)))) ?_
      refine ⟨_, rfl, _, rfl, _, rfl, _, rfl, a, b, l, st, ho, t, i, rfl, hA.same s1, hB.same s1, s1 _ _ hL, C, fun H4 s4 => ?_⟩
      refine ⟨_, s4 _ _ g, ?_, same_store (s1.trans s4) hD, ?_⟩
      · rw [os_range_len]
        exact Nat.lt_of_lt_of_le hi (by decide)
      · rw [upd_same, os_more (fun w => outN st t ho w 2)]
    · rintro H' ⟨s1, g⟩
      exact k _ _ s1 g
/-! ### least_high -/
def spLeast (CS CH : Addr) : Sp := fun vs H Q _ => ∃ (a l : Addr) (s : Sj03.Storm), vs = [.ref a, .ref l] ∧ StormAt CS H a s ∧ HoursAt CH H l s.hours ∧ Fine s ∧
  ∀ (H' : Hp) (p : Addr), Same H H' → H p = none → H' p = some (.lst ((out (Sj03.step s .needs).2).map V.int)) → Q (.ref p) H'
abbrev nLeast : List Str := ["storm", "hours", "raised", "rest", "hour", "least", "height"]
theorem scLeast : FnScope nLeast pBestPlan (defScope xLeast) := ⟨rfl, rfl, rfl, by decide +kernel, rfl, by decide +kernel, by decide +kernel⟩
theorem out_needs_none {s : Sj03.Storm} (h : s.needs = none) : out (Sj03.step s .needs).2 = [-6] := by
  rw [step_needs, h]
  rfl
theorem out_needs_some {s : Sj03.Storm} {n : Nat} (h : s.needs = some n) : out (Sj03.step s .needs).2 = [(n : Int)] := by
  rw [step_needs, h]
  rfl
theorem ok_least {f fT fN fH : Addr} {fd fdT fdN fdH : FuncData} (F : Fun K "least_high" "least_high" xLeast f fd) (T : Txt K mg CS CH CB CL)
    (GT : FnOk P w K mg base CX0 4 fT fdT pByHeight (spLeastBy CS CH)) (kT : PySem.W.keepIn K (.ref fT) = true) (bT : Binds K fdT pByHeight []) (gT : mg "least_by_height" = some (.ref fT))
    (GN : FnOk P w K mg base CX0 1 fN fdN [] (spList [-6])) (kN : PySem.W.keepIn K (.ref fN) = true) (bN : Binds K fdN [] []) (gN : mg "no_plan_can_be" = some (.ref fN))
    (GH : FnOk P w K mg base CX0 3 fH fdH nHigh (spOther CS fun s x => { s with high := x })) (kH : PySem.W.keepIn K (.ref fH) = true) (bH : Binds K fdH nHigh []) (gH : mg "with_high" = some (.ref fH)) :
    FnOk P w K mg base CX0 5 f fd pBestPlan (spLeast CS CH) := by
  refine F.ok scLeast (fun vs H Q E h => ?_) (fun cdv A outer s H vs Q E hr h => ?_)
  · obtain ⟨a, l, s, rfl, _⟩ := h
    rfl
  · obtain ⟨a, l, st, rfl, hA, hL, Fi, k⟩ := h
    obtain ⟨tH, hH⟩ := T.highest
    have hr4 : Room 4 _ := hr
    have hr3 : Room 3 _ := hr.mono (by decide)
    have hr1 : Room 1 _ := hr.mono (by decide)
    refine ⟨_, pss_cons (ps_set (i := 2) scLeast.nd rfl (Or.inl rfl) (pe_call GH hr3 (by rfl) gH kH bH .nil pass0 (pa_cons (pv 0) (pa_cons (pe_glob (v := .int 60) (by rfl) hH ⟨_, rfl⟩) pa_nil))))
      (pss_cons (ps_setLc (i := 3) (own := [("height", 6)]) (g := gName 6) (tt := tYes) (te := tFld K (tVar 0) "low") rfl scLeast.nd rfl rfl (sw_true rfl rfl rfl (by decide +kernel))
        (pi_range1 (by rfl) T.range (pa_cons (pe_op op_add (pe_glob (v := .int 60) (by rfl) hH ⟨_, rfl⟩) pe_int) pa_nil))
        (blkOk_by (own := [("height", 6)]) (N := nLeast) (sc := defScope xLeast) (by decide +kernel))
        (fun _ _ _ _ _ => pg_name (i := 6) scLeast.nd rfl (Or.inl rfl)) (fun _ _ _ _ _ => pts_nil)
        (fun _ _ _ _ _ => pe_fld (pv 0) rfl))
      (pss_cons (ps_for PassesOwn.never rfl (pi_reversed (by rfl) T.reversed (pa_cons (pv 1) pa_nil)) (pg_name (i := 4) scLeast.nd rfl (Or.inl rfl))
        (pss_one (ps_set (i := 3) scLeast.nd rfl (Or.inl rfl) (pe_call GT hr4 (by rfl) gT kT bT .nil pass0 (pa_cons (pv 2) (pa_cons (pv 4) (pa_cons (pv 3) pa_nil)))))))
      (pss_cons (ps_set (i := 5) scLeast.nd rfl (Or.inl rfl) (pe_ix ix_list (pv 3) (pe_fld (pv 0) rfl) (fun _ _ => rfl)))
      (pss_cons (ps_if (pt_cmpR op_isN (pv 5) pe_non (nomark _)) (pss_one (ps_ret (pe_call0 GN hr1 (by rfl) gN kN bN .nil pass0))) pss_nil)
      (pss_one (ps_ret (pe_lst (pa_cons (pv 5) pa_nil)))))))), ?_⟩
    refine ⟨_, rfl, a, st, 60, rfl, hA, fun H0 r s0 hR => ?_⟩
    have hA0 := hA.same s0
    refine ⟨_, _, rfl, rfl, _, rfl, by decide, by decide, fun D hD => lc_range (lo := 0) (n := 61) (fun i H' => Same H0 H' ∧ H' D = some (.lst (os ((List.range i).map fun _ => some st.low)))) ⟨same_new hD, upd_same⟩ ?_ ?_⟩
    · rintro i H' hi ⟨s1, g⟩
      refine ⟨rfl, ?_⟩
      refine iteT (B := Same H0 H' ∧ H' D = some (.lst (os ((List.range (i + 1)).map fun _ => some st.low)))) ?_
      obtain ⟨da, hA1⟩ := hA0.same s1
      refine ⟨_, rfl, a, CS, da, _, _, rfl, hA1, T.clS, T.sLow, sF_low st, ?_⟩
      refine ⟨_, g, ?_, same_store s1 hD, ?_⟩
      · rw [os_range_len]
        exact Nat.lt_of_lt_of_le hi (by decide)
      · rw [upd_same, ← os_more (fun _ => some st.low)]
        rfl
    · rintro H1 ⟨s1, g⟩
      have eT0 : (List.range 61).map (fun _ => some st.low) = lowT (hi st 60) [] := by
        show _ = List.replicate 61 (some st.low)
        rw [List.map_const', List.length_range]
      rw [eT0] at g
      obtain ⟨vs, hvs, hv⟩ := hL
      have hlen : vs.length = st.hours.length := hv.length
      have s01 := s0.trans s1
      refine ⟨_, rfl, l, vs, rfl, SqL.of (s01 _ _ hvs), ?_⟩
      refine for_it (walk_rev (K := K) (a := l) (xs := vs)) (fun i σ H' => i ≤ vs.length ∧ ∃ (p : Addr) (v4 v5 v6 : Option V), σ = [some (.ref a), some (.ref l), some (.ref r), some (.ref p), v4, v5, v6] ∧ Same H1 H' ∧ H' p = some (.lst (os (lowT (hi st 60) (st.hours.drop (vs.length - i))))))
        ⟨Nat.zero_le _, D, none, none, none, rfl, Same.refl _, by rw [Nat.sub_zero, hlen, List.drop_length]; exact g⟩ (fun i σ H' _ ⟨_, _, _, _, _, _, s5, _⟩ => SqL.of (s5 _ _ (s01 _ _ hvs))) ?_ ?_
      · rintro i y σ H' H2 hi ⟨_, p, v4, v5, v6, rfl, s5, hT⟩ ⟨rfl, hy⟩
        obtain ⟨b, ho, rfl, hho, hB⟩ := hv.at hy
        obtain ⟨hlt, hge⟩ := List.getElem?_eq_some_iff.mp hho
        have s6 := s01.trans s5
        refine ⟨_, rfl, _, rfl, _, rfl, r, b, p, Sg.hi st 60, ho, _, rfl, hR.same (s1.trans s5), hB.same s6, hT, ⟨Nat.le_refl 60, Fi.pu, lowT_length _ _⟩, fun H3 p3 s7 hT3 => ?_⟩
        refine ⟨hi, p3, _, v5, v6, rfl, s5.trans s7, ?_⟩
        have ed : st.hours.drop (vs.length - (i + 1)) = ho :: st.hours.drop (vs.length - i) := by
          have e1 : vs.length - (i + 1) = vs.length - 1 - i := by omega
          have e2 : vs.length - i = vs.length - 1 - i + 1 := by omega
          rw [e1, e2, List.drop_eq_getElem_cons hlt, hge]
        rw [ed, lowT_cons]
        exact hT3
      · rintro σ H' ⟨_, p, v4, v5, v6, rfl, s5, hT⟩
        rw [Nat.sub_self, List.drop_zero] at hT
        have hst := Fi.st
        have hlt : st.stands < (lowT (hi st 60) st.hours).length := by rw [lowT_length]; omega
        have hvi := os_at hlt
        rw [← needs_is Fi] at hvi
        have s6 := s01.trans s5
        obtain ⟨da, hA'⟩ := hA.same s6
        refine ⟨_, rfl, _, rfl, a, CS, da, _, _, rfl, hA', T.clS, T.sStands, sF_stands st, p, _, _, _, rfl, rfl, SqL.of hT, atI_nat hvi, ?_⟩
        cases eb : st.needs with
        | none =>
          rw [out_needs_none eb] at k
          refine ⟨_, rfl, rfl, _, rfl, ite2 (fun _ => ?_) (fun e => absurd (decide_eq_true rfl) e)⟩
          exact ⟨rfl, fun q hq => k _ _ (s6.trans (same_new hq)) (s6.free hq) upd_same⟩
        | some n =>
          rw [out_needs_some eb] at k
          refine ⟨_, rfl, rfl, _, rfl, ite2 (fun e => nomatch of_decide_eq_true e) (fun _ => ?_)⟩
          exact ⟨_, rfl, (by show 1 ≤ sizeLine; decide), fun q hq => k _ _ (s6.trans (same_new hq)) (s6.free hq) upd_same⟩
end
end Sg
set_option Elab.async false
set_option linter.all false
set_option maxRecDepth 100000
set_option maxHeartbeats 4000000
namespace Sg
open PySem PySem.Spec PyProof.Rows L2
/-! ### a line in the heap -/
def LineAt (CS CH CL : Addr) (H : Hp) (z a l : Addr) (s : Sj03.Storm) : Prop := (∃ dx, H z = some (.ins CL dx (lF a l))) ∧ StormAt CS H a s ∧ HoursAt CH H l s.hours
theorem LineAt.same {CS CH CL : Addr} {H H' : Hp} {z a l : Addr} {s : Sj03.Storm} (h : LineAt CS CH CL H z a l s) (k : Same H H') : LineAt CS CH CL H' z a l s := by
  obtain ⟨⟨dx, h1⟩, h2, h3⟩ := h
  exact ⟨⟨dx, k _ _ h1⟩, h2.same k, h3.same k⟩
theorem HourAt.store {C : Addr} {H : Hp} {D a : Addr} {xs us : List V} {h : Sj03.Hour} (e : HourAt C H a h) (hl : H D = some (.lst xs)) : HourAt C (upd H D (.lst us)) a h := by
  obtain ⟨dx, e⟩ := e
  exact ⟨dx, by rw [upd_ne (ne_of e hl (by intro z; cases z))]; exact e⟩
theorem StormAt.store {C : Addr} {H : Hp} {D a : Addr} {xs us : List V} {s : Sj03.Storm} (e : StormAt C H a s) (hl : H D = some (.lst xs)) : StormAt C (upd H D (.lst us)) a s := by
  obtain ⟨dx, e⟩ := e
  exact ⟨dx, by rw [upd_ne (ne_of e hl (by intro z; cases z))]; exact e⟩
theorem HourVs.store {C : Addr} {H : Hp} {D : Addr} {xs us : List V} (hl : H D = some (.lst xs)) : ∀ {vs : List V} {hs : List Sj03.Hour}, HourVs C H vs hs → HourVs C (upd H D (.lst us)) vs hs
  | [], [], _ => trivial
  | v :: vs, h :: hs, ⟨⟨a, e, q⟩, r⟩ => ⟨⟨a, e, q.store hl⟩, HourVs.store hl r⟩
  | [], _ :: _, h => h.elim
  | _ :: _, [], h => h.elim
theorem LineAt.store {CS CH CL : Addr} {H : Hp} {D z a l : Addr} {xs us : List V} {s : Sj03.Storm} (h : LineAt CS CH CL H z a l s) (hl : H D = some (.lst xs)) (n : l ≠ D) : LineAt CS CH CL (upd H D (.lst us)) z a l s := by
  obtain ⟨⟨dx, h1⟩, h2, vs, h3, h4⟩ := h
  exact ⟨⟨dx, by rw [upd_ne (ne_of h1 hl (by intro z; cases z))]; exact h1⟩, h2.store hl, vs, by rw [upd_ne n]; exact h3, h4.store hl⟩
/-- what is wanted behind a call of a line's -/
def After (CS CH CL : Addr) (H : Hp) (z l : Addr) (s : Sj03.Storm) (q : Sj03.Call) (Q : VK) : Prop := ∀ (H' : Hp) (a' l' p : Addr), LineAt CS CH CL H' z a' l' (Sj03.step s q).1 → (∀ b o, H b = some o → b ≠ z → b ≠ l → H' b = some o) → (l' = l ∨ H l' = none) →
  H p = none → H' p = some (.lst ((out (Sj03.step s q).2).map V.int)) → Q (.ref p) H'
theorem After.same {CS CH CL : Addr} {H H1 : Hp} {z l : Addr} {s : Sj03.Storm} {q : Sj03.Call} {Q : VK} (h : After CS CH CL H z l s q Q) (k : Same H H1) : After CS CH CL H1 z l s q Q :=
  fun H' a' l' p h1 h2 h3 h4 h5 => h H' a' l' p h1 (fun b o e => h2 b o (k _ _ e)) (h3.imp id fun e => k.free e) (k.free h4) h5
/-- nothing but new things -/
theorem After.now {CS CH CL : Addr} {H : Hp} {z a l : Addr} {s : Sj03.Storm} {q : Sj03.Call} {Q : VK} (h : After CS CH CL H z l s q Q) (L : LineAt CS CH CL H z a l s) (e : (Sj03.step s q).1 = s) {H' : Hp} {p : Addr} (k : Same H H') (np : H p = none)
    (hp : H' p = some (.lst ((out (Sj03.step s q).2).map V.int))) : Q (.ref p) H' :=
  h H' a l p (by rw [e]; exact L.same k) (fun b o eb _ _ => k _ _ eb) (.inl rfl) np hp
theorem lF_new (a l : Addr) : putF "hours" (.ref l) (putF "storm" (.ref a) []) = lF a l := by
  rw [put_new, put_past (by decide +kernel), put_new]
  rfl
theorem lF_putS (a l b : Addr) : putF "storm" (.ref b) (lF a l) = lF b l := put_here
theorem lF_putH (a l b : Addr) : putF "hours" (.ref b) (lF a l) = lF a b := by
  unfold lF
  rw [put_past (by decide +kernel), put_here]
section
variable {P : Program} {w : World} {K : PySem.W.Frag} {mg : Str → Option Value} {base : Heap} {CS CH CB CL : Addr}
/-! ### Line -/
def spLine (CS CH CL : Addr) : Sp := fun vs H Q _ => ∃ (p dx : Addr), vs = [.ref p] ∧ H p = some (.ins CL dx []) ∧
  ∀ (H' : Hp) (a l : Addr), LineAt CS CH CL H' p a l Sj03.init → H l = none → (∀ b o, H b = some o → b ≠ p → H' b = some o) → Q .non H'
abbrev nSelf : List Str := ["self"]
theorem scLine : FnScope nSelf nSelf (defScope xLine) := ⟨rfl, rfl, rfl, by decide +kernel, rfl, by decide +kernel, by decide +kernel⟩
theorem ok_line {f fI : Addr} {fd fdI : FuncData} (F : Fun K "__init__" "Line.__init__" xLine f fd) (T : Txt K mg CS CH CB CL) (M : Mk K CS fI) (GI : FnOk P w K mg base CX0 1 fI fdI nStorm (spStorm CS)) (bI : Binds K fdI nStorm []) :
    FnOk P w K mg base CX0 3 f fd nSelf (spLine CS CH CL) := by
  refine F.ok scLine (fun vs H Q E h => ?_) (fun cdv A outer s H vs Q E hr h => ?_)
  · obtain ⟨p, dx, rfl, _⟩ := h
    rfl
  · obtain ⟨p, dx, rfl, hp, k⟩ := h
    have hr2 : Room 2 _ := hr
    refine ⟨_, pss_cons (ps_fld (pv 0) (pe_make M GI hr2 (by rfl) T.gS bI .nil pass0 (pa_cons pe_int (pa_cons pe_int (pa_cons pe_int (pa_cons pe_int (pa_cons pe_int (pa_cons pe_int pa_nil))))))) rfl)
      (pss_one (ps_fld (pv 0) (pe_lst pa_nil) rfl)), ?_⟩
    intro x dy nx nd ne
    refine ⟨x, dy, Sj03.init, rfl, upd_same, fun H1 e1 e2 => ⟨rfl, ?_⟩⟩
    have s1 : Same H H1 := Same.made nx nd e2
    have px : x ≠ p := (ne_of_none hp nx).symm
    refine ⟨_, rfl, p, CL, dx, _, rfl, s1 _ _ hp, T.clL, T.lStorm, (by show 0 < 1000; decide), ?_⟩
    refine ⟨Nat.zero_le _, fun l hl => ?_⟩
    have lp : l ≠ p := fun z => by rw [z, upd_same] at hl; cases hl
    have hl1 : H1 l = none := by rw [upd_ne lp] at hl; exact hl
    have lx : x ≠ l := ne_of_none e1 hl1
    refine ⟨_, rfl, p, CL, dx, _, rfl, (upd_ne lp.symm).trans upd_same, T.clL, T.lHours, (by show 1 < 1000; decide), ?_⟩
    refine k _ x l ⟨⟨dx, upd_same.trans (congrArg (fun z => some (HO.ins CL dx z)) (lF_new x l))⟩, ⟨dy, ?_⟩, [], ?_, trivial⟩ (s1.free hl1) fun b o e hb => ?_
    · rw [upd_ne px, upd_ne lx, upd_ne px]
      exact e1
    · rw [upd_ne lp]
      exact upd_same
    · have e3 := s1 _ _ e
      rw [upd_ne hb, upd_ne (ne_of_none e3 hl1), upd_ne hb]
      exact e3
/-! ### begins -/
def spLBegins (CS CH CL : Addr) : Sp := fun vs H Q _ => ∃ (z d a l : Addr) (s : Sj03.Storm) (x0 x1 x2 x3 x4 x5 : Nat), vs = [.ref z, .ref d] ∧ H d = some (.lst (ns [x0, x1, x2, x3, x4, x5])) ∧ LineAt CS CH CL H z a l s ∧ After CS CH CL H z l s (.begins x0 x1 x2 x3 x4 x5) Q
abbrev nLNumbers : List Str := ["self", "numbers"]
theorem scLBegins : FnScope nLNumbers nLNumbers (defScope xLBegins) := ⟨rfl, rfl, rfl, by decide +kernel, rfl, by decide +kernel, by decide +kernel⟩
theorem step_begins_no {s : Sj03.Storm} {a l h c x t : Nat} (b : Bad6 a l h c x t) : Sj03.step s (.begins a l h c x t) = (s, Sj03.ok (-1)) := if_pos b
theorem step_begins_ok {s : Sj03.Storm} {a l h c x t : Nat} (b : ¬ Bad6 a l h c x t) : Sj03.step s (.begins a l h c x t) = (⟨a, l, h, c, x, t, []⟩, Sj03.ok 0) := if_neg b
theorem ok_lBegins {f fT fN fI : Addr} {fd fdT fdN fdI : FuncData} (F : Fun K "begins" "Line.begins" xLBegins f fd) (T : Txt K mg CS CH CB CL)
    (GT : FnOk P w K mg base CX0 2 fT fdT ["numbers"] spStormTold) (kT : PySem.W.keepIn K (.ref fT) = true) (bT : Binds K fdT ["numbers"] []) (gT : mg "storm_is_as_told" = some (.ref fT))
    (GN : FnOk P w K mg base CX0 1 fN fdN [] (spList [-1])) (kN : PySem.W.keepIn K (.ref fN) = true) (bN : Binds K fdN [] []) (gN : mg "not_as_told" = some (.ref fN))
    (M : Mk K CS fI) (GI : FnOk P w K mg base CX0 1 fI fdI nStorm (spStorm CS)) (bI : Binds K fdI nStorm []) :
    FnOk P w K mg base CX0 3 f fd nLNumbers (spLBegins CS CH CL) := by
  refine F.ok scLBegins (fun vs H Q E h => ?_) (fun cdv A outer s H vs Q E hr h => ?_)
  · obtain ⟨z, d, a, l, s, x0, x1, x2, x3, x4, x5, rfl, _⟩ := h
    rfl
  · obtain ⟨z, d, a, l, st, x0, x1, x2, x3, x4, x5, rfl, hd, L, k⟩ := h
    have hr2 : Room 2 _ := hr
    have hr1 : Room 1 _ := hr.mono (by decide)
    refine ⟨_, pss_cons (ps_if (pt_not (pt_val (pe_call GT hr2 (by rfl) gT kT bT .nil pass0 (pa_cons (pv 1) pa_nil)))) (pss_one (ps_ret (pe_call0 GN hr1 (by rfl) gN kN bN .nil pass0))) pss_nil)
      (pss_cons (ps_fld (pv 0) (pe_make M GI hr2 (by rfl) T.gS bI .nil pass0 (pa_cons (pe_ix ix_list (pv 1) pe_int (fun _ _ => rfl)) (pa_cons (pe_ix ix_list (pv 1) pe_int (fun _ _ => rfl)) (pa_cons (pe_ix ix_list (pv 1) pe_int (fun _ _ => rfl)) (pa_cons (pe_ix ix_list (pv 1) pe_int (fun _ _ => rfl)) (pa_cons (pe_ix ix_list (pv 1) pe_int (fun _ _ => rfl)) (pa_cons (pe_ix ix_list (pv 1) pe_int (fun _ _ => rfl)) pa_nil))))))) rfl)
      (pss_cons (ps_fld (pv 0) (pe_lst pa_nil) rfl)
      (pss_one (ps_ret (pe_lst (pa_cons pe_int pa_nil)))))), ?_⟩
    refine ⟨_, rfl, d, x0, x1, x2, x3, x4, x5, rfl, hd, fun H0 s0 => ⟨_, rfl, ?_⟩⟩
    have L0 := L.same s0
    have k0 := k.same s0
    have hd0 := s0 _ _ hd
    by_cases b : Bad6 x0 x1 x2 x3 x4 x5
    · rw [decide_eq_true b]
      have e := step_begins_no (s := st) b
      refine iteT ⟨rfl, fun p hp => ?_⟩
      refine k0.now L0 (by rw [e]) (same_new hp) hp ?_
      rw [e]
      exact upd_same
    · rw [decide_eq_false b]
      have e := step_begins_ok (s := st) b
      refine iteF ?_
      refine ⟨_, rfl, d, _, _, n_ x0, rfl, rfl, SqL.of hd0, rfl, _, rfl, d, _, _, n_ x1, rfl, rfl, SqL.of hd0, rfl, _, rfl, d, _, _, n_ x2, rfl, rfl, SqL.of hd0, rfl,
        _, rfl, d, _, _, n_ x3, rfl, rfl, SqL.of hd0, rfl, _, rfl, d, _, _, n_ x4, rfl, rfl, SqL.of hd0, rfl, _, rfl, d, _, _, n_ x5, rfl, rfl, SqL.of hd0, rfl, ?_⟩
      intro x dy nx nd ne
      refine ⟨x, dy, ⟨x0, x1, x2, x3, x4, x5, []⟩, rfl, upd_same, fun H1 e1 e2 => ⟨rfl, ?_⟩⟩
      have s1 : Same H0 H1 := Same.made nx nd e2
      obtain ⟨⟨dz, hz0⟩, hS, vs, hl0, hV⟩ := id L0
      have hz := s1 _ _ hz0
      have zx : x ≠ z := (ne_of_none hz0 nx).symm
      refine ⟨_, rfl, z, CL, dz, _, rfl, hz, T.clL, T.lStorm, (by show 2 < 1000; decide), ?_⟩
      rw [lF_putS]
      refine ⟨Nat.zero_le _, fun m hm => ?_⟩
      have mz : m ≠ z := fun y => by rw [y, upd_same] at hm; cases hm
      have hm1 : H1 m = none := by rw [upd_ne mz] at hm; exact hm
      have xm : x ≠ m := ne_of_none e1 hm1
      refine ⟨_, rfl, z, CL, dz, _, rfl, (upd_ne mz.symm).trans upd_same, T.clL, T.lHours, (by show 2 < 1000; decide), ?_⟩
      rw [lF_putH]
      refine ⟨(by show 1 ≤ sizeLine; decide), fun p hp => ?_⟩
      have pz : p ≠ z := fun y => by rw [y, upd_same] at hp; cases hp
      have pm : p ≠ m := fun y => by rw [upd_ne pz, y, upd_same] at hp; cases hp
      have hp1 : H1 p = none := by rw [upd_ne pz, upd_ne pm, upd_ne pz] at hp; exact hp
      refine k0 _ x m p ?_ (fun b o eb bz bl => ?_) (.inr (s1.free hm1)) (s1.free hp1) ?_
      · rw [e]
        refine ⟨⟨dz, ?_⟩, ⟨dy, ?_⟩, [], ?_, trivial⟩
        · rw [upd_ne pz.symm]
          exact upd_same
        · rw [upd_ne (ne_of_none e1 hp1), upd_ne zx, upd_ne xm, upd_ne zx]
          exact e1
        · rw [upd_ne pm.symm, upd_ne mz]
          exact upd_same
      · have e3 := s1 _ _ eb
        rw [upd_ne (ne_of_none e3 hp1), upd_ne bz, upd_ne (ne_of_none e3 hm1), upd_ne bz]
        exact e3
      · rw [e]
        exact upd_same
end
end Sg
set_option Elab.async false
set_option linter.all false
set_option maxRecDepth 100000
set_option maxHeartbeats 4000000
namespace Sg
open PySem PySem.Spec PyProof.Rows L2
section
variable {P : Program} {w : World} {K : PySem.W.Frag} {mg : Str → Option Value} {base : Heap} {CS CH CB CL : Addr}
/-! ### hour -/
def spLHour (CS CH CL : Addr) : Sp := fun vs H Q _ => ∃ (z d a l : Addr) (s : Sj03.Storm) (h : Sj03.Hour), vs = [.ref z, .ref d] ∧ H d = some (.lst (ns [h.rain, h.sea, h.power])) ∧ LineAt CS CH CL H z a l s ∧ Fine s ∧ After CS CH CL H z l s (.hour h) Q
theorem scLHour : FnScope nLNumbers nLNumbers (defScope xLHour) := ⟨rfl, rfl, rfl, by decide +kernel, rfl, by decide +kernel, by decide +kernel⟩
theorem step_hour_no {s : Sj03.Storm} {h : Sj03.Hour} (b : Bad3 h.rain h.sea h.power) : Sj03.step s (.hour h) = (s, Sj03.ok (-1)) := if_pos b
theorem step_hour_full {s : Sj03.Storm} {h : Sj03.Hour} (b : ¬ Bad3 h.rain h.sea h.power) (c : Sj03.HOURS ≤ s.hours.length) : Sj03.step s (.hour h) = (s, Sj03.ok (-5)) := (if_neg b).trans (if_pos c)
theorem step_hour_ok {s : Sj03.Storm} {h : Sj03.Hour} (b : ¬ Bad3 h.rain h.sea h.power) (c : ¬ Sj03.HOURS ≤ s.hours.length) : Sj03.step s (.hour h) = ({ s with hours := s.hours ++ [h] }, Sj03.ok ((s.hours.length : Nat) : Int)) := (if_neg b).trans (if_neg c)
theorem ok_lHour {f fT fN fM fI : Addr} {fd fdT fdN fdM fdI : FuncData} (F : Fun K "hour" "Line.hour" xLHour f fd) (T : Txt K mg CS CH CB CL)
    (GT : FnOk P w K mg base CX0 2 fT fdT ["numbers"] spHourTold) (kT : PySem.W.keepIn K (.ref fT) = true) (bT : Binds K fdT ["numbers"] []) (gT : mg "hour_is_as_told" = some (.ref fT))
    (GN : FnOk P w K mg base CX0 1 fN fdN [] (spList [-1])) (kN : PySem.W.keepIn K (.ref fN) = true) (bN : Binds K fdN [] []) (gN : mg "not_as_told" = some (.ref fN))
    (GM : FnOk P w K mg base CX0 1 fM fdM [] (spList [-5])) (kM : PySem.W.keepIn K (.ref fM) = true) (bM : Binds K fdM [] []) (gM : mg "no_more_hours" = some (.ref fM))
    (M : Mk K CH fI) (GI : FnOk P w K mg base CX0 1 fI fdI nHour (spHour CH)) (bI : Binds K fdI nHour []) :
    FnOk P w K mg base CX0 3 f fd nLNumbers (spLHour CS CH CL) := by
  refine F.ok scLHour (fun vs H Q E h => ?_) (fun cdv A outer s H vs Q E hr h => ?_)
  · obtain ⟨z, d, a, l, s, ho, rfl, _⟩ := h
    rfl
  · obtain ⟨z, d, a, l, st, ho, rfl, hd, L, Fi, k⟩ := h
    obtain ⟨tM, hM⟩ := T.most
    have hr2 : Room 2 _ := hr
    have hr1 : Room 1 _ := hr.mono (by decide)
    refine ⟨_, pss_cons (ps_if (pt_not (pt_val (pe_call GT hr2 (by rfl) gT kT bT .nil pass0 (pa_cons (pv 1) pa_nil)))) (pss_one (ps_ret (pe_call0 GN hr1 (by rfl) gN kN bN .nil pass0))) pss_nil)
      (pss_cons (ps_if (pt_cmpR op_ge (pe_callB call_len_seq (by rfl) T.len PySem.boot_len (pa_cons (pe_fld (pv 0) rfl) pa_nil)) (pe_glob (v := .int 6) (by rfl) hM ⟨_, rfl⟩) (nomark _)) (pss_one (ps_ret (pe_call0 GM hr1 (by rfl) gM kM bM .nil pass0))) pss_nil)
      (pss_cons (ps_expr (pe_bm PySem.F.plainAttrs_list PySem.F.slot_list_append PySem.F.type_list_append mt_append (pe_fld (pv 0) rfl) (pa_cons (pe_make M GI hr2 (by rfl) T.gH bI .nil pass0 (pa_cons (pe_ix ix_list (pv 1) pe_int (fun _ _ => rfl)) (pa_cons (pe_ix ix_list (pv 1) pe_int (fun _ _ => rfl)) (pa_cons (pe_ix ix_list (pv 1) pe_int (fun _ _ => rfl)) pa_nil)))) pa_nil)))
      (pss_one (ps_ret (pe_lst (pa_cons (pe_op op_sub (pe_callB call_len_seq (by rfl) T.len PySem.boot_len (pa_cons (pe_fld (pv 0) rfl) pa_nil)) pe_int) pa_nil)))))), ?_⟩
    refine ⟨_, rfl, d, ho.rain, ho.sea, ho.power, rfl, hd, fun H0 s0 => ⟨_, rfl, ?_⟩⟩
    have L0 := L.same s0
    have k0 := k.same s0
    have hd0 := s0 _ _ hd
    obtain ⟨⟨dz, hz⟩, hS, vs, hl, hV⟩ := id L0
    have hlen : vs.length = st.hours.length := hV.length
    have hn6 := Fi.hn
    by_cases b : Bad3 ho.rain ho.sea ho.power
    · rw [decide_eq_true b]
      have e := step_hour_no (s := st) b
      refine iteT ⟨rfl, fun p hp => ?_⟩
      refine k0.now L0 (by rw [e]) (same_new hp) hp ?_
      rw [e]
      exact upd_same
    · rw [decide_eq_false b]
      refine iteF ?_
      refine ⟨_, rfl, z, CL, dz, _, _, rfl, hz, T.clL, T.lHours, lF_hours a l, l, _, rfl, .inl (SqL.of hl), _, _, rfl, rfl, _, rfl, ite2 (fun q => ?_) (fun q => ?_)⟩
      · have q1 := of_decide_eq_true q
        have e := step_hour_full (s := st) b (show 6 ≤ _ by omega)
        refine ⟨rfl, fun p hp => ?_⟩
        refine k0.now L0 (by rw [e]) (same_new hp) hp ?_
        rw [e]
        exact upd_same
      · have q1 : ¬ (6 : Int) ≤ (vs.length : Nat) := fun y => q (decide_eq_true y)
        have e := step_hour_ok (s := st) b (show ¬ 6 ≤ _ by omega)
        refine ⟨_, rfl, z, CL, dz, _, _, rfl, hz, T.clL, T.lHours, lF_hours a l, .inl ⟨rfl, _, SqL.of hl⟩, _, rfl, d, _, _, n_ ho.rain, rfl, rfl, SqL.of hd0, rfl, _, rfl, d, _, _, n_ ho.sea, rfl, rfl, SqL.of hd0, rfl, _, rfl, d, _, _, n_ ho.power, rfl, rfl, SqL.of hd0, rfl, ?_⟩
        intro x dy nx nd ne
        refine ⟨x, dy, ho, rfl, upd_same, fun H1 e1 e2 => ⟨rfl, ?_⟩⟩
        have s1 : Same H0 H1 := Same.made nx nd e2
        have hl1 := s1 _ _ hl
        have hz1 := s1 _ _ hz
        refine ⟨l, _, _, rfl, rfl, hl1, Nat.lt_of_lt_of_le (show vs.length < 100 by omega) (by decide), ?_⟩
        have zl : z ≠ l := ne_of hz1 hl1 (by intro y; cases y)
        refine ⟨_, rfl, z, CL, dz, _, _, rfl, (upd_ne zl).trans hz1, T.clL, T.lHours, lF_hours a l, l, _, rfl, .inl (SqL.of upd_same), _, _, rfl, rfl, (by show 1 ≤ sizeLine; decide), fun p hp => ?_⟩
        have pl : p ≠ l := fun y => by rw [y, upd_same] at hp; cases hp
        have hp1 : H1 p = none := by rw [upd_ne pl] at hp; exact hp
        refine k0 _ a l p ?_ (fun b o eb bz bl => ?_) (.inl rfl) (s1.free hp1) ?_
        · rw [e]
          refine ⟨⟨dz, ?_⟩, ?_, vs ++ [.ref x], ?_, HourVs.more ⟨x, rfl, ?_⟩ ?_⟩
          · rw [upd_ne (ne_of_none hz1 hp1), upd_ne zl]
            exact hz1
          · exact ((hS.same s1).store hl1).same (same_new hp)
          · rw [upd_ne pl.symm]
            exact upd_same
          · exact (HourAt.store ⟨dy, e1⟩ hl1).same (same_new hp)
          · exact ((hV.same s1).store hl1).same (same_new hp)
        · have e3 := s1 _ _ eb
          rw [upd_ne (ne_of_none e3 hp1), upd_ne bl]
          exact e3
        · rw [e, upd_same]
          show some (HO.lst [V.int (((vs ++ [V.ref x]).length : Nat) - 1 : Int)]) = some (HO.lst [V.int ((st.hours.length : Nat) : Int)])
          have el : (((vs ++ [V.ref x]).length : Nat) - 1 : Int) = ((st.hours.length : Nat) : Int) := by
            rw [List.length_append, hlen]
            show ((st.hours.length + 1 : Nat) : Int) - 1 = _
            omega
          rw [el]
/-! ### check -/
def spLCheck (CS CH CL : Addr) : Sp := fun vs H Q _ => ∃ (z d a l : Addr) (s : Sj03.Storm) (ps : List Nat), vs = [.ref z, .ref d] ∧ H d = some (.lst (ns ps)) ∧ ps.length ≤ 14 ∧ LineAt CS CH CL H z a l s ∧ Fine s ∧ After CS CH CL H z l s (.check ps) Q
abbrev nLCheck : List Str := ["self", "doings"]
theorem scLCheck : FnScope nLCheck nLCheck (defScope xLCheck) := ⟨rfl, rfl, rfl, by decide +kernel, rfl, by decide +kernel, by decide +kernel⟩
theorem step_check_fst (s : Sj03.Storm) (ps : List Nat) : (Sj03.step s (.check ps)).1 = s := by
  simp only [Sj03.step]
  split <;> rfl
theorem ok_lCheck {f fC : Addr} {fd fdC : FuncData} (F : Fun K "check" "Line.check" xLCheck f fd) (T : Txt K mg CS CH CB CL)
    (GC : FnOk P w K mg base CX0 3 fC fdC pCheckPlan (spCheckPlan CS CH)) (kC : PySem.W.keepIn K (.ref fC) = true) (bC : Binds K fdC pCheckPlan []) (gC : mg "check_plan" = some (.ref fC)) :
    FnOk P w K mg base CX0 4 f fd nLCheck (spLCheck CS CH CL) := by
  refine F.ok scLCheck (fun vs H Q E h => ?_) (fun cdv A outer s H vs Q E hr h => ?_)
  · obtain ⟨z, d, a, l, s, ps, rfl, _⟩ := h
    rfl
  · obtain ⟨z, d, a, l, st, ps, rfl, hd, hm, L, Fi, k⟩ := h
    obtain ⟨⟨dz, hz⟩, hS, hL⟩ := id L
    refine ⟨_, pss_one (ps_ret (pe_call GC hr (by rfl) gC kC bC .nil pass0 (pa_cons (pe_fld (pv 0) rfl) (pa_cons (pe_fld (pv 0) rfl) (pa_cons (pv 1) pa_nil))))), ?_⟩
    exact ⟨_, rfl, z, CL, dz, _, _, rfl, hz, T.clL, T.lStorm, lF_storm a l, _, rfl, z, CL, dz, _, _, rfl, hz, T.clL, T.lHours, lF_hours a l, _, rfl, a, l, d, st, ps, rfl, hS, hL, hd, Fi, hm, fun H' p sm np e => k.now L (step_check_fst st ps) sm np e⟩
/-! ### best, shut, still, needs -/
def spLDo (CS CH CL : Addr) (q : Sj03.Call) : Sp := fun vs H Q _ => ∃ (z a l : Addr) (s : Sj03.Storm), vs = [.ref z] ∧ LineAt CS CH CL H z a l s ∧ Fine s ∧ After CS CH CL H z l s q Q
theorem scLBest : FnScope nSelf nSelf (defScope xLBest) := ⟨rfl, rfl, rfl, by decide +kernel, rfl, by decide +kernel, by decide +kernel⟩
theorem ok_lBest {f fB : Addr} {fd fdB : FuncData} (F : Fun K "best" "Line.best" xLBest f fd) (T : Txt K mg CS CH CB CL)
    (GB : FnOk P w K mg base CX0 6 fB fdB pBestPlan (spBestPlan CS CH)) (kB : PySem.W.keepIn K (.ref fB) = true) (bB : Binds K fdB pBestPlan []) (gB : mg "best_plan" = some (.ref fB)) :
    FnOk P w K mg base CX0 7 f fd nSelf (spLDo CS CH CL .best) := by
  refine F.ok scLBest (fun vs H Q E h => ?_) (fun cdv A outer s H vs Q E hr h => ?_)
  · obtain ⟨z, a, l, s, rfl, _⟩ := h
    rfl
  · obtain ⟨z, a, l, st, rfl, L, Fi, k⟩ := h
    obtain ⟨⟨dz, hz⟩, hS, hL⟩ := id L
    refine ⟨_, pss_one (ps_ret (pe_call GB hr (by rfl) gB kB bB .nil pass0 (pa_cons (pe_fld (pv 0) rfl) (pa_cons (pe_fld (pv 0) rfl) pa_nil)))), ?_⟩
    exact ⟨_, rfl, z, CL, dz, _, _, rfl, hz, T.clL, T.lStorm, lF_storm a l, _, rfl, z, CL, dz, _, _, rfl, hz, T.clL, T.lHours, lF_hours a l, a, l, st, rfl, hS, hL, Fi, fun H' p sm np e => k.now L rfl sm np e⟩
theorem scLShut : FnScope nSelf nSelf (defScope xLShut) := ⟨rfl, rfl, rfl, by decide +kernel, rfl, by decide +kernel, by decide +kernel⟩
theorem ok_lShut {f fB fW : Addr} {fd fdB fdW : FuncData} (F : Fun K "shut" "Line.shut" xLShut f fd) (T : Txt K mg CS CH CB CL)
    (GB : FnOk P w K mg base CX0 6 fB fdB pBestPlan (spBestPlan CS CH)) (kB : PySem.W.keepIn K (.ref fB) = true) (bB : Binds K fdB pBestPlan []) (gB : mg "best_plan" = some (.ref fB))
    (GW : FnOk P w K mg base CX0 3 fW fdW nWidth (spOther CS fun s x => { s with wide := x })) (kW : PySem.W.keepIn K (.ref fW) = true) (bW : Binds K fdW nWidth []) (gW : mg "with_width" = some (.ref fW)) :
    FnOk P w K mg base CX0 7 f fd nSelf (spLDo CS CH CL .shut) := by
  refine F.ok scLShut (fun vs H Q E h => ?_) (fun cdv A outer s H vs Q E hr h => ?_)
  · obtain ⟨z, a, l, s, rfl, _⟩ := h
    rfl
  · obtain ⟨z, a, l, st, rfl, L, Fi, k⟩ := h
    obtain ⟨⟨dz, hz⟩, hS, hL⟩ := id L
    have hr6 : Room 6 _ := hr
    have hr3 : Room 3 _ := hr.mono (by decide)
    refine ⟨_, pss_one (ps_ret (pe_call GB hr6 (by rfl) gB kB bB .nil pass0 (pa_cons (pe_call GW hr3 (by rfl) gW kW bW .nil pass0 (pa_cons (pe_fld (pv 0) rfl) (pa_cons pe_int pa_nil))) (pa_cons (pe_fld (pv 0) rfl) pa_nil)))), ?_⟩
    refine ⟨_, rfl, z, CL, dz, _, _, rfl, hz, T.clL, T.lStorm, lF_storm a l, a, st, 0, rfl, hS, fun H0 r s0 hR => ?_⟩
    exact ⟨_, rfl, z, CL, dz, _, _, rfl, s0 _ _ hz, T.clL, T.lHours, lF_hours a l, r, l, st.shut, rfl, hR, hL.same s0, fine_shut Fi, fun H' p sm np e => k.now L rfl (s0.trans sm) (s0.free np) e⟩
theorem scLStill : FnScope nSelf nSelf (defScope xLStill) := ⟨rfl, rfl, rfl, by decide +kernel, rfl, by decide +kernel, by decide +kernel⟩
theorem ok_lStill {f fB fW : Addr} {fd fdB fdW : FuncData} (F : Fun K "still" "Line.still" xLStill f fd) (T : Txt K mg CS CH CB CL)
    (GB : FnOk P w K mg base CX0 6 fB fdB pBestPlan (spBestPlan CS CH)) (kB : PySem.W.keepIn K (.ref fB) = true) (bB : Binds K fdB pBestPlan []) (gB : mg "best_plan" = some (.ref fB))
    (GW : FnOk P w K mg base CX0 3 fW fdW nPumps (spOther CS fun s x => { s with pumps := x })) (kW : PySem.W.keepIn K (.ref fW) = true) (bW : Binds K fdW nPumps []) (gW : mg "with_pumps" = some (.ref fW)) :
    FnOk P w K mg base CX0 7 f fd nSelf (spLDo CS CH CL .still) := by
  refine F.ok scLStill (fun vs H Q E h => ?_) (fun cdv A outer s H vs Q E hr h => ?_)
  · obtain ⟨z, a, l, s, rfl, _⟩ := h
    rfl
  · obtain ⟨z, a, l, st, rfl, L, Fi, k⟩ := h
    obtain ⟨⟨dz, hz⟩, hS, hL⟩ := id L
    have hr6 : Room 6 _ := hr
    have hr3 : Room 3 _ := hr.mono (by decide)
    refine ⟨_, pss_one (ps_ret (pe_call GB hr6 (by rfl) gB kB bB .nil pass0 (pa_cons (pe_call GW hr3 (by rfl) gW kW bW .nil pass0 (pa_cons (pe_fld (pv 0) rfl) (pa_cons pe_int pa_nil))) (pa_cons (pe_fld (pv 0) rfl) pa_nil)))), ?_⟩
    refine ⟨_, rfl, z, CL, dz, _, _, rfl, hz, T.clL, T.lStorm, lF_storm a l, a, st, 0, rfl, hS, fun H0 r s0 hR => ?_⟩
    exact ⟨_, rfl, z, CL, dz, _, _, rfl, s0 _ _ hz, T.clL, T.lHours, lF_hours a l, r, l, st.still, rfl, hR, hL.same s0, fine_still Fi, fun H' p sm np e => k.now L rfl (s0.trans sm) (s0.free np) e⟩
theorem scLNeeds : FnScope nSelf nSelf (defScope xLNeeds) := ⟨rfl, rfl, rfl, by decide +kernel, rfl, by decide +kernel, by decide +kernel⟩
theorem ok_lNeeds {f fB : Addr} {fd fdB : FuncData} (F : Fun K "needs" "Line.needs" xLNeeds f fd) (T : Txt K mg CS CH CB CL)
    (GB : FnOk P w K mg base CX0 5 fB fdB pBestPlan (spLeast CS CH)) (kB : PySem.W.keepIn K (.ref fB) = true) (bB : Binds K fdB pBestPlan []) (gB : mg "least_high" = some (.ref fB)) :
    FnOk P w K mg base CX0 6 f fd nSelf (spLDo CS CH CL .needs) := by
  refine F.ok scLNeeds (fun vs H Q E h => ?_) (fun cdv A outer s H vs Q E hr h => ?_)
  · obtain ⟨z, a, l, s, rfl, _⟩ := h
    rfl
  · obtain ⟨z, a, l, st, rfl, L, Fi, k⟩ := h
    obtain ⟨⟨dz, hz⟩, hS, hL⟩ := id L
    refine ⟨_, pss_one (ps_ret (pe_call GB hr (by rfl) gB kB bB .nil pass0 (pa_cons (pe_fld (pv 0) rfl) (pa_cons (pe_fld (pv 0) rfl) pa_nil)))), ?_⟩
    exact ⟨_, rfl, z, CL, dz, _, _, rfl, hz, T.clL, T.lStorm, lF_storm a l, _, rfl, z, CL, dz, _, _, rfl, hz, T.clL, T.lHours, lF_hours a l, a, l, st, rfl, hS, hL, Fi, fun H' p sm np e => k.now L rfl sm np e⟩
end
end Sg
set_option Elab.async false
set_option linter.all false
set_option maxRecDepth 100000
set_option maxHeartbeats 4000000
namespace Sg
open PySem PySem.Spec PyProof.Rows L2
/-! ### a call's numbers in the list -/
theorem tok_at {xs u t : List Int} {i j : Nat} {v : Int} (h : xs.drop i = u ++ t) (e : u[j]? = some v) : (xs.map V.int)[i + j]? = some (V.int v) := by
  have hj : j < u.length := (List.getElem?_eq_some_iff.mp e).1
  have e1 : (xs.drop i)[j]? = some v := by
    rw [h, List.getElem?_append_left hj]
    exact e
  rw [List.getElem?_drop] at e1
  rw [List.getElem?_map, e1]
  rfl
theorem tok_len {xs u t : List Int} {i : Nat} (h : xs.drop i = u ++ t) (hu : 0 < u.length) : i + u.length ≤ xs.length := by
  have e := congrArg List.length h
  rw [List.length_drop, List.length_append] at e
  omega
theorem tok_rest {xs u t : List Int} {i : Nat} (h : xs.drop i = u ++ t) : xs.drop (i + u.length) = t := by
  rw [← List.drop_drop, h, List.drop_left]
theorem cut_tok {xs u t : List Int} {i k : Nat} {lo hi : Int} (h : xs.drop i = u ++ t) (hu : 0 < u.length) (hk : k ≤ u.length) (elo : lo = ((i + k : Nat) : Int)) (ehi : hi = ((i + u.length : Nat) : Int)) :
    cutV (xs.map V.int) (some lo) (some hi) = (u.drop k).map V.int := by
  have hl := tok_len h hu
  unfold cutV
  rw [elo, ehi, HT.sIx_nat, HT.sIx_nat, List.length_map, Nat.min_eq_left hl, Nat.min_eq_left (by omega), ← List.map_drop, ← List.map_take]
  congr 1
  rw [← List.drop_drop, h, List.drop_append_of_le_length hk, List.take_append_of_le_length (by rw [List.length_drop]; omega)]
  exact List.take_of_length_le (by rw [List.length_drop]; omega)
theorem ite_eq {x y : Int} {A B : Prop} (h : x = y) (k : A) : if decide (V.int x = V.int y) = true then A else B := by
  rw [if_pos (decide_eq_true (by rw [h]))]
  exact k
theorem ite_ne {x y : Int} {A B : Prop} (h : x ≠ y) (k : B) : if decide (V.int x = V.int y) = true then A else B := by
  rw [if_neg (fun e => h (V.int.inj (of_decide_eq_true e)))]
  exact k
theorem toks_pos : ∀ q : Sj03.Call, 0 < (toks q).length
  | .begins .. => Nat.succ_pos _
  | .hour _ => Nat.succ_pos _
  | .check _ => Nat.succ_pos _
  | .best => Nat.succ_pos _
  | .shut => Nat.succ_pos _
  | .still => Nat.succ_pos _
  | .needs => Nat.succ_pos _
section
variable {P : Program} {w : World} {K : PySem.W.Frag} {mg : Str → Option Value} {base : Heap} {CS CH CB CL : Addr}
/-! ### end_of_call -/
def spEnd (K : PySem.W.Frag) : Sp := fun vs H Q _ => ∃ (c : Addr) (xs t : List Int) (i : Nat) (q : Sj03.Call), vs = [.ref c, n_ i] ∧ SqL K H c (xs.map V.int) ∧ xs.drop i = toks q ++ t ∧ Q (n_ (i + (toks q).length)) H
abbrev nEnd : List Str := ["calls", "at"]
theorem scEnd : FnScope nEnd nEnd (defScope xEnd) := ⟨rfl, rfl, rfl, by decide +kernel, rfl, by decide +kernel, by decide +kernel⟩
theorem ok_end {f : Addr} {fd : FuncData} (F : Fun K "end_of_call" "end_of_call" xEnd f fd) (T : Txt K mg CS CH CB CL) : FnOk P w K mg base CX0 1 f fd nEnd (spEnd K) := by
  refine F.ok scEnd (fun vs H Q E h => ?_) (fun cdv A outer s H vs Q E hr h => ?_)
  · obtain ⟨c, xs, t, i, q, rfl, _⟩ := h
    rfl
  · obtain ⟨c, xs, t, i, q, rfl, hc, hd, k⟩ := h
    obtain ⟨t0, h0⟩ := T.cBegins
    obtain ⟨t1, h1⟩ := T.cHour
    obtain ⟨t2, h2⟩ := T.cCheck
    refine ⟨_, pss_cons (ps_if (pt_cmpR op_eq (pe_ix ix_list (pv 0) (pv 1) (fun _ _ => rfl)) (pe_glob (v := .int 0) (by rfl) h0 ⟨_, rfl⟩) (nomark _)) (pss_one (ps_ret (pe_op op_add (pv 1) pe_int))) pss_nil)
      (pss_cons (ps_if (pt_cmpR op_eq (pe_ix ix_list (pv 0) (pv 1) (fun _ _ => rfl)) (pe_glob (v := .int 1) (by rfl) h1 ⟨_, rfl⟩) (nomark _)) (pss_one (ps_ret (pe_op op_add (pv 1) pe_int))) pss_nil)
      (pss_cons (ps_if (pt_cmpR op_eq (pe_ix ix_list (pv 0) (pv 1) (fun _ _ => rfl)) (pe_glob (v := .int 2) (by rfl) h2 ⟨_, rfl⟩) (nomark _)) (pss_one (ps_ret (pe_op op_add (pe_op op_add (pv 1) pe_int) (pe_ix ix_list (pv 0) (pe_op op_add (pv 1) pe_int) (fun _ _ => rfl))))) pss_nil)
      (pss_one (ps_ret (pe_op op_add (pv 1) pe_int))))), ?_⟩
    cases q with
    | begins a0 a1 a2 a3 a4 a5 =>
      refine ⟨_, rfl, _, rfl, c, _, _, _, rfl, rfl, hc, atI_nat (tok_at hd (j := 0) rfl), rfl, _, rfl, ite_eq rfl ?_⟩
      exact ⟨_, rfl, _, _, rfl, rfl, k⟩
    | hour ho =>
      refine ⟨_, rfl, _, rfl, c, _, _, _, rfl, rfl, hc, atI_nat (tok_at hd (j := 0) rfl), rfl, _, rfl, ite_ne (by decide) ?_⟩
      refine ⟨_, rfl, _, rfl, c, _, _, _, rfl, rfl, hc, atI_nat (tok_at hd (j := 0) rfl), rfl, _, rfl, ite_eq rfl ?_⟩
      exact ⟨_, rfl, _, _, rfl, rfl, k⟩
    | check ps =>
      refine ⟨_, rfl, _, rfl, c, _, _, _, rfl, rfl, hc, atI_nat (tok_at hd (j := 0) rfl), rfl, _, rfl, ite_ne (by decide) ?_⟩
      refine ⟨_, rfl, _, rfl, c, _, _, _, rfl, rfl, hc, atI_nat (tok_at hd (j := 0) rfl), rfl, _, rfl, ite_ne (by decide) ?_⟩
      refine ⟨_, rfl, _, rfl, c, _, _, _, rfl, rfl, hc, atI_nat (tok_at hd (j := 0) rfl), rfl, _, rfl, ite_eq rfl ?_⟩
      refine ⟨_, rfl, _, _, rfl, rfl, _, rfl, _, rfl, _, _, rfl, rfl, c, _, _, _, rfl, rfl, hc, at_of (j := i + 1) rfl (tok_at hd (j := 1) rfl), _, _, rfl, rfl, ?_⟩
      have e : n_ (i + (toks (.check ps)).length) = V.int ((i : Int) + 2 + (ps.length : Nat)) := by
        show V.int _ = V.int _
        congr 1
        show ((i + (2 :: (ps.length : Int) :: Sj03.ints ps).length : Nat) : Int) = _
        unfold Sj03.ints
        simp only [List.length_cons, List.length_map]
        omega
      rw [e] at k
      exact k
    | best =>
      refine ⟨_, rfl, _, rfl, c, _, _, _, rfl, rfl, hc, atI_nat (tok_at hd (j := 0) rfl), rfl, _, rfl, ite_ne (by decide) ?_⟩
      refine ⟨_, rfl, _, rfl, c, _, _, _, rfl, rfl, hc, atI_nat (tok_at hd (j := 0) rfl), rfl, _, rfl, ite_ne (by decide) ?_⟩
      refine ⟨_, rfl, _, rfl, c, _, _, _, rfl, rfl, hc, atI_nat (tok_at hd (j := 0) rfl), rfl, _, rfl, ite_ne (by decide) ?_⟩
      exact ⟨_, rfl, _, _, rfl, rfl, k⟩
    | shut =>
      refine ⟨_, rfl, _, rfl, c, _, _, _, rfl, rfl, hc, atI_nat (tok_at hd (j := 0) rfl), rfl, _, rfl, ite_ne (by decide) ?_⟩
      refine ⟨_, rfl, _, rfl, c, _, _, _, rfl, rfl, hc, atI_nat (tok_at hd (j := 0) rfl), rfl, _, rfl, ite_ne (by decide) ?_⟩
      refine ⟨_, rfl, _, rfl, c, _, _, _, rfl, rfl, hc, atI_nat (tok_at hd (j := 0) rfl), rfl, _, rfl, ite_ne (by decide) ?_⟩
      exact ⟨_, rfl, _, _, rfl, rfl, k⟩
    | still =>
      refine ⟨_, rfl, _, rfl, c, _, _, _, rfl, rfl, hc, atI_nat (tok_at hd (j := 0) rfl), rfl, _, rfl, ite_ne (by decide) ?_⟩
      refine ⟨_, rfl, _, rfl, c, _, _, _, rfl, rfl, hc, atI_nat (tok_at hd (j := 0) rfl), rfl, _, rfl, ite_ne (by decide) ?_⟩
      refine ⟨_, rfl, _, rfl, c, _, _, _, rfl, rfl, hc, atI_nat (tok_at hd (j := 0) rfl), rfl, _, rfl, ite_ne (by decide) ?_⟩
      exact ⟨_, rfl, _, _, rfl, rfl, k⟩
    | needs =>
      refine ⟨_, rfl, _, rfl, c, _, _, _, rfl, rfl, hc, atI_nat (tok_at hd (j := 0) rfl), rfl, _, rfl, ite_ne (by decide) ?_⟩
      refine ⟨_, rfl, _, rfl, c, _, _, _, rfl, rfl, hc, atI_nat (tok_at hd (j := 0) rfl), rfl, _, rfl, ite_ne (by decide) ?_⟩
      refine ⟨_, rfl, _, rfl, c, _, _, _, rfl, rfl, hc, atI_nat (tok_at hd (j := 0) rfl), rfl, _, rfl, ite_ne (by decide) ?_⟩
      exact ⟨_, rfl, _, _, rfl, rfl, k⟩
end
end Sg
set_option Elab.async false
set_option linter.all false
set_option maxRecDepth 100000
set_option maxHeartbeats 4000000
namespace Sg
open PySem PySem.Spec PyProof.Rows L2
theorem lF_none {a l : Addr} {m : Str} (h1 : (m == ("storm" : Str)) = false) (h2 : (m == ("hours" : Str)) = false) : (lF a l).lookup m = none := (lk_past h1).trans ((lk_past h2).trans rfl)
theorem ints_v (ps : List Nat) : (Sj03.ints ps).map V.int = ns ps := by
  unfold Sj03.ints ns
  rw [List.map_map]
  rfl
section
variable {P : Program} {w : World} {K : PySem.W.Frag} {mg : Str → Option Value} {base : Heap} {CS CH CB CL : Addr}
/-! ### answer_of_call -/
def spAnswer (K : PySem.W.Frag) (CS CH CL : Addr) : Sp := fun vs H Q _ => ∃ (z a l c : Addr) (s : Sj03.Storm) (xs t : List Int) (i : Nat) (q : Sj03.Call), vs = [.ref z, .ref c, n_ i, n_ (i + (toks q).length)] ∧ LineAt CS CH CL H z a l s ∧ Fine s ∧ Small q ∧
  SqL K H c (xs.map V.int) ∧ xs.drop i = toks q ++ t ∧ After CS CH CL H z l s q Q
abbrev nAnswer : List Str := ["line", "calls", "at", "behind"]
theorem scAnswer : FnScope nAnswer nAnswer (defScope xAnswer) := ⟨rfl, rfl, rfl, by decide +kernel, rfl, by decide +kernel, by decide +kernel⟩
theorem ok_answer {f f0 f1 f2 f3 f4 f5 f6 : Addr} {fd fd0 fd1 fd2 fd3 fd4 fd5 fd6 : FuncData} (F : Fun K "answer_of_call" "answer_of_call" xAnswer f fd) (T : Txt K mg CS CH CB CL)
    (m0 : Meth K CL "begins" f0) (G0 : FnOk P w K mg base CX0 3 f0 fd0 nLNumbers (spLBegins CS CH CL)) (b0 : Binds K fd0 nLNumbers [])
    (m1 : Meth K CL "hour" f1) (G1 : FnOk P w K mg base CX0 3 f1 fd1 nLNumbers (spLHour CS CH CL)) (b1 : Binds K fd1 nLNumbers [])
    (m2 : Meth K CL "check" f2) (G2 : FnOk P w K mg base CX0 4 f2 fd2 nLCheck (spLCheck CS CH CL)) (b2 : Binds K fd2 nLCheck [])
    (m3 : Meth K CL "best" f3) (G3 : FnOk P w K mg base CX0 7 f3 fd3 nSelf (spLDo CS CH CL .best)) (b3 : Binds K fd3 nSelf [])
    (m4 : Meth K CL "shut" f4) (G4 : FnOk P w K mg base CX0 7 f4 fd4 nSelf (spLDo CS CH CL .shut)) (b4 : Binds K fd4 nSelf [])
    (m5 : Meth K CL "still" f5) (G5 : FnOk P w K mg base CX0 7 f5 fd5 nSelf (spLDo CS CH CL .still)) (b5 : Binds K fd5 nSelf [])
    (m6 : Meth K CL "needs" f6) (G6 : FnOk P w K mg base CX0 6 f6 fd6 nSelf (spLDo CS CH CL .needs)) (b6 : Binds K fd6 nSelf []) :
    FnOk P w K mg base CX0 8 f fd nAnswer (spAnswer K CS CH CL) := by
  refine F.ok scAnswer (fun vs H Q E h => ?_) (fun cdv A outer s H vs Q E hr h => ?_)
  · obtain ⟨z, a, l, c, s, xs, t, i, q, rfl, _⟩ := h
    rfl
  · obtain ⟨z, a, l, c, st, xs, t, i, q, rfl, L, Fi, Sm, hc, hd, k⟩ := h
    obtain ⟨t0, h0⟩ := T.cBegins
    obtain ⟨t1, h1⟩ := T.cHour
    obtain ⟨t2, h2⟩ := T.cCheck
    obtain ⟨t3, h3⟩ := T.cBest
    obtain ⟨t4, h4⟩ := T.cShut
    obtain ⟨t5, h5⟩ := T.cStill
    have hr7 : Room 7 _ := hr
    have hr6 : Room 6 _ := hr.mono (by decide)
    have hr4 : Room 4 _ := hr.mono (by decide)
    have hr3 : Room 3 _ := hr.mono (by decide)
    refine ⟨_, pss_cons (ps_if (pt_cmpR op_eq (pe_ix ix_list (pv 1) (pv 2) (fun _ _ => rfl)) (pe_glob (v := .int 0) (by rfl) h0 ⟨_, rfl⟩) (nomark _))
        (pss_one (ps_ret (pe_meth (pv 0) T.clL m0 G0 hr3 b0 .nil pass0 (pa_cons (pe_slice sl_list (pv 1) (po_some (pe_op op_add (pv 2) pe_int)) (po_some (pv 3))) pa_nil)))) pss_nil)
      (pss_cons (ps_if (pt_cmpR op_eq (pe_ix ix_list (pv 1) (pv 2) (fun _ _ => rfl)) (pe_glob (v := .int 1) (by rfl) h1 ⟨_, rfl⟩) (nomark _))
        (pss_one (ps_ret (pe_meth (pv 0) T.clL m1 G1 hr3 b1 .nil pass0 (pa_cons (pe_slice sl_list (pv 1) (po_some (pe_op op_add (pv 2) pe_int)) (po_some (pv 3))) pa_nil)))) pss_nil)
      (pss_cons (ps_if (pt_cmpR op_eq (pe_ix ix_list (pv 1) (pv 2) (fun _ _ => rfl)) (pe_glob (v := .int 2) (by rfl) h2 ⟨_, rfl⟩) (nomark _))
        (pss_one (ps_ret (pe_meth (pv 0) T.clL m2 G2 hr4 b2 .nil pass0 (pa_cons (pe_slice sl_list (pv 1) (po_some (pe_op op_add (pv 2) pe_int)) (po_some (pv 3))) pa_nil)))) pss_nil)
      (pss_cons (ps_if (pt_cmpR op_eq (pe_ix ix_list (pv 1) (pv 2) (fun _ _ => rfl)) (pe_glob (v := .int 3) (by rfl) h3 ⟨_, rfl⟩) (nomark _)) (pss_one (ps_ret (pe_meth0 (pv 0) T.clL m3 G3 hr7 b3 .nil pass0))) pss_nil)
      (pss_cons (ps_if (pt_cmpR op_eq (pe_ix ix_list (pv 1) (pv 2) (fun _ _ => rfl)) (pe_glob (v := .int 4) (by rfl) h4 ⟨_, rfl⟩) (nomark _)) (pss_one (ps_ret (pe_meth0 (pv 0) T.clL m4 G4 hr7 b4 .nil pass0))) pss_nil)
      (pss_cons (ps_if (pt_cmpR op_eq (pe_ix ix_list (pv 1) (pv 2) (fun _ _ => rfl)) (pe_glob (v := .int 5) (by rfl) h5 ⟨_, rfl⟩) (nomark _)) (pss_one (ps_ret (pe_meth0 (pv 0) T.clL m5 G5 hr7 b5 .nil pass0))) pss_nil)
      (pss_one (ps_ret (pe_meth0 (pv 0) T.clL m6 G6 hr6 b6 .nil pass0)))))))), ?_⟩
    obtain ⟨⟨dz, hz⟩, hS, hL⟩ := id L
    have tk := tok_at hd (j := 0) (v := (toks q).headD 0) (by cases q <;> rfl)
    have ix := atI_nat tk
    cases q with
    | begins a0 a1 a2 a3 a4 a5 =>
      refine ⟨_, rfl, _, rfl, c, _, _, _, rfl, rfl, hc, ix, rfl, _, rfl, ite_eq rfl ?_⟩
      refine ⟨_, rfl, z, dz, _, rfl, hz, lF_none (by decide +kernel) (by decide +kernel), _, rfl, _, rfl, _, _, rfl, rfl, _, rfl, _, rfl, _, rfl, c, _, rfl, hc, fun d nd => ?_⟩
      have s1 := same_new (o := .lst (cutV (xs.map V.int) (some ((i : Int) + 1)) (some ((i + (toks (.begins a0 a1 a2 a3 a4 a5)).length : Nat) : Int)))) nd
      refine ⟨z, d, a, l, st, a0, a1, a2, a3, a4, a5, rfl, ?_, L.same s1, k.same s1⟩
      refine upd_same.trans (congrArg (fun y => some (HO.lst y)) ?_)
      exact (cut_tok hd (toks_pos _) (k := 1) (Nat.succ_pos _) rfl rfl)
    | hour ho =>
      refine ⟨_, rfl, _, rfl, c, _, _, _, rfl, rfl, hc, ix, rfl, _, rfl, ite_ne (by show (1 : Int) ≠ 0; decide) ?_⟩
      refine ⟨_, rfl, _, rfl, c, _, _, _, rfl, rfl, hc, ix, rfl, _, rfl, ite_eq rfl ?_⟩
      refine ⟨_, rfl, z, dz, _, rfl, hz, lF_none (by decide +kernel) (by decide +kernel), _, rfl, _, rfl, _, _, rfl, rfl, _, rfl, _, rfl, _, rfl, c, _, rfl, hc, fun d nd => ?_⟩
      have s1 := same_new (o := .lst (cutV (xs.map V.int) (some ((i : Int) + 1)) (some ((i + (toks (.hour ho)).length : Nat) : Int)))) nd
      refine ⟨z, d, a, l, st, ho, rfl, ?_, L.same s1, Fi, k.same s1⟩
      refine upd_same.trans (congrArg (fun y => some (HO.lst y)) ?_)
      exact (cut_tok hd (toks_pos _) (k := 1) (Nat.succ_pos _) rfl rfl)
    | check ps =>
      refine ⟨_, rfl, _, rfl, c, _, _, _, rfl, rfl, hc, ix, rfl, _, rfl, ite_ne (by show (2 : Int) ≠ 0; decide) ?_⟩
      refine ⟨_, rfl, _, rfl, c, _, _, _, rfl, rfl, hc, ix, rfl, _, rfl, ite_ne (by show (2 : Int) ≠ 1; decide) ?_⟩
      refine ⟨_, rfl, _, rfl, c, _, _, _, rfl, rfl, hc, ix, rfl, _, rfl, ite_eq rfl ?_⟩
      refine ⟨_, rfl, z, dz, _, rfl, hz, lF_none (by decide +kernel) (by decide +kernel), _, rfl, _, rfl, _, _, rfl, rfl, _, rfl, _, rfl, _, rfl, c, _, rfl, hc, fun d nd => ?_⟩
      have s1 := same_new (o := .lst (cutV (xs.map V.int) (some ((i : Int) + 2)) (some ((i + (toks (.check ps)).length : Nat) : Int)))) nd
      refine ⟨z, d, a, l, st, ps, rfl, ?_, Sm, L.same s1, Fi, k.same s1⟩
      refine upd_same.trans (congrArg (fun y => some (HO.lst y)) ?_)
      refine (cut_tok hd (toks_pos _) (k := 2) ?_ rfl rfl).trans (ints_v ps)
      show 2 ≤ (2 :: (ps.length : Int) :: Sj03.ints ps).length
      simp only [List.length_cons]
      omega
    | best =>
      refine ⟨_, rfl, _, rfl, c, _, _, _, rfl, rfl, hc, ix, rfl, _, rfl, ite_ne (by decide) ?_⟩
      refine ⟨_, rfl, _, rfl, c, _, _, _, rfl, rfl, hc, ix, rfl, _, rfl, ite_ne (by decide) ?_⟩
      refine ⟨_, rfl, _, rfl, c, _, _, _, rfl, rfl, hc, ix, rfl, _, rfl, ite_ne (by decide) ?_⟩
      refine ⟨_, rfl, _, rfl, c, _, _, _, rfl, rfl, hc, ix, rfl, _, rfl, ite_eq rfl ?_⟩
      exact ⟨_, rfl, z, dz, _, rfl, hz, lF_none (by decide +kernel) (by decide +kernel), z, a, l, st, rfl, L, Fi, k⟩
    | shut =>
      refine ⟨_, rfl, _, rfl, c, _, _, _, rfl, rfl, hc, ix, rfl, _, rfl, ite_ne (by decide) ?_⟩
      refine ⟨_, rfl, _, rfl, c, _, _, _, rfl, rfl, hc, ix, rfl, _, rfl, ite_ne (by decide) ?_⟩
      refine ⟨_, rfl, _, rfl, c, _, _, _, rfl, rfl, hc, ix, rfl, _, rfl, ite_ne (by decide) ?_⟩
      refine ⟨_, rfl, _, rfl, c, _, _, _, rfl, rfl, hc, ix, rfl, _, rfl, ite_ne (by decide) ?_⟩
      refine ⟨_, rfl, _, rfl, c, _, _, _, rfl, rfl, hc, ix, rfl, _, rfl, ite_eq rfl ?_⟩
      exact ⟨_, rfl, z, dz, _, rfl, hz, lF_none (by decide +kernel) (by decide +kernel), z, a, l, st, rfl, L, Fi, k⟩
    | still =>
      refine ⟨_, rfl, _, rfl, c, _, _, _, rfl, rfl, hc, ix, rfl, _, rfl, ite_ne (by decide) ?_⟩
      refine ⟨_, rfl, _, rfl, c, _, _, _, rfl, rfl, hc, ix, rfl, _, rfl, ite_ne (by decide) ?_⟩
      refine ⟨_, rfl, _, rfl, c, _, _, _, rfl, rfl, hc, ix, rfl, _, rfl, ite_ne (by decide) ?_⟩
      refine ⟨_, rfl, _, rfl, c, _, _, _, rfl, rfl, hc, ix, rfl, _, rfl, ite_ne (by decide) ?_⟩
      refine ⟨_, rfl, _, rfl, c, _, _, _, rfl, rfl, hc, ix, rfl, _, rfl, ite_ne (by decide) ?_⟩
      refine ⟨_, rfl, _, rfl, c, _, _, _, rfl, rfl, hc, ix, rfl, _, rfl, ite_eq rfl ?_⟩
      exact ⟨_, rfl, z, dz, _, rfl, hz, lF_none (by decide +kernel) (by decide +kernel), z, a, l, st, rfl, L, Fi, k⟩
    | needs =>
      refine ⟨_, rfl, _, rfl, c, _, _, _, rfl, rfl, hc, ix, rfl, _, rfl, ite_ne (by decide) ?_⟩
      refine ⟨_, rfl, _, rfl, c, _, _, _, rfl, rfl, hc, ix, rfl, _, rfl, ite_ne (by decide) ?_⟩
      refine ⟨_, rfl, _, rfl, c, _, _, _, rfl, rfl, hc, ix, rfl, _, rfl, ite_ne (by decide) ?_⟩
      refine ⟨_, rfl, _, rfl, c, _, _, _, rfl, rfl, hc, ix, rfl, _, rfl, ite_ne (by decide) ?_⟩
      refine ⟨_, rfl, _, rfl, c, _, _, _, rfl, rfl, hc, ix, rfl, _, rfl, ite_ne (by decide) ?_⟩
      refine ⟨_, rfl, _, rfl, c, _, _, _, rfl, rfl, hc, ix, rfl, _, rfl, ite_ne (by decide) ?_⟩
      exact ⟨_, rfl, z, dz, _, rfl, hz, lF_none (by decide +kernel) (by decide +kernel), z, a, l, st, rfl, L, Fi, k⟩
/-! ### answers -/
def spAnswers (K : PySem.W.Frag) : Sp := fun vs H Q _ => ∃ (c : Addr) (xs due : List Int), vs = [.ref c] ∧ SqL K H c (xs.map V.int) ∧ Line Sj03.init xs due ∧ due.length ≤ 10000000 ∧
  ∀ (H' : Hp) (p : Addr), H' p = some (.lst (due.map V.int)) → Q (.ref p) H'
abbrev nAnswers : List Str := ["calls", "line", "answered", "at", "behind", "answer"]
theorem scAnswers : FnScope nAnswers ["calls"] (defScope xAnswers) := ⟨rfl, rfl, rfl, by decide +kernel, rfl, by decide +kernel, by decide +kernel⟩
theorem ok_answers {f fI fE fA : Addr} {fd fdI fdE fdA : FuncData} (F : Fun K "answers" "answers" xAnswers f fd) (T : Txt K mg CS CH CB CL)
    (M : Mk K CL fI) (GI : FnOk P w K mg base CX0 3 fI fdI nSelf (spLine CS CH CL)) (bI : Binds K fdI nSelf [])
    (GE : FnOk P w K mg base CX0 1 fE fdE nEnd (spEnd K)) (kE : PySem.W.keepIn K (.ref fE) = true) (bE : Binds K fdE nEnd []) (gE : mg "end_of_call" = some (.ref fE))
    (GA : FnOk P w K mg base CX0 8 fA fdA nAnswer (spAnswer K CS CH CL)) (kA : PySem.W.keepIn K (.ref fA) = true) (bA : Binds K fdA nAnswer []) (gA : mg "answer_of_call" = some (.ref fA)) :
    FnOk P w K mg base CX0 9 f fd ["calls"] (spAnswers K) := by
  refine F.ok scAnswers (fun vs H Q E h => ?_) (fun cdv A outer s H vs Q E hr h => ?_)
  · obtain ⟨c, xs, due, rfl, _⟩ := h
    rfl
  · obtain ⟨c, xs, due, rfl, hc, hL, hsz, k⟩ := h
    have hr8 : Room 8 _ := hr
    have hr4 : Room 4 _ := hr.mono (by decide)
    have hr1 : Room 1 _ := hr.mono (by decide)
    refine ⟨_, pss_cons (ps_set (i := 1) scAnswers.nd rfl (Or.inl rfl) (pe_make0 M GI hr4 (by rfl) T.gL bI .nil pass0))
      (pss_cons (ps_set (i := 2) scAnswers.nd rfl (Or.inl rfl) (pe_lst pa_nil))
      (pss_cons (ps_set (i := 3) scAnswers.nd rfl (Or.inl rfl) pe_int)
      (pss_cons (ps_while PassesOwn.never (pt_cmpR op_lt (pv 3) (pe_callB call_len_seq (by rfl) T.len PySem.boot_len (pa_cons (pv 0) pa_nil)) (nomark _))
        (pss_cons (ps_set (i := 4) scAnswers.nd rfl (Or.inl rfl) (pe_call GE hr1 (by rfl) gE kE bE .nil pass0 (pa_cons (pv 0) (pa_cons (pv 3) pa_nil))))
        (pss_cons (ps_set (i := 5) scAnswers.nd rfl (Or.inl rfl) (pe_call GA hr8 (by rfl) gA kA bA .nil pass0 (pa_cons (pv 1) (pa_cons (pv 0) (pa_cons (pv 3) (pa_cons (pv 4) pa_nil))))))
        (pss_cons (ps_expr (pe_bm PySem.F.plainAttrs_list PySem.F.slot_list_append PySem.F.type_list_append mt_append (pv 2) (pa_cons (pe_callB call_len_seq (by rfl) T.len PySem.boot_len (pa_cons (pv 5) pa_nil)) pa_nil)))
        (pss_cons (ps_expr (pe_bm PySem.F.plainAttrs_list PySem.F.slot_list_extend PySem.F.type_list_extend mt_extend (pv 2) (pa_cons (pv 5) pa_nil)))
        (pss_one (ps_set (i := 3) scAnswers.nd rfl (Or.inl rfl) (pv 4))))))))
      (pss_one (ps_ret (pv 2)))))), ?_⟩
    intro z dz nz nd ne
    refine ⟨z, dz, rfl, upd_same, fun H1 a1 l1 L1 nl1 fr1 => ⟨rfl, ?_⟩⟩
    have s1 : Same H H1 := Same.made nz nd fr1
    have nl : H l1 = none := by
      have e : l1 ≠ z := fun y => by rw [y, upd_same] at nl1; cases nl1
      rw [upd_ne e] at nl1
      have e2 : l1 ≠ dz := fun y => by rw [y, upd_same] at nl1; cases nl1
      rw [upd_ne e2] at nl1
      exact nl1
    refine ⟨Nat.zero_le _, fun r hr => ?_⟩
    have s2 : Same H1 (upd H1 r (.lst [])) := same_new hr
    have hrl : l1 ≠ r := fun y => by
      obtain ⟨_, _, vs, h3, _⟩ := L1
      rw [y, hr] at h3
      cases h3
    refine ⟨fun m σ H' => ∃ (i : Nat) (a l : Addr) (st : Sj03.Storm) (done rest : List Int) (v4 v5 : Option V), σ = [some (.ref c), some (.ref z), some (.ref r), some (n_ i), v4, v5] ∧ m = xs.length - i ∧ i ≤ xs.length ∧
        Same H H' ∧ LineAt CS CH CL H' z a l st ∧ Fine st ∧ H l = none ∧ l ≠ r ∧ H' r = some (.lst (done.map V.int)) ∧ Line st (xs.drop i) rest ∧ due = done ++ rest,
      ⟨_, 0, a1, l1, Sj03.init, [], due, none, none, rfl, rfl, Nat.zero_le _, s1.trans s2, L1.same s2, fine_init, nl, hrl, upd_same, hL, rfl⟩, ?_⟩
    rintro m σ H' ⟨i, a, l, st, done, rest, v4, v5, rfl, rfl, hi, sH, L, Fi, nl, lr, hr', W, eD⟩
    have hc' := sH.seq hc
    refine ⟨_, rfl, _, rfl, c, _, rfl, .inl hc', _, _, rfl, rfl, _, rfl, ite2 (fun q => ?_) (fun q => ?_)⟩
    · have q1 := of_decide_eq_true q
      rw [List.length_map] at q1
      have hlt : i < xs.length := by omega
      generalize ed : xs.drop i = u at W
      cases W with
      | nil =>
        have e := congrArg List.length ed
        rw [List.length_drop] at e
        have e2 : xs.length - i = 0 := e
        omega
      | call q2 hSm W2 =>
        rename_i t d
        refine ⟨_, fun σ' H2 h => h, ?_⟩
        refine ⟨_, rfl, _, rfl, c, xs, t, i, q2, rfl, hc', ed, ?_⟩
        refine ⟨_, rfl, _, rfl, _, rfl, _, rfl, z, a, l, c, st, xs, t, i, q2, rfl, L, Fi, hSm, hc', ed, ?_⟩
        intro H2 a2 l2 p L2' fr nl2 np hp
        have zr : z ≠ r := by
          obtain ⟨⟨dx, h1⟩, _⟩ := L
          exact ne_of h1 hr' (by intro y; cases y)
        have hr2 := fr _ _ hr' zr.symm lr.symm
        have pr : p ≠ r := fun y => by rw [y, hr'] at np; cases np
        have l2r : l2 ≠ r := by
          rcases nl2 with e | e
          · rw [e]
            exact lr
          · exact fun y => by rw [y, hr'] at e; cases e
        have nl2' : H l2 = none := by
          rcases nl2 with e | e
          · rw [e]
            exact nl
          · exact sH.free e
        have lenD : due.length = done.length + (1 + (out (Sj03.step st q2).2).length + d.length) := by
          rw [eD]
          simp only [List.length_append, List.length_cons]
          omega
        have bS : (16777216 : Nat) ≤ sizeLine := by decide
        refine ⟨_, rfl, .inl ⟨rfl, _, SqL.of hr2⟩, _, rfl, p, _, rfl, .inl (SqL.of hp), r, _, _, rfl, rfl, hr2, ?_, ?_⟩
        · rw [List.length_map]
          omega
        refine ⟨_, rfl, .inl ⟨rfl, _, SqL.of upd_same⟩, _, rfl, r, p, _, _, rfl, rfl, upd_same, (upd_ne pr).trans hp, ?_, ?_⟩
        · simp only [List.length_append, List.length_map, List.length_cons, List.length_nil]
          omega
        refine ⟨_, rfl, ?_⟩
        have hle := tok_len ed (toks_pos q2)
        have hpos := toks_pos q2
        refine ⟨xs.length - (i + (toks q2).length), by omega, i + (toks q2).length, a2, l2, (Sj03.step st q2).1, done ++ (((out (Sj03.step st q2).2).length : Int) :: out (Sj03.step st q2).2), d, _, _, rfl, rfl, hle, ?_, ?_, fine_step Fi q2, nl2', l2r, ?_, ?_, ?_⟩
        · intro b o e
          have br : b ≠ r := ne_of_none e (s1.free hr)
          rw [upd_ne br, upd_ne br]
          refine fr _ _ (sH _ _ e) (ne_of_none e nz) (ne_of_none e nl)
        · exact ((L2'.store hr2 l2r).store upd_same l2r)
        · rw [upd_same]
          congr 2
          rw [List.map_append, List.map_cons, List.length_map, List.append_assoc]
          rfl
        · rw [tok_rest ed]
          exact W2
        · rw [eD, List.append_assoc]
    · have q1 : ¬ (i : Int) < ((xs.map V.int).length : Nat) := fun y => q (decide_eq_true y)
      rw [List.length_map] at q1
      have e0 : xs.drop i = [] := List.drop_eq_nil_of_le (by omega)
      have er : rest = [] := by
        generalize ed : xs.drop i = u at W
        rw [e0] at ed
        cases W with
        | nil => rfl
        | call q2 hSm W2 =>
          rename_i t d
          have e := congrArg List.length ed
          rw [List.length_append] at e
          have := toks_pos q2
          have e2 : 0 = (toks q2).length + t.length := e
          omega
      rw [er, List.append_nil] at eD
      rw [eD] at k
      exact ⟨_, rfl, k _ _ hr'⟩
end
end Sg
set_option Elab.async false
set_option linter.all false
set_option maxRecDepth 100000
set_option maxHeartbeats 4000000
/-! What the top has written, put together. -/
namespace Sg
open PySem PySem.Spec PyProof.Rows L2
section
variable {P : Program} {w : World} {K : PySem.W.Frag} {mg : Str → Option Value} {CS CH CB CL : Addr}
/-- a def of the top: where it stands -/
structure DefAt (K : PySem.W.Frag) (mg : Str → Option Value) (x : Str) (st : Stmt) : Prop where
  ex : ∃ (f : Addr) (fd : FuncData), Fun K x x st f fd ∧ mg x = some (.ref f)
/-- a method of a class -/
structure MethAt (K : PySem.W.Frag) (C : Addr) (m q : Str) (st : Stmt) : Prop where
  ex : ∃ (f : Addr) (fd : FuncData), Fun K m q st f fd ∧ PySem.W.findIn K (.ref C) m = some (some (.ref f)) ∧ PySem.W.isFn K (.ref f) = true
/-- a class -/
structure ClsAt (K : PySem.W.Frag) (mg : Str → Option Value) (x : Str) (C : Addr) : Prop where
  cls : Cls K C
  makes : PySem.W.makesIn K C = true
  kp : PySem.W.keepIn K (.ref C) = true
  at_ : mg x = some (.ref C)
theorem with_def {h : Heap} (X : K.In h) (G : h.Ns mainGlobals mg) {x : Str} {st : Stmt} {f : Addr} {oc : Value} {od an : Option Addr} {osl : Array (Option Value)} {kV doc pm cdv ct : Value} {R : Prop}
    (a : PySem.W.nsIn K mainGlobals x = some (some (.ref f))) (l : K.lookup f = some ⟨oc, od, .func (PySem.W.fnOf x x (defArgs st) (defBody st) (defScope st) .none kV doc pm an cdv ct), osl⟩)
    (c : PySem.W.codeIn K cdv x = true) (k : PySem.W.keepIn K (.ref f) = true) (r : DefAt K mg x st → R) : R := r ⟨⟨f, _, fun_mk l c k, PySem.W.mg_of X G a⟩⟩
theorem with_meth {y : Str} {C : Addr} (cc : ClsAt K mg y C) {m q : Str} {st : Stmt} {f : Addr} {oc : Value} {od an : Option Addr} {osl : Array (Option Value)} {kV doc pm cdv ct : Value} {R : Prop}
    (a : PySem.W.findIn K (.ref C) m = some (some (.ref f))) (i : PySem.W.isFn K (.ref f) = true) (l : K.lookup f = some ⟨oc, od, .func (PySem.W.fnOf m q (defArgs st) (defBody st) (defScope st) .none kV doc pm an cdv ct), osl⟩)
    (c : PySem.W.codeIn K cdv q = true) (k : PySem.W.keepIn K (.ref f) = true) (r : MethAt K C m q st → R) : R := r ⟨⟨f, _, fun_mk l c k, a, i⟩⟩
theorem with_cls {h : Heap} (X : K.In h) (G : h.Ns mainGlobals mg) {x : Str} {C : Addr} {R : Prop} (a : PySem.W.nsIn K mainGlobals x = some (some (.ref C)))
    (pg : PySem.W.plainGet K C Str.empty = true) (hd : PySem.W.hasDictIn K C = true) (po : PySem.W.plainOver K C = true) (sa : PySem.W.findIn K (.ref C) "__setattr__" = some (some (.builtin "object.__setattr__"))) (mk : PySem.W.makesIn K C = true) (kc : PySem.W.keepIn K (.ref C) = true)
    (r : ClsAt K mg x C → R) : R := r ⟨⟨pg, hd, po, sa⟩, mk, kc, PySem.W.mg_of X G a⟩
theorem with_no {y : Str} {C : Addr} (cc : ClsAt K mg y C) {x : Str} {R : Prop} (e : PySem.W.findIn K (.ref C) x = some none) (r : NoAttr K C x → R) : R := r e
theorem with_free {h : Heap} (X : K.In h) (G : h.Ns mainGlobals mg) {x : Str} {R : Prop} (e : PySem.W.nsIn K mainGlobals x = some none) (r : mg x = none → R) : R := r (PySem.W.mg_none_of X G e)
theorem with_num {h : Heap} (X : K.In h) (G : h.Ns mainGlobals mg) {x : Str} {n : Int} {t : Tok} {R : Prop} (e : PySem.W.nsIn K mainGlobals x = some (some (.int n t))) (r : (∃ t, mg x = some (.int n t)) → R) : R := r ⟨t, PySem.W.mg_of X G e⟩

theorem assemble {fa : Addr} (T : Txt K mg CS CH CB CL) (hfa : mg "answers" = some (.ref fa))
    (cCS : ClsAt K mg "Storm" CS)
    (cCH : ClsAt K mg "Hour" CH)
    (cCB : ClsAt K mg "Cheapest" CB)
    (cCL : ClsAt K mg "Line" CL)
    (d_iS : MethAt K CS "__init__" "Storm.__init__" xStorm)
    (d_iH : MethAt K CH "__init__" "Hour.__init__" xHour)
    (d_iB : MethAt K CB "__init__" "Cheapest.__init__" xCheapest)
    (d_iL : MethAt K CL "__init__" "Line.__init__" xLine)
    (d_m0 : MethAt K CL "begins" "Line.begins" xLBegins)
    (d_m1 : MethAt K CL "hour" "Line.hour" xLHour)
    (d_m2 : MethAt K CL "check" "Line.check" xLCheck)
    (d_m3 : MethAt K CL "best" "Line.best" xLBest)
    (d_m4 : MethAt K CL "shut" "Line.shut" xLShut)
    (d_m5 : MethAt K CL "still" "Line.still" xLStill)
    (d_m6 : MethAt K CL "needs" "Line.needs" xLNeeds)
    (d_not : DefAt K mg "not_as_told" xNot)
    (d_more : DefAt K mg "no_more_hours" xMore)
    (d_none : DefAt K mg "no_plan_can_be" xNone)
    (d_runs : DefAt K mg "runs_in" xRuns)
    (d_behind : DefAt K mg "height_behind" xBehind)
    (d_costs : DefAt K mg "hour_costs" xCosts)
    (d_wrong : DefAt K mg "what_is_wrong" xWrong)
    (d_told : DefAt K mg "plan_is_as_told" xTold)
    (d_check : DefAt K mg "check_plan" xCheck)
    (d_width : DefAt K mg "with_width" xWithWidth)
    (d_pumps : DefAt K mg "with_pumps" xWithPumps)
    (d_high : DefAt K mg "with_high" xWithHigh)
    (d_stold : DefAt K mg "storm_is_as_told" xStormTold)
    (d_htold : DefAt K mg "hour_is_as_told" xHourTold)
    (d_beyond : DefAt K mg "none_is_beyond" xBeyond)
    (d_best : DefAt K mg "best_plan" xBest)
    (d_byh : DefAt K mg "cheapest_by_height" xByHeight)
    (d_from : DefAt K mg "cheapest_from" xFrom)
    (d_with : DefAt K mg "cheapest_with" xWith)
    (d_cheaper : DefAt K mg "cheaper" xCheaper)
    (d_least : DefAt K mg "least_high" xLeast)
    (d_leastby : DefAt K mg "least_by_height" xLeastBy)
    (d_leastfrom : DefAt K mg "least_from" xLeastFrom)
    (d_answers : DefAt K mg "answers" xAnswers)
    (d_end : DefAt K mg "end_of_call" xEnd)
    (d_answer : DefAt K mg "answer_of_call" xAnswer)
    : ∃ fd : FuncData, (∀ (s : Shared) (us : List Value), us.length = (["calls"] : List Str).length → BindsTo s fd ⟨us, []⟩ ((["calls"] : List Str).zip us)) ∧ ∀ base : Heap, K.In base → base.Ns mainGlobals mg → FnOk P w K mg base CX0 9 fa fd ["calls"] (spAnswers K) := by
  obtain ⟨⟨f_not, fd_not, F_not, g_not⟩⟩ := d_not
  obtain ⟨⟨f_more, fd_more, F_more, g_more⟩⟩ := d_more
  obtain ⟨⟨f_none, fd_none, F_none, g_none⟩⟩ := d_none
  obtain ⟨⟨f_runs, fd_runs, F_runs, g_runs⟩⟩ := d_runs
  obtain ⟨⟨f_behind, fd_behind, F_behind, g_behind⟩⟩ := d_behind
  obtain ⟨⟨f_costs, fd_costs, F_costs, g_costs⟩⟩ := d_costs
  obtain ⟨⟨f_wrong, fd_wrong, F_wrong, g_wrong⟩⟩ := d_wrong
  obtain ⟨⟨f_told, fd_told, F_told, g_told⟩⟩ := d_told
  obtain ⟨⟨f_check, fd_check, F_check, g_check⟩⟩ := d_check
  obtain ⟨⟨f_width, fd_width, F_width, g_width⟩⟩ := d_width
  obtain ⟨⟨f_pumps, fd_pumps, F_pumps, g_pumps⟩⟩ := d_pumps
  obtain ⟨⟨f_high, fd_high, F_high, g_high⟩⟩ := d_high
  obtain ⟨⟨f_stold, fd_stold, F_stold, g_stold⟩⟩ := d_stold
  obtain ⟨⟨f_htold, fd_htold, F_htold, g_htold⟩⟩ := d_htold
  obtain ⟨⟨f_beyond, fd_beyond, F_beyond, g_beyond⟩⟩ := d_beyond
  obtain ⟨⟨f_best, fd_best, F_best, g_best⟩⟩ := d_best
  obtain ⟨⟨f_byh, fd_byh, F_byh, g_byh⟩⟩ := d_byh
  obtain ⟨⟨f_from, fd_from, F_from, g_from⟩⟩ := d_from
  obtain ⟨⟨f_with, fd_with, F_with, g_with⟩⟩ := d_with
  obtain ⟨⟨f_cheaper, fd_cheaper, F_cheaper, g_cheaper⟩⟩ := d_cheaper
  obtain ⟨⟨f_least, fd_least, F_least, g_least⟩⟩ := d_least
  obtain ⟨⟨f_leastby, fd_leastby, F_leastby, g_leastby⟩⟩ := d_leastby
  obtain ⟨⟨f_leastfrom, fd_leastfrom, F_leastfrom, g_leastfrom⟩⟩ := d_leastfrom
  obtain ⟨⟨f_answers, fd_answers, F_answers, g_answers⟩⟩ := d_answers
  obtain ⟨⟨f_end, fd_end, F_end, g_end⟩⟩ := d_end
  obtain ⟨⟨f_answer, fd_answer, F_answer, g_answer⟩⟩ := d_answer
  obtain ⟨⟨f_iS, fd_iS, F_iS, a_iS, i_iS⟩⟩ := d_iS
  obtain ⟨⟨f_iH, fd_iH, F_iH, a_iH, i_iH⟩⟩ := d_iH
  obtain ⟨⟨f_iB, fd_iB, F_iB, a_iB, i_iB⟩⟩ := d_iB
  obtain ⟨⟨f_iL, fd_iL, F_iL, a_iL, i_iL⟩⟩ := d_iL
  obtain ⟨⟨f_m0, fd_m0, F_m0, a_m0, i_m0⟩⟩ := d_m0
  obtain ⟨⟨f_m1, fd_m1, F_m1, a_m1, i_m1⟩⟩ := d_m1
  obtain ⟨⟨f_m2, fd_m2, F_m2, a_m2, i_m2⟩⟩ := d_m2
  obtain ⟨⟨f_m3, fd_m3, F_m3, a_m3, i_m3⟩⟩ := d_m3
  obtain ⟨⟨f_m4, fd_m4, F_m4, a_m4, i_m4⟩⟩ := d_m4
  obtain ⟨⟨f_m5, fd_m5, F_m5, a_m5, i_m5⟩⟩ := d_m5
  obtain ⟨⟨f_m6, fd_m6, F_m6, a_m6, i_m6⟩⟩ := d_m6
  have b_not : Binds K fd_not [] [] := F_not.binds (ps := []) fun _ _ _ _ _ _ us hl => match us, hl with | [], _ => rfl
  have b_more : Binds K fd_more [] [] := F_more.binds (ps := []) fun _ _ _ _ _ _ us hl => match us, hl with | [], _ => rfl
  have b_none : Binds K fd_none [] [] := F_none.binds (ps := []) fun _ _ _ _ _ _ us hl => match us, hl with | [], _ => rfl
  have b_runs : Binds K fd_runs ["storm", "hour", "height", "gate"] [] := F_runs.binds (ps := ["storm", "hour", "height", "gate"]) fun _ _ _ _ _ _ us hl => match us, hl with | [_, _, _, _], _ => rfl
  have b_behind : Binds K fd_behind nBehind [] := F_behind.binds (ps := nBehind) fun _ _ _ _ _ _ us hl => match us, hl with | [_, _, _, _, _], _ => rfl
  have b_costs : Binds K fd_costs nBehind [] := F_costs.binds (ps := nBehind) fun _ _ _ _ _ _ us hl => match us, hl with | [_, _, _, _, _], _ => rfl
  have b_wrong : Binds K fd_wrong nWrong [] := F_wrong.binds (ps := nWrong) fun _ _ _ _ _ _ us hl => match us, hl with | [_, _, _], _ => rfl
  have b_told : Binds K fd_told pTold [] := F_told.binds (ps := pTold) fun _ _ _ _ _ _ us hl => match us, hl with | [_, _], _ => rfl
  have b_check : Binds K fd_check pCheckPlan [] := F_check.binds (ps := pCheckPlan) fun _ _ _ _ _ _ us hl => match us, hl with | [_, _, _], _ => rfl
  have b_width : Binds K fd_width nWidth [] := F_width.binds (ps := nWidth) fun _ _ _ _ _ _ us hl => match us, hl with | [_, _], _ => rfl
  have b_pumps : Binds K fd_pumps nPumps [] := F_pumps.binds (ps := nPumps) fun _ _ _ _ _ _ us hl => match us, hl with | [_, _], _ => rfl
  have b_high : Binds K fd_high nHigh [] := F_high.binds (ps := nHigh) fun _ _ _ _ _ _ us hl => match us, hl with | [_, _], _ => rfl
  have b_stold : Binds K fd_stold ["numbers"] [] := F_stold.binds (ps := ["numbers"]) fun _ _ _ _ _ _ us hl => match us, hl with | [_], _ => rfl
  have b_htold : Binds K fd_htold ["numbers"] [] := F_htold.binds (ps := ["numbers"]) fun _ _ _ _ _ _ us hl => match us, hl with | [_], _ => rfl
  have b_beyond : Binds K fd_beyond pBeyond [] := F_beyond.binds (ps := pBeyond) fun _ _ _ _ _ _ us hl => match us, hl with | [_, _], _ => rfl
  have b_best : Binds K fd_best pBestPlan [] := F_best.binds (ps := pBestPlan) fun _ _ _ _ _ _ us hl => match us, hl with | [_, _], _ => rfl
  have b_byh : Binds K fd_byh pByHeight [] := F_byh.binds (ps := pByHeight) fun _ _ _ _ _ _ us hl => match us, hl with | [_, _, _], _ => rfl
  have b_from : Binds K fd_from pFrom [] := F_from.binds (ps := pFrom) fun _ _ _ _ _ _ us hl => match us, hl with | [_, _, _, _], _ => rfl
  have b_with : Binds K fd_with pWith [] := F_with.binds (ps := pWith) fun _ _ _ _ _ _ us hl => match us, hl with | [_, _, _, _, _, _], _ => rfl
  have b_cheaper : Binds K fd_cheaper nCheaper [] := F_cheaper.binds (ps := nCheaper) fun _ _ _ _ _ _ us hl => match us, hl with | [_, _], _ => rfl
  have b_least : Binds K fd_least pBestPlan [] := F_least.binds (ps := pBestPlan) fun _ _ _ _ _ _ us hl => match us, hl with | [_, _], _ => rfl
  have b_leastby : Binds K fd_leastby pByHeight [] := F_leastby.binds (ps := pByHeight) fun _ _ _ _ _ _ us hl => match us, hl with | [_, _, _], _ => rfl
  have b_leastfrom : Binds K fd_leastfrom pFrom [] := F_leastfrom.binds (ps := pFrom) fun _ _ _ _ _ _ us hl => match us, hl with | [_, _, _, _], _ => rfl
  have b_end : Binds K fd_end nEnd [] := F_end.binds (ps := nEnd) fun _ _ _ _ _ _ us hl => match us, hl with | [_, _], _ => rfl
  have b_answer : Binds K fd_answer nAnswer [] := F_answer.binds (ps := nAnswer) fun _ _ _ _ _ _ us hl => match us, hl with | [_, _, _, _], _ => rfl
  have b_iS : Binds K fd_iS nStorm [] := F_iS.binds (ps := nStorm) fun _ _ _ _ _ _ us hl => match us, hl with | [_, _, _, _, _, _, _], _ => rfl
  have b_iH : Binds K fd_iH nHour [] := F_iH.binds (ps := nHour) fun _ _ _ _ _ _ us hl => match us, hl with | [_, _, _, _], _ => rfl
  have b_iB : Binds K fd_iB nCheapest [] := F_iB.binds (ps := nCheapest) fun _ _ _ _ _ _ us hl => match us, hl with | [_, _, _, _], _ => rfl
  have b_iL : Binds K fd_iL nSelf [] := F_iL.binds (ps := nSelf) fun _ _ _ _ _ _ us hl => match us, hl with | [_], _ => rfl
  have b_m0 : Binds K fd_m0 nLNumbers [] := F_m0.binds (ps := nLNumbers) fun _ _ _ _ _ _ us hl => match us, hl with | [_, _], _ => rfl
  have b_m1 : Binds K fd_m1 nLNumbers [] := F_m1.binds (ps := nLNumbers) fun _ _ _ _ _ _ us hl => match us, hl with | [_, _], _ => rfl
  have b_m2 : Binds K fd_m2 nLCheck [] := F_m2.binds (ps := nLCheck) fun _ _ _ _ _ _ us hl => match us, hl with | [_, _], _ => rfl
  have b_m3 : Binds K fd_m3 nSelf [] := F_m3.binds (ps := nSelf) fun _ _ _ _ _ _ us hl => match us, hl with | [_], _ => rfl
  have b_m4 : Binds K fd_m4 nSelf [] := F_m4.binds (ps := nSelf) fun _ _ _ _ _ _ us hl => match us, hl with | [_], _ => rfl
  have b_m5 : Binds K fd_m5 nSelf [] := F_m5.binds (ps := nSelf) fun _ _ _ _ _ _ us hl => match us, hl with | [_], _ => rfl
  have b_m6 : Binds K fd_m6 nSelf [] := F_m6.binds (ps := nSelf) fun _ _ _ _ _ _ us hl => match us, hl with | [_], _ => rfl
  have M_CS : Mk K CS f_iS := ⟨cCS.makes, a_iS, i_iS, cCS.kp⟩
  have M_CH : Mk K CH f_iH := ⟨cCH.makes, a_iH, i_iH, cCH.kp⟩
  have M_CB : Mk K CB f_iB := ⟨cCB.makes, a_iB, i_iB, cCB.kp⟩
  have M_CL : Mk K CL f_iL := ⟨cCL.makes, a_iL, i_iL, cCL.kp⟩
  have e := hfa.symm.trans g_answers
  cases e
  refine ⟨fd_answers, fun s us hu => ?_, fun base _ _ => ?_⟩
  · obtain ⟨oc, od, kV, doc, pm, an, cdv, ct, osl, rfl, lk, hcd⟩ := F_answers.ex
    match us, hu with
    | [_], _ => exact .of_eq rfl
  · skip
    have G_iS : FnOk P w K mg base CX0 1 f_iS fd_iS nStorm (spStorm CS) := ok_storm F_iS T
    have G_iH : FnOk P w K mg base CX0 1 f_iH fd_iH nHour (spHour CH) := ok_hour F_iH T
    have G_iB : FnOk P w K mg base CX0 1 f_iB fd_iB nCheapest (spCheapest CB) := ok_cheapest F_iB T
    have G_not : FnOk P w K mg base CX0 1 f_not fd_not [] (spList [-1]) := ok_not F_not
    have G_more : FnOk P w K mg base CX0 1 f_more fd_more [] (spList [-5]) := ok_more F_more
    have G_none : FnOk P w K mg base CX0 1 f_none fd_none [] (spList [-6]) := ok_none F_none
    have G_runs : FnOk P w K mg base CX0 1 f_runs fd_runs ["storm", "hour", "height", "gate"] (spRuns CS CH) := ok_runs F_runs T
    have G_behind : FnOk P w K mg base CX0 2 f_behind fd_behind nBehind (spBehind CS CH) := ok_behind F_behind T G_runs F_runs.kp b_runs g_runs
    have G_costs : FnOk P w K mg base CX0 2 f_costs fd_costs nBehind (spCosts CS CH) := ok_costs F_costs T G_runs F_runs.kp b_runs g_runs
    have G_wrong : FnOk P w K mg base CX0 1 f_wrong fd_wrong nWrong (spWrong CS) := ok_wrong F_wrong T
    have G_cheaper : FnOk P w K mg base CX0 3 f_cheaper fd_cheaper nCheaper (spCheaper CB) := ok_cheaper F_cheaper T M_CB G_iB b_iB
    have G_with : FnOk P w K mg base CX0 3 f_with fd_with pWith (spWith CS CH CB) := ok_with F_with T G_behind F_behind.kp b_behind g_behind G_wrong F_wrong.kp b_wrong g_wrong G_costs F_costs.kp b_costs g_costs M_CB G_iB b_iB
    have G_from : FnOk P w K mg base CX0 4 f_from fd_from pFrom (spFrom CS CH CB) := ok_from F_from T G_with F_with.kp b_with g_with G_cheaper F_cheaper.kp b_cheaper g_cheaper
    have G_byh : FnOk P w K mg base CX0 5 f_byh fd_byh pByHeight (spByHeight CS CH CB) := ok_byHeight F_byh T G_from F_from.kp b_from g_from
    have G_best : FnOk P w K mg base CX0 6 f_best fd_best pBestPlan (spBestPlan CS CH) := ok_bestPlan F_best T G_byh F_byh.kp b_byh g_byh G_none F_none.kp b_none g_none M_CB G_iB b_iB
    have G_told : FnOk P w K mg base CX0 1 f_told fd_told pTold (spTold CH) := ok_told F_told T
    have G_check : FnOk P w K mg base CX0 3 f_check fd_check pCheckPlan (spCheckPlan CS CH) := ok_checkPlan F_check T G_told F_told.kp b_told g_told G_not F_not.kp b_not g_not G_none F_none.kp b_none g_none G_behind F_behind.kp b_behind g_behind G_wrong F_wrong.kp b_wrong g_wrong G_costs F_costs.kp b_costs g_costs
    have G_beyond : FnOk P w K mg base CX0 1 f_beyond fd_beyond pBeyond spBeyond := ok_beyond F_beyond T
    have G_stold : FnOk P w K mg base CX0 2 f_stold fd_stold ["numbers"] spStormTold := ok_stormTold F_stold T G_beyond F_beyond.kp b_beyond g_beyond
    have G_htold : FnOk P w K mg base CX0 2 f_htold fd_htold ["numbers"] spHourTold := ok_hourTold F_htold T G_beyond F_beyond.kp b_beyond g_beyond
    have G_width : FnOk P w K mg base CX0 3 f_width fd_width nWidth (spOther CS fun s x => { s with wide := x }) := ok_width F_width T M_CS G_iS b_iS
    have G_pumps : FnOk P w K mg base CX0 3 f_pumps fd_pumps nPumps (spOther CS fun s x => { s with pumps := x }) := ok_pumps F_pumps T M_CS G_iS b_iS
    have G_high : FnOk P w K mg base CX0 3 f_high fd_high nHigh (spOther CS fun s x => { s with high := x }) := ok_high F_high T M_CS G_iS b_iS
    have G_leastfrom : FnOk P w K mg base CX0 3 f_leastfrom fd_leastfrom pFrom (spLeastFrom CS CH) := ok_leastFrom F_leastfrom T G_behind F_behind.kp b_behind g_behind G_wrong F_wrong.kp b_wrong g_wrong
    have G_leastby : FnOk P w K mg base CX0 4 f_leastby fd_leastby pByHeight (spLeastBy CS CH) := ok_leastBy F_leastby T G_leastfrom F_leastfrom.kp b_leastfrom g_leastfrom
    have G_least : FnOk P w K mg base CX0 5 f_least fd_least pBestPlan (spLeast CS CH) := ok_least F_least T G_leastby F_leastby.kp b_leastby g_leastby G_none F_none.kp b_none g_none G_high F_high.kp b_high g_high
    have G_iL : FnOk P w K mg base CX0 3 f_iL fd_iL nSelf (spLine CS CH CL) := ok_line F_iL T M_CS G_iS b_iS
    have G_m0 : FnOk P w K mg base CX0 3 f_m0 fd_m0 nLNumbers (spLBegins CS CH CL) := ok_lBegins F_m0 T G_stold F_stold.kp b_stold g_stold G_not F_not.kp b_not g_not M_CS G_iS b_iS
    have G_m1 : FnOk P w K mg base CX0 3 f_m1 fd_m1 nLNumbers (spLHour CS CH CL) := ok_lHour F_m1 T G_htold F_htold.kp b_htold g_htold G_not F_not.kp b_not g_not G_more F_more.kp b_more g_more M_CH G_iH b_iH
    have G_m2 : FnOk P w K mg base CX0 4 f_m2 fd_m2 nLCheck (spLCheck CS CH CL) := ok_lCheck F_m2 T G_check F_check.kp b_check g_check
    have G_m3 : FnOk P w K mg base CX0 7 f_m3 fd_m3 nSelf (spLDo CS CH CL .best) := ok_lBest F_m3 T G_best F_best.kp b_best g_best
    have G_m4 : FnOk P w K mg base CX0 7 f_m4 fd_m4 nSelf (spLDo CS CH CL .shut) := ok_lShut F_m4 T G_best F_best.kp b_best g_best G_width F_width.kp b_width g_width
    have G_m5 : FnOk P w K mg base CX0 7 f_m5 fd_m5 nSelf (spLDo CS CH CL .still) := ok_lStill F_m5 T G_best F_best.kp b_best g_best G_pumps F_pumps.kp b_pumps g_pumps
    have G_m6 : FnOk P w K mg base CX0 6 f_m6 fd_m6 nSelf (spLDo CS CH CL .needs) := ok_lNeeds F_m6 T G_least F_least.kp b_least g_least
    have G_end : FnOk P w K mg base CX0 1 f_end fd_end nEnd (spEnd K) := ok_end F_end T
    have G_answer : FnOk P w K mg base CX0 8 f_answer fd_answer nAnswer (spAnswer K CS CH CL) := ok_answer F_answer T ⟨a_m0, i_m0, F_m0.kp⟩ G_m0 b_m0 ⟨a_m1, i_m1, F_m1.kp⟩ G_m1 b_m1 ⟨a_m2, i_m2, F_m2.kp⟩ G_m2 b_m2 ⟨a_m3, i_m3, F_m3.kp⟩ G_m3 b_m3 ⟨a_m4, i_m4, F_m4.kp⟩ G_m4 b_m4 ⟨a_m5, i_m5, F_m5.kp⟩ G_m5 b_m5 ⟨a_m6, i_m6, F_m6.kp⟩ G_m6 b_m6
    exact ok_answers F_answers T M_CL G_iL b_iL G_end F_end.kp b_end g_end G_answer F_answer.kp b_answer g_answer
end
end Sg
set_option Elab.async false
set_option linter.all false
open PySem PySem.W PyProof.Rows
set_option maxRecDepth 100000 in
set_option maxHeartbeats 0 in
theorem PySem.Challenge.cw_stormgate_s01_answers_holds : PySem.Challenge.rw_stormgate_s01_answers.Holds := by
  w_on; k_headS; (case hw => exact ⟨[.list [.int 3]], by decide +kernel, by decide +kernel⟩)
  k_fillS
  refine L2.walk_specK (r := PySem.Challenge.rw_stormgate_s01_answers) (k := 9) (CX := L2.CX0) (ps := ["calls"]) (sp := Sg.spAnswers) (by decide +kernel) rfl rfl ⟨rfl, by decide, by decide⟩ (fun w h Y => PySem.W.kIn_of Y) ?F ?S (fun _ _ _ _ z => z)
  case F =>
    intro w mg fa h Y KX G hmg
    (refine' Sg.with_cls (x := "Storm") KX G ?a ?pg ?hd ?po ?sa ?mk ?kc ?_); (case a => k_is); (case pg => k_is); (case hd => k_is); (case po => k_is); (case sa => k_is); (case mk => k_is); (case kc => k_is); intro cCS
    (refine' Sg.with_cls (x := "Hour") KX G ?a ?pg ?hd ?po ?sa ?mk ?kc ?_); (case a => k_is); (case pg => k_is); (case hd => k_is); (case po => k_is); (case sa => k_is); (case mk => k_is); (case kc => k_is); intro cCH
    (refine' Sg.with_cls (x := "Cheapest") KX G ?a ?pg ?hd ?po ?sa ?mk ?kc ?_); (case a => k_is); (case pg => k_is); (case hd => k_is); (case po => k_is); (case sa => k_is); (case mk => k_is); (case kc => k_is); intro cCB
    (refine' Sg.with_cls (x := "Line") KX G ?a ?pg ?hd ?po ?sa ?mk ?kc ?_); (case a => k_is); (case pg => k_is); (case hd => k_is); (case po => k_is); (case sa => k_is); (case mk => k_is); (case kc => k_is); intro cCL
    (refine' Sg.with_meth cCS (m := "__init__") (q := "Storm.__init__") (st := Sg.xStorm) ?a ?i ?l ?c ?k ?_); (case a => k_is); (case i => k_is); (case l => k_is); (case c => k_is); (case k => k_is); intro d_iS
    (refine' Sg.with_meth cCH (m := "__init__") (q := "Hour.__init__") (st := Sg.xHour) ?a ?i ?l ?c ?k ?_); (case a => k_is); (case i => k_is); (case l => k_is); (case c => k_is); (case k => k_is); intro d_iH
    (refine' Sg.with_meth cCB (m := "__init__") (q := "Cheapest.__init__") (st := Sg.xCheapest) ?a ?i ?l ?c ?k ?_); (case a => k_is); (case i => k_is); (case l => k_is); (case c => k_is); (case k => k_is); intro d_iB
    (refine' Sg.with_meth cCL (m := "__init__") (q := "Line.__init__") (st := Sg.xLine) ?a ?i ?l ?c ?k ?_); (case a => k_is); (case i => k_is); (case l => k_is); (case c => k_is); (case k => k_is); intro d_iL
    (refine' Sg.with_meth cCL (m := "begins") (q := "Line.begins") (st := Sg.xLBegins) ?a ?i ?l ?c ?k ?_); (case a => k_is); (case i => k_is); (case l => k_is); (case c => k_is); (case k => k_is); intro d_m0
    (refine' Sg.with_meth cCL (m := "hour") (q := "Line.hour") (st := Sg.xLHour) ?a ?i ?l ?c ?k ?_); (case a => k_is); (case i => k_is); (case l => k_is); (case c => k_is); (case k => k_is); intro d_m1
    (refine' Sg.with_meth cCL (m := "check") (q := "Line.check") (st := Sg.xLCheck) ?a ?i ?l ?c ?k ?_); (case a => k_is); (case i => k_is); (case l => k_is); (case c => k_is); (case k => k_is); intro d_m2
    (refine' Sg.with_meth cCL (m := "best") (q := "Line.best") (st := Sg.xLBest) ?a ?i ?l ?c ?k ?_); (case a => k_is); (case i => k_is); (case l => k_is); (case c => k_is); (case k => k_is); intro d_m3
    (refine' Sg.with_meth cCL (m := "shut") (q := "Line.shut") (st := Sg.xLShut) ?a ?i ?l ?c ?k ?_); (case a => k_is); (case i => k_is); (case l => k_is); (case c => k_is); (case k => k_is); intro d_m4
    (refine' Sg.with_meth cCL (m := "still") (q := "Line.still") (st := Sg.xLStill) ?a ?i ?l ?c ?k ?_); (case a => k_is); (case i => k_is); (case l => k_is); (case c => k_is); (case k => k_is); intro d_m5
    (refine' Sg.with_meth cCL (m := "needs") (q := "Line.needs") (st := Sg.xLNeeds) ?a ?i ?l ?c ?k ?_); (case a => k_is); (case i => k_is); (case l => k_is); (case c => k_is); (case k => k_is); intro d_m6
    (refine' Sg.with_def (x := "not_as_told") (st := Sg.xNot) KX G ?a ?l ?c ?k ?_); (case a => k_is); (case l => k_is); (case c => k_is); (case k => k_is); intro d_not
    (refine' Sg.with_def (x := "no_more_hours") (st := Sg.xMore) KX G ?a ?l ?c ?k ?_); (case a => k_is); (case l => k_is); (case c => k_is); (case k => k_is); intro d_more
    (refine' Sg.with_def (x := "no_plan_can_be") (st := Sg.xNone) KX G ?a ?l ?c ?k ?_); (case a => k_is); (case l => k_is); (case c => k_is); (case k => k_is); intro d_none
    (refine' Sg.with_def (x := "runs_in") (st := Sg.xRuns) KX G ?a ?l ?c ?k ?_); (case a => k_is); (case l => k_is); (case c => k_is); (case k => k_is); intro d_runs
    (refine' Sg.with_def (x := "height_behind") (st := Sg.xBehind) KX G ?a ?l ?c ?k ?_); (case a => k_is); (case l => k_is); (case c => k_is); (case k => k_is); intro d_behind
    (refine' Sg.with_def (x := "hour_costs") (st := Sg.xCosts) KX G ?a ?l ?c ?k ?_); (case a => k_is); (case l => k_is); (case c => k_is); (case k => k_is); intro d_costs
    (refine' Sg.with_def (x := "what_is_wrong") (st := Sg.xWrong) KX G ?a ?l ?c ?k ?_); (case a => k_is); (case l => k_is); (case c => k_is); (case k => k_is); intro d_wrong
    (refine' Sg.with_def (x := "plan_is_as_told") (st := Sg.xTold) KX G ?a ?l ?c ?k ?_); (case a => k_is); (case l => k_is); (case c => k_is); (case k => k_is); intro d_told
    (refine' Sg.with_def (x := "check_plan") (st := Sg.xCheck) KX G ?a ?l ?c ?k ?_); (case a => k_is); (case l => k_is); (case c => k_is); (case k => k_is); intro d_check
    (refine' Sg.with_def (x := "with_width") (st := Sg.xWithWidth) KX G ?a ?l ?c ?k ?_); (case a => k_is); (case l => k_is); (case c => k_is); (case k => k_is); intro d_width
    (refine' Sg.with_def (x := "with_pumps") (st := Sg.xWithPumps) KX G ?a ?l ?c ?k ?_); (case a => k_is); (case l => k_is); (case c => k_is); (case k => k_is); intro d_pumps
    (refine' Sg.with_def (x := "with_high") (st := Sg.xWithHigh) KX G ?a ?l ?c ?k ?_); (case a => k_is); (case l => k_is); (case c => k_is); (case k => k_is); intro d_high
    (refine' Sg.with_def (x := "storm_is_as_told") (st := Sg.xStormTold) KX G ?a ?l ?c ?k ?_); (case a => k_is); (case l => k_is); (case c => k_is); (case k => k_is); intro d_stold
    (refine' Sg.with_def (x := "hour_is_as_told") (st := Sg.xHourTold) KX G ?a ?l ?c ?k ?_); (case a => k_is); (case l => k_is); (case c => k_is); (case k => k_is); intro d_htold
    (refine' Sg.with_def (x := "none_is_beyond") (st := Sg.xBeyond) KX G ?a ?l ?c ?k ?_); (case a => k_is); (case l => k_is); (case c => k_is); (case k => k_is); intro d_beyond
    (refine' Sg.with_def (x := "best_plan") (st := Sg.xBest) KX G ?a ?l ?c ?k ?_); (case a => k_is); (case l => k_is); (case c => k_is); (case k => k_is); intro d_best
    (refine' Sg.with_def (x := "cheapest_by_height") (st := Sg.xByHeight) KX G ?a ?l ?c ?k ?_); (case a => k_is); (case l => k_is); (case c => k_is); (case k => k_is); intro d_byh
    (refine' Sg.with_def (x := "cheapest_from") (st := Sg.xFrom) KX G ?a ?l ?c ?k ?_); (case a => k_is); (case l => k_is); (case c => k_is); (case k => k_is); intro d_from
    (refine' Sg.with_def (x := "cheapest_with") (st := Sg.xWith) KX G ?a ?l ?c ?k ?_); (case a => k_is); (case l => k_is); (case c => k_is); (case k => k_is); intro d_with
    (refine' Sg.with_def (x := "cheaper") (st := Sg.xCheaper) KX G ?a ?l ?c ?k ?_); (case a => k_is); (case l => k_is); (case c => k_is); (case k => k_is); intro d_cheaper
    (refine' Sg.with_def (x := "least_high") (st := Sg.xLeast) KX G ?a ?l ?c ?k ?_); (case a => k_is); (case l => k_is); (case c => k_is); (case k => k_is); intro d_least
    (refine' Sg.with_def (x := "least_by_height") (st := Sg.xLeastBy) KX G ?a ?l ?c ?k ?_); (case a => k_is); (case l => k_is); (case c => k_is); (case k => k_is); intro d_leastby
    (refine' Sg.with_def (x := "least_from") (st := Sg.xLeastFrom) KX G ?a ?l ?c ?k ?_); (case a => k_is); (case l => k_is); (case c => k_is); (case k => k_is); intro d_leastfrom
    (refine' Sg.with_def (x := "answers") (st := Sg.xAnswers) KX G ?a ?l ?c ?k ?_); (case a => k_is); (case l => k_is); (case c => k_is); (case k => k_is); intro d_answers
    (refine' Sg.with_def (x := "end_of_call") (st := Sg.xEnd) KX G ?a ?l ?c ?k ?_); (case a => k_is); (case l => k_is); (case c => k_is); (case k => k_is); intro d_end
    (refine' Sg.with_def (x := "answer_of_call") (st := Sg.xAnswer) KX G ?a ?l ?c ?k ?_); (case a => k_is); (case l => k_is); (case c => k_is); (case k => k_is); intro d_answer
    (refine' Sg.with_no cCS (x := "stands") ?e ?_); (case e => k_is); intro n_sStands
    (refine' Sg.with_no cCS (x := "low") ?e ?_); (case e => k_is); intro n_sLow
    (refine' Sg.with_no cCS (x := "high") ?e ?_); (case e => k_is); intro n_sHigh
    (refine' Sg.with_no cCS (x := "pumps") ?e ?_); (case e => k_is); intro n_sPumps
    (refine' Sg.with_no cCS (x := "width") ?e ?_); (case e => k_is); intro n_sWidth
    (refine' Sg.with_no cCS (x := "salt") ?e ?_); (case e => k_is); intro n_sSalt
    (refine' Sg.with_no cCH (x := "rain") ?e ?_); (case e => k_is); intro n_hRain
    (refine' Sg.with_no cCH (x := "sea") ?e ?_); (case e => k_is); intro n_hSea
    (refine' Sg.with_no cCH (x := "price") ?e ?_); (case e => k_is); intro n_hPrice
    (refine' Sg.with_no cCB (x := "cost") ?e ?_); (case e => k_is); intro n_bCost
    (refine' Sg.with_no cCB (x := "plans") ?e ?_); (case e => k_is); intro n_bPlans
    (refine' Sg.with_no cCB (x := "doings") ?e ?_); (case e => k_is); intro n_bDoings
    (refine' Sg.with_no cCL (x := "storm") ?e ?_); (case e => k_is); intro n_lStorm
    (refine' Sg.with_no cCL (x := "hours") ?e ?_); (case e => k_is); intro n_lHours
    (refine' Sg.with_free (x := "len") KX G ?e ?_); (case e => k_is); intro z_len
    (refine' Sg.with_free (x := "min") KX G ?e ?_); (case e => k_is); intro z_min
    (refine' Sg.with_free (x := "max") KX G ?e ?_); (case e => k_is); intro z_max
    (refine' Sg.with_free (x := "range") KX G ?e ?_); (case e => k_is); intro z_range
    (refine' Sg.with_free (x := "zip") KX G ?e ?_); (case e => k_is); intro z_zip
    (refine' Sg.with_free (x := "enumerate") KX G ?e ?_); (case e => k_is); intro z_enumerate
    (refine' Sg.with_free (x := "reversed") KX G ?e ?_); (case e => k_is); intro z_reversed
    (refine' Sg.with_num (x := "HIGHEST") (n := 60) KX G ?e ?_); (case e => k_is); intro u_highest
    (refine' Sg.with_num (x := "MOST_HOURS") (n := 6) KX G ?e ?_); (case e => k_is); intro u_most
    (refine' Sg.with_num (x := "BEGINS") (n := 0) KX G ?e ?_); (case e => k_is); intro u_cBegins
    (refine' Sg.with_num (x := "HOUR") (n := 1) KX G ?e ?_); (case e => k_is); intro u_cHour
    (refine' Sg.with_num (x := "CHECK") (n := 2) KX G ?e ?_); (case e => k_is); intro u_cCheck
    (refine' Sg.with_num (x := "BEST") (n := 3) KX G ?e ?_); (case e => k_is); intro u_cBest
    (refine' Sg.with_num (x := "SHUT") (n := 4) KX G ?e ?_); (case e => k_is); intro u_cShut
    (refine' Sg.with_num (x := "STILL") (n := 5) KX G ?e ?_); (case e => k_is); intro u_cStill
    have T : Sg.Txt _ mg _ _ _ _ := ⟨cCS.cls, cCH.cls, cCB.cls, cCL.cls, n_sStands, n_sLow, n_sHigh, n_sPumps, n_sWidth, n_sSalt, n_hRain, n_hSea, n_hPrice, n_bCost, n_bPlans, n_bDoings, n_lStorm, n_lHours, cCS.at_, cCH.at_, cCB.at_, cCL.at_, z_len, z_min, z_max, z_range, z_zip, z_enumerate, z_reversed, u_highest, u_most, u_cBegins, u_cHour, u_cCheck, u_cBest, u_cShut, u_cStill⟩
    exact Sg.assemble T hmg cCS cCH cCB cCL d_iS d_iH d_iB d_iL d_m0 d_m1 d_m2 d_m3 d_m4 d_m5 d_m6 d_not d_more d_none d_runs d_behind d_costs d_wrong d_told d_check d_width d_pumps d_high d_stold d_htold d_beyond d_best d_byh d_from d_with d_cheaper d_least d_leastby d_leastfrom d_answers d_end d_answer
  case S =>
    intro K H xs a hO hwi hask hx
    cases hx with
    | cons h1 h2 =>
      cases h2
      cases h1 with
      | lst hs ha =>
        have e := L2.ints_dw a.1 _ ha
        subst e
        have hk : PySj03.answers_asked a.1 = true := hask
        exact ⟨_, a.1, PySj03.answers a.1, rfl, hs, Sg.asked_line hk, Sg.asked_short hk, fun H' p hp => .lst (L2.SqL.of hp) (L2.dw_ints _)⟩
#print axioms PySem.Challenge.cw_stormgate_s01_answers_holds
