import PyProof.Rows.All
import Wide.All
import OpenK.AllK
import Wide.FinOn
import Open.SpecLaws
import KE.OsGo
import HandS.ForSpec
import HandS.Iter
import HandS.Walk
import HandS.Wide
import HandS.CallLocal
import HandS.Evl
import PySem.Challenge.RW_haltdays_s01_answers
set_option Elab.async false
set_option maxRecDepth 100000
set_option maxHeartbeats 8000000
namespace HM
open Kqk5
/-- what a day brings if what follows is worth x -/
def goOn (d : Day) (x : Rat) : Rat := quietProbability d * ((d.gain : Rat) + x) - eventProbability d * (d.cost : Rat)
/-- the numerator that is computed, not reduced -/
def goTop (d : Day) (x : Rat) : Int := ((d.denominator : Int) - d.numerator) * ((d.gain : Int) * x.den + x.num) - (d.numerator : Int) * d.cost * x.den
def goBot (d : Day) (x : Rat) : Nat := d.denominator * x.den
theorem goOn_eq (d : Day) (x : Rat) (h : d.denominator ≠ 0) : goOn d x = mkRat (goTop d x) (goBot d x) := by
  have hD : (d.denominator : Rat) ≠ 0 := by simpa using h
  have hB : (x.den : Rat) ≠ 0 := by simpa using x.den_nz
  have hx : x = (x.num : Rat) / (x.den : Rat) := by rw [← Rat.mkRat_eq_div, Rat.mkRat_self]
  rw [Rat.mkRat_eq_div]
  unfold goOn goTop goBot quietProbability eventProbability
  simp only [Rat.intCast_sub, Rat.intCast_mul, Rat.intCast_add, Rat.intCast_natCast, Rat.natCast_mul]
  generalize (d.denominator : Rat) = D at *
  generalize (d.numerator : Rat) = n at *
  generalize (d.gain : Rat) = g at *
  generalize (d.cost : Rat) = c at *
  generalize (x.den : Rat) = B at *
  generalize (x.num : Rat) = N at *
  subst hx
  grind
theorem mk_num (t : Int) (b : Nat) (h : b ≠ 0) : (mkRat t b).num = t / ((Nat.gcd t.natAbs b : Nat) : Int) := by
  rw [Rat.num_mkRat, if_neg h, Nat.gcd_comm]
theorem mk_den (t : Int) (b : Nat) (h : b ≠ 0) : ((mkRat t b).den : Int) = (b : Int) / ((Nat.gcd t.natAbs b : Nat) : Int) := by
  rw [Rat.den_mkRat, if_neg h, Nat.gcd_comm]
  rfl
/-- the size of a fraction: both numbers below 2 ^ k -/
def Sz (x : Rat) (k : Nat) : Prop := x.num.natAbs < 2 ^ k ∧ x.den < 2 ^ k
theorem Sz.zero {k : Nat} (h : 0 < k) : Sz 0 k := by
  have : 1 < 2 ^ k := Nat.one_lt_two_pow (by omega)
  exact ⟨by show 0 < _; omega, this⟩
theorem Sz.mono {x : Rat} {j k : Nat} (s : Sz x j) (h : j ≤ k) : Sz x k :=
  ⟨Nat.lt_of_lt_of_le s.1 (Nat.pow_le_pow_right (by omega) h), Nat.lt_of_lt_of_le s.2 (Nat.pow_le_pow_right (by omega) h)⟩
theorem Sz.mk {t : Int} {b k : Nat} (ht : t.natAbs < 2 ^ k) (hb : b < 2 ^ k) (h : b ≠ 0) : Sz (mkRat t b) k := by
  constructor
  · rw [mk_num t b h]
    exact Nat.lt_of_le_of_lt (Int.natAbs_ediv_le_natAbs _ _) ht
  · have := mk_den t b h
    have e : (mkRat t b).den = b / Nat.gcd t.natAbs b := by
      rw [Rat.den_mkRat, if_neg h, Nat.gcd_comm]
    rw [e]
    exact Nat.lt_of_le_of_lt (Nat.div_le_self _ _) hb
/-- a day in its ranges -/
def Ok (d : Day) : Prop := d.gain ≤ 1000 ∧ 1 ≤ d.denominator ∧ d.denominator ≤ 100 ∧ d.numerator ≤ d.denominator ∧ d.cost ≤ 10000
theorem mul_lt {i j : Int} {a b : Nat} (ha : i.natAbs < 2 ^ a) (hb : j.natAbs < 2 ^ b) : (i * j).natAbs < 2 ^ (a + b) := by
  rw [Int.natAbs_mul, Nat.pow_add]
  exact Nat.mul_lt_mul'' ha hb
theorem add_lt {i j : Int} {a : Nat} (ha : i.natAbs < 2 ^ a) (hb : j.natAbs < 2 ^ a) : (i + j).natAbs < 2 ^ (a + 1) := by
  have := Int.natAbs_add_le i j
  rw [Nat.pow_succ]
  omega
theorem sub_lt {i j : Int} {a : Nat} (ha : i.natAbs < 2 ^ a) (hb : j.natAbs < 2 ^ a) : (i - j).natAbs < 2 ^ (a + 1) := by
  have := Int.natAbs_sub_le i j
  rw [Nat.pow_succ]
  omega
theorem lt_mono {i : Int} {a b : Nat} (h : i.natAbs < 2 ^ a) (l : a ≤ b) : i.natAbs < 2 ^ b := Nat.lt_of_lt_of_le h (Nat.pow_le_pow_right (by omega) l)
/-- the sizes of what going on computes -/
structure GoSz (d : Day) (x : Rat) (k : Nat) : Prop where
  gb : ((d.gain : Int) * x.den).natAbs < 2 ^ (10 + k)
  sum : ((d.gain : Int) * x.den + x.num).natAbs < 2 ^ (11 + k)
  qt : ((d.denominator : Int) - d.numerator).natAbs < 2 ^ 7
  qp : (((d.denominator : Int) - d.numerator) * ((d.gain : Int) * x.den + x.num)).natAbs < 2 ^ (18 + k)
  nc : ((d.numerator : Int) * d.cost).natAbs < 2 ^ 21
  ncx : ((d.numerator : Int) * d.cost * x.den).natAbs < 2 ^ (21 + k)
  top : (goTop d x).natAbs < 2 ^ (22 + k)
  bot : goBot d x < 2 ^ (7 + k)
theorem goSz {d : Day} {x : Rat} {k : Nat} (h : Ok d) (s : Sz x k) : GoSz d x k := by
  obtain ⟨h1, h2, h3, h4, h5⟩ := h
  have g : (d.gain : Int).natAbs < 2 ^ 10 := by show d.gain < 1024; omega
  have xd : (x.den : Int).natAbs < 2 ^ k := s.2
  have q1 : ((d.gain : Int) * x.den).natAbs < 2 ^ (10 + k) := mul_lt g xd
  have q2 : ((d.gain : Int) * x.den + x.num).natAbs < 2 ^ (11 + k) := lt_mono (add_lt q1 (lt_mono s.1 (by omega))) (by omega)
  have q3 : ((d.denominator : Int) - d.numerator).natAbs < 2 ^ 7 := by show _ < 128; omega
  have q4 := lt_mono (mul_lt q3 q2) (b := 18 + k) (by omega)
  have n : (d.numerator : Int).natAbs < 2 ^ 7 := by show d.numerator < 128; omega
  have c : (d.cost : Int).natAbs < 2 ^ 14 := by show d.cost < 16384; omega
  have q5 : ((d.numerator : Int) * d.cost).natAbs < 2 ^ 21 := mul_lt n c
  have q6 : ((d.numerator : Int) * d.cost * x.den).natAbs < 2 ^ (21 + k) := mul_lt q5 xd
  refine ⟨q1, q2, q3, q4, q5, q6, lt_mono (sub_lt (lt_mono q4 (b := 21 + k) (by omega)) q6) (by omega), ?_⟩
  have : ((d.denominator : Int) * x.den).natAbs < 2 ^ (7 + k) := mul_lt (by show d.denominator < 128; omega) xd
  rw [Int.natAbs_mul] at this
  exact this
theorem goOn_sz {d : Day} {x : Rat} {k : Nat} (h : Ok d) (s : Sz x k) : Sz (goOn d x) (22 + k) := by
  have q := goSz h s
  have hd : d.denominator ≠ 0 := by have := h.2.1; omega
  rw [goOn_eq d x hd]
  exact Sz.mk q.top (Nat.lt_of_lt_of_le q.bot (Nat.pow_le_pow_right (by omega) (by omega))) (Nat.mul_ne_zero hd x.den_nz)
/-! ### the values -/
theorem value_cons (d : Day) (r : List Day) : value (d :: r) = if 0 < goOn d (value r) then goOn d (value r) else 0 := rfl
theorem plan_cons (k : Nat) (d : Day) (r : List Day) : planValue (k + 1) (d :: r) = goOn d (planValue k r) := rfl
theorem single_eq (d : Day) : singleDayValue d = goOn d 0 := by
  unfold singleDayValue goOn
  rw [Rat.add_zero]
/-- the plan value of all of a list -/
def plan : List Day → Rat
  | [] => 0
  | d :: r => goOn d (plan r)
theorem plan_is : ∀ (k : Nat) (l : List Day), planValue k l = plan (l.take k)
  | 0, l => by rw [List.take_zero]; cases l <;> rfl
  | k + 1, [] => rfl
  | k + 1, d :: r => by
    rw [plan_cons, plan_is k r]
    rfl
theorem value_sz : ∀ {l : List Day}, (∀ d ∈ l, Ok d) → Sz (value l) (22 * l.length + 1)
  | [], _ => Sz.zero (by omega)
  | d :: r, h => by
    have ih := value_sz (l := r) fun x hx => h x (List.mem_cons_of_mem _ hx)
    have q := goOn_sz (h d (List.mem_cons_self ..)) ih
    rw [value_cons, List.length_cons]
    split
    · exact q.mono (by omega)
    · exact Sz.zero (by omega)
theorem plan_sz : ∀ {l : List Day}, (∀ d ∈ l, Ok d) → Sz (plan l) (22 * l.length + 1)
  | [], _ => Sz.zero (by omega)
  | d :: r, h => by
    have ih := plan_sz (l := r) fun x hx => h x (List.mem_cons_of_mem _ hx)
    have q := goOn_sz (h d (List.mem_cons_self ..)) ih
    exact q.mono (by rw [List.length_cons]; omega)
theorem pos_num {x : Rat} : 0 < x ↔ 0 < x.num := by
  rw [Rat.lt_iff]
  simp
theorem lt_cross {x y : Rat} : x < y ↔ x.num * y.den < y.num * x.den := Rat.lt_iff x y
end HM
namespace HM
open Kqk5
/-! ### the counts -/
def bestTo (l : List Day) (i : Nat) : Nat := (List.range (i + 1)).foldl (fun best count => if planValue best l < planValue count l then count else best) 0
theorem bestTo_zero (l : List Day) : bestTo l 0 = 0 := by
  show (if planValue 0 l < planValue 0 l then 0 else 0) = 0
  split <;> rfl
theorem bestTo_succ (l : List Day) (i : Nat) : bestTo l (i + 1) = if planValue (bestTo l i) l < planValue (i + 1) l then i + 1 else bestTo l i := by
  unfold bestTo
  rw [List.range_succ (n := i + 1), List.foldl_append]
  rfl
theorem bestTo_le (l : List Day) : ∀ i, bestTo l i ≤ i
  | 0 => by rw [bestTo_zero]; exact Nat.le_refl 0
  | i + 1 => by
    rw [bestTo_succ]
    have := bestTo_le l i
    split <;> omega
theorem best_is (l : List Day) : bestCount l = bestTo l l.length := rfl
theorem plan_take (l : List Day) (k : Nat) : plan (l.take k) = planValue k l := (plan_is k l).symm
theorem look_step {l r : List Day} {d : Day} {i : Nat} (e : l.drop i = d :: r) (h : lookaheadCount l = i + lookaheadCount (l.drop i)) (hd : 0 < singleDayValue d) : lookaheadCount l = (i + 1) + lookaheadCount r := by
  rw [h, e]
  show i + (if 0 < singleDayValue d then lookaheadCount r + 1 else 0) = _
  rw [if_pos hd]
  omega
theorem look_stop {l r : List Day} {d : Day} {i : Nat} (e : l.drop i = d :: r) (h : lookaheadCount l = i + lookaheadCount (l.drop i)) (hd : ¬ 0 < singleDayValue d) : lookaheadCount l = i := by
  rw [h, e]
  show i + (if 0 < singleDayValue d then lookaheadCount r + 1 else 0) = _
  rw [if_neg hd]
  omega
end HM

namespace HM
open Kqk5
abbrev nst (c : Campaign) (l : List Int) : Option Campaign × List Int := Kqk5Neutral.step (some c) [l]
def out (r : Option Campaign × Result) : Option Campaign × List Int := (r.1, Kqk5Neutral.fields r.2)
theorem n_of {c : Campaign} {l : List Int} {q : Request} (h : Kqk5Neutral.requestOf [l] = some q) : nst c l = out (step (some c) q) := by
  show (match Kqk5Neutral.requestOf [l] with
    | some x => let r := Kqk5.step (some c) x; (r.1, Kqk5Neutral.fields r.2)
    | none => ((some c, []) : Option Campaign × List Int)) = _
  rw [h]
  rfl
variable {c : Campaign}
/-! add_day -/
theorem n_add (g n d co : Nat) : nst c [1, (g : Int), (n : Int), (d : Int), (co : Int)] = out (step (some c) (.addDay g n d co)) := n_of rfl
theorem s_add_bad {g n d co : Nat} (h : isDay g n d co = false) : out (step (some c) (.addDay g n d co)) = (some c, [-22]) := by
  show out (if isDay g n d co = false then _ else _) = _
  rw [if_pos h]; rfl
theorem s_add_full {g n d co : Nat} (h : isDay g n d co = true) (hl : 10 ≤ c.days.length) : out (step (some c) (.addDay g n d co)) = (some c, [-28]) := by
  show out (if isDay g n d co = false then _ else if maxDays ≤ c.days.length then _ else _) = _
  rw [if_neg (by rw [h]; decide), if_pos (show maxDays ≤ _ from hl)]; rfl
theorem s_add_ok {g n d co : Nat} (h : isDay g n d co = true) (hl : ¬ 10 ≤ c.days.length) : out (step (some c) (.addDay g n d co)) = (some { c with days := c.days ++ [⟨g, n, d, co⟩] }, [(c.days.length : Int)]) := by
  show out (if isDay g n d co = false then _ else if maxDays ≤ c.days.length then _ else _) = _
  rw [if_neg (by rw [h]; decide), if_neg (show ¬ maxDays ≤ _ from hl)]; rfl
/-! set_day -/
theorem n_set (t g n d co : Nat) : nst c [2, (t : Int), (g : Int), (n : Int), (d : Int), (co : Int)] = out (step (some c) (.setDay t g n d co)) := n_of rfl
theorem s_set_no {t g n d co : Nat} (h : c.days.length ≤ t) : out (step (some c) (.setDay t g n d co)) = (some c, [-2]) := by
  show out (if c.days.length ≤ t then _ else _) = _
  rw [if_pos h]; rfl
theorem s_set_bad {t g n d co : Nat} (h : ¬ c.days.length ≤ t) (h1 : isDay g n d co = false) : out (step (some c) (.setDay t g n d co)) = (some c, [-22]) := by
  show out (if c.days.length ≤ t then _ else if isDay g n d co = false then _ else _) = _
  rw [if_neg h, if_pos h1]; rfl
theorem s_set_past {t g n d co : Nat} (h : ¬ c.days.length ≤ t) (h1 : isDay g n d co = true) (h2 : t < c.next) : out (step (some c) (.setDay t g n d co)) = (some c, [-16]) := by
  show out (if c.days.length ≤ t then _ else if isDay g n d co = false then _ else if t < c.next then _ else _) = _
  rw [if_neg h, if_neg (by rw [h1]; decide), if_pos h2]; rfl
theorem s_set_ok {t g n d co : Nat} (h : ¬ c.days.length ≤ t) (h1 : isDay g n d co = true) (h2 : ¬ t < c.next) : out (step (some c) (.setDay t g n d co)) = (some { c with days := c.days.set t ⟨g, n, d, co⟩ }, [0]) := by
  show out (if c.days.length ≤ t then _ else if isDay g n d co = false then _ else if t < c.next then _ else _) = _
  rw [if_neg h, if_neg (by rw [h1]; decide), if_neg h2]; rfl
/-! remove_last_day -/
theorem n_pop : nst c [3] = out (step (some c) .removeLastDay) := n_of rfl
theorem s_pop_no (h : c.days.length ≤ c.next) : out (step (some c) .removeLastDay) = (some c, [-6]) := by
  show out (if c.days.length ≤ c.next then _ else _) = _
  rw [if_pos h]; rfl
theorem s_pop_ok (h : ¬ c.days.length ≤ c.next) : out (step (some c) .removeLastDay) = (some { c with days := c.days.dropLast }, [((c.days.length - 1 : Nat) : Int)]) := by
  show out (if c.days.length ≤ c.next then _ else _) = _
  rw [if_neg h]; rfl
/-! get_day -/
theorem n_get (t : Nat) : nst c [4, (t : Int)] = out (step (some c) (.getDay t)) := n_of rfl
theorem s_get_no {t : Nat} (h : c.days.length ≤ t) : out (step (some c) (.getDay t)) = (some c, [-2]) := by
  show out (some c, match c.days[t]? with | none => .value (-2) | some d => .values d.gain [(d.numerator : Int), (d.denominator : Int), (d.cost : Int)]) = _
  rw [List.getElem?_eq_none h]; rfl
theorem s_get_ok {t : Nat} {d : Day} (h : c.days[t]? = some d) : out (step (some c) (.getDay t)) = (some c, [(d.gain : Int), (d.numerator : Int), (d.denominator : Int), (d.cost : Int)]) := by
  show out (some c, match c.days[t]? with | none => .value (-2) | some d => .values d.gain [(d.numerator : Int), (d.denominator : Int), (d.cost : Int)]) = _
  rw [h]; rfl
/-! values -/
theorem s_value : nst c [5] = (some c, [0, (value (c.days.drop c.next)).num, ((value (c.days.drop c.next)).den : Int)]) := (n_of (q := .value) rfl).trans rfl
theorem n_from (t : Nat) : nst c [6, (t : Int)] = out (step (some c) (.valueFrom t)) := n_of rfl
theorem s_from_no {t : Nat} (h : c.days.length < t) : out (step (some c) (.valueFrom t)) = (some c, [-2]) := by
  show out (some c, if c.days.length < t then _ else _) = _
  rw [if_pos h]; rfl
theorem s_from_ok {t : Nat} (h : ¬ c.days.length < t) : out (step (some c) (.valueFrom t)) = (some c, [0, (value (c.days.drop t)).num, ((value (c.days.drop t)).den : Int)]) := by
  show out (some c, if c.days.length < t then _ else _) = _
  rw [if_neg h]; rfl
theorem n_plan (t : Nat) : nst c [7, (t : Int)] = out (step (some c) (.planValue t)) := n_of rfl
theorem s_plan_no {t : Nat} (h : (c.days.drop c.next).length < t) : out (step (some c) (.planValue t)) = (some c, [-2]) := by
  show out (some c, if (c.days.drop c.next).length < t then _ else _) = _
  rw [if_pos h]; rfl
theorem s_plan_ok {t : Nat} (h : ¬ (c.days.drop c.next).length < t) : out (step (some c) (.planValue t)) = (some c, [0, (planValue t (c.days.drop c.next)).num, ((planValue t (c.days.drop c.next)).den : Int)]) := by
  show out (some c, if (c.days.drop c.next).length < t then _ else _) = _
  rw [if_neg h]; rfl
theorem s_best : nst c [8] = (some c, [((bestCount (c.days.drop c.next) : Nat) : Int)]) := (n_of (q := .bestCount) rfl).trans rfl
theorem s_look : nst c [9] = (some c, [((lookaheadCount (c.days.drop c.next) : Nat) : Int)]) := (n_of (q := .lookaheadCount) rfl).trans rfl
/-! lists of one length -/
theorem len0 {l : List Nat} (h : l.length = 0) : l = [] := List.length_eq_zero_iff.mp h
theorem len1 {l : List Nat} (h : l.length = 1) : ∃ a, l = [a] := List.length_eq_one_iff.mp h
theorem len2 {l : List Nat} (h : l.length = 2) : ∃ a b, l = [a, b] := match l, h with | [a, b], _ => ⟨a, b, rfl⟩
theorem len4 {l : List Nat} (h : l.length = 4) : ∃ a b c d, l = [a, b, c, d] := match l, h with | [a, b, c, d], _ => ⟨a, b, c, d, rfl⟩
theorem len5 {l : List Nat} (h : l.length = 5) : ∃ a b c d e, l = [a, b, c, d, e] := match l, h with | [a, b, c, d, e], _ => ⟨a, b, c, d, e, rfl⟩
/-- whole numbers not below nought -/
def ia (l : List Nat) : List Int := l.map Int.ofNat
end HM

namespace HM
open Kqk5
/-- how many numbers stand behind each call's own -/
def argc : List Int := [0, 4, 5, 0, 1, 0, 1, 1, 0, 0, 1, 0, 1, 1, 0, 0, 1, 2, 0, 0]
theorem shape_is {k : Int} {n j : Nat} (h : PyKqk5.shape k = some (n, j)) : j = 0 ∧ ∃ m : Nat, m ≤ 19 ∧ k = (m : Int) ∧ argc[m]? = some (n : Int) := by
  by_cases e0 : k = 0
  · subst e0
    have h' : some (0, 0) = some (n, j) := h
    cases h'
    exact ⟨rfl, 0, by decide, rfl, rfl⟩
  by_cases e1 : k = 1
  · subst e1
    have h' : some (4, 0) = some (n, j) := h
    cases h'
    exact ⟨rfl, 1, by decide, rfl, rfl⟩
  by_cases e2 : k = 2
  · subst e2
    have h' : some (5, 0) = some (n, j) := h
    cases h'
    exact ⟨rfl, 2, by decide, rfl, rfl⟩
  by_cases e3 : k = 3
  · subst e3
    have h' : some (0, 0) = some (n, j) := h
    cases h'
    exact ⟨rfl, 3, by decide, rfl, rfl⟩
  by_cases e4 : k = 4
  · subst e4
    have h' : some (1, 0) = some (n, j) := h
    cases h'
    exact ⟨rfl, 4, by decide, rfl, rfl⟩
  by_cases e5 : k = 5
  · subst e5
    have h' : some (0, 0) = some (n, j) := h
    cases h'
    exact ⟨rfl, 5, by decide, rfl, rfl⟩
  by_cases e6 : k = 6
  · subst e6
    have h' : some (1, 0) = some (n, j) := h
    cases h'
    exact ⟨rfl, 6, by decide, rfl, rfl⟩
  by_cases e7 : k = 7
  · subst e7
    have h' : some (1, 0) = some (n, j) := h
    cases h'
    exact ⟨rfl, 7, by decide, rfl, rfl⟩
  by_cases e8 : k = 8
  · subst e8
    have h' : some (0, 0) = some (n, j) := h
    cases h'
    exact ⟨rfl, 8, by decide, rfl, rfl⟩
  by_cases e9 : k = 9
  · subst e9
    have h' : some (0, 0) = some (n, j) := h
    cases h'
    exact ⟨rfl, 9, by decide, rfl, rfl⟩
  by_cases e10 : k = 10
  · subst e10
    have h' : some (1, 0) = some (n, j) := h
    cases h'
    exact ⟨rfl, 10, by decide, rfl, rfl⟩
  by_cases e11 : k = 11
  · subst e11
    have h' : some (0, 0) = some (n, j) := h
    cases h'
    exact ⟨rfl, 11, by decide, rfl, rfl⟩
  by_cases e12 : k = 12
  · subst e12
    have h' : some (1, 0) = some (n, j) := h
    cases h'
    exact ⟨rfl, 12, by decide, rfl, rfl⟩
  by_cases e13 : k = 13
  · subst e13
    have h' : some (1, 0) = some (n, j) := h
    cases h'
    exact ⟨rfl, 13, by decide, rfl, rfl⟩
  by_cases e14 : k = 14
  · subst e14
    have h' : some (0, 0) = some (n, j) := h
    cases h'
    exact ⟨rfl, 14, by decide, rfl, rfl⟩
  by_cases e15 : k = 15
  · subst e15
    have h' : some (0, 0) = some (n, j) := h
    cases h'
    exact ⟨rfl, 15, by decide, rfl, rfl⟩
  by_cases e16 : k = 16
  · subst e16
    have h' : some (1, 0) = some (n, j) := h
    cases h'
    exact ⟨rfl, 16, by decide, rfl, rfl⟩
  by_cases e17 : k = 17
  · subst e17
    have h' : some (2, 0) = some (n, j) := h
    cases h'
    exact ⟨rfl, 17, by decide, rfl, rfl⟩
  by_cases e18 : k = 18
  · subst e18
    have h' : some (0, 0) = some (n, j) := h
    cases h'
    exact ⟨rfl, 18, by decide, rfl, rfl⟩
  by_cases e19 : k = 19
  · subst e19
    have h' : some (0, 0) = some (n, j) := h
    cases h'
    exact ⟨rfl, 19, by decide, rfl, rfl⟩
  unfold PyKqk5.shape at h
  rw [if_neg e0, if_neg e1, if_neg e2, if_neg e3, if_neg e4, if_neg e5, if_neg e6, if_neg e7, if_neg e8, if_neg e9, if_neg e10, if_neg e11, if_neg e12, if_neg e13, if_neg e14, if_neg e15, if_neg e16, if_neg e17, if_neg e18, if_neg e19] at h
  cases h
theorem whole_id (c : List (List Int)) : PyKqk5.whole c = c := by
  unfold PyKqk5.whole
  split <;> rfl
theorem whole_map (cs : List (List (List Int))) : cs.map PyKqk5.whole = cs := by
  rw [show PyKqk5.whole = id from funext whole_id]
  exact List.map_id cs
/-- what is left from a place on: what is answered of it from the state s, behind what has been answered -/
def Left (ns : List Int) (pos : Nat) (done : List Int) (s : Option Campaign) : Prop :=
  ∃ f cs, PyFlat.calls PyKqk5.shape f (ns.drop pos) = some cs ∧ done ++ PyFlat.told (PyFlat.played Kqk5Neutral.step s cs) = PyKqk5.answers ns
theorem left_start {ns : List Int} (h : PyKqk5.answers_asked ns = true) : Left ns 0 [] none := by
  unfold PyKqk5.answers_asked at h
  split at h
  · cases h
  · rename_i raw e
    refine ⟨ns.length, raw, e, ?_⟩
    unfold PyKqk5.answers PyKqk5.calls
    rw [e]
    show PyFlat.told (PyFlat.played Kqk5Neutral.step none raw) = PyFlat.told (PyFlat.played Kqk5Neutral.step Kqk5Neutral.start (raw.map PyKqk5.whole))
    rw [whole_map]
    rfl
theorem calls_nil {f : Nat} {cs : List (List (List Int))} (h : PyFlat.calls PyKqk5.shape f [] = some cs) : cs = [] := by
  cases f <;> (cases h; rfl)
theorem left_end {ns done : List Int} {pos : Nat} {s : Option Campaign} (hp : ns.length ≤ pos) (h : Left ns pos done s) : done = PyKqk5.answers ns := by
  obtain ⟨f, cs, e, q⟩ := h
  rw [List.drop_eq_nil_of_le hp] at e
  rw [calls_nil e] at q
  have : done ++ [] = PyKqk5.answers ns := q
  rw [List.append_nil] at this
  exact this
theorem left_more {ns done : List Int} {pos : Nat} {s : Option Campaign} {k : Int} (hk : ns[pos]? = some k) (h : Left ns pos done s) : ∃ n, PyKqk5.shape k = some (n, 0) ∧ pos + 1 + n ≤ ns.length ∧
    ((ns.drop (pos + 1)).take n).length = n ∧
    ∀ s' res, Kqk5Neutral.step s [k :: (ns.drop (pos + 1)).take n] = (s', res) → Left ns (pos + 1 + n) (done ++ ((res.length : Int) :: res)) s' := by
  obtain ⟨f, cs, e, q⟩ := h
  obtain ⟨hi, hk'⟩ := List.getElem?_eq_some_iff.mp hk
  rw [List.drop_eq_getElem_cons hi, hk'] at e
  cases f with
  | zero => cases e
  | succ f =>
    unfold PyFlat.calls PyFlat.call at e
    dsimp only at e
    cases hs : PyKqk5.shape k with
    | none => rw [hs] at e; cases e
    | some nj =>
      obtain ⟨n, j⟩ := nj
      obtain ⟨rfl, _⟩ := shape_is hs
      rw [hs] at e
      dsimp only at e
      by_cases hl : (ns.drop (pos + 1)).length < n
      · rw [if_pos hl] at e
        cases e
      · rw [if_neg hl] at e
        unfold PyFlat.rows at e
        dsimp only at e
        cases hc : PyFlat.calls PyKqk5.shape f ((ns.drop (pos + 1)).drop n) with
        | none => rw [hc] at e; cases e
        | some cs' =>
          rw [hc] at e
          cases e
          rw [List.length_drop] at hl
          refine ⟨n, rfl, by omega, by rw [List.length_take, List.length_drop]; omega, fun s' res he => ⟨f, cs', ?_, ?_⟩⟩
          · rw [List.drop_drop] at hc
            exact hc
          · rw [← q]
            have : PyFlat.told (PyFlat.played Kqk5Neutral.step s ([k :: (ns.drop (pos + 1)).take n] :: cs')) = (((Kqk5Neutral.step s [k :: (ns.drop (pos + 1)).take n]).2.length : Int) :: (Kqk5Neutral.step s [k :: (ns.drop (pos + 1)).take n]).2) ++ PyFlat.told (PyFlat.played Kqk5Neutral.step (Kqk5Neutral.step s [k :: (ns.drop (pos + 1)).take n]).1 cs') := rfl
            rw [this, he]
            simp only [List.append_assoc]
theorem step_create (s : Option Campaign) : Kqk5Neutral.step s [[0]] = (some ⟨[], 0, 0, 0⟩, [0]) := by
  cases s <;> rfl
/-- ahead of create: refused -/
theorem step_none {k : Int} {n : Nat} {l : List Int} (h : PyKqk5.shape k = some (n, 0)) (hk : k ≠ 0) (hl : l.length = n) : Kqk5Neutral.step none [k :: l] = (none, [-11]) := by
  obtain ⟨_, m, hm, rfl, ha⟩ := shape_is h
  have c0 : ∀ {l : List Int}, l.length = 0 → l = [] := fun h => List.length_eq_zero_iff.mp h
  match m, hm, ha with
  | 0, _, _ => exact absurd rfl hk
  | 1, _, e => cases Int.ofNat.inj (Option.some.inj e); match l, hl with | [_, _, _, _], _ => rfl
  | 2, _, e => cases Int.ofNat.inj (Option.some.inj e); match l, hl with | [_, _, _, _, _], _ => rfl
  | 3, _, e => cases Int.ofNat.inj (Option.some.inj e); match l, hl with | [], _ => rfl
  | 4, _, e => cases Int.ofNat.inj (Option.some.inj e); match l, hl with | [_], _ => rfl
  | 5, _, e => cases Int.ofNat.inj (Option.some.inj e); match l, hl with | [], _ => rfl
  | 6, _, e => cases Int.ofNat.inj (Option.some.inj e); match l, hl with | [_], _ => rfl
  | 7, _, e => cases Int.ofNat.inj (Option.some.inj e); match l, hl with | [_], _ => rfl
  | 8, _, e => cases Int.ofNat.inj (Option.some.inj e); match l, hl with | [], _ => rfl
  | 9, _, e => cases Int.ofNat.inj (Option.some.inj e); match l, hl with | [], _ => rfl
  | 10, _, e => cases Int.ofNat.inj (Option.some.inj e); match l, hl with | [_], _ => rfl
  | 11, _, e => cases Int.ofNat.inj (Option.some.inj e); match l, hl with | [], _ => rfl
  | 12, _, e => cases Int.ofNat.inj (Option.some.inj e); match l, hl with | [_], _ => rfl
  | 13, _, e => cases Int.ofNat.inj (Option.some.inj e); match l, hl with | [_], _ => rfl
  | 14, _, e => cases Int.ofNat.inj (Option.some.inj e); match l, hl with | [], _ => rfl
  | 15, _, e => cases Int.ofNat.inj (Option.some.inj e); match l, hl with | [], _ => rfl
  | 16, _, e => cases Int.ofNat.inj (Option.some.inj e); match l, hl with | [_], _ => rfl
  | 17, _, e => cases Int.ofNat.inj (Option.some.inj e); match l, hl with | [_, _], _ => rfl
  | 18, _, e => cases Int.ofNat.inj (Option.some.inj e); match l, hl with | [], _ => rfl
  | 19, _, e => cases Int.ofNat.inj (Option.some.inj e); match l, hl with | [], _ => rfl
theorem ia_toNat : ∀ {l : List Int}, (∀ x ∈ l, 0 ≤ x) → ia (l.map Int.toNat) = l
  | [], _ => rfl
  | x :: r, h => by
    have e := ia_toNat (l := r) fun y hy => h y (List.mem_cons_of_mem _ hy)
    have hx := h x (List.mem_cons_self ..)
    show Int.ofNat x.toNat :: ia (r.map Int.toNat) = x :: r
    rw [e, show Int.ofNat x.toNat = x from Int.toNat_of_nonneg hx]
end HM

namespace HM
open Kqk5
/-! ### the monotone case -/
theorem mono_is : ∀ l : List Day, isMonotone l = (l.drop (lookaheadCount l)).all fun e => decide (singleDayValue e ≤ 0)
  | [] => rfl
  | d :: r => by
    by_cases h : 0 < singleDayValue d
    · have e1 : isMonotone (d :: r) = isMonotone r := if_pos h
      have e2 : lookaheadCount (d :: r) = lookaheadCount r + 1 := if_pos h
      rw [e1, e2, List.drop_succ_cons]
      exact mono_is r
    · have e1 : isMonotone (d :: r) = r.all fun e => decide (singleDayValue e ≤ 0) := if_neg h
      have e2 : lookaheadCount (d :: r) = 0 := if_neg h
      rw [e1, e2, List.drop_zero, List.all_cons, decide_eq_true (Rat.not_lt.mp h), Bool.true_and]
def notPos (l : List Day) : Bool := l.all fun e => decide (singleDayValue e ≤ 0)
theorem mono_eq (l : List Day) : isMonotone l = notPos (l.drop (lookaheadCount l)) := mono_is l
theorem notPos_step {l r : List Day} {d : Day} {i : Nat} {b : Bool} (e : l.drop i = d :: r) (h : b = notPos (l.drop i)) (hd : ¬ 0 < singleDayValue d) : b = notPos r := by
  rw [h, e]
  show (decide (singleDayValue d ≤ 0) && notPos r) = notPos r
  rw [decide_eq_true (Rat.not_lt.mp hd), Bool.true_and]
theorem notPos_stop {l r : List Day} {d : Day} {i : Nat} {b : Bool} (e : l.drop i = d :: r) (h : b = notPos (l.drop i)) (hd : 0 < singleDayValue d) : b = false := by
  rw [h, e]
  show (decide (singleDayValue d ≤ 0) && notPos r) = false
  rw [decide_eq_false (Rat.not_le.mpr hd), Bool.false_and]
/-! ### quiet days -/
def quiet (l : List Day) : Rat := l.foldl (fun p d => p * quietProbability d) 1
theorem quiet_take (k : Nat) (l : List Day) : allQuietProbability k l = quiet (l.take k) := rfl
theorem quiet_succ {l : List Day} {d : Day} {i : Nat} (h : l[i]? = some d) : quiet (l.take (i + 1)) = quiet (l.take i) * quietProbability d := by
  unfold quiet
  rw [List.take_add_one, h, List.foldl_append]
  rfl
theorem quiet_mul {t : Int} {b : Nat} {d : Day} (hb : b ≠ 0) (hd : d.denominator ≠ 0) : mkRat t b * quietProbability d = mkRat (t * ((d.denominator : Int) - d.numerator)) (b * d.denominator) := by
  have hD : (d.denominator : Rat) ≠ 0 := by simpa using hd
  have hB : (b : Rat) ≠ 0 := by simpa using hb
  unfold quietProbability eventProbability
  rw [Rat.mkRat_eq_div, Rat.mkRat_eq_div]
  simp only [Rat.intCast_sub, Rat.intCast_mul, Rat.intCast_natCast, Rat.natCast_mul]
  generalize (d.denominator : Rat) = D at *
  generalize (d.numerator : Rat) = n at *
  generalize (b : Rat) = B at *
  generalize (t : Rat) = T at *
  grind
/-! ### the greatest cost -/
theorem floor_mk (t : Int) (b : Nat) (h : b ≠ 0) : ((mkRat t b).num - 1) / ((mkRat t b).den : Int) = (t - 1) / (b : Int) := by
  rw [mk_num t b h, mk_den t b h]
  generalize hg : Nat.gcd t.natAbs b = g
  have g0 : 0 < g := by rw [← hg]; exact Nat.gcd_pos_of_pos_right _ (by omega)
  have d1 : (g : Int) ∣ t := by rw [← hg]; exact Int.ofNat_dvd_left.mpr (Nat.gcd_dvd_left _ _)
  have d2 : (g : Int) ∣ (b : Int) := by rw [← hg]; exact Int.natCast_dvd_natCast.mpr (Nat.gcd_dvd_right _ _)
  obtain ⟨x, rfl⟩ := d1
  obtain ⟨y, hy⟩ := d2
  rw [hy]
  have gz : (g : Int) ≠ 0 := by omega
  rw [Int.mul_ediv_cancel_left _ gz, Int.mul_ediv_cancel_left _ gz]
  rw [← Int.ediv_ediv_of_nonneg (show (0 : Int) ≤ g by omega)]
  congr 1
  have e : (g : Int) * x - 1 = (g : Int) * (x - 1) + (g - 1) := by rw [Int.mul_sub]; omega
  rw [e, Int.add_comm, Int.add_mul_ediv_left _ _ gz, Int.ediv_eq_zero_of_lt (by omega) (by omega), Int.zero_add]
def free (d : Day) (x : Rat) : Rat := goOn { d with cost := 0 } x
def costTop (d : Day) (x : Rat) : Int := (free d x).num * (d.denominator : Int)
def costBot (d : Day) (x : Rat) : Nat := d.numerator * (free d x).den
theorem limit_eq {d : Day} {x : Rat} (hz : d.numerator ≠ 0) (hd : d.denominator ≠ 0) : quietProbability d * ((d.gain : Rat) + x) / eventProbability d = mkRat (costTop d x) (costBot d x) := by
  have hD : (d.denominator : Rat) ≠ 0 := by simpa using hd
  have hN : (d.numerator : Rat) ≠ 0 := by simpa using hz
  have hB : ((free d x).den : Rat) ≠ 0 := by simpa using (free d x).den_nz
  have hf : free d x = quietProbability d * ((d.gain : Rat) + x) := by
    show quietProbability d * ((d.gain : Rat) + x) - eventProbability d * ((0 : Nat) : Rat) = _
    rw [show ((0 : Nat) : Rat) = 0 from rfl, Rat.mul_zero, Rat.sub_eq_add_neg, Rat.neg_zero, Rat.add_zero]
  have hx : free d x = ((free d x).num : Rat) / ((free d x).den : Rat) := by rw [← Rat.mkRat_eq_div, Rat.mkRat_self]
  rw [← hf, Rat.mkRat_eq_div]
  unfold costTop costBot eventProbability
  simp only [Rat.intCast_mul, Rat.intCast_natCast, Rat.natCast_mul]
  generalize ((free d x).den : Rat) = B at *
  generalize ((free d x).num : Rat) = N at *
  generalize (d.denominator : Rat) = D at *
  generalize (d.numerator : Rat) = n at *
  rw [hx]
  grind
theorem drop_at {l : List Day} {t : Nat} {d : Day} (h : l[t]? = some d) : l.drop t = d :: l.drop (t + 1) := by
  obtain ⟨hi, e⟩ := List.getElem?_eq_some_iff.mp h
  rw [List.drop_eq_getElem_cons hi, e]
theorem max_zero {l : List Day} {t : Nat} {d : Day} (h : l[t]? = some d) (hz : d.numerator = 0) : maxEventCostOf l t = some 10000 := by
  unfold maxEventCostOf
  rw [drop_at h]
  exact if_pos hz
theorem costBot_nz {d : Day} {x : Rat} (hz : d.numerator ≠ 0) : costBot d x ≠ 0 := Nat.mul_ne_zero hz (free d x).den_nz
theorem max_lim {l : List Day} {t : Nat} {d : Day} (h : l[t]? = some d) (hz : d.numerator ≠ 0) (hd : d.denominator ≠ 0) :
    maxEventCostOf l t = if 0 < mkRat (costTop d (value (l.drop (t + 1)))) (costBot d (value (l.drop (t + 1)))) then some (min 10000 ((costTop d (value (l.drop (t + 1))) - 1) / (costBot d (value (l.drop (t + 1))) : Int)).toNat) else none := by
  unfold maxEventCostOf
  rw [drop_at h]
  show (if d.numerator = 0 then some maxCost else _) = _
  rw [if_neg hz]
  show (if 0 < quietProbability d * ((d.gain : Rat) + value (l.drop (t + 1))) / eventProbability d then some (min maxCost (((quietProbability d * ((d.gain : Rat) + value (l.drop (t + 1))) / eventProbability d).num - 1) / ((quietProbability d * ((d.gain : Rat) + value (l.drop (t + 1))) / eventProbability d).den : Int)).toNat) else none) = _
  rw [limit_eq hz hd, floor_mk _ _ (costBot_nz hz)]
  rfl
theorem mk_pos {t : Int} {b : Nat} (h : b ≠ 0) : 0 < mkRat t b ↔ 0 < t := by
  rw [pos_num, Rat.num_mkRat, if_neg h]
  have g0 : 0 < Nat.gcd b t.natAbs := Nat.gcd_pos_of_pos_left _ (by omega)
  have d1 : ((Nat.gcd b t.natAbs : Nat) : Int) ∣ t := Int.ofNat_dvd_left.mpr (Nat.gcd_dvd_right _ _)
  obtain ⟨y, hy⟩ := d1
  generalize Nat.gcd b t.natAbs = g at *
  have gz : (g : Int) ≠ 0 := by omega
  constructor
  · intro z
    rw [hy, Int.mul_ediv_cancel_left _ gz] at z
    rw [hy]
    exact Int.mul_pos (by omega) z
  · intro z
    have : 0 < (g : Int) * y := by rw [← hy]; exact z
    rw [hy, Int.mul_ediv_cancel_left _ gz]
    exact Int.pos_of_mul_pos_right this (by omega)
theorem max_of {l : List Day} {t : Nat} {d : Day} {q : Int} (h : l[t]? = some d) (hz : d.numerator ≠ 0) (hd : d.denominator ≠ 0) (hq : q = (costTop d (value (l.drop (t + 1))) - 1) / (costBot d (value (l.drop (t + 1))) : Int)) :
    maxEventCostOf l t = if q < 0 then none else some (min 10000 q.toNat) := by
  rw [max_lim h hz hd, ← hq]
  have nz := costBot_nz (x := value (l.drop (t + 1))) hz
  have hb : (0 : Int) < (costBot d (value (l.drop (t + 1))) : Int) := by omega
  by_cases hp : 0 < costTop d (value (l.drop (t + 1)))
  · rw [if_pos ((mk_pos nz).mpr hp), if_neg]
    have : 0 ≤ q := by rw [hq]; exact Int.ediv_nonneg (by omega) (by omega)
    omega
  · rw [if_neg fun z => hp ((mk_pos nz).mp z), if_pos]
    rw [hq]
    exact Int.ediv_neg_of_neg_of_pos (by omega) hb
end HM

namespace HM
open Kqk5
variable {c : Campaign}
/-! single_day_value -/
theorem n_one (t : Nat) : nst c [10, (t : Int)] = out (step (some c) (.singleDayValue t)) := n_of rfl
theorem s_one_no {t : Nat} (h : c.days.length ≤ t) : out (step (some c) (.singleDayValue t)) = (some c, [-2]) := by
  show out (some c, match c.days[t]? with | none => .value (-2) | some d => fraction (singleDayValue d)) = _
  rw [List.getElem?_eq_none h]; rfl
theorem s_one_ok {t : Nat} {d : Day} (h : c.days[t]? = some d) : out (step (some c) (.singleDayValue t)) = (some c, [0, (singleDayValue d).num, ((singleDayValue d).den : Int)]) := by
  show out (some c, match c.days[t]? with | none => .value (-2) | some d => fraction (singleDayValue d)) = _
  rw [h]; rfl
/-! is_monotone -/
theorem s_mono : nst c [11] = (some c, [if isMonotone (c.days.drop c.next) = true then 1 else 0]) := (n_of (q := .isMonotone) rfl).trans rfl
/-! quiet_probability -/
theorem n_qui (t : Nat) : nst c [12, (t : Int)] = out (step (some c) (.quietProbability t)) := n_of rfl
theorem s_qui_no {t : Nat} (h : (c.days.drop c.next).length < t) : out (step (some c) (.quietProbability t)) = (some c, [-2]) := by
  show out (some c, if (c.days.drop c.next).length < t then _ else _) = _
  rw [if_pos h]; rfl
theorem s_qui_ok {t : Nat} (h : ¬ (c.days.drop c.next).length < t) : out (step (some c) (.quietProbability t)) = (some c, [0, (quiet ((c.days.drop c.next).take t)).num, ((quiet ((c.days.drop c.next).take t)).den : Int)]) := by
  show out (some c, if (c.days.drop c.next).length < t then _ else _) = _
  rw [if_neg h]; rfl
/-! continue_campaign -/
theorem n_con (x : Nat) : nst c [13, (x : Int)] = out (step (some c) (.continueWith x)) := n_of rfl
theorem s_con_bad {x : Nat} (h : 999 < x) : out (step (some c) (.continueWith x)) = (some c, [-22]) := by
  show out (if 999 < x then _ else _) = _
  rw [if_pos h]; rfl
theorem s_con_not {x : Nat} (h : ¬ 999 < x) (h1 : c.status ≠ 0) : out (step (some c) (.continueWith x)) = (some c, [-16]) := by
  show out (if 999 < x then _ else if c.status ≠ 0 then _ else _) = _
  rw [if_neg h, if_pos h1]; rfl
theorem s_con_end {x : Nat} (h : ¬ 999 < x) (h1 : c.status = 0) (h2 : c.days.length ≤ c.next) : out (step (some c) (.continueWith x)) = (some c, [-33]) := by
  show out (if 999 < x then _ else if c.status ≠ 0 then _ else match c.days[c.next]? with | none => _ | some d => _) = _
  rw [if_neg h, if_neg (by rw [h1]; decide), List.getElem?_eq_none h2]; rfl
theorem s_con_evt {x : Nat} {d : Day} (h : ¬ 999 < x) (h1 : c.status = 0) (h2 : c.days[c.next]? = some d) (h3 : x * d.denominator < 1000 * d.numerator) :
    out (step (some c) (.continueWith x)) = (some { c with next := c.next + 1, total := c.total - (d.cost : Int), status := 1 }, [1, c.total - (d.cost : Int)]) := by
  show out (if 999 < x then _ else if c.status ≠ 0 then _ else match c.days[c.next]? with | none => _ | some d => if x * d.denominator < 1000 * d.numerator then _ else _) = _
  rw [if_neg h, if_neg (by rw [h1]; decide), h2]
  show out (if x * d.denominator < 1000 * d.numerator then _ else _) = _
  rw [if_pos h3]; rfl
theorem s_con_go {x : Nat} {d : Day} (h : ¬ 999 < x) (h1 : c.status = 0) (h2 : c.days[c.next]? = some d) (h3 : ¬ x * d.denominator < 1000 * d.numerator) :
    out (step (some c) (.continueWith x)) = (some { c with next := c.next + 1, total := c.total + (d.gain : Int) }, [0, c.total + (d.gain : Int)]) := by
  show out (if 999 < x then _ else if c.status ≠ 0 then _ else match c.days[c.next]? with | none => _ | some d => if x * d.denominator < 1000 * d.numerator then _ else _) = _
  rw [if_neg h, if_neg (by rw [h1]; decide), h2]
  show out (if x * d.denominator < 1000 * d.numerator then _ else _) = _
  rw [if_neg h3]; rfl
/-! stop -/
theorem n_sto : nst c [14] = out (step (some c) .halt_) := n_of rfl
theorem s_sto_no (h : c.status ≠ 0) : out (step (some c) .halt_) = (some c, [-16]) := by
  show out (if c.status ≠ 0 then _ else _) = _
  rw [if_pos h]; rfl
theorem s_sto_ok (h : c.status = 0) : out (step (some c) .halt_) = (some { c with status := 2 }, [0, c.total]) := by
  show out (if c.status ≠ 0 then _ else _) = _
  rw [if_neg (by rw [h]; decide)]; rfl
/-! restart -/
theorem s_res : nst c [15] = (some { c with next := 0, total := 0, status := 0 }, [(c.next : Int)]) := (n_of (q := .restart) rfl).trans rfl
/-! max_event_cost -/
theorem n_max (t : Nat) : nst c [16, (t : Int)] = out (step (some c) (.maxEventCost t)) := n_of rfl
theorem s_max_no {t : Nat} (h : c.days.length ≤ t) : out (step (some c) (.maxEventCost t)) = (some c, [-2]) := by
  show out (some c, if c.days.length ≤ t then _ else _) = _
  rw [if_pos h]; rfl
theorem s_max_none {t : Nat} (h : ¬ c.days.length ≤ t) (h1 : maxEventCostOf c.days t = none) : out (step (some c) (.maxEventCost t)) = (some c, [-33]) := by
  show out (some c, if c.days.length ≤ t then _ else match maxEventCostOf c.days t with | none => _ | some cost => _) = _
  rw [if_neg h, h1]; rfl
theorem s_max_ok {t k : Nat} (h : ¬ c.days.length ≤ t) (h1 : maxEventCostOf c.days t = some k) : out (step (some c) (.maxEventCost t)) = (some c, [(k : Int)]) := by
  show out (some c, if c.days.length ≤ t then _ else match maxEventCostOf c.days t with | none => _ | some cost => _) = _
  rw [if_neg h, h1]; rfl
/-! value_with_cost -/
theorem n_wco (t k : Nat) : nst c [17, (t : Int), (k : Int)] = out (step (some c) (.valueWithCost t k)) := n_of rfl
theorem s_wco_no {t k : Nat} (h : c.days.length ≤ t) : out (step (some c) (.valueWithCost t k)) = (some c, [-2]) := by
  show out (some c, match c.days[t]? with | none => .value (-2) | some d => if maxCost < k then .value (-22) else fraction (value ((c.days.set t { d with cost := k }).drop c.next))) = _
  rw [List.getElem?_eq_none h]; rfl
theorem s_wco_bad {t k : Nat} {d : Day} (h : c.days[t]? = some d) (h1 : 10000 < k) : out (step (some c) (.valueWithCost t k)) = (some c, [-22]) := by
  show out (some c, match c.days[t]? with | none => .value (-2) | some d => if maxCost < k then .value (-22) else fraction (value ((c.days.set t { d with cost := k }).drop c.next))) = _
  rw [h]
  show out (some c, if maxCost < k then .value (-22) else _) = _
  rw [if_pos (show maxCost < k from h1)]; rfl
theorem s_wco_ok {t k : Nat} {d : Day} (h : c.days[t]? = some d) (h1 : ¬ 10000 < k) :
    out (step (some c) (.valueWithCost t k)) = (some c, [0, (value ((c.days.set t { d with cost := k }).drop c.next)).num, ((value ((c.days.set t { d with cost := k }).drop c.next)).den : Int)]) := by
  show out (some c, match c.days[t]? with | none => .value (-2) | some d => if maxCost < k then .value (-22) else fraction (value ((c.days.set t { d with cost := k }).drop c.next))) = _
  rw [h]
  show out (some c, if maxCost < k then .value (-22) else _) = _
  rw [if_neg (show ¬ maxCost < k from h1)]; rfl
/-! is_worthwhile, summary -/
theorem s_wor : nst c [18] = (some c, [if 0 < value (c.days.drop c.next) then 1 else 0]) := (n_of (q := .isWorthwhile) rfl).trans rfl
theorem s_sum : nst c [19] = (some c, [(c.days.length : Int), (c.next : Int), (c.status : Int), c.total]) := (n_of (q := .summary) rfl).trans rfl
end HM

namespace HM
open PySem PySem.Spec PyProof.Rows L2
/-! ### the text -/
def top (i : Nat) : Stmt := PySem.Challenge.pw_haltdays_s01_answers.main.body.getD i (.Pass ⟨0, 0, 0, 0⟩)
abbrev sFInit : Stmt := inClass (top 1) 0
abbrev sDInit : Stmt := inClass (top 2) 0
abbrev sOth : Stmt := top 3
abbrev sGcd : Stmt := top 4
abbrev sLow : Stmt := top 5
abbrev sGre : Stmt := top 6
abbrev sGo : Stmt := top 7
abbrev sOne : Stmt := top 8
abbrev sVal : Stmt := top 9
abbrev sPln : Stmt := top 10
abbrev sBst : Stmt := top 11
abbrev sLok : Stmt := top 12
abbrev sMon : Stmt := top 13
abbrev sQui : Stmt := top 14
abbrev sGwc : Stmt := top 15
/-! ### a def that a name of the module holds -/
structure Def (P : Program) (w : World) (K : PySem.W.Frag) (mg : Str → Option Value) (base : Heap) (k : Nat) (x : Str) (ps : List Str) (sp : Sp) : Prop where
  ex : ∃ (f : Addr) (fd : FuncData), FnOk P w K mg base CX0 k f fd ps sp ∧ mg x = some (.ref f) ∧ PySem.W.keepIn K (.ref f) = true ∧ Binds K fd ps []
theorem pe_def {X : Cx} {k : Nat} {x : Str} {ps : List Str} {sp : Sp} {p pos : Pos} {e : Expr} {es : List Expr} {t : TA} (D : Def X.prog X.w X.K X.mg X.base k x ps sp) (hr : Room k X.A) (hg : Gl X x)
    (ha : PA X (e :: es) t) (hdb : (x == ("__debug__" : Str)) = false := by decide) (he : starEach (e :: es) X.env = (false, eval e X.env) :: starEach es X.env := by rfl) (hpl : (backTo pos (starEach es X.env)).any (·.1) = false := by rfl) :
    PE X (.Call (.Name x p) (e :: es) [] pos) (tCall sp [] E0 t) := by
  obtain ⟨f, fd, F, hm, hk, hb⟩ := D.ex
  exact pe_call F hr hg hm hk hb .nil pass0 ha hdb he hpl
/-- a class of the module with its __init__ -/
structure Mak (P : Program) (w : World) (K : PySem.W.Frag) (mg : Str → Option Value) (base : Heap) (k : Nat) (x : Str) (C : Addr) (ps : List Str) (sp : Sp) : Prop where
  ex : ∃ (f : Addr) (fd : FuncData), FnOk P w K mg base CX0 k f fd ps sp ∧ L2.Mk K C f ∧ mg x = some (.ref C) ∧ Binds K fd ps []
theorem pe_mak {X : Cx} {k : Nat} {C : Addr} {x : Str} {ps : List Str} {sp : Sp} {p pos : Pos} {e : Expr} {es : List Expr} {t : TA} (D : Mak X.prog X.w X.K X.mg X.base k x C ps sp) (hr : Room (k + 1) X.A) (hg : Gl X x)
    (ha : PA X (e :: es) t) (hdb : (x == ("__debug__" : Str)) = false := by decide) (he : starEach (e :: es) X.env = (false, eval e X.env) :: starEach es X.env := by rfl) (hpl : (backTo pos (starEach es X.env)).any (·.1) = false := by rfl) :
    PE X (.Call (.Name x p) (e :: es) [] pos) (tMake C sp [] E0 t) := by
  obtain ⟨f, fd, F, M, hm, hb⟩ := D.ex
  exact pe_make M F hr hg hm hb .nil pass0 ha hdb he hpl
theorem pe_mak0 {X : Cx} {k : Nat} {C : Addr} {x : Str} {ps : List Str} {sp : Sp} {p pos : Pos} (D : Mak X.prog X.w X.K X.mg X.base k x C ps sp) (hr : Room (k + 1) X.A) (hg : Gl X x)
    (hdb : (x == ("__debug__" : Str)) = false := by decide) :
    PE X (.Call (.Name x p) [] [] pos) (tMake C sp [] E0 tNil) := by
  obtain ⟨f, fd, F, M, hm, hb⟩ := D.ex
  exact pe_make0 M F hr hg hm hb .nil pass0 hdb
theorem iteNF {A B : Prop} {x : V} (h : B) : if (!decide (x = x)) = true then A else B := by
  rw [decide_eq_true rfl]
  exact iteF h
theorem iteNT {A B : Prop} {x y : V} (hc : ¬ x = y) (h : A) : if (!decide (x = y)) = true then A else B := by
  rw [decide_eq_false hc]
  exact iteT h
/-! ### the heap -/
theorem lk_here {k : Str} {v : V} {r : List (Str × V)} : List.lookup k ((k, v) :: r) = some v := by
  have e : (k == k) = true := beq_self_eq_true k
  simp only [List.lookup, e]
theorem lk_past {k g : Str} {v : V} {r : List (Str × V)} (h : (k == g) = false) : List.lookup k ((g, v) :: r) = List.lookup k r := by
  simp only [List.lookup, h]
theorem put_here {f : Str} {v x : V} {r : List (Str × V)} : putF f v ((f, x) :: r) = (f, v) :: r := if_pos rfl
theorem put_past {f g : Str} {v x : V} {r : List (Str × V)} (h : ¬ g = f) : putF f v ((g, x) :: r) = (g, x) :: putF f v r := if_neg h
/-- a fraction's fields -/
def fF (t b : Int) : List (Str × V) := [("top", .int t), ("bottom", .int b)]
theorem fF_top (t b : Int) : (fF t b).lookup ("top" : Str) = some (.int t) := lk_here
theorem fF_bot (t b : Int) : (fF t b).lookup ("bottom" : Str) = some (.int b) := (lk_past (by decide +kernel)).trans lk_here
theorem fF_new (t b : Int) : putF "bottom" (.int b) (putF "top" (.int t) []) = fF t b := (put_past (by decide +kernel)).trans rfl
/-- at a stands the fraction x -/
def FrAt (C : Addr) (H : Hp) (a : Addr) (x : Rat) : Prop := ∃ dx, H a = some (.ins C dx (fF x.num x.den))
/-- a day's fields -/
def dF (d : Kqk5.Day) : List (Str × V) := [("gain", .int d.gain), ("event_top", .int d.numerator), ("event_bottom", .int d.denominator), ("cost", .int d.cost)]
theorem dF_gain (d : Kqk5.Day) : (dF d).lookup ("gain" : Str) = some (.int d.gain) := lk_here
theorem dF_top (d : Kqk5.Day) : (dF d).lookup ("event_top" : Str) = some (.int d.numerator) := (lk_past (by decide +kernel)).trans lk_here
theorem dF_bot (d : Kqk5.Day) : (dF d).lookup ("event_bottom" : Str) = some (.int d.denominator) := (lk_past (by decide +kernel)).trans ((lk_past (by decide +kernel)).trans lk_here)
theorem dF_cost (d : Kqk5.Day) : (dF d).lookup ("cost" : Str) = some (.int d.cost) := (lk_past (by decide +kernel)).trans ((lk_past (by decide +kernel)).trans ((lk_past (by decide +kernel)).trans lk_here))
theorem dF2 (d : Kqk5.Day) : putF "event_top" (.int d.numerator) (putF "gain" (.int d.gain) []) = ([("gain", .int d.gain), ("event_top", .int d.numerator)] : List (Str × V)) := (put_past (by decide +kernel)).trans rfl
theorem dF3 (d : Kqk5.Day) : putF "event_bottom" (.int d.denominator) ([("gain", .int d.gain), ("event_top", .int d.numerator)] : List (Str × V)) = ([("gain", .int d.gain), ("event_top", .int d.numerator), ("event_bottom", .int d.denominator)] : List (Str × V)) :=
    (put_past (by decide +kernel)).trans (congrArg _ ((put_past (by decide +kernel)).trans rfl))
theorem dF_new (d : Kqk5.Day) : putF "cost" (.int d.cost) (putF "event_bottom" (.int d.denominator) (putF "event_top" (.int d.numerator) (putF "gain" (.int d.gain) []))) = dF d := by
  rw [dF2, dF3]
  exact (put_past (by decide +kernel)).trans (congrArg _ ((put_past (by decide +kernel)).trans (congrArg _ ((put_past (by decide +kernel)).trans rfl))))
def DayAt (C : Addr) (H : Hp) (a : Addr) (d : Kqk5.Day) : Prop := ∃ dx, H a = some (.ins C dx (dF d))
theorem FrAt.same {C : Addr} {H H' : Hp} {a : Addr} {x : Rat} (h : FrAt C H a x) (s : Same H H') : FrAt C H' a x := by
  obtain ⟨dx, e⟩ := h
  exact ⟨dx, s _ _ e⟩
theorem DayAt.same {C : Addr} {H H' : Hp} {a : Addr} {d : Kqk5.Day} (h : DayAt C H a d) (s : Same H H') : DayAt C H' a d := by
  obtain ⟨dx, e⟩ := h
  exact ⟨dx, s _ _ e⟩
/-- values that are days -/
def Days (C : Addr) (H : Hp) : List V → List Kqk5.Day → Prop
  | [], [] => True
  | v :: vs, d :: ds => (∃ a, v = .ref a ∧ DayAt C H a d) ∧ Days C H vs ds
  | _, _ => False
theorem Days.same {C : Addr} {H H' : Hp} (s : Same H H') : ∀ {vs : List V} {ds : List Kqk5.Day}, Days C H vs ds → Days C H' vs ds
  | [], [], _ => trivial
  | _ :: _, _ :: _, ⟨⟨a, e, q⟩, r⟩ => ⟨⟨a, e, q.same s⟩, Days.same s r⟩
  | [], _ :: _, h => h.elim
  | _ :: _, [], h => h.elim
theorem Days.length {C : Addr} {H : Hp} : ∀ {vs : List V} {ds : List Kqk5.Day}, Days C H vs ds → vs.length = ds.length
  | [], [], _ => rfl
  | _ :: _, _ :: _, ⟨_, r⟩ => congrArg (· + 1) (Days.length r)
  | [], _ :: _, h => h.elim
  | _ :: _, [], h => h.elim
theorem Days.get {C : Addr} {H : Hp} : ∀ {vs : List V} {ds : List Kqk5.Day} {i : Nat} {v : V}, Days C H vs ds → vs[i]? = some v → ∃ a d, v = .ref a ∧ ds[i]? = some d ∧ DayAt C H a d
  | v :: _, d :: _, 0, x, ⟨⟨a, e, q⟩, _⟩, h => by
    have e' : v = x := Option.some.inj h
    exact ⟨a, d, e' ▸ e, rfl, q⟩
  | _ :: _, _ :: _, i + 1, x, ⟨_, r⟩, h => Days.get (i := i) r h
  | [], [], _, _, _, h => by simp at h
  | [], _ :: _, _, _, h, _ => h.elim
  | _ :: _, [], _, _, h, _ => h.elim
theorem Days.take {C : Addr} {H : Hp} : ∀ {vs : List V} {ds : List Kqk5.Day} (n : Nat), Days C H vs ds → Days C H (vs.take n) (ds.take n)
  | _, _, 0, _ => by rw [List.take_zero, List.take_zero]; trivial
  | [], [], _ + 1, _ => trivial
  | _ :: _, _ :: _, n + 1, ⟨h, r⟩ => ⟨h, Days.take n r⟩
  | [], _ :: _, _ + 1, h => h.elim
  | _ :: _, [], _ + 1, h => h.elim
theorem Days.drop {C : Addr} {H : Hp} : ∀ {vs : List V} {ds : List Kqk5.Day} (n : Nat), Days C H vs ds → Days C H (vs.drop n) (ds.drop n)
  | _, _, 0, h => h
  | [], [], _ + 1, _ => trivial
  | _ :: _, _ :: _, n + 1, ⟨_, r⟩ => Days.drop n r
  | [], _ :: _, _ + 1, h => h.elim
  | _ :: _, [], _ + 1, h => h.elim
/-! ### what the top has written -/
structure TxW (K : PySem.W.Frag) (mg : Str → Option Value) (CF CD : Addr) : Prop where
  clF : Cls K CF
  nT : NoAttr K CF "top"
  nB : NoAttr K CF "bottom"
  clD : Cls K CD
  nG : NoAttr K CD "gain"
  nET : NoAttr K CD "event_top"
  nEB : NoAttr K CD "event_bottom"
  nC : NoAttr K CD "cost"
  abs : mg "abs" = none
  rev : mg "reversed" = none
  len : mg "len" = none
  rng : mg "range" = none
  enu : mg "enumerate" = none
  lst : mg "list" = none
  min : mg "min" = none
section
variable {P : Program} {w : World} {K : PySem.W.Frag} {mg : Str → Option Value} {base : Heap} {CF CD : Addr}
/-! ### Fraction(top, bottom), Day(..) -/
def spFInit (CF : Addr) : Sp := fun vs H Q _ => ∃ (p dx : Addr) (t b : Int), vs = [.ref p, .int t, .int b] ∧ H p = some (.ins CF dx []) ∧
  ∀ H' : Hp, H' p = some (.ins CF dx (fF t b)) → (∀ c o, H c = some o → c ≠ p → H' c = some o) → Q .non H'
theorem scFI : FnScope ["self", "top", "bottom"] ["self", "top", "bottom"] (defScope sFInit) := ⟨rfl, rfl, rfl, by decide +kernel, rfl, by decide +kernel, by decide +kernel⟩
theorem ok_finit {f : Addr} {fd : FuncData} (F : Fun K "__init__" "Fraction.__init__" sFInit f fd) (T : TxW K mg CF CD) : FnOk P w K mg base CX0 1 f fd ["self", "top", "bottom"] (spFInit CF) := by
  refine F.ok scFI (fun vs H Q E h => ?_) (fun cdv A outer s H vs Q E hr h => ?_)
  · obtain ⟨p, dx, t, b, rfl, _⟩ := h
    rfl
  · obtain ⟨p, dx, t, b, rfl, hp, k⟩ := h
    refine ⟨_, pss_cons (ps_fld (pv 0) (pv 1) rfl) (pss_one (ps_fld (pv 0) (pv 2) rfl)), ?_⟩
    refine ⟨_, rfl, _, rfl, p, CF, dx, [], rfl, hp, T.clF, T.nT, (by show 0 < 1000; decide), ?_⟩
    refine ⟨_, rfl, _, rfl, p, CF, dx, _, rfl, upd_same, T.clF, T.nB, (by show 1 < 1000; decide), ?_⟩
    refine k _ (Eq.trans upd_same (congrArg (fun q => some (HO.ins CF dx q)) (fF_new t b))) fun c o e hc => ?_
    rw [upd_ne hc, upd_ne hc]
    exact e
def spDInit (CD : Addr) : Sp := fun vs H Q _ => ∃ (p dx : Addr) (d : Kqk5.Day), vs = [.ref p, .int d.gain, .int d.numerator, .int d.denominator, .int d.cost] ∧ H p = some (.ins CD dx []) ∧
  ∀ H' : Hp, H' p = some (.ins CD dx (dF d)) → (∀ c o, H c = some o → c ≠ p → H' c = some o) → Q .non H'
theorem scDI : FnScope ["self", "gain", "event_top", "event_bottom", "cost"] ["self", "gain", "event_top", "event_bottom", "cost"] (defScope sDInit) := ⟨rfl, rfl, rfl, by decide +kernel, rfl, by decide +kernel, by decide +kernel⟩
theorem ok_dinit {f : Addr} {fd : FuncData} (F : Fun K "__init__" "Day.__init__" sDInit f fd) (T : TxW K mg CF CD) : FnOk P w K mg base CX0 1 f fd ["self", "gain", "event_top", "event_bottom", "cost"] (spDInit CD) := by
  refine F.ok scDI (fun vs H Q E h => ?_) (fun cdv A outer s H vs Q E hr h => ?_)
  · obtain ⟨p, dx, d, rfl, _⟩ := h
    rfl
  · obtain ⟨p, dx, d, rfl, hp, k⟩ := h
    refine ⟨_, pss_cons (ps_fld (pv 0) (pv 1) rfl) (pss_cons (ps_fld (pv 0) (pv 2) rfl) (pss_cons (ps_fld (pv 0) (pv 3) rfl) (pss_one (ps_fld (pv 0) (pv 4) rfl)))), ?_⟩
    refine ⟨_, rfl, _, rfl, p, CD, dx, [], rfl, hp, T.clD, T.nG, (by show 0 < 1000; decide), ?_⟩
    refine ⟨_, rfl, _, rfl, p, CD, dx, _, rfl, upd_same, T.clD, T.nET, (by show 1 < 1000; decide), ?_⟩
    refine ⟨_, rfl, _, rfl, p, CD, dx, _, rfl, upd_same, T.clD, T.nEB, (by rw [dF2]; show 2 < 1000; decide), ?_⟩
    refine ⟨_, rfl, _, rfl, p, CD, dx, _, rfl, upd_same, T.clD, T.nC, (by rw [dF2, dF3]; show 3 < 1000; decide), ?_⟩
    refine k _ (Eq.trans upd_same (congrArg (fun q => some (HO.ins CD dx q)) (dF_new d))) fun c o e hc => ?_
    rw [upd_ne hc, upd_ne hc, upd_ne hc, upd_ne hc]
    exact e
/-! ### common_divisor -/
def slotNat (σ : L2.St) (i : Nat) : Nat := match σ[i]? with
  | some (some (V.int b)) => b.toNat
  | _ => 0
def spGcd : Sp := fun vs H Q _ => ∃ (m n : Nat), vs = [.int m, .int n] ∧ Q (.int (Nat.gcd m n : Nat)) H
theorem scG : FnScope ["first", "second", "larger", "smaller", "remainder"] ["first", "second"] (defScope sGcd) := ⟨rfl, rfl, rfl, by decide +kernel, rfl, by decide +kernel, by decide +kernel⟩
theorem ok_gcd {f : Addr} {fd : FuncData} (F : Fun K "common_divisor" "common_divisor" sGcd f fd) : FnOk P w K mg base CX0 1 f fd ["first", "second"] spGcd := by
  refine F.ok scG (fun vs H Q E h => ?_) (fun cdv A outer s H vs Q E hr h => ?_)
  · obtain ⟨m, n, rfl, _⟩ := h
    rfl
  · obtain ⟨m, n, rfl, k⟩ := h
    refine ⟨_, pss_cons (ps_set (i := 2) scG.nd rfl (.inl rfl) (pv 0)) (pss_cons (ps_set (i := 3) scG.nd rfl (.inl rfl) (pv 1))
      (pss_cons (ps_while PassesOwn.never (pt_cmpR op_ne (pv 3) pe_int (nomark _))
        (pss_cons (ps_set (i := 4) scG.nd rfl (.inl rfl) (pe_op op_mod (pv 2) (pv 3))) (pss_cons (ps_set (i := 2) scG.nd rfl (.inl rfl) (pv 3)) (pss_one (ps_set (i := 3) scG.nd rfl (.inl rfl) (pv 4))))))
      (pss_one (ps_ret (pv 2))))), ?_⟩
    refine ⟨_, rfl, _, rfl, ?_⟩
    refine while_by (fun σ H' => H' = H ∧ ∃ (a b : Nat) (v : Option V), Nat.gcd a b = Nat.gcd m n ∧ σ = [some (.int m), some (.int n), some (.int a), some (.int b), v])
      (fun σ _ => slotNat σ 3) ⟨rfl, m, n, _, rfl, rfl⟩ ?_ ?_
    · rintro σ H' ⟨rfl, a, b, v, hg, rfl⟩
      refine ⟨_, rfl, rfl, _, rfl, ?_⟩
      by_cases hb : b = 0
      · subst hb
        refine iteNF ?_
        rw [Nat.gcd_zero_right] at hg
        subst hg
        exact ⟨_, rfl, k⟩
      · refine iteNT (fun z => hb (by injection z; omega)) ?_
        refine ⟨_, rfl, _, rfl, _, _, rfl, rfl, (by omega), _, rfl, _, rfl, ⟨rfl, b, a % b, some (.int ((a : Int) % (b : Int))), ?_, ?_⟩, ?_⟩
        · rw [Nat.gcd_comm b, ← Nat.gcd_rec, Nat.gcd_comm]
          exact hg
        · rfl
        · show slotNat [_, _, _, some (V.int ((a : Int) % (b : Int))), _] 3 < slotNat [_, _, _, some (V.int (b : Int)), _] 3
          show ((a : Int) % (b : Int)).toNat < (b : Int).toNat
          have : a % b < b := Nat.mod_lt _ (by omega)
          omega
    · rintro σ H' Q1 Q2 hQ ⟨v, e, sc, c, ec, q⟩
      exact ⟨v, e, sc, c, ec, hQ _ _ q⟩
end
end HM

namespace HM
open PySem PySem.Spec PyProof.Rows L2
section
variable {P : Program} {w : World} {K : PySem.W.Frag} {mg : Str → Option Value} {base : Heap} {CF CD : Addr}
/-! ### lowest_terms -/
def spLow (CF : Addr) : Sp := fun vs H Q _ => ∃ (t : Int) (b : Nat), vs = [.int t, .int b] ∧ b ≠ 0 ∧ b < 2 ^ 1000 ∧ ∀ H' p, FrAt CF H' p (mkRat t b) → Same H H' → Q (.ref p) H'
theorem scL : FnScope ["top", "bottom", "divisor"] ["top", "bottom"] (defScope sLow) := ⟨rfl, rfl, rfl, by decide +kernel, rfl, by decide +kernel, by decide +kernel⟩
theorem abs_nat (t : Int) : (if t < 0 then -t else t) = (t.natAbs : Int) := by split <;> omega
theorem ok_low {f : Addr} {fd : FuncData} (F : Fun K "lowest_terms" "lowest_terms" sLow f fd) (T : TxW K mg CF CD)
    (G : Def P w K mg base 1 "common_divisor" ["first", "second"] spGcd) (M : Mak P w K mg base 1 "Fraction" CF ["self", "top", "bottom"] (spFInit CF)) : FnOk P w K mg base CX0 3 f fd ["top", "bottom"] (spLow CF) := by
  refine F.ok scL (fun vs H Q E h => ?_) (fun cdv A outer s H vs Q E hr h => ?_)
  · obtain ⟨t, b, rfl, _⟩ := h
    rfl
  · obtain ⟨t, b, rfl, hb, hs, k⟩ := h
    refine ⟨_, pss_cons (ps_set (i := 2) scL.nd rfl (.inl rfl) (pe_def G (hr.mono (by decide)) rfl (pa_cons (pe_callB call_abs (by rfl) T.abs (by decide +kernel) (pa_cons (pv 0) pa_nil)) (pa_cons (pv 1) pa_nil))))
      (pss_one (ps_ret (pe_mak M hr rfl (pa_cons (pe_op op_fdivW (pv 0) (pv 2)) (pa_cons (pe_op op_fdivW (pv 1) (pv 2)) pa_nil))))), ?_⟩
    have hg : 0 < Nat.gcd t.natAbs b := Nat.gcd_pos_of_pos_right _ (by omega)
    have hgl : Nat.gcd t.natAbs b < 2 ^ 1000 := Nat.lt_of_le_of_lt (Nat.gcd_le_right _ (by omega)) hs
    have cd : ∀ i, CDivW i ((Nat.gcd t.natAbs b : Nat) : Int) := fun i => wide_div (by omega) (b := 1000) hgl (by decide) (by decide)
    refine ⟨_, rfl, _, rfl, _, rfl, t.natAbs, b, by rw [abs_nat]; rfl, ?_⟩
    refine ⟨_, rfl, _, rfl, _, _, rfl, rfl, cd _, _, rfl, _, rfl, _, _, rfl, rfl, cd _, ?_⟩
    intro x dx nx ndx nex
    refine ⟨x, dx, _, _, rfl, upd_same, fun H' h' kp => ⟨rfl, ?_⟩⟩
    refine k H' x ⟨dx, ?_⟩ (Same.made nx ndx kp)
    rw [h', mk_num t b hb, mk_den t b hb]
/-! ### is_greater -/
def spGre (CF : Addr) : Sp := fun vs H Q _ => ∃ (a b : Addr) (x y : Rat), vs = [.ref a, .ref b] ∧ FrAt CF H a x ∧ FrAt CF H b y ∧ Sz x 900 ∧ Sz y 900 ∧ Q (.bl (decide (y < x))) H
theorem scGr : FnScope ["first", "second"] ["first", "second"] (defScope sGre) := ⟨rfl, rfl, rfl, by decide +kernel, rfl, by decide +kernel, by decide +kernel⟩
theorem ok_gre {f : Addr} {fd : FuncData} (F : Fun K "is_greater" "is_greater" sGre f fd) (T : TxW K mg CF CD) : FnOk P w K mg base CX0 1 f fd ["first", "second"] (spGre CF) := by
  refine F.ok scGr (fun vs H Q E h => ?_) (fun cdv A outer s H vs Q E hr h => ?_)
  · obtain ⟨a, b, x, y, rfl, _⟩ := h
    rfl
  · obtain ⟨a, b, x, y, rfl, ⟨da, ha⟩, ⟨db, hb⟩, sx, sy, k⟩ := h
    refine ⟨_, pss_one (ps_ret (pe_cmpR op_gt (pe_op op_mulW (pe_fld (pv 0) rfl) (pe_fld (pv 1) rfl)) (pe_op op_mulW (pe_fld (pv 1) rfl) (pe_fld (pv 0) rfl)) (nomark _))), ?_⟩
    refine ⟨_, rfl, a, CF, da, _, _, rfl, ha, T.clF, T.nT, fF_top _ _, _, rfl, b, CF, db, _, _, rfl, hb, T.clF, T.nB, fF_bot _ _, _, _, rfl, rfl, wide_mul sx.1 (show (y.den : Int).natAbs < 2 ^ 900 from sy.2) (by decide) (by decide) (by decide), ?_⟩
    refine ⟨_, rfl, b, CF, db, _, _, rfl, hb, T.clF, T.nT, fF_top _ _, _, rfl, a, CF, da, _, _, rfl, ha, T.clF, T.nB, fF_bot _ _, _, _, rfl, rfl, wide_mul sy.1 (show (x.den : Int).natAbs < 2 ^ 900 from sx.2) (by decide) (by decide) (by decide), ?_⟩
    refine ⟨_, _, rfl, rfl, ?_⟩
    have e : decide (y < x) = decide (y.num * x.den < x.num * y.den) := by rw [decide_eq_decide]; exact lt_cross
    rw [e] at k
    exact k
/-! ### value_of_going_on -/
def spGo (CF CD : Addr) : Sp := fun vs H Q _ => ∃ (a b : Addr) (d : Kqk5.Day) (x : Rat) (n : Nat), vs = [.ref a, .ref b] ∧ DayAt CD H a d ∧ FrAt CF H b x ∧ Ok d ∧ Sz x n ∧ 0 < n ∧ n ≤ 900 ∧ ∀ H' p, FrAt CF H' p (goOn d x) → Same H H' → Q (.ref p) H'
theorem scGo : FnScope ["day", "rest", "quiet_top", "quiet_part", "event_part"] ["day", "rest"] (defScope sGo) := ⟨rfl, rfl, rfl, by decide +kernel, rfl, by decide +kernel, by decide +kernel⟩
theorem ok_go {f : Addr} {fd : FuncData} (F : Fun K "value_of_going_on" "value_of_going_on" sGo f fd) (T : TxW K mg CF CD)
    (G : Def P w K mg base 3 "lowest_terms" ["top", "bottom"] (spLow CF)) : FnOk P w K mg base CX0 4 f fd ["day", "rest"] (spGo CF CD) := by
  refine F.ok scGo (fun vs H Q E h => ?_) (fun cdv A outer s H vs Q E hr h => ?_)
  · obtain ⟨a, b, d, x, n, rfl, _⟩ := h
    rfl
  · obtain ⟨a, b, d, x, n, rfl, ⟨da, ha⟩, ⟨db, hb⟩, od, sx, n0, n9, k⟩ := h
    refine ⟨_, pss_cons (ps_set (i := 2) scGo.nd rfl (.inl rfl) (pe_op op_sub (pe_fld (pv 0) rfl) (pe_fld (pv 0) rfl)))
      (pss_cons (ps_set (i := 3) scGo.nd rfl (.inl rfl) (pe_op op_mulW (pv 2) (pe_op op_add (pe_op op_mulW (pe_fld (pv 0) rfl) (pe_fld (pv 1) rfl)) (pe_fld (pv 1) rfl))))
      (pss_cons (ps_set (i := 4) scGo.nd rfl (.inl rfl) (pe_op op_mulW (pe_op op_mulW (pe_fld (pv 0) rfl) (pe_fld (pv 0) rfl)) (pe_fld (pv 1) rfl)))
      (pss_one (ps_ret (pe_def G hr rfl (pa_cons (pe_op op_sub (pv 3) (pv 4)) (pa_cons (pe_op op_mulW (pe_fld (pv 0) rfl) (pe_fld (pv 1) rfl)) pa_nil))))))), ?_⟩
    have gs := goSz od sx
    have xd : (x.den : Int).natAbs < 2 ^ n := sx.2
    -- quiet_top
    refine ⟨_, rfl, a, CD, da, _, _, rfl, ha, T.clD, T.nEB, dF_bot d, _, rfl, a, CD, da, _, _, rfl, ha, T.clD, T.nET, dF_top d, _, _, rfl, rfl, ?_⟩
    -- quiet_part
    refine ⟨_, rfl, _, rfl, a, CD, da, _, _, rfl, ha, T.clD, T.nG, dF_gain d, _, rfl, b, CF, db, _, _, rfl, hb, T.clF, T.nB, fF_bot _ _, _, _, rfl, rfl, wide_mul (a := 10) (b := n) (by have := od.1; show d.gain < 1024; omega) xd (by decide) n0 (by omega), ?_⟩
    refine ⟨_, rfl, b, CF, db, _, _, rfl, hb, T.clF, T.nT, fF_top _ _, _, _, rfl, rfl, _, _, rfl, rfl, wide_mul gs.qt gs.sum (by decide) (by omega) (by omega), ?_⟩
    -- event_part
    refine ⟨_, rfl, a, CD, da, _, _, rfl, ha, T.clD, T.nET, dF_top d, _, rfl, a, CD, da, _, _, rfl, ha, T.clD, T.nC, dF_cost d, _, _, rfl, rfl,
      wide_mul (a := 7) (b := 14) (by have := od.2; show d.numerator < 128; omega) (by have := od.2.2.2.2; show d.cost < 16384; omega) (by decide) (by decide) (by decide), ?_⟩
    refine ⟨_, rfl, b, CF, db, _, _, rfl, hb, T.clF, T.nB, fF_bot _ _, _, _, rfl, rfl, wide_mul gs.nc xd (by decide) n0 (by omega), ?_⟩
    -- return
    refine ⟨_, rfl, _, rfl, _, _, rfl, rfl, _, rfl, a, CD, da, _, _, rfl, ha, T.clD, T.nEB, dF_bot d, _, rfl, b, CF, db, _, _, rfl, hb, T.clF, T.nB, fF_bot _ _, _, _, rfl, rfl, wide_mul (a := 7) (b := n) (by have := od.2.2.1; show d.denominator < 128; omega) xd (by decide) n0 (by omega), ?_⟩
    have hd : d.denominator ≠ 0 := by have := od.2.1; omega
    refine ⟨goTop d x, goBot d x, rfl, Nat.mul_ne_zero hd x.den_nz, Nat.lt_of_lt_of_le gs.bot (Nat.pow_le_pow_right (by decide) (by omega)), fun H' p h' s' => k H' p ?_ s'⟩
    rw [goOn_eq d x hd]
    exact h'
end
end HM

namespace HM
open PySem PySem.Spec PyProof.Rows L2
theorem cut_take (xs : List V) (k : Nat) : cutV xs none (some (k : Int)) = xs.take k := by
  unfold cutV
  rw [HT.sIx_none, HT.sIx_nat, List.drop_zero, Nat.sub_zero]
  by_cases h : k ≤ xs.length
  · rw [Nat.min_eq_left h]
  · rw [Nat.min_eq_right (by omega), List.take_of_length_le (Nat.le_refl _), List.take_of_length_le (by omega)]
theorem cut_drop (xs : List V) (k : Nat) : cutV xs (some (k : Int)) none = xs.drop k := by
  unfold cutV
  rw [HT.sIx_none, HT.sIx_nat]
  by_cases h : k ≤ xs.length
  · rw [Nat.min_eq_left h, List.take_of_length_le (by rw [List.length_drop]; omega)]
  · rw [Nat.min_eq_right (by omega), Nat.sub_self, List.take_zero, List.drop_eq_nil_of_le (by omega)]
theorem cut_both (xs : List V) (i j : Nat) : cutV xs (some (i : Int)) (some (j : Int)) = (xs.drop i).take (j - i) := by
  unfold cutV
  rw [HT.sIx_nat, HT.sIx_nat]
  by_cases h : i ≤ xs.length
  · rw [Nat.min_eq_left h]
    by_cases hj : j ≤ xs.length
    · rw [Nat.min_eq_left hj]
    · rw [Nat.min_eq_right (by omega), List.take_of_length_le (by rw [List.length_drop]; omega), List.take_of_length_le (by rw [List.length_drop]; omega)]
  · have e : min i xs.length = xs.length := Nat.min_eq_right (by omega)
    rw [e, List.drop_eq_nil_of_le (Nat.le_refl _), List.drop_eq_nil_of_le (by omega), List.take_nil, List.take_nil]
theorem drop_cons {α : Type} {l : List α} {i : Nat} {d : α} (h : l[i]? = some d) : l.drop i = d :: l.drop (i + 1) := by
  obtain ⟨hi, e⟩ := List.getElem?_eq_some_iff.mp h
  rw [List.drop_eq_getElem_cons hi, e]
section
variable {P : Program} {w : World} {K : PySem.W.Frag} {mg : Str → Option Value} {base : Heap} {CF CD : Addr}
theorem FrAt.zero {H : Hp} {x dx : Addr} (h : H x = some (.ins CF dx (fF 0 1))) : FrAt CF H x 0 := ⟨dx, h⟩
/-- the list of days that a def is handed -/
def DL (K : PySem.W.Frag) (CD : Addr) (H : Hp) (a : Addr) (ds : List Kqk5.Day) : Prop := ∃ vs, SqL K H a vs ∧ Days CD H vs ds
theorem DL.same {H H' : Hp} {a : Addr} {ds : List Kqk5.Day} (h : DL K CD H a ds) (s : Same H H') : DL K CD H' a ds := by
  obtain ⟨vs, q, r⟩ := h
  exact ⟨vs, s.seq q, Days.same s r⟩
/-! ### single_value_of_day -/
def spOne (CF CD : Addr) : Sp := fun vs H Q _ => ∃ (a : Addr) (d : Kqk5.Day), vs = [.ref a] ∧ DayAt CD H a d ∧ Ok d ∧ ∀ H' p, FrAt CF H' p (Kqk5.singleDayValue d) → Same H H' → Q (.ref p) H'
theorem scOne : FnScope ["day"] ["day"] (defScope sOne) := ⟨rfl, rfl, rfl, by decide +kernel, rfl, by decide +kernel, by decide +kernel⟩
theorem ok_one {f : Addr} {fd : FuncData} (F : Fun K "single_value_of_day" "single_value_of_day" sOne f fd) (G : Def P w K mg base 4 "value_of_going_on" ["day", "rest"] (spGo CF CD))
    (M : Mak P w K mg base 1 "Fraction" CF ["self", "top", "bottom"] (spFInit CF)) : FnOk P w K mg base CX0 5 f fd ["day"] (spOne CF CD) := by
  refine F.ok scOne (fun vs H Q E h => ?_) (fun cdv A outer s H vs Q E hr h => ?_)
  · obtain ⟨a, d, rfl, _⟩ := h
    rfl
  · obtain ⟨a, d, rfl, ha, od, k⟩ := h
    refine ⟨_, pss_one (ps_ret (pe_def G hr rfl (pa_cons (pv 0) (pa_cons (pe_mak M (hr.mono (by decide)) rfl (pa_cons pe_int (pa_cons pe_int pa_nil))) pa_nil)))), ?_⟩
    refine ⟨_, rfl, ?_⟩
    intro x dx nx ndx nex
    refine ⟨x, dx, _, _, rfl, upd_same, fun H' h' kp => ⟨rfl, ?_⟩⟩
    have s1 := Same.made nx ndx kp
    refine ⟨a, x, d, 0, 1, rfl, ha.same s1, FrAt.zero h', od, Sz.zero (by decide), by decide, by decide, fun H2 p hp s2 => k H2 p ?_ (s1.trans s2)⟩
    rw [single_eq]
    exact hp
/-! ### value_of_days -/
def spVal (K : PySem.W.Frag) (CF CD : Addr) : Sp := fun vs H Q _ => ∃ (a : Addr) (ds : List Kqk5.Day), vs = [.ref a] ∧ DL K CD H a ds ∧ (∀ d ∈ ds, Ok d) ∧ ds.length ≤ 10 ∧ ∀ H' p, FrAt CF H' p (Kqk5.value ds) → Same H H' → Q (.ref p) H'
theorem scVal : FnScope ["days", "worth", "day", "going_on"] ["days"] (defScope sVal) := ⟨rfl, rfl, rfl, by decide +kernel, rfl, by decide +kernel, by decide +kernel⟩
theorem sub_at {vs : List V} {ds : List Kqk5.Day} {H : Hp} {i : Nat} {x : V} (hi : i < vs.length) (D : Days CD H vs ds) (hx : vs[vs.length - 1 - i]? = some x) : ∃ a d, x = .ref a ∧ DayAt CD H a d ∧ d ∈ ds ∧ ds.drop (ds.length - (i + 1)) = d :: ds.drop (ds.length - i) := by
  obtain ⟨a, d, e, hd, q⟩ := D.get hx
  have hl := D.length
  refine ⟨a, d, e, q, List.mem_of_getElem? hd, ?_⟩
  have e1 : ds.length - (i + 1) = vs.length - 1 - i := by omega
  rw [e1, drop_cons hd]
  have e2 : vs.length - 1 - i + 1 = ds.length - i := by omega
  rw [e2]
theorem ok_val {f : Addr} {fd : FuncData} (F : Fun K "value_of_days" "value_of_days" sVal f fd) (T : TxW K mg CF CD) (G : Def P w K mg base 4 "value_of_going_on" ["day", "rest"] (spGo CF CD))
    (M : Mak P w K mg base 1 "Fraction" CF ["self", "top", "bottom"] (spFInit CF)) : FnOk P w K mg base CX0 5 f fd ["days"] (spVal K CF CD) := by
  refine F.ok scVal (fun vs H Q E h => ?_) (fun cdv A outer s H vs Q E hr h => ?_)
  · obtain ⟨a, ds, rfl, _⟩ := h
    rfl
  · obtain ⟨a, ds, rfl, ⟨vs, hq, hD⟩, hok, hl, k⟩ := h
    have hr1 : Room 2 _ := hr.mono (by decide)
    refine ⟨_, pss_cons (ps_set (i := 1) scVal.nd rfl (.inl rfl) (pe_mak M hr1 rfl (pa_cons pe_int (pa_cons pe_int pa_nil))))
      (pss_cons (ps_for PassesOwn.never rfl (pi_reversed (by rfl) T.rev (pa_cons (pv 0) pa_nil)) (pg_name (i := 2) scVal.nd rfl (.inl rfl))
        (pss_cons (ps_set (i := 3) scVal.nd rfl (.inl rfl) (pe_def G hr rfl (pa_cons (pv 2) (pa_cons (pv 1) pa_nil))))
        (pss_one (ps_set (i := 1) scVal.nd rfl (.inl rfl) (pe_ifExp (pt_cmpR op_gt (pe_fld (pv 3) rfl) pe_int (nomark _)) (pv 3) (pe_mak M hr1 rfl (pa_cons pe_int (pa_cons pe_int pa_nil))))))))
      (pss_one (ps_ret (pv 1)))), ?_⟩
    intro x dx nx ndx nex
    refine ⟨x, dx, _, _, rfl, upd_same, fun H1 h1 kp => ⟨rfl, ?_⟩⟩
    have s1 := Same.made nx ndx kp
    refine ⟨_, rfl, a, vs, rfl, s1.seq hq, ?_⟩
    have len := hD.length
    refine for_it walk_rev (fun i σ H' => ∃ (q : Addr) (v u : Option V), σ = [some (.ref a), some (.ref q), v, u] ∧ Same H H' ∧ FrAt CF H' q (Kqk5.value (ds.drop (ds.length - i)))) ?_ ?_ ?_ ?_
    · refine ⟨x, _, _, rfl, s1, ?_⟩
      rw [Nat.sub_zero, List.drop_length]
      exact FrAt.zero h1
    · rintro i σ H' _ ⟨_, _, _, _, s2, _⟩
      exact s2.seq hq
    · rintro i y σ H' H'' hi ⟨q, v, u, rfl, s2, hf⟩ ⟨rfl, hy⟩
      obtain ⟨b, d, rfl, hb, hm, hdr⟩ := sub_at hi (Days.same s2 hD) hy
      have szr : Sz (Kqk5.value (ds.drop (ds.length - i))) 221 := by
        refine (value_sz (l := ds.drop (ds.length - i)) fun d hd => hok d (List.mem_of_mem_drop hd)).mono ?_
        rw [List.length_drop]
        omega
      refine ⟨_, rfl, _, rfl, b, q, d, _, 221, rfl, hb, hf, hok d hm, szr, by decide, by decide, fun H2 p hp s3 => ?_⟩
      obtain ⟨dp, hp⟩ := hp
      refine ⟨_, rfl, p, CF, dp, _, _, rfl, hp, T.clF, T.nT, fF_top _ _, _, _, rfl, rfl, _, rfl, ?_⟩
      refine ite2 (fun c => ?_) (fun c => ?_)
      · have c' : 0 < goOn d (Kqk5.value (ds.drop (ds.length - i))) := pos_num.mpr (of_decide_eq_true c)
        refine ⟨_, rfl, p, _, _, rfl, s2.trans s3, dp, ?_⟩
        rw [hdr, value_cons, if_pos c']
        exact hp
      · have c' : ¬ 0 < goOn d (Kqk5.value (ds.drop (ds.length - i))) := fun z => c (decide_eq_true (pos_num.mp z))
        intro x' dx' nx' ndx' nex'
        refine ⟨x', dx', _, _, rfl, upd_same, fun H3 h3 kp3 => ⟨rfl, ?_⟩⟩
        refine ⟨x', _, _, rfl, (s2.trans s3).trans (Same.made nx' ndx' kp3), ?_⟩
        rw [hdr, value_cons, if_neg c']
        exact FrAt.zero h3
    · rintro σ H' ⟨q, v, u, rfl, s2, hf⟩
      refine ⟨_, rfl, k H' q ?_ s2⟩
      rw [len, Nat.sub_self, List.drop_zero] at hf
      exact hf
/-! ### plan_value_of_days -/
def spPln (K : PySem.W.Frag) (CF CD : Addr) : Sp := fun vs H Q _ => ∃ (a : Addr) (ds : List Kqk5.Day), vs = [.ref a] ∧ DL K CD H a ds ∧ (∀ d ∈ ds, Ok d) ∧ ds.length ≤ 10 ∧ ∀ H' p, FrAt CF H' p (plan ds) → Same H H' → Q (.ref p) H'
theorem scPln : FnScope ["days", "worth", "day"] ["days"] (defScope sPln) := ⟨rfl, rfl, rfl, by decide +kernel, rfl, by decide +kernel, by decide +kernel⟩
theorem ok_pln {f : Addr} {fd : FuncData} (F : Fun K "plan_value_of_days" "plan_value_of_days" sPln f fd) (T : TxW K mg CF CD) (G : Def P w K mg base 4 "value_of_going_on" ["day", "rest"] (spGo CF CD))
    (M : Mak P w K mg base 1 "Fraction" CF ["self", "top", "bottom"] (spFInit CF)) : FnOk P w K mg base CX0 5 f fd ["days"] (spPln K CF CD) := by
  refine F.ok scPln (fun vs H Q E h => ?_) (fun cdv A outer s H vs Q E hr h => ?_)
  · obtain ⟨a, ds, rfl, _⟩ := h
    rfl
  · obtain ⟨a, ds, rfl, ⟨vs, hq, hD⟩, hok, hl, k⟩ := h
    refine ⟨_, pss_cons (ps_set (i := 1) scPln.nd rfl (.inl rfl) (pe_mak M (hr.mono (by decide)) rfl (pa_cons pe_int (pa_cons pe_int pa_nil))))
      (pss_cons (ps_for PassesOwn.never rfl (pi_reversed (by rfl) T.rev (pa_cons (pv 0) pa_nil)) (pg_name (i := 2) scPln.nd rfl (.inl rfl))
        (pss_one (ps_set (i := 1) scPln.nd rfl (.inl rfl) (pe_def G hr rfl (pa_cons (pv 2) (pa_cons (pv 1) pa_nil))))))
      (pss_one (ps_ret (pv 1)))), ?_⟩
    intro x dx nx ndx nex
    refine ⟨x, dx, _, _, rfl, upd_same, fun H1 h1 kp => ⟨rfl, ?_⟩⟩
    have s1 := Same.made nx ndx kp
    refine ⟨_, rfl, a, vs, rfl, s1.seq hq, ?_⟩
    have len := hD.length
    refine for_it walk_rev (fun i σ H' => ∃ (q : Addr) (v : Option V), σ = [some (.ref a), some (.ref q), v] ∧ Same H H' ∧ FrAt CF H' q (plan (ds.drop (ds.length - i)))) ?_ ?_ ?_ ?_
    · refine ⟨x, _, rfl, s1, ?_⟩
      rw [Nat.sub_zero, List.drop_length]
      exact FrAt.zero h1
    · rintro i σ H' _ ⟨_, _, _, s2, _⟩
      exact s2.seq hq
    · rintro i y σ H' H'' hi ⟨q, v, rfl, s2, hf⟩ ⟨rfl, hy⟩
      obtain ⟨b, d, rfl, hb, hm, hdr⟩ := sub_at hi (Days.same s2 hD) hy
      have szr : Sz (plan (ds.drop (ds.length - i))) 221 := by
        refine (plan_sz (l := ds.drop (ds.length - i)) fun d hd => hok d (List.mem_of_mem_drop hd)).mono ?_
        rw [List.length_drop]
        omega
      refine ⟨_, rfl, _, rfl, b, q, d, _, 221, rfl, hb, hf, hok d hm, szr, by decide, by decide, fun H2 p hp s3 => ?_⟩
      refine ⟨p, _, rfl, s2.trans s3, ?_⟩
      rw [hdr]
      exact hp
    · rintro σ H' ⟨q, v, rfl, s2, hf⟩
      refine ⟨_, rfl, k H' q ?_ s2⟩
      rw [len, Nat.sub_self, List.drop_zero] at hf
      exact hf
end
end HM

namespace HM
open PySem PySem.Spec PyProof.Rows L2
section
variable {P : Program} {w : World} {K : PySem.W.Frag} {mg : Str → Option Value} {base : Heap} {CF CD : Addr}
theorem upd_new {H : Hp} {a : Addr} {o : HO} (h : H a = none) : Same H (upd H a o) := fun b u e => by
  rw [upd_ne (ne_of_none e h)]
  exact e
/-! ### best_count_of_days -/
def spBst (K : PySem.W.Frag) (CD : Addr) : Sp := fun vs H Q _ => ∃ (a : Addr) (ds : List Kqk5.Day), vs = [.ref a] ∧ DL K CD H a ds ∧ (∀ d ∈ ds, Ok d) ∧ ds.length ≤ 10 ∧ ∀ H', Same H H' → Q (.int (Kqk5.bestCount ds : Nat)) H'
theorem scBst : FnScope ["days", "best", "best_worth", "count", "worth"] ["days"] (defScope sBst) := ⟨rfl, rfl, rfl, by decide +kernel, rfl, by decide +kernel, by decide +kernel⟩
theorem ok_bst {f : Addr} {fd : FuncData} (F : Fun K "best_count_of_days" "best_count_of_days" sBst f fd) (T : TxW K mg CF CD) (G : Def P w K mg base 5 "plan_value_of_days" ["days"] (spPln K CF CD))
    (GG : Def P w K mg base 1 "is_greater" ["first", "second"] (spGre CF)) (M : Mak P w K mg base 1 "Fraction" CF ["self", "top", "bottom"] (spFInit CF)) : FnOk P w K mg base CX0 6 f fd ["days"] (spBst K CD) := by
  refine F.ok scBst (fun vs H Q E h => ?_) (fun cdv A outer s H vs Q E hr h => ?_)
  · obtain ⟨a, ds, rfl, _⟩ := h
    rfl
  · obtain ⟨a, ds, rfl, ⟨vs, hq, hD⟩, hok, hl, k⟩ := h
    refine ⟨_, pss_cons (ps_set (i := 1) scBst.nd rfl (.inl rfl) pe_int) (pss_cons (ps_set (i := 2) scBst.nd rfl (.inl rfl) (pe_mak M (hr.mono (by decide)) rfl (pa_cons pe_int (pa_cons pe_int pa_nil))))
      (pss_cons (ps_for PassesOwn.never rfl (pi_range2 (by rfl) T.rng (pa_cons pe_int (pa_cons (pe_op op_add (pe_callB call_len_seq (by rfl) T.len PySem.boot_len (pa_cons (pv 0) pa_nil)) pe_int) pa_nil))) (pg_name (i := 3) scBst.nd rfl (.inl rfl))
        (pss_cons (ps_set (i := 4) scBst.nd rfl (.inl rfl) (pe_def G hr rfl (pa_cons (pe_slice sl_list (pv 0) po_none (po_some (pv 3))) pa_nil)))
        (pss_one (ps_if (pt_val (pe_def GG (hr.mono (by decide)) rfl (pa_cons (pv 4) (pa_cons (pv 2) pa_nil))))
          (pss_cons (ps_set (i := 1) scBst.nd rfl (.inl rfl) (pv 3)) (pss_one (ps_set (i := 2) scBst.nd rfl (.inl rfl) (pv 4)))) pss_nil))))
      (pss_one (ps_ret (pv 1))))), ?_⟩
    have len := hD.length
    intro x dx nx ndx nex
    refine ⟨x, dx, _, _, rfl, upd_same, fun H1 h1 kp => ⟨rfl, ?_⟩⟩
    have s1 := Same.made nx ndx kp
    refine ⟨_, rfl, a, vs, rfl, .inl (s1.seq hq), _, _, rfl, rfl, 1, _, rfl, ⟨by decide, by decide, by omega, by omega⟩, ?_⟩
    have en : ((vs.length : Int) + 1 - 1).toNat = ds.length := by omega
    rw [en]
    refine for_range (fun i σ H' => ∃ (q : Addr) (v u : Option V) (m : Nat), m = bestTo ds i ∧ σ = [some (.ref a), some (.int (m : Nat)), some (.ref q), v, u] ∧ Same H H' ∧ FrAt CF H' q (Kqk5.planValue m ds)) ?_ ?_ ?_
    · exact ⟨x, _, _, 0, (bestTo_zero ds).symm, rfl, s1, by rw [plan_is, List.take_zero]; exact FrAt.zero h1⟩
    · rintro i σ H' hi ⟨q, v, u, m, hm, rfl, s2, hf⟩
      have plz : ∀ j, Sz (Kqk5.planValue j ds) 221 := fun j => by
        rw [plan_is]
        refine (plan_sz (l := ds.take j) fun d hd => hok d (List.mem_of_mem_take hd)).mono ?_
        rw [List.length_take]
        omega
      have ec : (1 : Int) + (i : Nat) = ((i + 1 : Nat) : Int) := by omega
      rw [ec]
      refine ⟨_, rfl, _, rfl, _, rfl, a, vs, rfl, s2.seq hq, fun p hp => ?_⟩
      rw [cut_take]
      have s3 := upd_new (o := .lst (vs.take (i + 1))) hp
      refine ⟨p, ds.take (i + 1), rfl, ⟨_, SqL.of upd_same, Days.same (s2.trans s3) (hD.take _)⟩, fun d hd => hok d (List.mem_of_mem_take hd), by rw [List.length_take]; omega, fun H2 z hz s4 => ?_⟩
      rw [plan_take] at hz
      have s5 := s3.trans s4
      refine ⟨_, rfl, _, rfl, z, q, _, _, rfl, hz, hf.same s5, (plz _).mono (by decide), (plz _).mono (by decide), _, rfl, ?_⟩
      refine ite2 (fun c => ?_) (fun c => ?_)
      · refine ⟨_, rfl, _, rfl, z, _, _, i + 1, ?_, rfl, s2.trans s5, hz⟩
        rw [bestTo_succ, ← hm, if_pos (of_decide_eq_true c)]
      · refine ⟨q, _, _, m, ?_, rfl, s2.trans s5, hf.same s5⟩
        rw [bestTo_succ, ← hm, if_neg fun z => c (decide_eq_true z)]
    · rintro σ H' ⟨q, v, u, m, hm, rfl, s2, hf⟩
      subst hm
      exact ⟨_, rfl, k H' s2⟩
/-! ### lookahead_count_of_days -/
def spLok (K : PySem.W.Frag) (CD : Addr) : Sp := fun vs H Q _ => ∃ (a : Addr) (ds : List Kqk5.Day), vs = [.ref a] ∧ DL K CD H a ds ∧ (∀ d ∈ ds, Ok d) ∧ ds.length ≤ 10 ∧ ∀ H', Same H H' → Q (.int (Kqk5.lookaheadCount ds : Nat)) H'
theorem scLok : FnScope ["days", "count", "day"] ["days"] (defScope sLok) := ⟨rfl, rfl, rfl, by decide +kernel, rfl, by decide +kernel, by decide +kernel⟩
theorem ok_lok {f : Addr} {fd : FuncData} (F : Fun K "lookahead_count_of_days" "lookahead_count_of_days" sLok f fd) (T : TxW K mg CF CD) (G : Def P w K mg base 5 "single_value_of_day" ["day"] (spOne CF CD)) : FnOk P w K mg base CX0 6 f fd ["days"] (spLok K CD) := by
  refine F.ok scLok (fun vs H Q E h => ?_) (fun cdv A outer s H vs Q E hr h => ?_)
  · obtain ⟨a, ds, rfl, _⟩ := h
    rfl
  · obtain ⟨a, ds, rfl, ⟨vs, hq, hD⟩, hok, hl, k⟩ := h
    refine ⟨_, pss_cons (ps_for PassesOwn.never rfl (pi_enum (by rfl) T.enu (pa_cons (pv 0) pa_nil)) (pg_tup rfl (pgs_cons (pg_name (i := 1) scLok.nd rfl (.inl rfl)) (pgs_cons (pg_name (i := 2) scLok.nd rfl (.inl rfl)) pgs_nil)))
        (pss_one (ps_if (pt_cmpR op_le (pe_fld (pe_def G hr rfl (pa_cons (pv 2) pa_nil)) rfl) pe_int (nomark _)) (pss_one (ps_ret (pv 1))) pss_nil)))
      (pss_one (ps_ret (pe_callB call_len_seq (by rfl) T.len PySem.boot_len (pa_cons (pv 0) pa_nil)))), ?_⟩
    have len := hD.length
    refine ⟨_, rfl, a, vs, rfl, hq, ?_⟩
    refine for_it (walk_enum (xs := vs)) (fun i σ H' => ∃ (v u : Option V), σ = [some (.ref a), v, u] ∧ Same H H' ∧ Kqk5.lookaheadCount ds = i + Kqk5.lookaheadCount (ds.drop i)) ?_ ?_ ?_ ?_
    · exact ⟨_, _, rfl, Same.refl H, by rw [List.drop_zero, Nat.zero_add]⟩
    · rintro i σ H' _ ⟨_, _, _, s2, _⟩
      exact s2.seq hq
    · rintro i y σ H' H'' hi ⟨v, u, rfl, s2, hc⟩ ⟨t, y1, y2, rfl, ht, rfl, e1, e2⟩
      cases e1
      obtain ⟨b, d, rfl, hd, hb⟩ := (Days.same s2 hD).get e2
      have s3 := upd_new (o := .tup [.int (i : Nat), .ref b]) ht
      refine ⟨t, _, rfl, SqT.of upd_same, rfl, _, _, rfl, _, _, rfl, rfl, ?_⟩
      refine ⟨_, rfl, b, d, rfl, hb.same s3, hok d (List.mem_of_getElem? hd), fun H2 p hp s4 => ?_⟩
      obtain ⟨dp, hp⟩ := hp
      refine ⟨p, CF, dp, _, _, rfl, hp, T.clF, T.nT, fF_top _ _, _, _, rfl, rfl, _, rfl, ?_⟩
      have dr := drop_cons hd
      refine ite2 (fun c => ?_) (fun c => ?_)
      · have c1 := of_decide_eq_true c
        have c2 : ¬ 0 < Kqk5.singleDayValue d := fun z => by have := pos_num.mp z; omega
        refine ⟨_, rfl, ?_⟩
        have := k H2 (s2.trans (s3.trans s4))
        rw [look_stop dr hc c2] at this
        exact this
      · have c1 : ¬ (Kqk5.singleDayValue d).num ≤ 0 := fun z => c (decide_eq_true z)
        exact ⟨_, _, rfl, s2.trans (s3.trans s4), look_step dr hc (pos_num.mpr (by omega))⟩
    · rintro σ H' ⟨v, u, rfl, s2, hc⟩
      refine ⟨_, rfl, a, vs, rfl, .inl (s2.seq hq), ?_⟩
      have := k H' s2
      rw [hc, len, List.drop_length] at this
      rw [len]
      exact this
end
end HM

namespace HM
open PySem PySem.Spec PyProof.Rows L2
section
variable {P : Program} {w : World} {K : PySem.W.Frag} {mg : Str → Option Value} {base : Heap} {CF CD : Addr}
/-! ### with_other_cost -/
def spOth (CD : Addr) : Sp := fun vs H Q _ => ∃ (a : Addr) (d : Kqk5.Day) (co : Nat), vs = [.ref a, .int co] ∧ DayAt CD H a d ∧ ∀ H' x, DayAt CD H' x { d with cost := co } → Same H H' → Q (.ref x) H'
theorem scOth : FnScope ["day", "cost"] ["day", "cost"] (defScope sOth) := ⟨rfl, rfl, rfl, by decide +kernel, rfl, by decide +kernel, by decide +kernel⟩
theorem ok_oth {f : Addr} {fd : FuncData} (F : Fun K "with_other_cost" "with_other_cost" sOth f fd) (T : TxW K mg CF CD) (M : Mak P w K mg base 1 "Day" CD ["self", "gain", "event_top", "event_bottom", "cost"] (spDInit CD)) : FnOk P w K mg base CX0 3 f fd ["day", "cost"] (spOth CD) := by
  refine F.ok scOth (fun vs H Q E h => ?_) (fun cdv A outer s H vs Q E hr h => ?_)
  · obtain ⟨a, d, co, rfl, _⟩ := h
    rfl
  · obtain ⟨a, d, co, rfl, ⟨da, ha⟩, k⟩ := h
    refine ⟨_, pss_one (ps_ret (pe_mak M hr rfl (pa_cons (pe_fld (pv 0) rfl) (pa_cons (pe_fld (pv 0) rfl) (pa_cons (pe_fld (pv 0) rfl) (pa_cons (pv 1) pa_nil)))))), ?_⟩
    refine ⟨_, rfl, a, CD, da, _, _, rfl, ha, T.clD, T.nG, dF_gain d, _, rfl, a, CD, da, _, _, rfl, ha, T.clD, T.nET, dF_top d, _, rfl, a, CD, da, _, _, rfl, ha, T.clD, T.nEB, dF_bot d, _, rfl, ?_⟩
    intro x dx nx ndx nex
    exact ⟨x, dx, { d with cost := co }, rfl, upd_same, fun H' h' kp => ⟨rfl, k H' x ⟨dx, h'⟩ (Same.made nx ndx kp)⟩⟩
/-! ### is_monotone_case -/
def spMon (K : PySem.W.Frag) (CD : Addr) : Sp := fun vs H Q _ => ∃ (a : Addr) (ds : List Kqk5.Day), vs = [.ref a] ∧ DL K CD H a ds ∧ (∀ d ∈ ds, Ok d) ∧ ds.length ≤ 10 ∧ ∀ H', Same H H' → Q (.bl (Kqk5.isMonotone ds)) H'
theorem scMon : FnScope ["days", "day"] ["days"] (defScope sMon) := ⟨rfl, rfl, rfl, by decide +kernel, rfl, by decide +kernel, by decide +kernel⟩
theorem ok_mon {f : Addr} {fd : FuncData} (F : Fun K "is_monotone_case" "is_monotone_case" sMon f fd) (T : TxW K mg CF CD) (L : Def P w K mg base 6 "lookahead_count_of_days" ["days"] (spLok K CD)) (G : Def P w K mg base 5 "single_value_of_day" ["day"] (spOne CF CD)) :
    FnOk P w K mg base CX0 7 f fd ["days"] (spMon K CD) := by
  refine F.ok scMon (fun vs H Q E h => ?_) (fun cdv A outer s H vs Q E hr h => ?_)
  · obtain ⟨a, ds, rfl, _⟩ := h
    rfl
  · obtain ⟨a, ds, rfl, hq, hok, hl, k⟩ := h
    have hq0 := hq
    obtain ⟨vs, hv, hD⟩ := hq
    refine ⟨_, pss_cons (ps_for PassesOwn.never rfl (pi_list (pe_slice sl_list (pv 0) (po_some (pe_def L hr rfl (pa_cons (pv 0) pa_nil))) po_none)) (pg_name (i := 1) scMon.nd rfl (.inl rfl))
        (pss_one (ps_if (pt_cmpR op_gt (pe_fld (pe_def G (hr.mono (by decide)) rfl (pa_cons (pv 1) pa_nil)) rfl) pe_int (nomark _)) (pss_one (ps_ret pe_bl)) pss_nil)))
      (pss_one (ps_ret pe_bl)), ?_⟩
    refine ⟨_, rfl, _, rfl, a, ds, rfl, hq0, hok, hl, fun H1 s1 => ?_⟩
    refine ⟨_, rfl, a, vs, rfl, s1.seq hv, fun b hb => ?_⟩
    rw [cut_drop]
    have s2 := upd_new (o := .lst (vs.drop (Kqk5.lookaheadCount ds))) hb
    generalize hH2 : upd H1 b (.lst (vs.drop (Kqk5.lookaheadCount ds))) = H2 at s2
    have hb2 : SqL K H2 b (vs.drop (Kqk5.lookaheadCount ds)) := by rw [← hH2]; exact SqL.of upd_same
    have hD2 : Days CD H2 (vs.drop (Kqk5.lookaheadCount ds)) (ds.drop (Kqk5.lookaheadCount ds)) := (Days.same (s1.trans s2) hD).drop _
    have hm : Kqk5.isMonotone ds = notPos (ds.drop (Kqk5.lookaheadCount ds)) := mono_eq ds
    have hok2 : ∀ d ∈ ds.drop (Kqk5.lookaheadCount ds), Ok d := fun d hd => hok d (List.mem_of_mem_drop hd)
    generalize vs.drop (Kqk5.lookaheadCount ds) = ws at *
    generalize ds.drop (Kqk5.lookaheadCount ds) = es at *
    have len := hD2.length
    refine ⟨b, rfl, ⟨_, hb2⟩, ?_⟩
    refine for_it (walk_list (xs := ws)) (fun i σ H' => ∃ (u : Option V), σ = [some (.ref a), u] ∧ Same H2 H' ∧ Kqk5.isMonotone ds = notPos (es.drop i)) ?_ ?_ ?_ ?_
    · exact ⟨_, rfl, Same.refl _, hm⟩
    · rintro i σ H' _ ⟨_, _, s3, _⟩
      exact s3.seq hb2
    · rintro i y σ H' H'' hi ⟨u, rfl, s3, hc⟩ ⟨rfl, hy⟩
      obtain ⟨x, d, rfl, hd, hx⟩ := (Days.same s3 hD2).get hy
      have dr := drop_cons hd
      refine ⟨_, rfl, x, d, rfl, hx, hok2 d (List.mem_of_getElem? hd), fun H4 p hp s4 => ?_⟩
      obtain ⟨dp, hp⟩ := hp
      refine ⟨p, CF, dp, _, _, rfl, hp, T.clF, T.nT, fF_top _ _, _, _, rfl, rfl, _, rfl, ?_⟩
      refine ite2 (fun c => ?_) (fun c => ?_)
      · have c2 : 0 < Kqk5.singleDayValue d := pos_num.mpr (of_decide_eq_true c)
        have := k H4 (s1.trans (s2.trans (s3.trans s4)))
        rw [notPos_stop dr hc c2] at this
        exact this
      · have c2 : ¬ 0 < Kqk5.singleDayValue d := fun z => c (decide_eq_true (pos_num.mp z))
        exact ⟨_, rfl, s3.trans s4, notPos_step dr hc c2⟩
    · rintro σ H' ⟨u, rfl, s3, hc⟩
      have := k H' (s1.trans (s2.trans s3))
      rw [hc, len, List.drop_length] at this
      exact this
/-! ### quiet_probability_of_days -/
theorem ip_mulW {X : Cx} : PIp X .Mult (fun x y H Q => ∃ i j, x = .int i ∧ y = .int j ∧ CMulW i j ∧ Q (.int (i * j)) H) := by
  intro pins s σ H x y v u Q I r1 r2 h
  obtain ⟨i, j, e1, e2, c, q⟩ := h
  subst e1; subst e2
  obtain ⟨t, rfl⟩ := r1
  obtain ⟨t', rfl⟩ := r2
  exact imul_int ⟨.int _, H, I.tok _, ⟨_, rfl⟩, q⟩ c.ok
def spQui (K : PySem.W.Frag) (CF CD : Addr) : Sp := fun vs H Q _ => ∃ (a : Addr) (ds : List Kqk5.Day), vs = [.ref a] ∧ DL K CD H a ds ∧ (∀ d ∈ ds, Ok d) ∧ ds.length ≤ 10 ∧ ∀ H' p, FrAt CF H' p (quiet ds) → Same H H' → Q (.ref p) H'
theorem scQui : FnScope ["days", "quiet_top", "bottom", "day"] ["days"] (defScope sQui) := ⟨rfl, rfl, rfl, by decide +kernel, rfl, by decide +kernel, by decide +kernel⟩
theorem ok_qui {f : Addr} {fd : FuncData} (F : Fun K "quiet_probability_of_days" "quiet_probability_of_days" sQui f fd) (T : TxW K mg CF CD) (G : Def P w K mg base 3 "lowest_terms" ["top", "bottom"] (spLow CF)) : FnOk P w K mg base CX0 4 f fd ["days"] (spQui K CF CD) := by
  refine F.ok scQui (fun vs H Q E h => ?_) (fun cdv A outer s H vs Q E hr h => ?_)
  · obtain ⟨a, ds, rfl, _⟩ := h
    rfl
  · obtain ⟨a, ds, rfl, ⟨vs, hq, hD⟩, hok, hl, k⟩ := h
    refine ⟨_, pss_cons (ps_set (i := 1) scQui.nd rfl (.inl rfl) pe_int) (pss_cons (ps_set (i := 2) scQui.nd rfl (.inl rfl) pe_int)
      (pss_cons (ps_for PassesOwn.never rfl (pi_list (pv 0)) (pg_name (i := 3) scQui.nd rfl (.inl rfl))
        (pss_cons (ps_aug (i := 1) scQui.nd rfl (.inl rfl) (pe_op op_sub (pe_fld (pv 3) rfl) (pe_fld (pv 3) rfl)) ip_mulW)
        (pss_one (ps_aug (i := 2) scQui.nd rfl (.inl rfl) (pe_fld (pv 3) rfl) ip_mulW))))
      (pss_one (ps_ret (pe_def G hr rfl (pa_cons (pv 1) (pa_cons (pv 2) pa_nil))))))), ?_⟩
    have len := hD.length
    refine ⟨_, rfl, a, rfl, ⟨_, hq⟩, ?_⟩
    refine for_it (walk_list (xs := vs)) (fun i σ H' => H' = H ∧ ∃ (t : Int) (b : Nat) (u : Option V), σ = [some (.ref a), some (.int t), some (.int b), u] ∧ t.natAbs < 2 ^ (7 * i + 1) ∧ b < 2 ^ (7 * i + 1) ∧ b ≠ 0 ∧ quiet (ds.take i) = mkRat t b) ?_ ?_ ?_ ?_
    · exact ⟨rfl, 1, 1, _, rfl, by decide, by decide, by decide, by rw [List.take_zero]; rfl⟩
    · rintro i σ H' _ ⟨rfl, _⟩
      exact hq
    · rintro i y σ H' H'' hi ⟨rfl, t, b, u, rfl, ht, hb, nb, hv⟩ ⟨rfl, hy⟩
      obtain ⟨x, d, rfl, hd, dx, hx⟩ := hD.get hy
      have od := hok d (List.mem_of_getElem? hd)
      obtain ⟨_, d1, d2, d3, _⟩ := od
      have w1 : ((d.denominator : Int) - d.numerator).natAbs < 2 ^ 7 := by show _ < 128; omega
      have w2 : (d.denominator : Int).natAbs < 2 ^ 7 := by show d.denominator < 128; omega
      have w3 : (b : Int).natAbs < 2 ^ (7 * i + 1) := hb
      refine ⟨_, rfl, _, rfl, x, CD, dx, _, _, rfl, hx, T.clD, T.nEB, dF_bot d, _, rfl, x, CD, dx, _, _, rfl, hx, T.clD, T.nET, dF_top d, _, _, rfl, rfl, ?_⟩
      refine ⟨_, _, rfl, rfl, wide_mul ht w1 (by omega) (by decide) (by omega), ?_⟩
      refine ⟨_, rfl, _, rfl, x, CD, dx, _, _, rfl, hx, T.clD, T.nEB, dF_bot d, ?_⟩
      refine ⟨_, _, rfl, rfl, wide_mul w3 w2 (by omega) (by decide) (by omega), ?_⟩
      refine ⟨rfl, t * ((d.denominator : Int) - d.numerator), b * d.denominator, _, rfl, ?_, ?_, Nat.mul_ne_zero nb (by omega), ?_⟩
      · have := wide_lt ht w1
        rw [show 7 * (i + 1) + 1 = 7 * i + 1 + 7 by omega]
        exact this
      · have := wide_lt w3 w2
        rw [show 7 * (i + 1) + 1 = 7 * i + 1 + 7 by omega]
        rw [Int.natAbs_mul] at this
        exact this
      · rw [quiet_succ hd, hv, quiet_mul nb (by omega)]
    · rintro σ H' ⟨rfl, t, b, u, rfl, ht, hb, nb, hv⟩
      refine ⟨_, rfl, _, rfl, t, b, rfl, nb, ?_, fun H2 p hp s2 => k H2 p ?_ s2⟩
      · exact Nat.lt_of_lt_of_le hb (Nat.pow_le_pow_right (by decide) (by omega))
      · rw [len, List.take_length] at hv
        rw [hv]
        exact hp
/-! ### greatest_worthwhile_cost -/
def spGwc (CF CD : Addr) : Sp := fun vs H Q _ => ∃ (a b : Addr) (d : Kqk5.Day) (x : Rat), vs = [.ref a, .ref b] ∧ DayAt CD H a d ∧ FrAt CF H b x ∧ Ok d ∧ d.numerator ≠ 0 ∧ Sz x 221 ∧ ∀ H', Same H H' → Q (.int ((costTop d x - 1) / (costBot d x : Int))) H'
theorem scGwc : FnScope ["day", "rest", "free_of_cost", "limit", "step"] ["day", "rest"] (defScope sGwc) := ⟨rfl, rfl, rfl, by decide +kernel, rfl, by decide +kernel, by decide +kernel⟩
theorem ok_gwc {f : Addr} {fd : FuncData} (F : Fun K "greatest_worthwhile_cost" "greatest_worthwhile_cost" sGwc f fd) (T : TxW K mg CF CD) (G : Def P w K mg base 4 "value_of_going_on" ["day", "rest"] (spGo CF CD)) (O : Def P w K mg base 3 "with_other_cost" ["day", "cost"] (spOth CD)) :
    FnOk P w K mg base CX0 5 f fd ["day", "rest"] (spGwc CF CD) := by
  refine F.ok scGwc (fun vs H Q E h => ?_) (fun cdv A outer s H vs Q E hr h => ?_)
  · obtain ⟨a, b, d, x, rfl, _⟩ := h
    rfl
  · obtain ⟨a, b, d, x, rfl, hd, hx, od, nz, sx, k⟩ := h
    refine ⟨_, pss_cons (ps_set (i := 2) scGwc.nd rfl (.inl rfl) (pe_def G hr rfl (pa_cons (pe_def O (hr.mono (by decide)) rfl (pa_cons (pv 0) (pa_cons pe_int pa_nil))) (pa_cons (pv 1) pa_nil))))
      (pss_cons (ps_set (i := 3) scGwc.nd rfl (.inl rfl) (pe_op op_mulW (pe_fld (pv 2) rfl) (pe_fld (pv 0) rfl)))
      (pss_cons (ps_set (i := 4) scGwc.nd rfl (.inl rfl) (pe_op op_mulW (pe_fld (pv 0) rfl) (pe_fld (pv 2) rfl)))
      (pss_one (ps_ret (pe_op op_fdivW (pe_op op_sub (pv 3) pe_int) (pv 4)))))), ?_⟩
    refine ⟨_, rfl, a, d, 0, rfl, hd, fun H1 y hy s1 => ?_⟩
    have o0 : Ok { d with cost := 0 } := ⟨od.1, od.2.1, od.2.2.1, od.2.2.2.1, Nat.zero_le _⟩
    refine ⟨_, rfl, y, b, { d with cost := 0 }, x, 221, rfl, hy, hx.same s1, o0, sx, by decide, by decide, fun H2 p hp s2 => ?_⟩
    have sf : Sz (free d x) (22 + 221) := goOn_sz o0 sx
    have hp' : FrAt CF H2 p (free d x) := hp
    have k' := k H2 (s1.trans s2)
    unfold costTop costBot at k'
    generalize free d x = fr at *
    obtain ⟨dp, hp⟩ := hp'
    obtain ⟨da, ha⟩ := hd.same (s1.trans s2)
    have wd : (d.denominator : Int).natAbs < 2 ^ 7 := by have := od.2.2.1; show d.denominator < 128; omega
    have wn : (d.numerator : Int).natAbs < 2 ^ 7 := by have := od.2.2.1; have := od.2.2.2.1; show d.numerator < 128; omega
    have wb : (fr.den : Int).natAbs < 2 ^ (22 + 221) := sf.2
    refine ⟨_, rfl, p, CF, dp, _, _, rfl, hp, T.clF, T.nT, fF_top _ _, _, rfl, a, CD, da, _, _, rfl, ha, T.clD, T.nEB, dF_bot d, _, _, rfl, rfl, wide_mul sf.1 wd (by decide) (by decide) (by decide), ?_⟩
    refine ⟨_, rfl, a, CD, da, _, _, rfl, ha, T.clD, T.nET, dF_top d, _, rfl, p, CF, dp, _, _, rfl, hp, T.clF, T.nB, fF_bot _ _, _, _, rfl, rfl, wide_mul wn wb (by decide) (by decide) (by decide), ?_⟩
    have pos : (0 : Int) < (d.numerator : Int) * (fr.den : Int) := Int.mul_pos (by omega) (by have := fr.den_nz; omega)
    refine ⟨_, rfl, _, _, rfl, rfl, _, rfl, _, _, rfl, rfl, wide_div pos (wide_lt wn wb) (by decide) (by decide), ?_⟩
    exact k'
end
end HM

namespace HM
open PySem PySem.Spec PyProof.Rows L2
/-! ### the text, campaign.py -/
abbrev sCInit : Stmt := inClass (top 33) 0
abbrev sHas : Stmt := inClass (top 33) 1
abbrev sRem : Stmt := inClass (top 33) 2
abbrev sRng : Stmt := top 34
abbrev sDay : Stmt := top 35
abbrev sFra : Stmt := top 36
abbrev sAdd : Stmt := top 37
abbrev sSet : Stmt := top 38
abbrev sPop : Stmt := top 39
abbrev sGet : Stmt := top 40
abbrev sOVal : Stmt := top 41
abbrev sOFrom : Stmt := top 42
abbrev sOPln : Stmt := top 43
abbrev sOBst : Stmt := top 44
abbrev sOLok : Stmt := top 45
abbrev sOOne : Stmt := top 46
abbrev sOMon : Stmt := top 47
abbrev sOQui : Stmt := top 48
abbrev sCon : Stmt := top 49
abbrev sSto : Stmt := top 50
abbrev sRes : Stmt := top 51
abbrev sMax : Stmt := top 52
abbrev sWco : Stmt := top 53
abbrev sOWor : Stmt := top 54
abbrev sSum : Stmt := top 55
abbrev sAns : Stmt := top 59
/-- a number of the module -/
theorem pe_con {X : Cx} {x : Str} {i : Int} {pos : Pos} (h : ∃ t, X.mg x = some (.int i t)) (hg : Gl X x) (hd : (x == ("__debug__" : Str)) = false := by decide) : PE X (.Name x pos) (tC (.int i)) := by
  obtain ⟨t, e⟩ := h
  exact pe_glob hg e ⟨t, rfl⟩ hd
/-- a list of whole numbers -/
abbrev IL (K : PySem.W.Frag) (H : Hp) (b : Addr) (ns : List Int) : Prop := SqL K H b (ns.map V.int)
/-! ### the campaign in the heap -/
def cF (p : Addr) (c : Kqk5.Campaign) : List (Str × V) := [("days", .ref p), ("next_day", .int c.next), ("total", .int c.total), ("status", .int c.status)]
theorem cF_days (p : Addr) (c : Kqk5.Campaign) : (cF p c).lookup ("days" : Str) = some (.ref p) := lk_here
theorem cF_next (p : Addr) (c : Kqk5.Campaign) : (cF p c).lookup ("next_day" : Str) = some (.int c.next) := (lk_past (by decide +kernel)).trans lk_here
theorem cF_total (p : Addr) (c : Kqk5.Campaign) : (cF p c).lookup ("total" : Str) = some (.int c.total) := (lk_past (by decide +kernel)).trans ((lk_past (by decide +kernel)).trans lk_here)
theorem cF_status (p : Addr) (c : Kqk5.Campaign) : (cF p c).lookup ("status" : Str) = some (.int c.status) := (lk_past (by decide +kernel)).trans ((lk_past (by decide +kernel)).trans ((lk_past (by decide +kernel)).trans lk_here))
/-- no method is a field -/
theorem cF_rem (p : Addr) (c : Kqk5.Campaign) : (cF p c).lookup ("remaining_days" : Str) = none :=
  (lk_past (by decide +kernel)).trans ((lk_past (by decide +kernel)).trans ((lk_past (by decide +kernel)).trans ((lk_past (by decide +kernel)).trans rfl)))
theorem cF_has (p : Addr) (c : Kqk5.Campaign) : (cF p c).lookup ("has_day" : Str) = none :=
  (lk_past (by decide +kernel)).trans ((lk_past (by decide +kernel)).trans ((lk_past (by decide +kernel)).trans ((lk_past (by decide +kernel)).trans rfl)))
theorem cF_pN (p : Addr) (c : Kqk5.Campaign) (n : Nat) : putF "next_day" (.int n) (cF p c) = cF p { c with next := n } := (put_past (by decide +kernel)).trans (congrArg _ put_here)
theorem cF_pT (p : Addr) (c : Kqk5.Campaign) (i : Int) : putF "total" (.int i) (cF p c) = cF p { c with total := i } :=
  (put_past (by decide +kernel)).trans (congrArg _ ((put_past (by decide +kernel)).trans (congrArg _ put_here)))
theorem cF_pS (p : Addr) (c : Kqk5.Campaign) (n : Nat) : putF "status" (.int n) (cF p c) = cF p { c with status := n } :=
  (put_past (by decide +kernel)).trans (congrArg _ ((put_past (by decide +kernel)).trans (congrArg _ ((put_past (by decide +kernel)).trans (congrArg _ put_here)))))
def emptyC : Kqk5.Campaign := ⟨[], 0, 0, 0⟩
theorem cF1 (p : Addr) : putF "next_day" (.int 0) (putF "days" (.ref p) []) = ([("days", .ref p), ("next_day", .int 0)] : List (Str × V)) := (put_past (by decide +kernel)).trans rfl
theorem cF2 (p : Addr) : putF "total" (.int 0) ([("days", .ref p), ("next_day", .int 0)] : List (Str × V)) = ([("days", .ref p), ("next_day", .int 0), ("total", .int 0)] : List (Str × V)) :=
  (put_past (by decide +kernel)).trans (congrArg _ ((put_past (by decide +kernel)).trans rfl))
theorem cF3 (p : Addr) : putF "status" (.int 0) ([("days", .ref p), ("next_day", .int 0), ("total", .int 0)] : List (Str × V)) = cF p emptyC :=
  (put_past (by decide +kernel)).trans (congrArg _ ((put_past (by decide +kernel)).trans (congrArg _ ((put_past (by decide +kernel)).trans rfl))))
/-- what is always true of a campaign -/
structure COk (c : Kqk5.Campaign) : Prop where
  days : ∀ d ∈ c.days, Ok d
  most : c.days.length ≤ 10
  next : c.next ≤ c.days.length
theorem COk.rem {c : Kqk5.Campaign} (h : COk c) : ∀ d ∈ c.days.drop c.next, Ok d := fun d hd => h.days d (List.mem_of_mem_drop hd)
theorem COk.remL {c : Kqk5.Campaign} (h : COk c) : (c.days.drop c.next).length ≤ 10 := by
  have := h.most
  rw [List.length_drop]
  omega
/-- at a stands the campaign c, its list of days at p -/
structure CampAt (CC CD : Addr) (H : Hp) (a p : Addr) (c : Kqk5.Campaign) : Prop where
  ins : ∃ dx, H a = some (.ins CC dx (cF p c))
  lst : ∃ vs, H p = some (.lst vs) ∧ Days CD H vs c.days
  ok : COk c
theorem CampAt.same {CC CD : Addr} {H H' : Hp} {a p : Addr} {c : Kqk5.Campaign} (h : CampAt CC CD H a p c) (s : Same H H') : CampAt CC CD H' a p c := by
  obtain ⟨⟨dx, e⟩, ⟨vs, q, r⟩, ok⟩ := h
  exact ⟨⟨dx, s _ _ e⟩, ⟨vs, s _ _ q, Days.same s r⟩, ok⟩
/-- all but the campaign is as it was -/
def But (a p : Addr) (H H' : Hp) : Prop := ∀ b o, H b = some o → b ≠ a → b ≠ p → H' b = some o
theorem Same.but {a p : Addr} {H H' : Hp} (s : Same H H') : But a p H H' := fun b o e _ _ => s b o e
theorem But.trans {a p : Addr} {H H1 H2 : Hp} (s : But a p H H1) (t : But a p H1 H2) : But a p H H2 := fun b o e h1 h2 => t b o (s b o e h1 h2) h1 h2
/-! ### what the top has written -/
structure TxC (K : PySem.W.Frag) (mg : Str → Option Value) (CC : Addr) : Prop where
  cl : Cls K CC
  nD : NoAttr K CC "days"
  nN : NoAttr K CC "next_day"
  nT : NoAttr K CC "total"
  nS : NoAttr K CC "status"
  most : ∃ t, mg "MOST_DAYS" = some (.int 10 t)
  gain : ∃ t, mg "GREATEST_GAIN" = some (.int 1000 t)
  den : ∃ t, mg "GREATEST_DENOMINATOR" = some (.int 100 t)
  cost : ∃ t, mg "GREATEST_COST" = some (.int 10000 t)
  run : ∃ t, mg "RUNNING" = some (.int 0 t)
  e2 : ∃ t, mg "NO_SUCH_DAY" = some (.int (-2) t)
  e6 : ∃ t, mg "NOTHING_TO_REMOVE" = some (.int (-6) t)
  e11 : ∃ t, mg "NOT_CREATED" = some (.int (-11) t)
  e16 : ∃ t, mg "PAST_OR_NOT_RUNNING" = some (.int (-16) t)
  e22 : ∃ t, mg "OUT_OF_RANGE" = some (.int (-22) t)
  e28 : ∃ t, mg "TOO_MANY_DAYS" = some (.int (-28) t)
  sam : ∃ t, mg "GREATEST_SAMPLE" = some (.int 999 t)
  sms : ∃ t, mg "SAMPLES" = some (.int 1000 t)
  evt : ∃ t, mg "ENDED_BY_EVENT" = some (.int 1 t)
  sto : ∃ t, mg "STOPPED" = some (.int 2 t)
  e33 : ∃ t, mg "NO_DAY_OR_COST" = some (.int (-33) t)
/-- a method -/
structure Mth (P : Program) (w : World) (K : PySem.W.Frag) (mg : Str → Option Value) (base : Heap) (k : Nat) (C : Addr) (m : Str) (ps : List Str) (sp : Sp) : Prop where
  ex : ∃ (f : Addr) (fd : FuncData), FnOk P w K mg base CX0 k f fd ps sp ∧ Meth K C m f ∧ Binds K fd ps []
theorem pe_mth0 {X : Cx} {k : Nat} {C : Addr} {m : Str} {ps : List Str} {sp : Sp} {apos pos : Pos} {o : Expr} {ta : TE} {pl : Sem Bool} (D : Mth X.prog X.w X.K X.mg X.base k C m ps sp) (he : PE X o ta) (c : Cls X.K C) (hr : Room k X.A)
    (ht : eval (.Call (.Attribute o m apos) [] [] pos) X.env = (do
      let ov ← eval o X.env
      standAt apos.atName
      let (f, first) ← holding [ov] (getMethod ov m pl)
      callWith pos f first (backTo pos (starEach [] X.env)) (backToKw pos (keywordEach [] X.env))) := by rfl) :
    PE X (.Call (.Attribute o m apos) [] [] pos) (tMeth C m sp [] E0 ta tNil) := by
  obtain ⟨f, fd, F, hm, hb⟩ := D.ex
  exact pe_meth0 he c hm F hr hb .nil pass0 ht
theorem pe_mth1 {X : Cx} {k : Nat} {C : Addr} {m : Str} {ps : List Str} {sp : Sp} {apos pos : Pos} {o e : Expr} {es : List Expr} {ta : TE} {t : TA} {pl : Sem Bool} (D : Mth X.prog X.w X.K X.mg X.base k C m ps sp) (he : PE X o ta) (c : Cls X.K C) (hr : Room k X.A) (ha : PA X (e :: es) t)
    (hst : starEach (e :: es) X.env = (false, eval e X.env) :: starEach es X.env := by rfl) (hpl : (backTo pos (starEach es X.env)).any (·.1) = false := by rfl)
    (ht : eval (.Call (.Attribute o m apos) (e :: es) [] pos) X.env = (do
      let ov ← eval o X.env
      standAt apos.atName
      let (f, first) ← holding [ov] (getMethod ov m pl)
      callWith pos f first (backTo pos (starEach (e :: es) X.env)) (backToKw pos (keywordEach [] X.env))) := by rfl) :
    PE X (.Call (.Attribute o m apos) (e :: es) [] pos) (tMeth C m sp [] E0 ta t) := by
  obtain ⟨f, fd, F, hm, hb⟩ := D.ex
  exact pe_meth he c hm F hr hb .nil pass0 ha hst hpl ht
theorem ite_not {b : Bool} {A B : Prop} (h0 : b = false → A) (h1 : b = true → B) : if (!b) = true then A else B := by
  cases b with
  | false => exact iteT (h0 rfl)
  | true => exact iteF (h1 rfl)
section
variable {P : Program} {w : World} {K : PySem.W.Frag} {mg : Str → Option Value} {base : Heap} {CF CD CC : Addr}
/-! ### Campaign() -/
def spCInit (CC : Addr) : Sp := fun vs H Q _ => ∃ (a dx : Addr), vs = [.ref a] ∧ H a = some (.ins CC dx []) ∧
  ∀ H' p, H p = none → H' p = some (.lst []) → H' a = some (.ins CC dx (cF p emptyC)) → (∀ b o, H b = some o → b ≠ a → H' b = some o) → Q .non H'
theorem scCI : FnScope ["self"] ["self"] (defScope sCInit) := ⟨rfl, rfl, rfl, by decide +kernel, rfl, by decide +kernel, by decide +kernel⟩
theorem ok_cinit {f : Addr} {fd : FuncData} (F : Fun K "__init__" "Campaign.__init__" sCInit f fd) (T : TxC K mg CC) : FnOk P w K mg base CX0 1 f fd ["self"] (spCInit CC) := by
  refine F.ok scCI (fun vs H Q E h => ?_) (fun cdv A outer s H vs Q E hr h => ?_)
  · obtain ⟨a, dx, rfl, _⟩ := h
    rfl
  · obtain ⟨a, dx, rfl, ha, k⟩ := h
    refine ⟨_, pss_cons (ps_fld (pv 0) (pe_lst pa_nil) rfl) (pss_cons (ps_fld (pv 0) pe_int rfl) (pss_cons (ps_fld (pv 0) pe_int rfl) (pss_one (ps_fld (pv 0) (pe_con T.run rfl) rfl)))), ?_⟩
    refine ⟨Nat.zero_le _, fun p hp => ?_⟩
    have nap : a ≠ p := ne_of_none ha hp
    refine ⟨_, rfl, a, CC, dx, [], rfl, (by rw [upd_ne nap]; exact ha), T.cl, T.nD, (by show 0 < 1000; decide), ?_⟩
    refine ⟨_, rfl, a, CC, dx, _, rfl, upd_same, T.cl, T.nN, (by show 1 < 1000; decide), ?_⟩
    refine ⟨_, rfl, a, CC, dx, _, rfl, upd_same, T.cl, T.nT, (by rw [cF1]; show 2 < 1000; decide), ?_⟩
    refine ⟨_, rfl, a, CC, dx, _, rfl, upd_same, T.cl, T.nS, (by rw [cF1, cF2]; show 3 < 1000; decide), ?_⟩
    refine k _ p hp ?_ ?_ fun b o e hb => ?_
    · rw [upd_ne nap.symm, upd_ne nap.symm, upd_ne nap.symm, upd_ne nap.symm, upd_same]
    · rw [upd_same, cF1, cF2, cF3]
    · rw [upd_ne hb, upd_ne hb, upd_ne hb, upd_ne hb, upd_ne (ne_of_none e hp)]
      exact e
/-! ### remaining_days -/
def spRem (K : PySem.W.Frag) (CC CD : Addr) : Sp := fun vs H Q _ => ∃ (a p : Addr) (c : Kqk5.Campaign), vs = [.ref a] ∧ CampAt CC CD H a p c ∧ ∀ H' q, DL K CD H' q (c.days.drop c.next) → Same H H' → H q = none → Q (.ref q) H'
theorem scRem : FnScope ["self"] ["self"] (defScope sRem) := ⟨rfl, rfl, rfl, by decide +kernel, rfl, by decide +kernel, by decide +kernel⟩
theorem ok_rem {f : Addr} {fd : FuncData} (F : Fun K "remaining_days" "Campaign.remaining_days" sRem f fd) (T : TxC K mg CC) : FnOk P w K mg base CX0 1 f fd ["self"] (spRem K CC CD) := by
  refine F.ok scRem (fun vs H Q E h => ?_) (fun cdv A outer s H vs Q E hr h => ?_)
  · obtain ⟨a, p, c, rfl, _⟩ := h
    rfl
  · obtain ⟨a, p, c, rfl, ⟨⟨dx, ha⟩, ⟨vs, hp, hD⟩, ok⟩, k⟩ := h
    refine ⟨_, pss_one (ps_ret (pe_slice sl_list (pe_fld (pv 0) rfl) (po_some (pe_fld (pv 0) rfl)) po_none)), ?_⟩
    refine ⟨_, rfl, a, CC, dx, _, _, rfl, ha, T.cl, T.nD, cF_days _ _, _, rfl, a, CC, dx, _, _, rfl, ha, T.cl, T.nN, cF_next _ _, _, rfl, p, vs, rfl, SqL.of hp, fun q hq => ?_⟩
    rw [cut_drop]
    have s1 := upd_new (o := .lst (vs.drop c.next)) hq
    exact k _ q ⟨_, SqL.of upd_same, (Days.same s1 hD).drop _⟩ s1 hq
/-! ### has_day -/
def spHas (CC CD : Addr) : Sp := fun vs H Q _ => ∃ (a p : Addr) (c : Kqk5.Campaign) (n : Nat), vs = [.ref a, .int n] ∧ CampAt CC CD H a p c ∧ Q (.bl (decide (n < c.days.length))) H
theorem scHas : FnScope ["self", "number"] ["self", "number"] (defScope sHas) := ⟨rfl, rfl, rfl, by decide +kernel, rfl, by decide +kernel, by decide +kernel⟩
theorem ok_has {f : Addr} {fd : FuncData} (F : Fun K "has_day" "Campaign.has_day" sHas f fd) (T : TxW K mg CF CD) (U : TxC K mg CC) : FnOk P w K mg base CX0 1 f fd ["self", "number"] (spHas CC CD) := by
  refine F.ok scHas (fun vs H Q E h => ?_) (fun cdv A outer s H vs Q E hr h => ?_)
  · obtain ⟨a, p, c, n, rfl, _⟩ := h
    rfl
  · obtain ⟨a, p, c, n, rfl, ⟨⟨dx, ha⟩, ⟨vs, hp, hD⟩, ok⟩, k⟩ := h
    refine ⟨_, pss_one (ps_ret (pe_cmpR op_lt (pv 1) (pe_callB call_len_seq (by rfl) T.len PySem.boot_len (pa_cons (pe_fld (pv 0) rfl) pa_nil)) (nomark _))), ?_⟩
    refine ⟨_, rfl, _, rfl, a, CC, dx, _, _, rfl, ha, U.cl, U.nD, cF_days _ _, p, vs, rfl, .inl (SqL.of hp), _, _, rfl, rfl, ?_⟩
    rw [hD.length]
    have e : decide ((n : Int) < (c.days.length : Int)) = decide (n < c.days.length) := by rw [decide_eq_decide]; omega
    show Q (.bl (decide ((n : Int) < (c.days.length : Int)))) H
    rw [e]
    exact k
abbrev MHas (P : Program) (w : World) (K : PySem.W.Frag) (mg : Str → Option Value) (base : Heap) (CC CD : Addr) : Prop := Mth P w K mg base 1 CC "has_day" ["self", "number"] (spHas CC CD)
/-! ### is_in_range -/
def spRng (K : PySem.W.Frag) : Sp := fun vs H Q _ => ∃ (b : Addr) (g n d co : Nat), vs = [.ref b] ∧ IL K H b [(g : Int), (n : Int), (d : Int), (co : Int)] ∧ Q (.bl (Kqk5.isDay g n d co)) H
theorem scRng : FnScope ["fields", "numerator", "denominator"] ["fields"] (defScope sRng) := ⟨rfl, rfl, rfl, by decide +kernel, rfl, by decide +kernel, by decide +kernel⟩
theorem dec_cast {a b : Nat} : decide ((a : Int) ≤ (b : Int)) = decide (a ≤ b) := by
  rw [decide_eq_decide]
  omega
theorem ok_rng {f : Addr} {fd : FuncData} (F : Fun K "is_in_range" "is_in_range" sRng f fd) (T : TxC K mg CC) : FnOk P w K mg base CX0 1 f fd ["fields"] (spRng K) := by
  refine F.ok scRng (fun vs H Q E h => ?_) (fun cdv A outer s H vs Q E hr h => ?_)
  · obtain ⟨b, g, n, d, co, rfl, _⟩ := h
    rfl
  · obtain ⟨b, g, n, d, co, rfl, hb, k⟩ := h
    refine ⟨_, pss_cons (ps_set (i := 1) scRng.nd rfl (.inl rfl) (pe_ix ix_list (pv 0) pe_int (fun _ _ => rfl))) (pss_cons (ps_set (i := 2) scRng.nd rfl (.inl rfl) (pe_ix ix_list (pv 0) pe_int (fun _ _ => rfl)))
      (pss_one (ps_ret (pe_and (pe_cmpR op_le (pe_ix ix_list (pv 0) pe_int (fun _ _ => rfl)) (pe_con T.gain rfl) (nomark _))
        (pe_and (pe_chain op_le op_le pe_int (pv 2) (pe_con T.den rfl))
        (pe_and (pe_cmpR op_le (pv 1) (pv 2) (nomark _))
        (pe_one (pe_cmpR op_le (pe_ix ix_list (pv 0) pe_int (fun _ _ => rfl)) (pe_con T.cost rfl) (nomark _))))))))), ?_⟩
    have e0 : atI (([(g : Int), (n : Int), (d : Int), (co : Int)]).map V.int) 0 = some (.int g) := rfl
    have e1 : atI (([(g : Int), (n : Int), (d : Int), (co : Int)]).map V.int) 1 = some (.int n) := rfl
    have e2 : atI (([(g : Int), (n : Int), (d : Int), (co : Int)]).map V.int) 2 = some (.int d) := rfl
    have e3 : atI (([(g : Int), (n : Int), (d : Int), (co : Int)]).map V.int) 3 = some (.int co) := rfl
    refine ⟨_, rfl, b, _, _, _, rfl, rfl, hb, e1, ?_⟩
    refine ⟨_, rfl, b, _, _, _, rfl, rfl, hb, e2, ?_⟩
    have fin : ∀ x : Bool, x = Kqk5.isDay g n d co → Q (.bl x) H := fun x e => e ▸ k
    unfold Kqk5.isDay at fin
    refine ⟨_, rfl, b, _, _, _, rfl, rfl, hb, e0, _, _, rfl, rfl, _, rfl, ?_⟩
    have no : ∀ (q : Prop) [Decidable q], ¬ decide q = true → ¬ q := fun q _ c z => c (decide_eq_true z)
    have bad : ¬ (g ≤ 1000 ∧ 1 ≤ d ∧ d ≤ 100 ∧ n ≤ d ∧ co ≤ 10000) → Q (.bl false) H := fun z => fin false (Eq.symm (Bool.eq_false_iff.mpr fun y => z (by
      simp only [Bool.and_eq_true, decide_eq_true_eq] at y
      exact ⟨y.1.1.1.1, y.1.1.1.2, y.1.1.2, y.1.2, y.2⟩)))
    refine ite2 (fun c1 => ?_) (fun c1 => bad fun z => no _ c1 (by omega))
    have c1 := of_decide_eq_true c1
    refine ⟨_, rfl, _, _, rfl, rfl, _, rfl, ?_⟩
    refine ite2 (fun c2 => ?_) (fun c2 => ⟨_, rfl, iteF (bad fun z => no _ c2 (by omega))⟩)
    have c2 := of_decide_eq_true c2
    refine ⟨_, _, rfl, rfl, _, rfl, ?_⟩
    refine ite2 (fun c3 => ?_) (fun c3 => bad fun z => no _ c3 (by omega))
    have c3 := of_decide_eq_true c3
    refine ⟨_, rfl, _, rfl, _, _, rfl, rfl, _, rfl, ?_⟩
    refine ite2 (fun c4 => ?_) (fun c4 => bad fun z => no _ c4 (by omega))
    have c4 := of_decide_eq_true c4
    refine ⟨_, rfl, b, _, _, _, rfl, rfl, hb, e3, _, _, rfl, rfl, fin _ ?_⟩
    rw [Bool.eq_iff_iff]
    simp only [Bool.and_eq_true, decide_eq_true_eq]
    omega
/-! ### day_with, with_fraction -/
def spDay (K : PySem.W.Frag) (CD : Addr) : Sp := fun vs H Q _ => ∃ (b : Addr) (d : Kqk5.Day), vs = [.ref b] ∧ IL K H b [(d.gain : Int), (d.numerator : Int), (d.denominator : Int), (d.cost : Int)] ∧ ∀ H' x, DayAt CD H' x d → Same H H' → Q (.ref x) H'
theorem scDay : FnScope ["fields"] ["fields"] (defScope sDay) := ⟨rfl, rfl, rfl, by decide +kernel, rfl, by decide +kernel, by decide +kernel⟩
theorem ok_day {f : Addr} {fd : FuncData} (F : Fun K "day_with" "day_with" sDay f fd) (M : Mak P w K mg base 1 "Day" CD ["self", "gain", "event_top", "event_bottom", "cost"] (spDInit CD)) : FnOk P w K mg base CX0 3 f fd ["fields"] (spDay K CD) := by
  refine F.ok scDay (fun vs H Q E h => ?_) (fun cdv A outer s H vs Q E hr h => ?_)
  · obtain ⟨b, d, rfl, _⟩ := h
    rfl
  · obtain ⟨b, d, rfl, hb, k⟩ := h
    refine ⟨_, pss_one (ps_ret (pe_mak M hr rfl (pa_cons (pe_ix ix_list (pv 0) pe_int (fun _ _ => rfl)) (pa_cons (pe_ix ix_list (pv 0) pe_int (fun _ _ => rfl)) (pa_cons (pe_ix ix_list (pv 0) pe_int (fun _ _ => rfl)) (pa_cons (pe_ix ix_list (pv 0) pe_int (fun _ _ => rfl)) pa_nil)))))), ?_⟩
    refine ⟨_, rfl, b, _, _, _, rfl, rfl, hb, (show _ = some (V.int d.gain) from rfl), ?_⟩
    refine ⟨_, rfl, b, _, _, _, rfl, rfl, hb, (show _ = some (V.int d.numerator) from rfl), ?_⟩
    refine ⟨_, rfl, b, _, _, _, rfl, rfl, hb, (show _ = some (V.int d.denominator) from rfl), ?_⟩
    refine ⟨_, rfl, b, _, _, _, rfl, rfl, hb, (show _ = some (V.int d.cost) from rfl), ?_⟩
    intro x dx nx ndx nex
    exact ⟨x, dx, d, rfl, upd_same, fun H' h' kp => ⟨rfl, k H' x ⟨dx, h'⟩ (Same.made nx ndx kp)⟩⟩
def spFra (CF : Addr) : Sp := fun vs H Q _ => ∃ (b : Addr) (x : Rat), vs = [.ref b] ∧ FrAt CF H b x ∧ ∀ r, H r = none → Q (.ref r) (upd H r (.lst ([0, x.num, (x.den : Int)].map V.int)))
theorem scFra : FnScope ["fraction"] ["fraction"] (defScope sFra) := ⟨rfl, rfl, rfl, by decide +kernel, rfl, by decide +kernel, by decide +kernel⟩
theorem ok_fra {f : Addr} {fd : FuncData} (F : Fun K "with_fraction" "with_fraction" sFra f fd) (T : TxW K mg CF CD) : FnOk P w K mg base CX0 1 f fd ["fraction"] (spFra CF) := by
  refine F.ok scFra (fun vs H Q E h => ?_) (fun cdv A outer s H vs Q E hr h => ?_)
  · obtain ⟨b, x, rfl, _⟩ := h
    rfl
  · obtain ⟨b, x, rfl, ⟨dx, hb⟩, k⟩ := h
    refine ⟨_, pss_one (ps_ret (pe_lst (pa_cons pe_int (pa_cons (pe_fld (pv 0) rfl) (pa_cons (pe_fld (pv 0) rfl) pa_nil))))), ?_⟩
    refine ⟨_, rfl, b, CF, dx, _, _, rfl, hb, T.clF, T.nT, fF_top _ _, _, rfl, b, CF, dx, _, _, rfl, hb, T.clF, T.nB, fF_bot _ _, (by show 3 ≤ sizeLine; decide), fun r hr' => k r hr'⟩
end
end HM

namespace HM
open PySem PySem.Spec PyProof.Rows L2
/-- behind an operation: what is answered is what is due, all but the campaign is as it was -/
def Aft (CC CD a p : Addr) (c : Kqk5.Campaign) (l : List Int) (H : Hp) (Q : VK) : Prop :=
  ∀ H' r c' res, nst c l = (some c', res) → H r = none → H' r = some (.lst (res.map V.int)) → CampAt CC CD H' a p c' → But a p H H' → Q (.ref r) H'
/-- an operation: its number, how many numbers it is handed -/
def spOp (K : PySem.W.Frag) (CC CD : Addr) (k : Int) (n : Nat) : Sp := fun vs H Q _ => ∃ (a p b : Addr) (c : Kqk5.Campaign) (args : List Nat), vs = [.ref a, .ref b] ∧ IL K H b (ia args) ∧ args.length = n ∧ CampAt CC CD H a p c ∧ Aft CC CD a p c (k :: ia args) H Q
section
variable {P : Program} {w : World} {K : PySem.W.Frag} {mg : Str → Option Value} {base : Heap} {CF CD CC : Addr}
/-- the campaign stays, the answer is a new list -/
theorem Aft.same {a p l : Addr} {c : Kqk5.Campaign} {q : List Int} {H H1 : Hp} {Q : VK} {res : List Int} (k : Aft CC CD a p c q H Q) (C : CampAt CC CD H a p c) (s : Same H H1) (hl : H1 l = none) (e : nst c q = (some c, res)) :
    Q (.ref l) (upd H1 l (.lst (res.map V.int))) := k _ l c res e (s.free hl) upd_same (C.same (s.trans (upd_new hl))) (Same.but (s.trans (upd_new hl)))
theorem spOp_len {k : Int} {n : Nat} (vs : List V) (H : Hp) (Q : VK) (E : XK) (h : spOp K CC CD k n vs H Q E) : vs.length = (["campaign", "arguments"] : List Str).length := by
  obtain ⟨a, p, b, c, args, rfl, _⟩ := h
  rfl
/-! ### 4 get_day -/
theorem scGet : FnScope ["campaign", "arguments", "day"] ["campaign", "arguments"] (defScope sGet) := ⟨rfl, rfl, rfl, by decide +kernel, rfl, by decide +kernel, by decide +kernel⟩
theorem at0 {x : Int} {l : List Int} : atI ((x :: l).map V.int) 0 = some (.int x) := atI_nat (xs := (x :: l).map V.int) (j := 0) rfl
theorem dec_ge {a b : Nat} : (decide ((a : Int) ≤ (b : Int)) = true) ↔ a ≤ b := by
  rw [decide_eq_true_iff]
  omega
theorem ok_get {f : Addr} {fd : FuncData} (F : Fun K "get_day" "get_day" sGet f fd) (T : TxW K mg CF CD) (U : TxC K mg CC) (MH : MHas P w K mg base CC CD) : FnOk P w K mg base CX0 2 f fd ["campaign", "arguments"] (spOp K CC CD 4 1) := by
  refine F.ok scGet spOp_len (fun cdv A outer s H vs Q E hr h => ?_)
  obtain ⟨a, p, b, c, args, rfl, hb, hn, C, k⟩ := h
  obtain ⟨t, rfl⟩ := len1 hn
  have C' := C
  obtain ⟨⟨dx, ha⟩, ⟨vs, hp, hD⟩, ok⟩ := C'
  refine ⟨_, pss_cons (ps_if (pt_not (pt_val (pe_mth1 MH (pv 0) U.cl hr (pa_cons (pe_ix ix_list (pv 1) pe_int (fun _ _ => rfl)) pa_nil)))) (pss_one (ps_ret (pe_lst (pa_cons (pe_con U.e2 rfl) pa_nil)))) pss_nil)
    (pss_cons (ps_set (i := 2) scGet.nd rfl (.inl rfl) (pe_ix ix_list (pe_fld (pv 0) rfl) (pe_ix ix_list (pv 1) pe_int (fun _ _ => rfl)) (fun _ _ => rfl)))
    (pss_one (ps_ret (pe_lst (pa_cons (pe_fld (pv 2) rfl) (pa_cons (pe_fld (pv 2) rfl) (pa_cons (pe_fld (pv 2) rfl) (pa_cons (pe_fld (pv 2) rfl) pa_nil)))))))), ?_⟩
  have len := hD.length
  refine ⟨_, rfl, a, dx, _, rfl, ha, cF_has _ _, _, rfl, b, _, _, _, rfl, rfl, hb, at0, a, p, c, t, rfl, C, _, rfl, ?_⟩
  refine ite_not (fun e => ?_) (fun e => ?_)
  · have c1 : c.days.length ≤ t := Nat.le_of_not_lt (of_decide_eq_false e)
    refine ⟨(by show 1 ≤ sizeLine; decide), fun l hl => ?_⟩
    exact k.same (res := [-2]) C (Same.refl H) hl ((n_get t).trans (s_get_no c1))
  · have c1 : t < c.days.length := of_decide_eq_true e
    have hv : vs[t]? = some (vs[t]'(by omega)) := List.getElem?_eq_getElem _
    obtain ⟨x, d, hx, hd, dd, hxd⟩ := hD.get hv
    rw [hx] at hv
    refine ⟨_, rfl, a, CC, dx, _, _, rfl, ha, U.cl, U.nD, cF_days _ _, _, rfl, b, _, _, _, rfl, rfl, hb, at0, p, _, _, _, rfl, rfl, SqL.of hp, atI_nat hv, ?_⟩
    refine ⟨_, rfl, x, CD, dd, _, _, rfl, hxd, T.clD, T.nG, dF_gain d, _, rfl, x, CD, dd, _, _, rfl, hxd, T.clD, T.nET, dF_top d, _, rfl, x, CD, dd, _, _, rfl, hxd, T.clD, T.nEB, dF_bot d, _, rfl, x, CD, dd, _, _, rfl, hxd, T.clD, T.nC, dF_cost d, (by show 4 ≤ sizeLine; decide), fun l hl => ?_⟩
    exact k.same (res := [(d.gain : Int), (d.numerator : Int), (d.denominator : Int), (d.cost : Int)]) C (Same.refl H) hl ((n_get t).trans (s_get_ok hd))
end
end HM

namespace HM
open PySem PySem.Spec PyProof.Rows L2
section
variable {P : Program} {w : World} {K : PySem.W.Frag} {mg : Str → Option Value} {base : Heap} {CF CD CC : Addr}
abbrev MRem (P : Program) (w : World) (K : PySem.W.Frag) (mg : Str → Option Value) (base : Heap) (CC CD : Addr) : Prop := Mth P w K mg base 1 CC "remaining_days" ["self"] (spRem K CC CD)
abbrev DFra (P : Program) (w : World) (K : PySem.W.Frag) (mg : Str → Option Value) (base : Heap) (CF : Addr) : Prop := Def P w K mg base 1 "with_fraction" ["fraction"] (spFra CF)
/-! ### 5 value -/
theorem sc2 {st : Stmt} (h : FnScope ["campaign", "arguments"] ["campaign", "arguments"] (defScope st)) : FnScope ["campaign", "arguments"] ["campaign", "arguments"] (defScope st) := h
theorem scOVal : FnScope ["campaign", "arguments"] ["campaign", "arguments"] (defScope sOVal) := ⟨rfl, rfl, rfl, by decide +kernel, rfl, by decide +kernel, by decide +kernel⟩
theorem ok_oval {f : Addr} {fd : FuncData} (F : Fun K "value" "value" sOVal f fd) (U : TxC K mg CC) (R : MRem P w K mg base CC CD) (W : DFra P w K mg base CF) (G : Def P w K mg base 5 "value_of_days" ["days"] (spVal K CF CD)) :
    FnOk P w K mg base CX0 6 f fd ["campaign", "arguments"] (spOp K CC CD 5 0) := by
  refine F.ok scOVal spOp_len (fun cdv A outer s H vs Q E hr h => ?_)
  obtain ⟨a, p, b, c, args, rfl, hb, hn, C, k⟩ := h
  obtain rfl := len0 hn
  refine ⟨_, pss_one (ps_ret (pe_def W (hr.mono (by decide)) rfl (pa_cons (pe_def G hr rfl (pa_cons (pe_mth0 R (pv 0) U.cl (hr.mono (by decide))) pa_nil)) pa_nil))), ?_⟩
  have C' := C
  obtain ⟨⟨dx, ha⟩, hl, ok⟩ := C'
  refine ⟨_, rfl, a, dx, _, rfl, ha, cF_rem _ _, a, p, c, rfl, C, fun H1 q hq s1 _ => ?_⟩
  refine ⟨q, _, rfl, hq, ok.rem, ok.remL, fun H2 x hx s2 => ?_⟩
  refine ⟨x, _, rfl, hx, fun r hr' => ?_⟩
  exact k.same C (s1.trans s2) hr' s_value
/-! ### 6 value_from -/
theorem scOFrom : FnScope ["campaign", "arguments", "day"] ["campaign", "arguments"] (defScope sOFrom) := ⟨rfl, rfl, rfl, by decide +kernel, rfl, by decide +kernel, by decide +kernel⟩
theorem dec_gt {a b : Nat} : (decide ((a : Int) < (b : Int)) = true) ↔ a < b := by
  rw [decide_eq_true_iff]
  omega
theorem ok_ofrom {f : Addr} {fd : FuncData} (F : Fun K "value_from" "value_from" sOFrom f fd) (T : TxW K mg CF CD) (U : TxC K mg CC) (W : DFra P w K mg base CF) (G : Def P w K mg base 5 "value_of_days" ["days"] (spVal K CF CD)) :
    FnOk P w K mg base CX0 6 f fd ["campaign", "arguments"] (spOp K CC CD 6 1) := by
  refine F.ok scOFrom spOp_len (fun cdv A outer s H vs Q E hr h => ?_)
  obtain ⟨a, p, b, c, args, rfl, hb, hn, C, k⟩ := h
  obtain ⟨t, rfl⟩ := len1 hn
  have C' := C
  obtain ⟨⟨dx, ha⟩, ⟨vs, hp, hD⟩, ok⟩ := C'
  refine ⟨_, pss_cons (ps_set (i := 2) scOFrom.nd rfl (.inl rfl) (pe_ix ix_list (pv 1) pe_int (fun _ _ => rfl)))
    (pss_cons (ps_if (pt_cmpR op_gt (pv 2) (pe_callB call_len_seq (by rfl) T.len PySem.boot_len (pa_cons (pe_fld (pv 0) rfl) pa_nil)) (nomark _))
      (pss_one (ps_ret (pe_lst (pa_cons (pe_con U.e2 rfl) pa_nil)))) pss_nil)
    (pss_one (ps_ret (pe_def W (hr.mono (by decide)) rfl (pa_cons (pe_def G hr rfl (pa_cons (pe_slice sl_list (pe_fld (pv 0) rfl) (po_some (pv 2)) po_none) pa_nil)) pa_nil))))), ?_⟩
  have len := hD.length
  refine ⟨_, rfl, b, _, _, _, rfl, rfl, hb, at0, _, rfl, _, rfl, a, CC, dx, _, _, rfl, ha, U.cl, U.nD, cF_days _ _, p, vs, rfl, .inl (SqL.of hp), _, _, rfl, rfl, _, rfl, ?_⟩
  refine ite2 (fun c1 => ?_) (fun c1 => ?_)
  · have c1 : c.days.length < t := by rw [← len]; exact dec_gt.mp c1
    refine ⟨(by show 1 ≤ sizeLine; decide), fun l hl => ?_⟩
    exact k.same (res := [-2]) C (Same.refl H) hl ((n_from t).trans (s_from_no c1))
  · have c1 : ¬ c.days.length < t := fun z => c1 (dec_gt.mpr (by rw [len]; exact z))
    refine ⟨_, rfl, a, CC, dx, _, _, rfl, ha, U.cl, U.nD, cF_days _ _, _, rfl, _, rfl, p, vs, rfl, SqL.of hp, fun q hq => ?_⟩
    have e : cutV vs (some (Int.ofNat t)) none = vs.drop t := cut_drop vs t
    have s1 := upd_new (o := .lst (cutV vs (some (Int.ofNat t)) none)) hq
    refine ⟨q, c.days.drop t, rfl, ⟨_, SqL.of upd_same, by rw [e]; rw [e] at s1; exact (Days.same s1 hD).drop t⟩, fun d hd => ok.days d (List.mem_of_mem_drop hd), by have := ok.most; rw [List.length_drop]; omega, fun H2 x hx s2 => ?_⟩
    refine ⟨x, _, rfl, hx, fun r hr' => ?_⟩
    exact k.same C (s1.trans s2) hr' ((n_from t).trans (s_from_ok c1))
/-! ### 7 plan_value -/
theorem scOPln : FnScope ["campaign", "arguments", "count", "remaining"] ["campaign", "arguments"] (defScope sOPln) := ⟨rfl, rfl, rfl, by decide +kernel, rfl, by decide +kernel, by decide +kernel⟩
theorem ok_opln {f : Addr} {fd : FuncData} (F : Fun K "plan_value" "plan_value" sOPln f fd) (T : TxW K mg CF CD) (U : TxC K mg CC) (R : MRem P w K mg base CC CD) (W : DFra P w K mg base CF) (G : Def P w K mg base 5 "plan_value_of_days" ["days"] (spPln K CF CD)) :
    FnOk P w K mg base CX0 6 f fd ["campaign", "arguments"] (spOp K CC CD 7 1) := by
  refine F.ok scOPln spOp_len (fun cdv A outer s H vs Q E hr h => ?_)
  obtain ⟨a, p, b, c, args, rfl, hb, hn, C, k⟩ := h
  obtain ⟨t, rfl⟩ := len1 hn
  have C' := C
  obtain ⟨⟨dx, ha⟩, hl, ok⟩ := C'
  refine ⟨_, pss_cons (ps_set (i := 2) scOPln.nd rfl (.inl rfl) (pe_ix ix_list (pv 1) pe_int (fun _ _ => rfl)))
    (pss_cons (ps_set (i := 3) scOPln.nd rfl (.inl rfl) (pe_mth0 R (pv 0) U.cl (hr.mono (by decide))))
    (pss_cons (ps_if (pt_cmpR op_gt (pv 2) (pe_callB call_len_seq (by rfl) T.len PySem.boot_len (pa_cons (pv 3) pa_nil)) (nomark _))
      (pss_one (ps_ret (pe_lst (pa_cons (pe_con U.e2 rfl) pa_nil)))) pss_nil)
    (pss_one (ps_ret (pe_def W (hr.mono (by decide)) rfl (pa_cons (pe_def G hr rfl (pa_cons (pe_slice sl_list (pv 3) po_none (po_some (pv 2))) pa_nil)) pa_nil)))))), ?_⟩
  refine ⟨_, rfl, b, _, _, _, rfl, rfl, hb, at0, _, rfl, a, dx, _, rfl, ha, cF_rem _ _, a, p, c, rfl, C, fun H1 q hq s1 _ => ?_⟩
  obtain ⟨vs, hq, hD⟩ := hq
  have len := hD.length
  refine ⟨_, rfl, _, rfl, q, vs, rfl, .inl hq, _, _, rfl, rfl, _, rfl, ?_⟩
  refine ite2 (fun c1 => ?_) (fun c1 => ?_)
  · have c1 : (c.days.drop c.next).length < t := by rw [← len]; exact dec_gt.mp c1
    refine ⟨(by show 1 ≤ sizeLine; decide), fun l hl => ?_⟩
    exact k.same (res := [-2]) C s1 hl ((n_plan t).trans (s_plan_no c1))
  · have c1 : ¬ (c.days.drop c.next).length < t := fun z => c1 (dec_gt.mpr (by rw [len]; exact z))
    refine ⟨_, rfl, _, rfl, _, rfl, q, vs, rfl, hq, fun l hl' => ?_⟩
    have e : cutV vs none (some (Int.ofNat t)) = vs.take t := cut_take vs t
    have s2 := upd_new (o := .lst (cutV vs none (some (Int.ofNat t)))) hl'
    refine ⟨l, (c.days.drop c.next).take t, rfl, ⟨_, SqL.of upd_same, by rw [e]; rw [e] at s2; exact (Days.same s2 hD).take t⟩, fun d hd => ok.rem d (List.mem_of_mem_take hd), by have := ok.remL; rw [List.length_take]; omega, fun H2 x hx s3 => ?_⟩
    rw [plan_take] at hx
    refine ⟨x, _, rfl, hx, fun r hr' => ?_⟩
    exact k.same C (s1.trans (s2.trans s3)) hr' ((n_plan t).trans (s_plan_ok c1))
/-! ### 8 best_count, 9 lookahead_count -/
theorem scOBst : FnScope ["campaign", "arguments"] ["campaign", "arguments"] (defScope sOBst) := ⟨rfl, rfl, rfl, by decide +kernel, rfl, by decide +kernel, by decide +kernel⟩
theorem ok_obst {f : Addr} {fd : FuncData} (F : Fun K "best_count" "best_count" sOBst f fd) (U : TxC K mg CC) (R : MRem P w K mg base CC CD) (G : Def P w K mg base 6 "best_count_of_days" ["days"] (spBst K CD)) :
    FnOk P w K mg base CX0 7 f fd ["campaign", "arguments"] (spOp K CC CD 8 0) := by
  refine F.ok scOBst spOp_len (fun cdv A outer s H vs Q E hr h => ?_)
  obtain ⟨a, p, b, c, args, rfl, hb, hn, C, k⟩ := h
  obtain rfl := len0 hn
  refine ⟨_, pss_one (ps_ret (pe_lst (pa_cons (pe_def G hr rfl (pa_cons (pe_mth0 R (pv 0) U.cl (hr.mono (by decide))) pa_nil)) pa_nil))), ?_⟩
  have C' := C
  obtain ⟨⟨dx, ha⟩, hl, ok⟩ := C'
  refine ⟨_, rfl, a, dx, _, rfl, ha, cF_rem _ _, a, p, c, rfl, C, fun H1 q hq s1 _ => ?_⟩
  refine ⟨q, _, rfl, hq, ok.rem, ok.remL, fun H2 s2 => ?_⟩
  refine ⟨(by show 1 ≤ sizeLine; decide), fun l hl => ?_⟩
  exact k.same (res := [((Kqk5.bestCount (c.days.drop c.next) : Nat) : Int)]) C (s1.trans s2) hl s_best
theorem scOLok : FnScope ["campaign", "arguments"] ["campaign", "arguments"] (defScope sOLok) := ⟨rfl, rfl, rfl, by decide +kernel, rfl, by decide +kernel, by decide +kernel⟩
theorem ok_olok {f : Addr} {fd : FuncData} (F : Fun K "lookahead_count" "lookahead_count" sOLok f fd) (U : TxC K mg CC) (R : MRem P w K mg base CC CD) (G : Def P w K mg base 6 "lookahead_count_of_days" ["days"] (spLok K CD)) :
    FnOk P w K mg base CX0 7 f fd ["campaign", "arguments"] (spOp K CC CD 9 0) := by
  refine F.ok scOLok spOp_len (fun cdv A outer s H vs Q E hr h => ?_)
  obtain ⟨a, p, b, c, args, rfl, hb, hn, C, k⟩ := h
  obtain rfl := len0 hn
  refine ⟨_, pss_one (ps_ret (pe_lst (pa_cons (pe_def G hr rfl (pa_cons (pe_mth0 R (pv 0) U.cl (hr.mono (by decide))) pa_nil)) pa_nil))), ?_⟩
  have C' := C
  obtain ⟨⟨dx, ha⟩, hl, ok⟩ := C'
  refine ⟨_, rfl, a, dx, _, rfl, ha, cF_rem _ _, a, p, c, rfl, C, fun H1 q hq s1 _ => ?_⟩
  refine ⟨q, _, rfl, hq, ok.rem, ok.remL, fun H2 s2 => ?_⟩
  refine ⟨(by show 1 ≤ sizeLine; decide), fun l hl => ?_⟩
  exact k.same (res := [((Kqk5.lookaheadCount (c.days.drop c.next) : Nat) : Int)]) C (s1.trans s2) hl s_look
end
end HM

namespace HM
open PySem PySem.Spec PyProof.Rows L2
theorem ok_of_isDay {g n d co : Nat} (h : Kqk5.isDay g n d co = true) : Ok ⟨g, n, d, co⟩ := by
  unfold Kqk5.isDay at h
  simp only [Bool.and_eq_true, decide_eq_true_eq] at h
  exact ⟨h.1.1.1.1, h.1.1.1.2, h.1.1.2, h.1.2, h.2⟩
theorem Days.snoc {C : Addr} {H : Hp} {a : Addr} {d : Kqk5.Day} (h : DayAt C H a d) : ∀ {vs : List V} {ds : List Kqk5.Day}, Days C H vs ds → Days C H (vs ++ [.ref a]) (ds ++ [d])
  | [], [], _ => ⟨⟨a, rfl, h⟩, trivial⟩
  | _ :: _, _ :: _, ⟨q, r⟩ => ⟨q, Days.snoc h r⟩
  | [], _ :: _, z => z.elim
  | _ :: _, [], z => z.elim
theorem Days.set {C : Addr} {H : Hp} {a : Addr} {d : Kqk5.Day} (h : DayAt C H a d) : ∀ {vs : List V} {ds : List Kqk5.Day} (i : Nat), Days C H vs ds → Days C H (vs.set i (.ref a)) (ds.set i d)
  | [], [], _, _ => trivial
  | _ :: _, _ :: _, 0, ⟨_, r⟩ => ⟨⟨a, rfl, h⟩, r⟩
  | _ :: _, _ :: _, i + 1, ⟨q, r⟩ => ⟨q, Days.set h i r⟩
  | [], _ :: _, _, z => z.elim
  | _ :: _, [], _, z => z.elim
theorem Days.dropLast {C : Addr} {H : Hp} {vs : List V} {ds : List Kqk5.Day} (h : Days C H vs ds) : Days C H vs.dropLast ds.dropLast := by
  rw [List.dropLast_eq_take, List.dropLast_eq_take, h.length]
  exact h.take _
/-- days are no lists: a list that changes leaves them as they are -/
theorem Days.upd {C : Addr} {H : Hp} {p : Addr} {l : List V} {o : HO} (hp : H p = some (.lst l)) : ∀ {vs : List V} {ds : List Kqk5.Day}, Days C H vs ds → Days C (upd H p o) vs ds
  | [], [], _ => trivial
  | _ :: _, _ :: _, ⟨⟨a, e, dx, q⟩, r⟩ => ⟨⟨a, e, dx, by rw [upd_ne (ne_of q hp (by intro z; cases z))]; exact q⟩, Days.upd hp r⟩
  | [], _ :: _, z => z.elim
  | _ :: _, [], z => z.elim
theorem But.upd_p {a p : Addr} {H : Hp} {o : HO} : But a p H (upd H p o) := fun b u e _ h2 => by
  rw [upd_ne h2]
  exact e
theorem But.upd_a {a p : Addr} {H : Hp} {o : HO} : But a p H (upd H a o) := fun b u e h1 _ => by
  rw [upd_ne h1]
  exact e
theorem dF_ne_cF {d : Kqk5.Day} {p : Addr} {c : Kqk5.Campaign} : dF d ≠ cF p c := fun z => by
  have h := (Prod.mk.inj (List.cons.inj z).1).2
  cases h
/-- days are no campaign: a campaign that changes leaves them as they are -/
theorem Days.updC {C CC : Addr} {H : Hp} {a p dx : Addr} {c : Kqk5.Campaign} {o : HO} (ha : H a = some (.ins CC dx (cF p c))) : ∀ {vs : List V} {ds : List Kqk5.Day}, Days C H vs ds → Days C (L2.upd H a o) vs ds
  | [], [], _ => trivial
  | _ :: _, _ :: _, ⟨⟨x, e, dd, q⟩, r⟩ => ⟨⟨x, e, dd, by rw [upd_ne (ne_of q ha (by intro z; injection z with _ _ z; exact dF_ne_cF z))]; exact q⟩, Days.updC ha r⟩
  | [], _ :: _, z => z.elim
  | _ :: _, [], z => z.elim
section
variable {P : Program} {w : World} {K : PySem.W.Frag} {mg : Str → Option Value} {base : Heap} {CF CD CC : Addr}
/-- the campaign's list of days is another: c' is c with these days -/
theorem CampAt.days {H : Hp} {a p : Addr} {c : Kqk5.Campaign} (C : CampAt CC CD H a p c) {vs : List V} {ds : List Kqk5.Day} (hD : Days CD H vs ds) (ok : COk { c with days := ds }) : CampAt CC CD (upd H p (.lst vs)) a p { c with days := ds } := by
  obtain ⟨⟨dx, ha⟩, ⟨vs0, hp, _⟩, _⟩ := C
  exact ⟨⟨dx, by rw [upd_ne (ne_of ha hp (by intro z; cases z))]; exact ha⟩, ⟨vs, upd_same, Days.upd hp hD⟩, ok⟩
/-- the campaign stands as c', the answer is a new list -/
theorem Aft.new {a p l : Addr} {c c' : Kqk5.Campaign} {q : List Int} {H H1 : Hp} {Q : VK} {res : List Int} (k : Aft CC CD a p c q H Q) (hb : But a p H H1) (C : CampAt CC CD H1 a p c') (ha : H a ≠ none) (hp : H p ≠ none) (hl : H1 l = none)
    (e : nst c q = (some c', res)) : Q (.ref l) (upd H1 l (.lst (res.map V.int))) := by
  have hl0 : H l = none := by
    cases z : H l with
    | none => rfl
    | some o =>
      have n1 : l ≠ a := fun y => by
        subst y
        obtain ⟨⟨dx, ha'⟩, _, _⟩ := C
        rw [hl] at ha'
        cases ha'
      have n2 : l ≠ p := fun y => by
        subst y
        obtain ⟨_, ⟨vs, hp', _⟩, _⟩ := C
        rw [hl] at hp'
        cases hp'
      rw [hb l o z n1 n2] at hl
      cases hl
  exact k _ l c' res e hl0 upd_same (C.same (upd_new hl)) (hb.trans (Same.but (upd_new hl)))
/-- the campaign's other fields are others -/
theorem CampAt.put {H : Hp} {a p dx : Addr} {c c' : Kqk5.Campaign} (C : CampAt CC CD H a p c) (hd : c'.days = c.days) (ok : COk c') : CampAt CC CD (upd H a (.ins CC dx (cF p c'))) a p c' := by
  obtain ⟨⟨dx0, ha⟩, ⟨vs, hp, hD⟩, _⟩ := C
  refine ⟨⟨dx, upd_same⟩, ⟨vs, by rw [upd_ne (ne_of hp ha (by intro z; cases z))]; exact hp, ?_⟩, ok⟩
  rw [hd]
  exact Days.updC ha hD
/-! ### 1 add_day -/
theorem scAdd : FnScope ["campaign", "arguments"] ["campaign", "arguments"] (defScope sAdd) := ⟨rfl, rfl, rfl, by decide +kernel, rfl, by decide +kernel, by decide +kernel⟩
abbrev DRng (P : Program) (w : World) (K : PySem.W.Frag) (mg : Str → Option Value) (base : Heap) : Prop := Def P w K mg base 1 "is_in_range" ["fields"] (spRng K)
abbrev DDay (P : Program) (w : World) (K : PySem.W.Frag) (mg : Str → Option Value) (base : Heap) (CD : Addr) : Prop := Def P w K mg base 3 "day_with" ["fields"] (spDay K CD)
theorem ok_add {f : Addr} {fd : FuncData} (F : Fun K "add_day" "add_day" sAdd f fd) (T : TxW K mg CF CD) (U : TxC K mg CC) (R : DRng P w K mg base) (D : DDay P w K mg base CD) :
    FnOk P w K mg base CX0 4 f fd ["campaign", "arguments"] (spOp K CC CD 1 4) := by
  refine F.ok scAdd spOp_len (fun cdv A outer s H vs Q E hr h => ?_)
  obtain ⟨a, p, b, c, args, rfl, hb, hn, C, k⟩ := h
  obtain ⟨g, n, d, co, rfl⟩ := len4 hn
  have C' := C
  obtain ⟨⟨dx, ha⟩, ⟨vs, hp, hD⟩, ok⟩ := C'
  have len := hD.length
  refine ⟨_, pss_cons (ps_if (pt_not (pt_val (pe_def R (hr.mono (by decide)) rfl (pa_cons (pv 1) pa_nil)))) (pss_one (ps_ret (pe_lst (pa_cons (pe_con U.e22 rfl) pa_nil)))) pss_nil)
    (pss_cons (ps_if (pt_cmpR op_ge (pe_callB call_len_seq (by rfl) T.len PySem.boot_len (pa_cons (pe_fld (pv 0) rfl) pa_nil)) (pe_con U.most rfl) (nomark _)) (pss_one (ps_ret (pe_lst (pa_cons (pe_con U.e28 rfl) pa_nil)))) pss_nil)
    (pss_cons (ps_expr (pe_bm PySem.F.plainAttrs_list PySem.F.slot_list_append PySem.F.type_list_append mt_append (pe_fld (pv 0) rfl) (pa_cons (pe_def D hr rfl (pa_cons (pv 1) pa_nil)) pa_nil)))
    (pss_one (ps_ret (pe_lst (pa_cons (pe_op op_sub (pe_callB call_len_seq (by rfl) T.len PySem.boot_len (pa_cons (pe_fld (pv 0) rfl) pa_nil)) pe_int) pa_nil)))))), ?_⟩
  refine ⟨_, rfl, b, g, n, d, co, rfl, hb, _, rfl, ?_⟩
  refine ite_not (fun e => ?_) (fun e => ?_)
  · refine ⟨(by show 1 ≤ sizeLine; decide), fun l hl => ?_⟩
    exact k.same (res := [-22]) C (Same.refl H) hl ((n_add g n d co).trans (s_add_bad e))
  · refine ⟨_, rfl, a, CC, dx, _, _, rfl, ha, U.cl, U.nD, cF_days _ _, p, vs, rfl, .inl (SqL.of hp), _, _, rfl, rfl, _, rfl, ?_⟩
    refine ite2 (fun c1 => ?_) (fun c1 => ?_)
    · have c1 := of_decide_eq_true c1
      refine ⟨(by show 1 ≤ sizeLine; decide), fun l hl => ?_⟩
      exact k.same (res := [-28]) C (Same.refl H) hl ((n_add g n d co).trans (s_add_full e (by omega)))
    · have c1 : ¬ 10 ≤ c.days.length := fun z => c1 (decide_eq_true (by omega))
      refine ⟨_, rfl, a, CC, dx, _, _, rfl, ha, U.cl, U.nD, cF_days _ _, .inl ⟨rfl, _, SqL.of hp⟩, _, rfl, b, ⟨g, n, d, co⟩, rfl, hb, fun H1 x hx s1 => ?_⟩
      refine ⟨p, vs, _, rfl, rfl, s1 _ _ hp, small1000 (by omega), ?_⟩
      have C1 := C.same s1
      have okn : COk { c with days := c.days ++ [⟨g, n, d, co⟩] } := by
        refine ⟨fun y hy => ?_, ?_, ?_⟩
        · rcases List.mem_append.mp hy with z | z
          · exact ok.days y z
          · obtain rfl := List.mem_singleton.mp z
            exact ok_of_isDay e
        · show (c.days ++ [_]).length ≤ 10
          rw [List.length_append]
          show c.days.length + 1 ≤ 10
          omega
        · show c.next ≤ (c.days ++ [_]).length
          rw [List.length_append]
          have := ok.next
          omega
      have C2 := C1.days (Days.snoc hx (Days.same s1 hD)) okn
      obtain ⟨⟨dx2, ha2⟩, ⟨vs2, hp2, hD2⟩, _⟩ := C2
      refine ⟨_, rfl, a, CC, dx2, _, _, rfl, ha2, U.cl, U.nD, cF_days _ _, p, vs2, rfl, .inl (SqL.of hp2), _, _, rfl, rfl, (by show 1 ≤ sizeLine; decide), fun l hl => ?_⟩
      have len2 : ((vs2.length : Int) - 1) = (c.days.length : Int) := by
        have := hD2.length
        rw [this]
        show (((c.days ++ [_]).length : Nat) : Int) - 1 = _
        rw [List.length_append]
        show ((c.days.length + 1 : Nat) : Int) - 1 = _
        omega
      have fin := k.new (res := [(c.days.length : Int)]) ((Same.but s1).trans But.upd_p) (C1.days (Days.snoc hx (Days.same s1 hD)) okn) (by rw [ha]; intro z; cases z) (by rw [hp]; intro z; cases z) hl ((n_add g n d co).trans (s_add_ok e c1))
      rw [← len2] at fin
      exact fin
end
end HM

namespace HM
open PySem PySem.Spec PyProof.Rows L2
section
variable {P : Program} {w : World} {K : PySem.W.Frag} {mg : Str → Option Value} {base : Heap} {CF CD CC : Addr}
/-! ### 2 set_day -/
theorem scSet : FnScope ["campaign", "arguments", "day", "fields"] ["campaign", "arguments"] (defScope sSet) := ⟨rfl, rfl, rfl, by decide +kernel, rfl, by decide +kernel, by decide +kernel⟩
theorem ixN_nat {n t : Nat} (h : t < n) : ixN n (Int.ofNat t) = some t := by
  unfold ixN
  have h0 : (0 : Int) ≤ Int.ofNat t := Int.natCast_nonneg t
  have h1 : Int.ofNat t < (n : Int) := Int.ofNat_lt.mpr h
  rw [if_pos h0, if_pos h1]
  rfl
theorem ok_set {f : Addr} {fd : FuncData} (F : Fun K "set_day" "set_day" sSet f fd) (T : TxW K mg CF CD) (U : TxC K mg CC) (R : DRng P w K mg base) (D : DDay P w K mg base CD) (MH : MHas P w K mg base CC CD) :
    FnOk P w K mg base CX0 4 f fd ["campaign", "arguments"] (spOp K CC CD 2 5) := by
  refine F.ok scSet spOp_len (fun cdv A outer s H vs Q E hr h => ?_)
  obtain ⟨a, p, b, c, args, rfl, hb, hn, C, k⟩ := h
  obtain ⟨t, g, n, d, co, rfl⟩ := len5 hn
  have C' := C
  obtain ⟨⟨dx, ha⟩, ⟨vs, hp, hD⟩, ok⟩ := C'
  have len := hD.length
  refine ⟨_, pss_cons (ps_set (i := 2) scSet.nd rfl (.inl rfl) (pe_ix ix_list (pv 1) pe_int (fun _ _ => rfl)))
    (pss_cons (ps_set (i := 3) scSet.nd rfl (.inl rfl) (pe_slice sl_list (pv 1) (po_some pe_int) po_none))
    (pss_cons (ps_if (pt_not (pt_val (pe_mth1 MH (pv 0) U.cl (hr.mono (by decide)) (pa_cons (pv 2) pa_nil)))) (pss_one (ps_ret (pe_lst (pa_cons (pe_con U.e2 rfl) pa_nil)))) pss_nil)
    (pss_cons (ps_if (pt_not (pt_val (pe_def R (hr.mono (by decide)) rfl (pa_cons (pv 3) pa_nil)))) (pss_one (ps_ret (pe_lst (pa_cons (pe_con U.e22 rfl) pa_nil)))) pss_nil)
    (pss_cons (ps_if (pt_cmpR op_lt (pv 2) (pe_fld (pv 0) rfl) (nomark _)) (pss_one (ps_ret (pe_lst (pa_cons (pe_con U.e16 rfl) pa_nil)))) pss_nil)
    (pss_cons (ps_asg (pe_def D hr rfl (pa_cons (pv 3) pa_nil)) (pg_sub (pe_fld (pv 0) rfl) (pv 2) set_list))
    (pss_one (ps_ret (pe_lst (pa_cons pe_int pa_nil))))))))), ?_⟩
  refine ⟨_, rfl, b, _, _, _, rfl, rfl, hb, at0, _, rfl, _, rfl, b, _, rfl, hb, fun q hq => ?_⟩
  have ef : cutV ((ia [t, g, n, d, co]).map V.int) (some 1) none = (ia [g, n, d, co]).map V.int := cut_drop _ 1
  rw [ef]
  have s1 := upd_new (o := .lst ((ia [g, n, d, co]).map V.int)) hq
  generalize hH1 : upd H q (.lst ((ia [g, n, d, co]).map V.int)) = H1 at s1
  have hf : IL K H1 q (ia [g, n, d, co]) := by rw [← hH1]; exact SqL.of upd_same
  have C1 := C.same s1
  have ha1 := s1 _ _ ha
  have hp1 := s1 _ _ hp
  refine ⟨_, rfl, a, dx, _, rfl, ha1, cF_has _ _, _, rfl, a, p, c, t, rfl, C1, _, rfl, ?_⟩
  refine ite_not (fun e0 => ?_) (fun e0 => ?_)
  · have c1 : c.days.length ≤ t := Nat.le_of_not_lt (of_decide_eq_false e0)
    refine ⟨(by show 1 ≤ sizeLine; decide), fun l hl => ?_⟩
    exact k.same (res := [-2]) C s1 hl ((n_set t g n d co).trans (s_set_no c1))
  · have c1 : ¬ c.days.length ≤ t := Nat.not_le_of_lt (of_decide_eq_true e0)
    refine ⟨_, rfl, q, g, n, d, co, rfl, hf, _, rfl, ?_⟩
    refine ite_not (fun e => ?_) (fun e => ?_)
    · refine ⟨(by show 1 ≤ sizeLine; decide), fun l hl => ?_⟩
      exact k.same (res := [-22]) C s1 hl ((n_set t g n d co).trans (s_set_bad c1 e))
    · refine ⟨_, rfl, _, rfl, a, CC, dx, _, _, rfl, ha1, U.cl, U.nN, cF_next _ _, _, _, rfl, rfl, _, rfl, ?_⟩
      refine ite2 (fun c2 => ?_) (fun c2 => ?_)
      · have c2 : t < c.next := dec_gt.mp c2
        refine ⟨(by show 1 ≤ sizeLine; decide), fun l hl => ?_⟩
        exact k.same (res := [-16]) C s1 hl ((n_set t g n d co).trans (s_set_past c1 e c2))
      · have c2 : ¬ t < c.next := fun z => c2 (dec_gt.mpr z)
        refine ⟨_, rfl, q, ⟨g, n, d, co⟩, rfl, hf, fun H2 x hx s2 => ?_⟩
        refine ⟨_, rfl, a, CC, dx, _, _, rfl, s2 _ _ ha1, U.cl, U.nD, cF_days _ _, _, rfl, p, vs, _, t, rfl, rfl, s2 _ _ hp1, ixN_nat (by omega), ?_⟩
        have okn : COk { c with days := c.days.set t ⟨g, n, d, co⟩ } := by
          refine ⟨fun y hy => ?_, ?_, ?_⟩
          · rcases List.mem_or_eq_of_mem_set hy with z | z
            · exact ok.days y z
            · exact z ▸ ok_of_isDay e
          · show (c.days.set t _).length ≤ 10
            rw [List.length_set]
            exact ok.most
          · show c.next ≤ (c.days.set t _).length
            rw [List.length_set]
            exact ok.next
        have C2 := (C1.same s2).days (Days.set hx t (Days.same (s1.trans s2) hD)) okn
        refine ⟨(by show 1 ≤ sizeLine; decide), fun l hl => ?_⟩
        exact k.new (res := [0]) ((Same.but (s1.trans s2)).trans But.upd_p) C2 (by rw [ha]; intro z; cases z) (by rw [hp]; intro z; cases z) hl ((n_set t g n d co).trans (s_set_ok c1 e c2))
/-! ### 3 remove_last_day -/
theorem scPop : FnScope ["campaign", "arguments"] ["campaign", "arguments"] (defScope sPop) := ⟨rfl, rfl, rfl, by decide +kernel, rfl, by decide +kernel, by decide +kernel⟩
theorem ok_pop {f : Addr} {fd : FuncData} (F : Fun K "remove_last_day" "remove_last_day" sPop f fd) (T : TxW K mg CF CD) (U : TxC K mg CC) (R : MRem P w K mg base CC CD) :
    FnOk P w K mg base CX0 4 f fd ["campaign", "arguments"] (spOp K CC CD 3 0) := by
  refine F.ok scPop spOp_len (fun cdv A outer s H vs Q E hr h => ?_)
  obtain ⟨a, p, b, c, args, rfl, hb, hn, C, k⟩ := h
  obtain rfl := len0 hn
  have C' := C
  obtain ⟨⟨dx, ha⟩, ⟨vs, hp, hD⟩, ok⟩ := C'
  have len := hD.length
  refine ⟨_, pss_cons (ps_if (pt_cmpR op_eq (pe_callB call_len_seq (by rfl) T.len PySem.boot_len (pa_cons (pe_mth0 R (pv 0) U.cl (hr.mono (by decide))) pa_nil)) pe_int (nomark _)) (pss_one (ps_ret (pe_lst (pa_cons (pe_con U.e6 rfl) pa_nil)))) pss_nil)
    (pss_cons (ps_expr (pe_bm0 PySem.F.plainAttrs_list PySem.F.slot_list_pop PySem.F.type_list_pop mt_pop (pe_fld (pv 0) rfl)))
    (pss_one (ps_ret (pe_lst (pa_cons (pe_callB call_len_seq (by rfl) T.len PySem.boot_len (pa_cons (pe_fld (pv 0) rfl) pa_nil)) pa_nil))))), ?_⟩
  refine ⟨_, rfl, a, dx, _, rfl, ha, cF_rem _ _, a, p, c, rfl, C, fun H1 q hq s1 _ => ?_⟩
  obtain ⟨ws, hq, hW⟩ := hq
  have lenw := hW.length
  rw [List.length_drop] at lenw
  refine ⟨q, ws, rfl, .inl hq, rfl, _, rfl, ?_⟩
  have ha1 := s1 _ _ ha
  have hp1 := s1 _ _ hp
  refine ite2 (fun c1 => ?_) (fun c1 => ?_)
  · have c1 : (ws.length : Int) = 0 := V.int.inj (of_decide_eq_true c1)
    refine ⟨(by show 1 ≤ sizeLine; decide), fun l hl => ?_⟩
    exact k.same (res := [-6]) C s1 hl (n_pop.trans (s_pop_no (by omega)))
  · have c1 : ¬ (ws.length : Int) = 0 := fun z => c1 (decide_eq_true (congrArg V.int z))
    have c2 : ¬ c.days.length ≤ c.next := by omega
    have hv : vs[vs.length - 1]? = some (vs[vs.length - 1]'(by omega)) := List.getElem?_eq_getElem _
    refine ⟨_, rfl, a, CC, dx, _, _, rfl, ha1, U.cl, U.nD, cF_days _ _, .inl ⟨rfl, _, SqL.of hp1⟩, p, vs, _, rfl, rfl, hp1, hv, ?_⟩
    have okn : COk { c with days := c.days.dropLast } := by
      refine ⟨fun y hy => ok.days y (List.dropLast_subset _ hy), ?_, ?_⟩
      · show c.days.dropLast.length ≤ 10
        rw [List.length_dropLast]
        have := ok.most
        omega
      · show c.next ≤ c.days.dropLast.length
        rw [List.length_dropLast]
        omega
    have C2 := (C.same s1).days (Days.same s1 hD).dropLast okn
    have C2' := C2
    obtain ⟨⟨dx2, ha2⟩, ⟨vs2, hp2, hD2⟩, _⟩ := C2'
    refine ⟨_, rfl, a, CC, dx2, _, _, rfl, ha2, U.cl, U.nD, cF_days _ _, p, vs2, rfl, .inl (SqL.of hp2), (by show 1 ≤ sizeLine; decide), fun l hl => ?_⟩
    have fin := k.new (res := [((c.days.length - 1 : Nat) : Int)]) ((Same.but s1).trans But.upd_p) C2 (by rw [ha]; intro z; cases z) (by rw [hp]; intro z; cases z) hl (n_pop.trans (s_pop_ok c2))
    have len2 : vs2.length = c.days.length - 1 := by
      have := hD2.length
      rw [this]
      show c.days.dropLast.length = _
      rw [List.length_dropLast]
    rw [← len2] at fin
    exact fin
end
end HM

namespace HM
open PySem PySem.Spec PyProof.Rows L2
section
variable {P : Program} {w : World} {K : PySem.W.Frag} {mg : Str → Option Value} {base : Heap} {CF CD CC : Addr}
/-! ### 10 single_day_value -/
theorem scOOne : FnScope ["campaign", "arguments"] ["campaign", "arguments"] (defScope sOOne) := ⟨rfl, rfl, rfl, by decide +kernel, rfl, by decide +kernel, by decide +kernel⟩
theorem ok_oone {f : Addr} {fd : FuncData} (F : Fun K "single_day_value" "single_day_value" sOOne f fd) (U : TxC K mg CC) (MH : MHas P w K mg base CC CD) (W : DFra P w K mg base CF) (G : Def P w K mg base 5 "single_value_of_day" ["day"] (spOne CF CD)) :
    FnOk P w K mg base CX0 6 f fd ["campaign", "arguments"] (spOp K CC CD 10 1) := by
  refine F.ok scOOne spOp_len (fun cdv A outer s H vs Q E hr h => ?_)
  obtain ⟨a, p, b, c, args, rfl, hb, hn, C, k⟩ := h
  obtain ⟨t, rfl⟩ := len1 hn
  have C' := C
  obtain ⟨⟨dx, ha⟩, ⟨vs, hp, hD⟩, ok⟩ := C'
  have len := hD.length
  refine ⟨_, pss_cons (ps_if (pt_not (pt_val (pe_mth1 MH (pv 0) U.cl (hr.mono (by decide)) (pa_cons (pe_ix ix_list (pv 1) pe_int (fun _ _ => rfl)) pa_nil)))) (pss_one (ps_ret (pe_lst (pa_cons (pe_con U.e2 rfl) pa_nil)))) pss_nil)
    (pss_one (ps_ret (pe_def W (hr.mono (by decide)) rfl (pa_cons (pe_def G hr rfl (pa_cons (pe_ix ix_list (pe_fld (pv 0) rfl) (pe_ix ix_list (pv 1) pe_int (fun _ _ => rfl)) (fun _ _ => rfl)) pa_nil)) pa_nil)))), ?_⟩
  refine ⟨_, rfl, a, dx, _, rfl, ha, cF_has _ _, _, rfl, b, _, _, _, rfl, rfl, hb, at0, a, p, c, t, rfl, C, _, rfl, ?_⟩
  refine ite_not (fun e => ?_) (fun e => ?_)
  · have c1 : c.days.length ≤ t := Nat.le_of_not_lt (of_decide_eq_false e)
    refine ⟨(by show 1 ≤ sizeLine; decide), fun l hl => ?_⟩
    exact k.same (res := [-2]) C (Same.refl H) hl ((n_one t).trans (s_one_no c1))
  · have c1 : t < c.days.length := of_decide_eq_true e
    have hv : vs[t]? = some (vs[t]'(by omega)) := List.getElem?_eq_getElem _
    obtain ⟨x, d, hx, hd, hxd⟩ := hD.get hv
    rw [hx] at hv
    refine ⟨_, rfl, a, CC, dx, _, _, rfl, ha, U.cl, U.nD, cF_days _ _, _, rfl, b, _, _, _, rfl, rfl, hb, at0, p, _, _, _, rfl, rfl, SqL.of hp, atI_nat hv, ?_⟩
    refine ⟨x, d, rfl, hxd, ok.days d (List.mem_of_getElem? hd), fun H2 y hy s2 => ?_⟩
    refine ⟨y, _, rfl, hy, fun r hr' => ?_⟩
    exact k.same C s2 hr' ((n_one t).trans (s_one_ok hd))
/-! ### 11 is_monotone -/
theorem scOMon : FnScope ["campaign", "arguments"] ["campaign", "arguments"] (defScope sOMon) := ⟨rfl, rfl, rfl, by decide +kernel, rfl, by decide +kernel, by decide +kernel⟩
theorem ok_omon {f : Addr} {fd : FuncData} (F : Fun K "is_monotone" "is_monotone" sOMon f fd) (U : TxC K mg CC) (R : MRem P w K mg base CC CD) (G : Def P w K mg base 7 "is_monotone_case" ["days"] (spMon K CD)) :
    FnOk P w K mg base CX0 8 f fd ["campaign", "arguments"] (spOp K CC CD 11 0) := by
  refine F.ok scOMon spOp_len (fun cdv A outer s H vs Q E hr h => ?_)
  obtain ⟨a, p, b, c, args, rfl, hb, hn, C, k⟩ := h
  obtain rfl := len0 hn
  refine ⟨_, pss_one (ps_ret (pe_lst (pa_cons (pe_ifExp (pt_val (pe_def G hr rfl (pa_cons (pe_mth0 R (pv 0) U.cl (hr.mono (by decide))) pa_nil))) pe_int pe_int) pa_nil))), ?_⟩
  have C' := C
  obtain ⟨⟨dx, ha⟩, hl, ok⟩ := C'
  refine ⟨_, rfl, a, dx, _, rfl, ha, cF_rem _ _, a, p, c, rfl, C, fun H1 q hq s1 _ => ?_⟩
  refine ⟨q, _, rfl, hq, ok.rem, ok.remL, fun H2 s2 => ⟨_, rfl, ?_⟩⟩
  have st := s_mono (c := c)
  refine ite2 (fun e => ?_) (fun e => ?_)
  · refine ⟨(by show 1 ≤ sizeLine; decide), fun l hl => ?_⟩
    rw [if_pos e] at st
    exact k.same (res := [1]) C (s1.trans s2) hl st
  · refine ⟨(by show 1 ≤ sizeLine; decide), fun l hl => ?_⟩
    rw [if_neg e] at st
    exact k.same (res := [0]) C (s1.trans s2) hl st
/-! ### 12 quiet_probability -/
theorem scOQui : FnScope ["campaign", "arguments", "count", "remaining"] ["campaign", "arguments"] (defScope sOQui) := ⟨rfl, rfl, rfl, by decide +kernel, rfl, by decide +kernel, by decide +kernel⟩
theorem ok_oqui {f : Addr} {fd : FuncData} (F : Fun K "quiet_probability" "quiet_probability" sOQui f fd) (T : TxW K mg CF CD) (U : TxC K mg CC) (R : MRem P w K mg base CC CD) (W : DFra P w K mg base CF) (G : Def P w K mg base 4 "quiet_probability_of_days" ["days"] (spQui K CF CD)) :
    FnOk P w K mg base CX0 5 f fd ["campaign", "arguments"] (spOp K CC CD 12 1) := by
  refine F.ok scOQui spOp_len (fun cdv A outer s H vs Q E hr h => ?_)
  obtain ⟨a, p, b, c, args, rfl, hb, hn, C, k⟩ := h
  obtain ⟨t, rfl⟩ := len1 hn
  have C' := C
  obtain ⟨⟨dx, ha⟩, hl, ok⟩ := C'
  refine ⟨_, pss_cons (ps_set (i := 2) scOQui.nd rfl (.inl rfl) (pe_ix ix_list (pv 1) pe_int (fun _ _ => rfl)))
    (pss_cons (ps_set (i := 3) scOQui.nd rfl (.inl rfl) (pe_mth0 R (pv 0) U.cl (hr.mono (by decide))))
    (pss_cons (ps_if (pt_cmpR op_gt (pv 2) (pe_callB call_len_seq (by rfl) T.len PySem.boot_len (pa_cons (pv 3) pa_nil)) (nomark _))
      (pss_one (ps_ret (pe_lst (pa_cons (pe_con U.e2 rfl) pa_nil)))) pss_nil)
    (pss_one (ps_ret (pe_def W (hr.mono (by decide)) rfl (pa_cons (pe_def G hr rfl (pa_cons (pe_slice sl_list (pv 3) po_none (po_some (pv 2))) pa_nil)) pa_nil)))))), ?_⟩
  refine ⟨_, rfl, b, _, _, _, rfl, rfl, hb, at0, _, rfl, a, dx, _, rfl, ha, cF_rem _ _, a, p, c, rfl, C, fun H1 q hq s1 _ => ?_⟩
  obtain ⟨vs, hq, hD⟩ := hq
  have len := hD.length
  refine ⟨_, rfl, _, rfl, q, vs, rfl, .inl hq, _, _, rfl, rfl, _, rfl, ?_⟩
  refine ite2 (fun c1 => ?_) (fun c1 => ?_)
  · have c1 : (c.days.drop c.next).length < t := by rw [← len]; exact dec_gt.mp c1
    refine ⟨(by show 1 ≤ sizeLine; decide), fun l hl => ?_⟩
    exact k.same (res := [-2]) C s1 hl ((n_qui t).trans (s_qui_no c1))
  · have c1 : ¬ (c.days.drop c.next).length < t := fun z => c1 (dec_gt.mpr (by rw [len]; exact z))
    refine ⟨_, rfl, _, rfl, _, rfl, q, vs, rfl, hq, fun l hl' => ?_⟩
    have e : cutV vs none (some (Int.ofNat t)) = vs.take t := cut_take vs t
    have s2 := upd_new (o := .lst (cutV vs none (some (Int.ofNat t)))) hl'
    refine ⟨l, (c.days.drop c.next).take t, rfl, ⟨_, SqL.of upd_same, by rw [e]; rw [e] at s2; exact (Days.same s2 hD).take t⟩, fun d hd => ok.rem d (List.mem_of_mem_take hd), by have := ok.remL; rw [List.length_take]; omega, fun H2 x hx s3 => ?_⟩
    refine ⟨x, _, rfl, hx, fun r hr' => ?_⟩
    exact k.same C (s1.trans (s2.trans s3)) hr' ((n_qui t).trans (s_qui_ok c1))
/-! ### 18 is_worthwhile -/
theorem scOWor : FnScope ["campaign", "arguments"] ["campaign", "arguments"] (defScope sOWor) := ⟨rfl, rfl, rfl, by decide +kernel, rfl, by decide +kernel, by decide +kernel⟩
theorem ok_owor {f : Addr} {fd : FuncData} (F : Fun K "is_worthwhile" "is_worthwhile" sOWor f fd) (T : TxW K mg CF CD) (U : TxC K mg CC) (R : MRem P w K mg base CC CD) (G : Def P w K mg base 5 "value_of_days" ["days"] (spVal K CF CD)) :
    FnOk P w K mg base CX0 6 f fd ["campaign", "arguments"] (spOp K CC CD 18 0) := by
  refine F.ok scOWor spOp_len (fun cdv A outer s H vs Q E hr h => ?_)
  obtain ⟨a, p, b, c, args, rfl, hb, hn, C, k⟩ := h
  obtain rfl := len0 hn
  refine ⟨_, pss_one (ps_ret (pe_lst (pa_cons (pe_ifExp (pt_cmpR op_gt (pe_fld (pe_def G hr rfl (pa_cons (pe_mth0 R (pv 0) U.cl (hr.mono (by decide))) pa_nil)) rfl) pe_int (nomark _)) pe_int pe_int) pa_nil))), ?_⟩
  have C' := C
  obtain ⟨⟨dx, ha⟩, hl, ok⟩ := C'
  refine ⟨_, rfl, a, dx, _, rfl, ha, cF_rem _ _, a, p, c, rfl, C, fun H1 q hq s1 _ => ?_⟩
  refine ⟨q, _, rfl, hq, ok.rem, ok.remL, fun H2 x hx s2 => ?_⟩
  obtain ⟨dp, hx⟩ := hx
  refine ⟨x, CF, dp, _, _, rfl, hx, T.clF, T.nT, fF_top _ _, _, _, rfl, rfl, _, rfl, ?_⟩
  have st := s_wor (c := c)
  refine ite2 (fun e => ?_) (fun e => ?_)
  · refine ⟨(by show 1 ≤ sizeLine; decide), fun l hl => ?_⟩
    rw [if_pos (pos_num.mpr (of_decide_eq_true e))] at st
    exact k.same (res := [1]) C (s1.trans s2) hl st
  · refine ⟨(by show 1 ≤ sizeLine; decide), fun l hl => ?_⟩
    rw [if_neg fun z => e (decide_eq_true (pos_num.mp z))] at st
    exact k.same (res := [0]) C (s1.trans s2) hl st
/-! ### 19 summary -/
theorem scSum : FnScope ["campaign", "arguments"] ["campaign", "arguments"] (defScope sSum) := ⟨rfl, rfl, rfl, by decide +kernel, rfl, by decide +kernel, by decide +kernel⟩
theorem ok_sum {f : Addr} {fd : FuncData} (F : Fun K "summary" "summary" sSum f fd) (T : TxW K mg CF CD) (U : TxC K mg CC) : FnOk P w K mg base CX0 1 f fd ["campaign", "arguments"] (spOp K CC CD 19 0) := by
  refine F.ok scSum spOp_len (fun cdv A outer s H vs Q E hr h => ?_)
  obtain ⟨a, p, b, c, args, rfl, hb, hn, C, k⟩ := h
  obtain rfl := len0 hn
  have C' := C
  obtain ⟨⟨dx, ha⟩, ⟨vs, hp, hD⟩, ok⟩ := C'
  have len := hD.length
  refine ⟨_, pss_one (ps_ret (pe_lst (pa_cons (pe_callB call_len_seq (by rfl) T.len PySem.boot_len (pa_cons (pe_fld (pv 0) rfl) pa_nil)) (pa_cons (pe_fld (pv 0) rfl) (pa_cons (pe_fld (pv 0) rfl) (pa_cons (pe_fld (pv 0) rfl) pa_nil)))))), ?_⟩
  refine ⟨_, rfl, a, CC, dx, _, _, rfl, ha, U.cl, U.nD, cF_days _ _, p, vs, rfl, .inl (SqL.of hp), _, rfl, a, CC, dx, _, _, rfl, ha, U.cl, U.nN, cF_next _ _, _, rfl, a, CC, dx, _, _, rfl, ha, U.cl, U.nS, cF_status _ _, _, rfl, a, CC, dx, _, _, rfl, ha, U.cl, U.nT, cF_total _ _,
    (by show 4 ≤ sizeLine; decide), fun l hl => ?_⟩
  have fin := k.same (res := [(c.days.length : Int), (c.next : Int), (c.status : Int), c.total]) C (Same.refl H) hl s_sum
  rw [← len] at fin
  exact fin
/-! ### 14 stop, 15 restart -/
theorem scSto : FnScope ["campaign", "arguments"] ["campaign", "arguments"] (defScope sSto) := ⟨rfl, rfl, rfl, by decide +kernel, rfl, by decide +kernel, by decide +kernel⟩
theorem ok_sto {f : Addr} {fd : FuncData} (F : Fun K "stop" "stop" sSto f fd) (U : TxC K mg CC) : FnOk P w K mg base CX0 1 f fd ["campaign", "arguments"] (spOp K CC CD 14 0) := by
  refine F.ok scSto spOp_len (fun cdv A outer s H vs Q E hr h => ?_)
  obtain ⟨a, p, b, c, args, rfl, hb, hn, C, k⟩ := h
  obtain rfl := len0 hn
  have C' := C
  obtain ⟨⟨dx, ha⟩, ⟨vs, hp, hD⟩, ok⟩ := C'
  refine ⟨_, pss_cons (ps_if (pt_cmpR op_ne (pe_fld (pv 0) rfl) (pe_con U.run rfl) (nomark _)) (pss_one (ps_ret (pe_lst (pa_cons (pe_con U.e16 rfl) pa_nil)))) pss_nil)
    (pss_cons (ps_fld (pv 0) (pe_con U.sto rfl) rfl)
    (pss_one (ps_ret (pe_lst (pa_cons pe_int (pa_cons (pe_fld (pv 0) rfl) pa_nil)))))), ?_⟩
  refine ⟨_, rfl, a, CC, dx, _, _, rfl, ha, U.cl, U.nS, cF_status _ _, rfl, _, rfl, ?_⟩
  refine ite_not (fun e => ?_) (fun e => ?_)
  · have c1 : c.status ≠ 0 := fun z => of_decide_eq_false e (by rw [z]; rfl)
    refine ⟨(by show 1 ≤ sizeLine; decide), fun l hl => ?_⟩
    exact k.same (res := [-16]) C (Same.refl H) hl (n_sto.trans (s_sto_no c1))
  · have c1 : c.status = 0 := by
      have z : (c.status : Int) = 0 := V.int.inj (of_decide_eq_true e)
      omega
    refine ⟨_, rfl, a, CC, dx, _, rfl, ha, U.cl, U.nS, (by show 4 < 1000; decide), ?_⟩
    have e1 : putF "status" (.int 2) (cF p c) = cF p { c with status := 2 } := cF_pS p c 2
    rw [e1]
    have C1 : CampAt CC CD (upd H a (.ins CC dx (cF p { c with status := 2 }))) a p { c with status := 2 } := C.put rfl ⟨ok.days, ok.most, ok.next⟩
    refine ⟨_, rfl, a, CC, dx, _, _, rfl, upd_same, U.cl, U.nT, cF_total _ _, (by show 2 ≤ sizeLine; decide), fun l hl => ?_⟩
    exact k.new (res := [0, c.total]) But.upd_a C1 (by rw [ha]; intro z; cases z) (by rw [hp]; intro z; cases z) hl (n_sto.trans (s_sto_ok c1))
theorem scRes : FnScope ["campaign", "arguments", "previous_next_day"] ["campaign", "arguments"] (defScope sRes) := ⟨rfl, rfl, rfl, by decide +kernel, rfl, by decide +kernel, by decide +kernel⟩
theorem ok_res {f : Addr} {fd : FuncData} (F : Fun K "restart" "restart" sRes f fd) (U : TxC K mg CC) : FnOk P w K mg base CX0 1 f fd ["campaign", "arguments"] (spOp K CC CD 15 0) := by
  refine F.ok scRes spOp_len (fun cdv A outer s H vs Q E hr h => ?_)
  obtain ⟨a, p, b, c, args, rfl, hb, hn, C, k⟩ := h
  obtain rfl := len0 hn
  have C' := C
  obtain ⟨⟨dx, ha⟩, ⟨vs, hp, hD⟩, ok⟩ := C'
  refine ⟨_, pss_cons (ps_set (i := 2) scRes.nd rfl (.inl rfl) (pe_fld (pv 0) rfl))
    (pss_cons (ps_fld (pv 0) pe_int rfl) (pss_cons (ps_fld (pv 0) pe_int rfl) (pss_cons (ps_fld (pv 0) (pe_con U.run rfl) rfl)
    (pss_one (ps_ret (pe_lst (pa_cons (pv 2) pa_nil))))))), ?_⟩
  refine ⟨_, rfl, a, CC, dx, _, _, rfl, ha, U.cl, U.nN, cF_next _ _, ?_⟩
  have e1 : putF "next_day" (.int 0) (cF p c) = cF p { c with next := 0 } := cF_pN p c 0
  have e2 : putF "total" (.int 0) (cF p { c with next := 0 }) = cF p { c with next := 0, total := 0 } := cF_pT p _ 0
  have e3 : putF "status" (.int 0) (cF p { c with next := 0, total := 0 }) = cF p { c with next := 0, total := 0, status := 0 } := cF_pS p _ 0
  refine ⟨_, rfl, a, CC, dx, _, rfl, ha, U.cl, U.nN, (by show 4 < 1000; decide), ?_⟩
  rw [e1]
  refine ⟨_, rfl, a, CC, dx, _, rfl, upd_same, U.cl, U.nT, (by show 4 < 1000; decide), ?_⟩
  rw [e2, upd_upd]
  refine ⟨_, rfl, a, CC, dx, _, rfl, upd_same, U.cl, U.nS, (by show 4 < 1000; decide), ?_⟩
  rw [e3, upd_upd]
  have C1 : CampAt CC CD (upd H a (.ins CC dx (cF p { c with next := 0, total := 0, status := 0 }))) a p { c with next := 0, total := 0, status := 0 } := C.put rfl ⟨ok.days, ok.most, Nat.zero_le _⟩
  refine ⟨_, rfl, (by show 1 ≤ sizeLine; decide), fun l hl => ?_⟩
  exact k.new (res := [(c.next : Int)]) But.upd_a C1 (by rw [ha]; intro z; cases z) (by rw [hp]; intro z; cases z) hl s_res
end
end HM

namespace HM
open PySem PySem.Spec PyProof.Rows L2
section
variable {P : Program} {w : World} {K : PySem.W.Frag} {mg : Str → Option Value} {base : Heap} {CF CD CC : Addr}
/-! ### 13 continue_campaign -/
theorem scCon : FnScope ["campaign", "arguments", "sample", "day"] ["campaign", "arguments"] (defScope sCon) := ⟨rfl, rfl, rfl, by decide +kernel, rfl, by decide +kernel, by decide +kernel⟩
theorem ok_con {f : Addr} {fd : FuncData} (F : Fun K "continue_campaign" "continue_campaign" sCon f fd) (T : TxW K mg CF CD) (U : TxC K mg CC) (MH : MHas P w K mg base CC CD) :
    FnOk P w K mg base CX0 2 f fd ["campaign", "arguments"] (spOp K CC CD 13 1) := by
  refine F.ok scCon spOp_len (fun cdv A outer s H vs Q E hr h => ?_)
  obtain ⟨a, p, b, c, args, rfl, hb, hn, C, k⟩ := h
  obtain ⟨t, rfl⟩ := len1 hn
  have C' := C
  obtain ⟨⟨dx, ha⟩, ⟨vs, hp, hD⟩, ok⟩ := C'
  have len := hD.length
  refine ⟨_, pss_cons (ps_set (i := 2) scCon.nd rfl (.inl rfl) (pe_ix ix_list (pv 1) pe_int (fun _ _ => rfl)))
    (pss_cons (ps_if (pt_cmpR op_gt (pv 2) (pe_con U.sam rfl) (nomark _)) (pss_one (ps_ret (pe_lst (pa_cons (pe_con U.e22 rfl) pa_nil)))) pss_nil)
    (pss_cons (ps_if (pt_cmpR op_ne (pe_fld (pv 0) rfl) (pe_con U.run rfl) (nomark _)) (pss_one (ps_ret (pe_lst (pa_cons (pe_con U.e16 rfl) pa_nil)))) pss_nil)
    (pss_cons (ps_if (pt_not (pt_val (pe_mth1 MH (pv 0) U.cl hr (pa_cons (pe_fld (pv 0) rfl) pa_nil)))) (pss_one (ps_ret (pe_lst (pa_cons (pe_con U.e33 rfl) pa_nil)))) pss_nil)
    (pss_cons (ps_set (i := 3) scCon.nd rfl (.inl rfl) (pe_ix ix_list (pe_fld (pv 0) rfl) (pe_fld (pv 0) rfl) (fun _ _ => rfl)))
    (pss_cons (ps_fldaug (pv 0) pe_int in_add)
    (pss_cons (ps_if (pt_cmpR op_lt (pe_op op_mulW (pv 2) (pe_fld (pv 3) rfl)) (pe_op op_mulW (pe_con U.sms rfl) (pe_fld (pv 3) rfl)) (nomark _))
      (pss_cons (ps_fld (pv 0) (pe_con U.evt rfl) rfl) (pss_cons (ps_fldaug (pv 0) (pe_fld (pv 3) rfl) in_sub)
      (pss_one (ps_ret (pe_lst (pa_cons pe_int (pa_cons (pe_fld (pv 0) rfl) pa_nil))))))) pss_nil)
    (pss_cons (ps_fldaug (pv 0) (pe_fld (pv 3) rfl) in_add)
    (pss_one (ps_ret (pe_lst (pa_cons pe_int (pa_cons (pe_fld (pv 0) rfl) pa_nil)))))))))))), ?_⟩
  refine ⟨_, rfl, b, _, _, _, rfl, rfl, hb, at0, ?_⟩
  refine ⟨_, rfl, _, _, rfl, rfl, _, rfl, ?_⟩
  refine ite2 (fun c1 => ?_) (fun c1 => ?_)
  · have c1 : 999 < t := dec_gt.mp c1
    refine ⟨(by show 1 ≤ sizeLine; decide), fun l hl => ?_⟩
    exact k.same (res := [-22]) C (Same.refl H) hl ((n_con t).trans (s_con_bad c1))
  · have c1 : ¬ 999 < t := fun z => c1 (dec_gt.mpr z)
    refine ⟨_, rfl, a, CC, dx, _, _, rfl, ha, U.cl, U.nS, cF_status _ _, rfl, _, rfl, ?_⟩
    refine ite_not (fun e => ?_) (fun e => ?_)
    · have c2 : c.status ≠ 0 := fun z => of_decide_eq_false e (by rw [z]; rfl)
      refine ⟨(by show 1 ≤ sizeLine; decide), fun l hl => ?_⟩
      exact k.same (res := [-16]) C (Same.refl H) hl ((n_con t).trans (s_con_not c1 c2))
    · have c2 : c.status = 0 := by
        have z : (c.status : Int) = 0 := V.int.inj (of_decide_eq_true e)
        omega
      refine ⟨_, rfl, a, dx, _, rfl, ha, cF_has _ _, _, rfl, a, CC, dx, _, _, rfl, ha, U.cl, U.nN, cF_next _ _, a, p, c, c.next, rfl, C, _, rfl, ?_⟩
      refine ite_not (fun e => ?_) (fun e => ?_)
      · have c3 : c.days.length ≤ c.next := Nat.le_of_not_lt (of_decide_eq_false e)
        refine ⟨(by show 1 ≤ sizeLine; decide), fun l hl => ?_⟩
        exact k.same (res := [-33]) C (Same.refl H) hl ((n_con t).trans (s_con_end c1 c2 c3))
      · have c3 : c.next < c.days.length := of_decide_eq_true e
        have hv : vs[c.next]? = some (vs[c.next]'(by omega)) := List.getElem?_eq_getElem _
        obtain ⟨x, d, hx, hd, dd, hxd⟩ := hD.get hv
        rw [hx] at hv
        have od := ok.days d (List.mem_of_getElem? hd)
        refine ⟨_, rfl, a, CC, dx, _, _, rfl, ha, U.cl, U.nD, cF_days _ _, _, rfl, a, CC, dx, _, _, rfl, ha, U.cl, U.nN, cF_next _ _, p, _, _, _, rfl, rfl, SqL.of hp, atI_nat hv, ?_⟩
        refine ⟨_, rfl, a, CC, dx, _, _, rfl, ha, U.cl, U.nN, cF_next _ _, _, _, rfl, rfl, dx, _, ha, (by show 4 < 1000; decide), ?_⟩
        have e1 : putF "next_day" (.int ((c.next : Int) + 1)) (cF p c) = cF p { c with next := c.next + 1 } := cF_pN p c (c.next + 1)
        rw [e1]
        have nxa : x ≠ a := ne_of hxd ha (by intro z; injection z with _ _ z; exact dF_ne_cF z)
        have xa : ∀ o, upd H a o x = some (.ins CD dd (dF d)) := fun o => (upd_ne nxa).trans hxd
        have okn : ∀ i j, COk { c with next := c.next + 1, total := i, status := j } := fun i j => ⟨ok.days, ok.most, c3⟩
        refine ⟨_, rfl, _, rfl, x, CD, dd, _, _, rfl, xa _, T.clD, T.nEB, dF_bot d, _, _, rfl, rfl,
          wide_mul (a := 10) (b := 7) (by show t < 1024; omega) (by have := od.2.2.1; show d.denominator < 128; omega) (by decide) (by decide) (by decide), ?_⟩
        refine ⟨_, rfl, x, CD, dd, _, _, rfl, xa _, T.clD, T.nET, dF_top d, _, _, rfl, rfl,
          wide_mul (a := 10) (b := 7) (by decide) (by have := od.2.2.1; have := od.2.2.2.1; show d.numerator < 128; omega) (by decide) (by decide) (by decide), _, _, rfl, rfl, _, rfl, ?_⟩
        have ec : (decide ((t : Int) * (d.denominator : Int) < 1000 * (d.numerator : Int)) = true) ↔ t * d.denominator < 1000 * d.numerator := by
          rw [decide_eq_true_iff]
          have q1 : (t : Int) * (d.denominator : Int) = ((t * d.denominator : Nat) : Int) := (Int.natCast_mul ..).symm
          have q2 : 1000 * (d.numerator : Int) = ((1000 * d.numerator : Nat) : Int) := (Int.natCast_mul ..).symm
          rw [q1, q2]
          omega
        refine ite2 (fun c4 => ?_) (fun c4 => ?_)
        · have c4 := ec.mp c4
          refine ⟨_, rfl, a, CC, dx, _, rfl, upd_same, U.cl, U.nS, (by show 4 < 1000; decide), ?_⟩
          have e2 : putF "status" (.int 1) (cF p { c with next := c.next + 1 }) = cF p { c with next := c.next + 1, status := 1 } := cF_pS p _ 1
          rw [e2, upd_upd]
          have e3 : putF "total" (.int (c.total - (d.cost : Int))) (cF p { c with next := c.next + 1, status := 1 }) = cF p { c with next := c.next + 1, total := c.total - (d.cost : Int), status := 1 } := cF_pT p _ _
          refine ⟨_, rfl, a, CC, dx, _, _, rfl, upd_same, U.cl, U.nT, cF_total _ _, _, rfl, x, CD, dd, _, _, rfl, xa _, T.clD, T.nC, dF_cost d, c.total, (d.cost : Int), rfl, rfl, dx, _, upd_same, (by show 4 < 1000; decide), ?_⟩
          rw [upd_upd, e3]
          have C1 := C.put (dx := dx) (c' := { c with next := c.next + 1, total := c.total - (d.cost : Int), status := 1 }) rfl (okn _ _)
          refine ⟨_, rfl, a, CC, dx, _, _, rfl, upd_same, U.cl, U.nT, cF_total _ _, (by show 2 ≤ sizeLine; decide), fun l hl => ?_⟩
          exact k.new (res := [1, c.total - (d.cost : Int)]) But.upd_a C1 (by rw [ha]; intro z; cases z) (by rw [hp]; intro z; cases z) hl ((n_con t).trans (s_con_evt c1 c2 hd c4))
        · have c4 : ¬ t * d.denominator < 1000 * d.numerator := fun z => c4 (ec.mpr z)
          have e3 : putF "total" (.int (c.total + (d.gain : Int))) (cF p { c with next := c.next + 1 }) = cF p { c with next := c.next + 1, total := c.total + (d.gain : Int) } := cF_pT p _ _
          refine ⟨_, rfl, a, CC, dx, _, _, rfl, upd_same, U.cl, U.nT, cF_total _ _, _, rfl, x, CD, dd, _, _, rfl, xa _, T.clD, T.nG, dF_gain d, c.total, (d.gain : Int), rfl, rfl, dx, _, upd_same, (by show 4 < 1000; decide), ?_⟩
          rw [upd_upd, e3]
          have C1 := C.put (dx := dx) (c' := { c with next := c.next + 1, total := c.total + (d.gain : Int) }) rfl (okn _ _)
          refine ⟨_, rfl, a, CC, dx, _, _, rfl, upd_same, U.cl, U.nT, cF_total _ _, (by show 2 ≤ sizeLine; decide), fun l hl => ?_⟩
          exact k.new (res := [0, c.total + (d.gain : Int)]) But.upd_a C1 (by rw [ha]; intro z; cases z) (by rw [hp]; intro z; cases z) hl ((n_con t).trans (s_con_go c1 c2 hd c4))
/-! ### 16 max_event_cost -/
theorem value_le {l : List Kqk5.Day} (h : ∀ d ∈ l, Ok d) (hl : l.length ≤ 10) : Sz (Kqk5.value l) 221 := (value_sz h).mono (by omega)
theorem scMax : FnScope ["campaign", "arguments", "number", "day", "cost"] ["campaign", "arguments"] (defScope sMax) := ⟨rfl, rfl, rfl, by decide +kernel, rfl, by decide +kernel, by decide +kernel⟩
theorem ok_max {f : Addr} {fd : FuncData} (F : Fun K "max_event_cost" "max_event_cost" sMax f fd) (T : TxW K mg CF CD) (U : TxC K mg CC) (MH : MHas P w K mg base CC CD) (G : Def P w K mg base 5 "value_of_days" ["days"] (spVal K CF CD))
    (L : Def P w K mg base 5 "greatest_worthwhile_cost" ["day", "rest"] (spGwc CF CD)) : FnOk P w K mg base CX0 6 f fd ["campaign", "arguments"] (spOp K CC CD 16 1) := by
  refine F.ok scMax spOp_len (fun cdv A outer s H vs Q E hr h => ?_)
  obtain ⟨a, p, b, c, args, rfl, hb, hn, C, k⟩ := h
  obtain ⟨t, rfl⟩ := len1 hn
  have C' := C
  obtain ⟨⟨dx, ha⟩, ⟨vs, hp, hD⟩, ok⟩ := C'
  have len := hD.length
  refine ⟨_, pss_cons (ps_set (i := 2) scMax.nd rfl (.inl rfl) (pe_ix ix_list (pv 1) pe_int (fun _ _ => rfl)))
    (pss_cons (ps_if (pt_not (pt_val (pe_mth1 MH (pv 0) U.cl (hr.mono (by decide)) (pa_cons (pv 2) pa_nil)))) (pss_one (ps_ret (pe_lst (pa_cons (pe_con U.e2 rfl) pa_nil)))) pss_nil)
    (pss_cons (ps_set (i := 3) scMax.nd rfl (.inl rfl) (pe_ix ix_list (pe_fld (pv 0) rfl) (pv 2) (fun _ _ => rfl)))
    (pss_cons (ps_if (pt_cmpR op_eq (pe_fld (pv 3) rfl) pe_int (nomark _)) (pss_one (ps_ret (pe_lst (pa_cons (pe_con U.cost rfl) pa_nil)))) pss_nil)
    (pss_cons (ps_set (i := 4) scMax.nd rfl (.inl rfl) (pe_def L hr rfl (pa_cons (pv 3) (pa_cons (pe_def G hr rfl (pa_cons (pe_slice sl_list (pe_fld (pv 0) rfl) (po_some (pe_op op_add (pv 2) pe_int)) po_none) pa_nil)) pa_nil))))
    (pss_cons (ps_if (pt_cmpR op_lt (pv 4) pe_int (nomark _)) (pss_one (ps_ret (pe_lst (pa_cons (pe_con U.e33 rfl) pa_nil)))) pss_nil)
    (pss_one (ps_ret (pe_lst (pa_cons (pe_callB (call_min2 rfl) (by rfl) T.min PyProof.Rows.boot_min (pa_cons (pv 4) (pa_cons (pe_con U.cost rfl) pa_nil))) pa_nil))))))))), ?_⟩
  refine ⟨_, rfl, b, _, _, _, rfl, rfl, hb, at0, ?_⟩
  refine ⟨_, rfl, a, dx, _, rfl, ha, cF_has _ _, _, rfl, a, p, c, t, rfl, C, _, rfl, ?_⟩
  refine ite_not (fun e => ?_) (fun e => ?_)
  · have c1 : c.days.length ≤ t := Nat.le_of_not_lt (of_decide_eq_false e)
    refine ⟨(by show 1 ≤ sizeLine; decide), fun l hl => ?_⟩
    exact k.same (res := [-2]) C (Same.refl H) hl ((n_max t).trans (s_max_no c1))
  · have c1 : t < c.days.length := of_decide_eq_true e
    have c1' : ¬ c.days.length ≤ t := by omega
    have hv : vs[t]? = some (vs[t]'(by omega)) := List.getElem?_eq_getElem _
    obtain ⟨x, d, hx, hd, hxd⟩ := hD.get hv
    rw [hx] at hv
    have od := ok.days d (List.mem_of_getElem? hd)
    have hxd' := hxd
    obtain ⟨dd, hxd'⟩ := hxd'
    refine ⟨_, rfl, a, CC, dx, _, _, rfl, ha, U.cl, U.nD, cF_days _ _, _, rfl, p, _, _, _, rfl, rfl, SqL.of hp, atI_nat hv, ?_⟩
    refine ⟨_, rfl, x, CD, dd, _, _, rfl, hxd', T.clD, T.nET, dF_top d, rfl, _, rfl, ?_⟩
    refine ite2 (fun c2 => ?_) (fun c2 => ?_)
    · have c2 : d.numerator = 0 := by
        have z : (d.numerator : Int) = 0 := V.int.inj (of_decide_eq_true c2)
        omega
      refine ⟨(by show 1 ≤ sizeLine; decide), fun l hl => ?_⟩
      exact k.same (res := [10000]) C (Same.refl H) hl ((n_max t).trans (s_max_ok c1' (max_zero hd c2)))
    · have c2 : d.numerator ≠ 0 := fun z => c2 (decide_eq_true (by rw [z]; rfl))
      refine ⟨_, rfl, _, rfl, a, CC, dx, _, _, rfl, ha, U.cl, U.nD, cF_days _ _, _, rfl, _, _, rfl, rfl, _, rfl, p, vs, rfl, SqL.of hp, fun q hq => ?_⟩
      have e1 : cutV vs (some (Int.ofNat t + 1)) none = vs.drop (t + 1) := cut_drop vs (t + 1)
      have s1 := upd_new (o := .lst (cutV vs (some (Int.ofNat t + 1)) none)) hq
      have okr : ∀ d ∈ c.days.drop (t + 1), Ok d := fun d hd => ok.days d (List.mem_of_mem_drop hd)
      have lr : (c.days.drop (t + 1)).length ≤ 10 := by have := ok.most; rw [List.length_drop]; omega
      refine ⟨q, c.days.drop (t + 1), rfl, ⟨_, SqL.of upd_same, by rw [e1]; rw [e1] at s1; exact (Days.same s1 hD).drop _⟩, okr, lr, fun H2 y hy s2 => ?_⟩
      refine ⟨x, y, d, _, rfl, hxd.same (s1.trans s2), hy, od, c2, value_le okr lr, fun H3 s3 => ?_⟩
      have s := s1.trans (s2.trans s3)
      have mx := max_of hd c2 (by have := od.2.1; omega) rfl
      generalize (costTop d (Kqk5.value (c.days.drop (t + 1))) - 1) / (costBot d (Kqk5.value (c.days.drop (t + 1))) : Int) = r at *
      refine ⟨_, rfl, _, _, rfl, rfl, _, rfl, ?_⟩
      refine ite2 (fun c3 => ?_) (fun c3 => ?_)
      · have c3 : r < 0 := of_decide_eq_true c3
        rw [if_pos c3] at mx
        refine ⟨(by show 1 ≤ sizeLine; decide), fun l hl => ?_⟩
        exact k.same (res := [-33]) C s hl ((n_max t).trans (s_max_none c1' mx))
      · have c3 : ¬ r < 0 := fun z => c3 (decide_eq_true z)
        rw [if_neg c3] at mx
        refine ⟨_, rfl, _, _, rfl, (by show 1 ≤ sizeLine; decide), fun l hl => ?_⟩
        have fin := k.same (res := [((min 10000 r.toNat : Nat) : Int)]) C s hl ((n_max t).trans (s_max_ok c1' mx))
        have er : ((min 10000 r.toNat : Nat) : Int) = if (10000 : Int) < r then 10000 else r := by
          split <;> omega
        rw [er] at fin
        exact fin
/-! ### 17 value_with_cost -/
theorem scWco : FnScope ["campaign", "arguments", "number", "cost", "days"] ["campaign", "arguments"] (defScope sWco) := ⟨rfl, rfl, rfl, by decide +kernel, rfl, by decide +kernel, by decide +kernel⟩
theorem at1 {x y : Int} {l : List Int} : atI ((x :: y :: l).map V.int) 1 = some (.int y) := atI_nat (xs := (x :: y :: l).map V.int) (j := 1) rfl
theorem ok_wco {f : Addr} {fd : FuncData} (F : Fun K "value_with_cost" "value_with_cost" sWco f fd) (T : TxW K mg CF CD) (U : TxC K mg CC) (MH : MHas P w K mg base CC CD) (W : DFra P w K mg base CF) (G : Def P w K mg base 5 "value_of_days" ["days"] (spVal K CF CD))
    (O : Def P w K mg base 3 "with_other_cost" ["day", "cost"] (spOth CD)) : FnOk P w K mg base CX0 6 f fd ["campaign", "arguments"] (spOp K CC CD 17 2) := by
  refine F.ok scWco spOp_len (fun cdv A outer s H vs Q E hr h => ?_)
  obtain ⟨a, p, b, c, args, rfl, hb, hn, C, k⟩ := h
  obtain ⟨t, co, rfl⟩ := len2 hn
  have C' := C
  obtain ⟨⟨dx, ha⟩, ⟨vs, hp, hD⟩, ok⟩ := C'
  have len := hD.length
  refine ⟨_, pss_cons (ps_set (i := 2) scWco.nd rfl (.inl rfl) (pe_ix ix_list (pv 1) pe_int (fun _ _ => rfl)))
    (pss_cons (ps_set (i := 3) scWco.nd rfl (.inl rfl) (pe_ix ix_list (pv 1) pe_int (fun _ _ => rfl)))
    (pss_cons (ps_if (pt_not (pt_val (pe_mth1 MH (pv 0) U.cl (hr.mono (by decide)) (pa_cons (pv 2) pa_nil)))) (pss_one (ps_ret (pe_lst (pa_cons (pe_con U.e2 rfl) pa_nil)))) pss_nil)
    (pss_cons (ps_if (pt_cmpR op_gt (pv 3) (pe_con U.cost rfl) (nomark _)) (pss_one (ps_ret (pe_lst (pa_cons (pe_con U.e22 rfl) pa_nil)))) pss_nil)
    (pss_cons (ps_set (i := 4) scWco.nd rfl (.inl rfl) (pe_callTy call_list_of (by rfl) T.lst PyProof.Rows.boot_list (pa_cons (pe_fld (pv 0) rfl) pa_nil)))
    (pss_cons (ps_asg (pe_def O (hr.mono (by decide)) rfl (pa_cons (pe_ix ix_list (pv 4) (pv 2) (fun _ _ => rfl)) (pa_cons (pv 3) pa_nil))) (pg_sub (pv 4) (pv 2) set_list))
    (pss_one (ps_ret (pe_def W (hr.mono (by decide)) rfl (pa_cons (pe_def G hr rfl (pa_cons (pe_slice sl_list (pv 4) (po_some (pe_fld (pv 0) rfl)) po_none) pa_nil)) pa_nil))))))))), ?_⟩
  refine ⟨_, rfl, b, _, _, _, rfl, rfl, hb, at0, ?_⟩
  refine ⟨_, rfl, b, _, _, _, rfl, rfl, hb, at1, ?_⟩
  refine ⟨_, rfl, a, dx, _, rfl, ha, cF_has _ _, _, rfl, a, p, c, t, rfl, C, _, rfl, ?_⟩
  refine ite_not (fun e => ?_) (fun e => ?_)
  · have c1 : c.days.length ≤ t := Nat.le_of_not_lt (of_decide_eq_false e)
    refine ⟨(by show 1 ≤ sizeLine; decide), fun l hl => ?_⟩
    exact k.same (res := [-2]) C (Same.refl H) hl ((n_wco t co).trans (s_wco_no c1))
  · have c1 : t < c.days.length := of_decide_eq_true e
    have hv : vs[t]? = some (vs[t]'(by omega)) := List.getElem?_eq_getElem _
    obtain ⟨x, d, hx, hd, hxd⟩ := hD.get hv
    rw [hx] at hv
    have od := ok.days d (List.mem_of_getElem? hd)
    refine ⟨_, rfl, _, _, rfl, rfl, _, rfl, ?_⟩
    refine ite2 (fun c2 => ?_) (fun c2 => ?_)
    · have c2 : 10000 < co := dec_gt.mp c2
      refine ⟨(by show 1 ≤ sizeLine; decide), fun l hl => ?_⟩
      exact k.same (res := [-22]) C (Same.refl H) hl ((n_wco t co).trans (s_wco_bad hd c2))
    · have c2 : ¬ 10000 < co := fun z => c2 (dec_gt.mpr z)
      refine ⟨_, rfl, a, CC, dx, _, _, rfl, ha, U.cl, U.nD, cF_days _ _, p, vs, rfl, .inl (SqL.of hp), fun l hl0 => ?_⟩
      have s1 := upd_new (o := .lst vs) hl0
      generalize hH1 : upd H l (.lst vs) = H1 at s1
      have hl1 : H1 l = some (.lst vs) := by rw [← hH1]; exact upd_same
      refine ⟨_, rfl, _, rfl, l, _, _, _, rfl, rfl, SqL.of hl1, atI_nat hv, _, rfl, x, d, co, rfl, hxd.same s1, fun H2 y hy s2 => ?_⟩
      have hl2 := s2 _ _ hl1
      refine ⟨_, rfl, _, rfl, l, vs, _, t, rfl, rfl, hl2, ixN_nat (by omega), ?_⟩
      have D3 : Days CD (upd H2 l (.lst (vs.set t (.ref y)))) (vs.set t (.ref y)) (c.days.set t { d with cost := co }) := Days.upd hl2 (Days.set hy t (Days.same (s1.trans s2) hD))
      have s3 : Same H (upd H2 l (.lst (vs.set t (.ref y)))) := fun u o hu => by
        rw [upd_ne (ne_of_none hu hl0)]
        exact (s1.trans s2) u o hu
      have hl3 : upd H2 l (.lst (vs.set t (.ref y))) l = some (.lst (vs.set t (.ref y))) := upd_same
      generalize upd H2 l (.lst (vs.set t (.ref y))) = H3 at *
      refine ⟨_, rfl, _, rfl, a, CC, dx, _, _, rfl, s3 _ _ ha, U.cl, U.nN, cF_next _ _, _, rfl, l, _, rfl, SqL.of hl3, fun q hq => ?_⟩
      rw [cut_drop]
      have s4 := upd_new (o := .lst ((vs.set t (.ref y)).drop c.next)) hq
      have okn : ∀ z ∈ (c.days.set t { d with cost := co }).drop c.next, Ok z := fun z hz => by
        rcases List.mem_or_eq_of_mem_set (List.mem_of_mem_drop hz) with u | u
        · exact ok.days z u
        · rw [u]
          exact ⟨od.1, od.2.1, od.2.2.1, od.2.2.2.1, by show co ≤ 10000; omega⟩
      refine ⟨q, (c.days.set t { d with cost := co }).drop c.next, rfl, ⟨_, SqL.of upd_same, (Days.same s4 D3).drop _⟩, okn, by have := ok.most; rw [List.length_drop, List.length_set]; omega, fun H5 z hz s5 => ?_⟩
      refine ⟨z, _, rfl, hz, fun r hr' => ?_⟩
      exact k.same C (s3.trans (s4.trans s5)) hr' ((n_wco t co).trans (s_wco_ok hd c2))
end
end HM

namespace HM
open PySem PySem.Spec PyProof.Rows L2
/-! ### a dict of the module with whole numbers for keys -/
def keyInt (e : DictEntry) : Bool := match e.key with
  | .int j _ => e.hash == hashInt j
  | _ => false
def KIDct (K : PySem.W.Frag) (a : Addr) (i : Int) (v : V) : Prop :=
  ∃ (es : Array DictEntry) (n : Nat) (u : Value), K.lookup a = some ⟨.type "dict", none, .dict es n, #[]⟩ ∧ es.toList.all keyInt = true ∧ findBy Value.isInt es i = some u ∧ RelV v u
theorem keyInt_is {e : DictEntry} (h : keyInt e = true) : ∃ j t, e.key = .int j t ∧ e.hash = hashInt j := by
  unfold keyInt at h
  split at h
  · rename_i j t q
    exact ⟨j, t, q, eq_of_beq h⟩
  · cases h
theorem ix_kint {X : Cx} : IxR X (fun x y H Q => ∃ p i v, x = .ref p ∧ y = .int i ∧ KIDct X.K p i v ∧ Q v H) := by
  intro value slice pins s σ H x y v u Q I rx ry h hs
  obtain ⟨p, i, r, rfl, rfl, ⟨es, n, u0, hl, hk, e, ru⟩, q⟩ := h
  obtain rfl : v = Value.ref p := rx
  obtain ⟨t, rfl⟩ := ry
  have hm : s.heap.MapOf (intKind X.prog X.w) p (fun k => findBy Value.isInt es k) := ⟨_, es, n, I.kIn _ _ hl, ⟨rfl, rfl, rfl⟩, rfl, fun d hd => by
    obtain ⟨j, t', e1, e2⟩ := keyInt_is (List.all_eq_true.mp hk d (Array.mem_toList_iff.mpr hd))
    refine ⟨j, ?_, e2⟩
    rw [e1]
    show Value.isInt j (.int j t') = true
    simp [Value.isInt], fun _ => rfl⟩
  have hi : (intKind X.prog X.w).is i (.int i t) = true := by
    show Value.isInt i (.int i t) = true
    simp [Value.isInt]
  exact tail_any hm.typeIs slot_dict_getitem.lookup (wpAny_getItem_of hi hm e ⟨r, H, I.tok _, ru, q⟩) hs
/-! ### a call of a def that a slot holds -/
def tCallH (P : Program) (w : World) (K : PySem.W.Frag) (mg : Str → Option Value) (base : Heap) (k i : Nat) (t : TA) : TE := fun σ H Q => ∃ f sp, σ[i]? = some (some (.ref f)) ∧ Held P w K mg base k f sp ∧ t σ H fun vs H1 => sp vs H1 Q (fun _ _ _ => False)
theorem pe_callH {X : Cx} {k i : Nat} {x : Str} {p pos : Pos} {e : Expr} {es : List Expr} {t : TA} (hr : Room k X.A) (hN : X.N[i]? = some x) (hv : Vis X.env.scope x) (ha : PA X (e :: es) t)
    (hdb : (x == ("__debug__" : Str)) = false := by decide) (hcd : (x == ("__classdict__" : Str)) = false := by decide)
    (he : starEach (e :: es) X.env = (false, eval e X.env) :: starEach es X.env := by rfl) (hpl : (backTo pos (starEach es X.env)).any (·.1) = false := by rfl) : PE X (.Call (.Name x p) (e :: es) [] pos) (tCallH X.prog X.w X.K X.mg X.base k i t) := by
  refine ⟨fun pins s σ H Q I h => ?_⟩
  obtain ⟨f, sp, hs, hH, ht⟩ := h
  refine (pe_callA (i := i) (S := fun g => if g = f then some sp else none) (fun g sp' hg => ?_) hr hN hv ha hdb hcd he hpl).run pins s σ H Q I ⟨f, sp, hs, if_pos rfl, ht⟩
  by_cases c : g = f
  · rw [if_pos c] at hg
    cases hg
    rw [c]
    exact hH
  · rw [if_neg c] at hg
    cases hg
/-! ### the whole -/
theorem left_len {ns done : List Int} {pos : Nat} {s : Option Kqk5.Campaign} (h : Left ns pos done s) (ha : PyKqk5.answers_asked ns = true) : done.length ≤ 10000000 := by
  obtain ⟨f, cs, e, q⟩ := h
  have hl : (PyKqk5.answers ns).length ≤ 10000000 := by
    unfold PyKqk5.answers_asked at ha
    split at ha
    · cases ha
    · rw [Bool.and_eq_true] at ha
      exact of_decide_eq_true ha.2
  rw [← q, List.length_append] at hl
  omega
section
variable {P : Program} {w : World} {K : PySem.W.Frag} {mg : Str → Option Value} {base : Heap} {CF CD CC : Addr}
/-- the campaign as the slot holds it -/
def CSt (CC CD : Addr) (H0 H : Hp) (n : Addr) (v : V) : Option Kqk5.Campaign → Prop
  | none => v = .non
  | some c => ∃ a p, v = .ref a ∧ CampAt CC CD H a p c ∧ H0 a = none ∧ H0 p = none ∧ n ≠ p
theorem CSt.upd {H0 H : Hp} {n : Addr} {v : V} {xs : List V} {o : HO} (hn : H n = some (.lst xs)) : ∀ {s : Option Kqk5.Campaign}, CSt CC CD H0 H n v s → CSt CC CD H0 (upd H n o) n v s
  | none, h => h
  | some c, ⟨a, p, e, ⟨⟨dx, ha⟩, ⟨vs, hp, hD⟩, ok⟩, h1, h2, h3⟩ => ⟨a, p, e, ⟨⟨dx, by rw [upd_ne (ne_of ha hn (by intro z; cases z))]; exact ha⟩, ⟨vs, by rw [upd_ne h3.symm]; exact hp, Days.upd hn hD⟩, ok⟩, h1, h2, h3⟩
theorem CSt.same {H0 H H' : Hp} {n : Addr} {v : V} (e : Same H H') : ∀ {s : Option Kqk5.Campaign}, CSt CC CD H0 H n v s → CSt CC CD H0 H' n v s
  | none, h => h
  | some _, ⟨a, p, e0, h, h1, h2, h3⟩ => ⟨a, p, e0, h.same e, h1, h2, h3⟩
def spAns (K : PySem.W.Frag) : Sp := fun vs H Q _ => ∃ (a : Addr) (ns : List Int), vs = [.ref a] ∧ IL K H a ns ∧ (∀ x ∈ ns, 0 ≤ x) ∧ ns.length ≤ 1200 ∧ PyKqk5.answers_asked ns = true ∧
  ∀ H' r, H' r = some (.lst ((PyKqk5.answers ns).map V.int)) → Q (.ref r) H'
/-- what the module's names hold that answers reads -/
structure Disp (P : Program) (w : World) (K : PySem.W.Frag) (mg : Str → Option Value) (base : Heap) (CC CD : Addr) : Prop where
  cre : ∃ t, mg "CREATE" = some (.int 0 t)
  cnt : ∃ q, mg "ARGUMENT_COUNTS" = some (.ref q) ∧ ∀ H, SqT K H q (argc.map V.int)
  ops : ∃ q, mg "OPERATIONS" = some (.ref q) ∧ ∀ k n, PyKqk5.shape k = some (n, 0) → k ≠ 0 → ∃ f, KIDct K q k (.ref f) ∧ Held P w K mg base 8 f (spOp K CC CD k n)
theorem scAns : FnScope ["calls", "campaign", "answered", "position", "number", "end", "answer", "operation"] ["calls"] (defScope sAns) := ⟨rfl, rfl, rfl, by decide +kernel, rfl, by decide +kernel, by decide +kernel⟩
theorem ok_ans {f : Addr} {fd : FuncData} (F : Fun K "answers" "answers" sAns f fd) (T : TxW K mg CF CD) (U : TxC K mg CC) (M : Mak P w K mg base 1 "Campaign" CC ["self"] (spCInit CC)) (D : Disp P w K mg base CC CD) :
    FnOk P w K mg base CX0 9 f fd ["calls"] (spAns K) := by
  refine F.ok scAns (fun vs H Q E h => ?_) (fun cdv A outer s H0 vs Q E hr h => ?_)
  · obtain ⟨a, ns, rfl, _⟩ := h
    rfl
  obtain ⟨a0, ns, rfl, hns, hpos, hlen, hask, k⟩ := h
  obtain ⟨qC, mC, hC⟩ := D.cnt
  obtain ⟨qO, mO, hO⟩ := D.ops
  refine ⟨_, pss_cons (ps_set (i := 1) scAns.nd rfl (.inl rfl) pe_non) (pss_cons (ps_set (i := 2) scAns.nd rfl (.inl rfl) (pe_lst pa_nil)) (pss_cons (ps_set (i := 3) scAns.nd rfl (.inl rfl) pe_int)
    (pss_cons (ps_while PassesOwn.never (pt_cmpR op_lt (pv 3) (pe_callB call_len_seq (by rfl) T.len PySem.boot_len (pa_cons (pv 0) pa_nil)) (nomark _))
      (pss_cons (ps_set (i := 4) scAns.nd rfl (.inl rfl) (pe_ix ix_list (pv 0) (pv 3) (fun _ _ => rfl)))
      (pss_cons (ps_set (i := 5) scAns.nd rfl (.inl rfl) (pe_op op_add (pe_op op_add (pv 3) pe_int) (pe_ix ix_tup (pe_glob (v := .ref qC) rfl mC rfl) (pv 4) (fun _ _ => rfl))))
      (Evl.pss_cut (ps_if (pt_cmpR op_eq (pv 4) (pe_con D.cre rfl) (nomark _))
          (pss_cons (ps_set (i := 1) scAns.nd rfl (.inl rfl) (pe_mak0 M (hr.mono (by decide)) rfl)) (pss_one (ps_set (i := 6) scAns.nd rfl (.inl rfl) (pe_lst (pa_cons pe_int pa_nil)))))
          (pss_one (ps_if (pt_cmp (pc_isN (pv 1))) (pss_one (ps_set (i := 6) scAns.nd rfl (.inl rfl) (pe_lst (pa_cons (pe_con U.e11 rfl) pa_nil))))
            (pss_cons (ps_set (i := 7) scAns.nd rfl (.inl rfl) (pe_ix ix_kint (pe_glob (v := .ref qO) rfl mO rfl) (pv 4) (fun _ _ => rfl)))
            (pss_one (ps_set (i := 6) scAns.nd rfl (.inl rfl) (pe_callH (i := 7) hr rfl (.inl rfl) (pa_cons (pv 1) (pa_cons (pe_slice sl_list (pv 0) (po_some (pe_op op_add (pv 3) pe_int)) (po_some (pv 5))) pa_nil)))))))))
      (pss_cons (ps_expr (pe_bm PySem.F.plainAttrs_list PySem.F.slot_list_append PySem.F.type_list_append mt_append (pv 2) (pa_cons (pe_callB call_len_seq (by rfl) T.len PySem.boot_len (pa_cons (pv 6) pa_nil)) pa_nil)))
      (pss_cons (ps_expr (pe_bm PySem.F.plainAttrs_list PySem.F.slot_list_extend PySem.F.type_list_extend mt_extend (pv 2) (pa_cons (pv 6) pa_nil)))
      (pss_one (ps_set (i := 3) scAns.nd rfl (.inl rfl) (pv 5)))))))))
    (pss_one (ps_ret (pv 2)))))), ?_⟩
  refine ⟨Nat.zero_le _, fun n hn => ?_⟩
  have s0 := upd_new (o := .lst []) hn
  refine while_by (fun σ H => ∃ (pos : Nat) (done : List Int) (s : Option Kqk5.Campaign) (v : V) (x4 x5 x6 x7 : Option V), σ = [some (.ref a0), some v, some (.ref n), some (.int pos), x4, x5, x6, x7] ∧
      Same H0 H ∧ H n = some (.lst (done.map V.int)) ∧ Left ns pos done s ∧ CSt CC CD H0 H n v s)
    (fun σ _ => ns.length - slotNat σ 3) ⟨0, [], none, .non, _, _, _, _, rfl, s0, upd_same, left_start hask, rfl⟩ ?_ ?_
  · rintro σ H ⟨pos, done, s, v, x4, x5, x6, x7, rfl, sH, hn1, hL, hS⟩
    refine ⟨_, rfl, _, rfl, a0, _, rfl, .inl (sH.seq hns), _, _, rfl, rfl, _, rfl, ?_⟩
    refine ite2 (fun c => ?_) (fun c => ?_)
    · have hlt : pos < ns.length := by
        have c := of_decide_eq_true c
        rw [List.length_map] at c
        omega
      have hk : ns[pos]? = some ns[pos] := List.getElem?_eq_getElem hlt
      generalize ns[pos] = kk at hk
      obtain ⟨m, hsh, hle, hal, hstep⟩ := left_more hk hL
      obtain ⟨_, m', hm', ek, hargc⟩ := shape_is hsh
      have hat : atI (ns.map V.int) (pos : Int) = some (.int kk) := atI_nat (by rw [List.getElem?_map, hk]; rfl)
      have hac : atI (argc.map V.int) kk = some (.int m) := by
        rw [ek]
        exact atI_nat (by rw [List.getElem?_map, hargc]; rfl)
      refine ⟨_, rfl, _, rfl, a0, _, _, _, rfl, rfl, sH.seq hns, hat, ?_⟩
      refine ⟨_, rfl, _, _, rfl, rfl, _, rfl, qC, _, _, _, rfl, rfl, hC _, hac, _, _, rfl, rfl, ?_⟩
      refine ⟨fun σ' H' => ∃ (r : Addr) (res : List Int) (s' : Option Kqk5.Campaign) (v' : V) (y7 : Option V), σ' = [some (.ref a0), some v', some (.ref n), some (.int pos), some (.int kk), some (.int ((pos : Int) + 1 + (m : Int))), some (.ref r), y7] ∧
        Same H0 H' ∧ H' n = some (.lst (done.map V.int)) ∧ r ≠ n ∧ H' r = some (.lst (res.map V.int)) ∧ Kqk5Neutral.step s [kk :: (ns.drop (pos + 1)).take m] = (s', res) ∧ CSt CC CD H0 H' n v' s', ?_, ?_⟩
      · refine ⟨_, rfl, rfl, _, rfl, ?_⟩
        refine ite2 (fun c0 => ?_) (fun c0 => ?_)
        · -- create
          have c0 : kk = 0 := V.int.inj (of_decide_eq_true c0)
          subst c0
          have m0 : m = 0 := by
            have : PyKqk5.shape 0 = some (0, 0) := rfl
            rw [this] at hsh
            cases hsh
            rfl
          subst m0
          intro x dx nx ndx nex
          refine ⟨x, dx, rfl, upd_same, fun H1 p hp h1p h1x kp => ⟨rfl, ?_⟩⟩
          have s1 : Same H H1 := Same.made nx ndx kp
          have npx : p ≠ x := fun z => by
            rw [z, upd_same] at hp
            cases hp
          have npd : p ≠ dx := fun z => by
            rw [z, upd_ne nex, upd_same] at hp
            cases hp
          rw [upd_ne npx, upd_ne npd] at hp
          refine ⟨(by show 1 ≤ sizeLine; decide), fun r hr' => ?_⟩
          have s2 := upd_new (o := .lst [V.int 0]) hr'
          have hn2 := (s1.trans s2) _ _ hn1
          refine ⟨r, [0], some emptyC, .ref x, _, rfl, sH.trans (s1.trans s2), hn2, (ne_of_none (s1 _ _ hn1) hr').symm, upd_same, ?_, ?_⟩
          · rw [List.take_zero]
            exact step_create s
          · exact ⟨x, p, rfl, CampAt.same ⟨⟨dx, h1x⟩, ⟨[], h1p, trivial⟩, ⟨fun _ hd => (nomatch hd), Nat.zero_le _, Nat.le_refl _⟩⟩ s2, sH.free nx, sH.free hp, ne_of_none hn1 hp⟩
        · have c0 : kk ≠ 0 := fun z => c0 (decide_eq_true (congrArg V.int z))
          refine ⟨_, rfl, _, rfl, ?_⟩
          cases s with
          | none =>
            obtain rfl : v = .non := hS
            refine ite2 (fun _ => ?_) (fun c1 => absurd (decide_eq_true rfl) c1)
            refine ⟨(by show 1 ≤ sizeLine; decide), fun r hr' => ?_⟩
            have s2 := upd_new (o := .lst [V.int (-11)]) hr'
            exact ⟨r, [-11], none, .non, _, rfl, sH.trans s2, s2 _ _ hn1, (ne_of_none hn1 hr').symm, upd_same, step_none hsh c0 hal, rfl⟩
          | some cc =>
            obtain ⟨a, p, rfl, hC', ha0, hp0, nnp⟩ := hS
            refine ite2 (fun c1 => absurd (of_decide_eq_true c1) (by intro z; cases z)) (fun _ => ?_)
            obtain ⟨fo, kd, held⟩ := hO kk m hsh c0
            refine ⟨_, rfl, qO, kk, _, rfl, rfl, kd, ?_⟩
            refine ⟨fo, _, rfl, held, _, rfl, _, rfl, _, rfl, _, _, rfl, rfl, _, rfl, _, rfl, _, rfl, a0, _, rfl, sH.seq hns, fun b hb => ?_⟩
            have hia : ia (((ns.drop (pos + 1)).take m).map Int.toNat) = (ns.drop (pos + 1)).take m := ia_toNat fun x hx => hpos x (List.mem_of_mem_drop (List.mem_of_mem_take hx))
            have hcut : cutV (ns.map V.int) (some ((pos : Int) + 1)) (some ((pos : Int) + 1 + (m : Int))) = (ia (((ns.drop (pos + 1)).take m).map Int.toNat)).map V.int := by
              have e1 : (pos : Int) + 1 = ((pos + 1 : Nat) : Int) := by omega
              have e2 : (pos : Int) + 1 + (m : Int) = ((pos + 1 + m : Nat) : Int) := by omega
              rw [e2, e1, cut_both, hia, ← List.map_drop, ← List.map_take, show pos + 1 + m - (pos + 1) = m by omega]
            rw [hcut]
            have s2 := upd_new (o := .lst ((ia (((ns.drop (pos + 1)).take m).map Int.toNat)).map V.int)) hb
            refine ⟨a, p, b, cc, ((ns.drop (pos + 1)).take m).map Int.toNat, rfl, SqL.of upd_same, by rw [List.length_map]; exact hal, hC'.same s2, fun H' r c' res he hr1 hr2 hC2 hB => ?_⟩
            have hn2 := s2 _ _ hn1
            have nna : n ≠ a := fun z => by
              obtain ⟨⟨dx, hx⟩, _, _⟩ := hC'
              rw [← z, hn1] at hx
              cases hx
            rw [hia] at he
            refine ⟨r, res, some c', .ref a, _, rfl, fun y o hy => hB y o ((sH.trans s2) y o hy) (fun z => ?_) (fun z => ?_), hB _ _ hn2 nna nnp, (ne_of_none hn2 hr1).symm, hr2, he, a, p, rfl, hC2, ha0, hp0, nnp⟩
            · rw [z, ha0] at hy
              cases hy
            · rw [z, hp0] at hy
              cases hy
      · rintro σ' H' ⟨r, res, s', v', y7, rfl, sH', hn', nrn, hr', he, hS'⟩
        have hL' := hstep s' res he
        have hbig := left_len hL' hask
        have hsz : done.length + (res.length + 1) ≤ 10000000 := by
          rw [List.length_append] at hbig
          exact hbig
        have szl : sizeLine = 16777216 := by decide
        refine ⟨_, rfl, .inl ⟨rfl, _, SqL.of hn'⟩, _, rfl, r, _, rfl, .inl (SqL.of hr'), n, _, _, rfl, rfl, hn', by rw [List.length_map, szl]; omega, ?_⟩
        refine ⟨_, rfl, .inl ⟨rfl, _, SqL.of upd_same⟩, _, rfl, n, r, _, _, rfl, rfl, upd_same, (by rw [upd_ne nrn]; exact hr'), by rw [List.length_append, List.length_map, List.length_map, szl]; show done.length + 1 + res.length ≤ _; omega, ?_⟩
        rw [upd_upd]
        refine ⟨_, rfl, ⟨pos + 1 + m, done ++ ((res.length : Int) :: res), s', v', _, _, _, _, rfl, fun b o hb => ?_, ?_, hL', hS'.upd hn'⟩, ?_⟩
        · have nbn : b ≠ n := fun z => by
            rw [z, hn] at hb
            cases hb
          rw [upd_ne nbn]
          exact sH' b o hb
        · rw [upd_same, List.map_append, List.length_map, List.append_assoc]
          rfl
        · show ns.length - ((pos : Int) + 1 + (m : Int)).toNat < ns.length - (pos : Int).toNat
          omega
    · have c : ¬ ((pos : Int) < ((ns.map V.int).length : Int)) := fun z => c (decide_eq_true z)
      rw [List.length_map] at c
      rw [left_end (by omega) hL] at hn1
      exact ⟨_, rfl, k H n hn1⟩
  · rintro σ H Q1 Q2 hQ ⟨x, e1, y, e2, p, ys, e3, e4, i, j, e5, e6, c, e7, q⟩
    exact ⟨x, e1, y, e2, p, ys, e3, e4, i, j, e5, e6, c, e7, hQ _ _ q⟩
end
end HM

namespace HM
open PySem PySem.Spec PyProof.Rows L2
/-! ### what is found behind the top -/
def DefIn (K : PySem.W.Frag) (mg : Str → Option Value) (x : Str) (st : Stmt) : Prop := ∃ f fd, mg x = some (.ref f) ∧ Fun K x x st f fd
theorem def_in {K : PySem.W.Frag} {h : Heap} {mg : Str → Option Value} (X : K.In h) (G : h.Ns mainGlobals mg) {x : Str} {st : Stmt} {f : Addr} {oc : Value} {od an : Option Addr} {sl : Array (Option Value)} {kV dc pm cd ct : Value}
    (a : PySem.W.nsIn K mainGlobals x = some (some (.ref f))) (l : K.lookup f = some ⟨oc, od, .func (PySem.W.fnOf x x (defArgs st) (defBody st) (defScope st) .none kV dc pm an cd ct), sl⟩)
    (c : PySem.W.codeIn K cd x = true) (k : PySem.W.keepIn K (.ref f) = true) : DefIn K mg x st := ⟨f, _, PySem.W.mg_of X G a, fun_mk l c k⟩
def ClIn (K : PySem.W.Frag) (mg : Str → Option Value) (x : Str) (C : Addr) (q : Str) (st : Stmt) : Prop := mg x = some (.ref C) ∧ Cls K C ∧ ∃ f fd, L2.Mk K C f ∧ Fun K "__init__" q st f fd
theorem cl_in {K : PySem.W.Frag} {h : Heap} {mg : Str → Option Value} (X : K.In h) (G : h.Ns mainGlobals mg) {x q : Str} {C : Addr} {st : Stmt} {f : Addr} {oc : Value} {od an : Option Addr} {sl : Array (Option Value)} {kV dc pm cd ct : Value}
    (a : PySem.W.nsIn K mainGlobals x = some (some (.ref C))) (pg : PySem.W.plainGet K C Str.empty = true) (hd : PySem.W.hasDictIn K C = true) (po : PySem.W.plainOver K C = true)
    (sa : PySem.W.findIn K (.ref C) "__setattr__" = some (some (.builtin "object.__setattr__"))) (mk : PySem.W.makesIn K C = true) (kc : PySem.W.keepIn K (.ref C) = true)
    (b : PySem.W.findIn K (.ref C) "__init__" = some (some (.ref f))) (i : PySem.W.isFn K (.ref f) = true) (l : K.lookup f = some ⟨oc, od, .func (PySem.W.fnOf "__init__" q (defArgs st) (defBody st) (defScope st) .none kV dc pm an cd ct), sl⟩)
    (c : PySem.W.codeIn K cd q = true) (k : PySem.W.keepIn K (.ref f) = true) : ClIn K mg x C q st := ⟨PySem.W.mg_of X G a, ⟨pg, hd, po, sa⟩, f, _, ⟨mk, b, i, kc⟩, fun_mk l c k⟩
def MeIn (K : PySem.W.Frag) (C : Addr) (m q : Str) (st : Stmt) : Prop := ∃ f fd, Meth K C m f ∧ Fun K m q st f fd
theorem me_in {K : PySem.W.Frag} {m q : Str} {C : Addr} {st : Stmt} {f : Addr} {oc : Value} {od an : Option Addr} {sl : Array (Option Value)} {kV dc pm cd ct : Value}
    (b : PySem.W.findIn K (.ref C) m = some (some (.ref f))) (i : PySem.W.isFn K (.ref f) = true) (l : K.lookup f = some ⟨oc, od, .func (PySem.W.fnOf m q (defArgs st) (defBody st) (defScope st) .none kV dc pm an cd ct), sl⟩)
    (c : PySem.W.codeIn K cd q = true) (k : PySem.W.keepIn K (.ref f) = true) : MeIn K C m q st := ⟨f, _, ⟨b, i, k⟩, fun_mk l c k⟩
theorem con_in {K : PySem.W.Frag} {h : Heap} {mg : Str → Option Value} (X : K.In h) (G : h.Ns mainGlobals mg) {x : Str} {i : Int} {t : Tok} (a : PySem.W.nsIn K mainGlobals x = some (some (.int i t))) : ∃ t, mg x = some (.int i t) := ⟨t, PySem.W.mg_of X G a⟩
section
variable {P : Program} {w : World} {K : PySem.W.Frag} {mg : Str → Option Value} {base : Heap}
theorem Def.of {x : Str} {st : Stmt} {ps : List Str} {k : Nat} {sp : Sp} (d : DefIn K mg x st) (ok : ∀ f fd, Fun K x x st f fd → FnOk P w K mg base CX0 k f fd ps sp)
    (hb : ∀ (kV doc pm : Value) (an : Option Addr) (cdv ct : Value) (us : List Value), us.length = ps.length → bindArgs (PySem.W.fnOf x x (defArgs st) (defBody st) (defScope st) .none kV doc pm an cdv ct) ⟨us, []⟩ = pure (ps.zip us)) : Def P w K mg base k x ps sp := by
  obtain ⟨f, fd, hm, F⟩ := d
  exact ⟨f, fd, ok f fd F, hm, F.kp, F.binds hb⟩
theorem Mak.of {x q : Str} {C : Addr} {st : Stmt} {ps : List Str} {k : Nat} {sp : Sp} (d : ClIn K mg x C q st) (ok : ∀ f fd, Fun K "__init__" q st f fd → FnOk P w K mg base CX0 k f fd ps sp)
    (hb : ∀ (kV doc pm : Value) (an : Option Addr) (cdv ct : Value) (us : List Value), us.length = ps.length → bindArgs (PySem.W.fnOf "__init__" q (defArgs st) (defBody st) (defScope st) .none kV doc pm an cdv ct) ⟨us, []⟩ = pure (ps.zip us)) : Mak P w K mg base k x C ps sp := by
  obtain ⟨hm, _, f, fd, M, F⟩ := d
  exact ⟨f, fd, ok f fd F, M, hm, F.binds hb⟩
theorem Mth.of {m q : Str} {C : Addr} {st : Stmt} {ps : List Str} {k : Nat} {sp : Sp} (d : MeIn K C m q st) (ok : ∀ f fd, Fun K m q st f fd → FnOk P w K mg base CX0 k f fd ps sp)
    (hb : ∀ (kV doc pm : Value) (an : Option Addr) (cdv ct : Value) (us : List Value), us.length = ps.length → bindArgs (PySem.W.fnOf m q (defArgs st) (defBody st) (defScope st) .none kV doc pm an cdv ct) ⟨us, []⟩ = pure (ps.zip us)) : Mth P w K mg base k C m ps sp := by
  obtain ⟨f, fd, M, F⟩ := d
  exact ⟨f, fd, ok f fd F, M, F.binds hb⟩
/-- an operation that the module's name and the table of operations hold -/
theorem held_of {x : Str} {st : Stmt} {k : Nat} {sp : Sp} {f : Addr} (d : DefIn K mg x st) (hm : mg x = some (.ref f)) (ok : ∀ f fd, Fun K x x st f fd → FnOk P w K mg base CX0 k f fd ["campaign", "arguments"] sp) (hk : k ≤ 8)
    (hb : ∀ (kV doc pm : Value) (an : Option Addr) (cdv ct : Value) (us : List Value), us.length = 2 → bindArgs (PySem.W.fnOf x x (defArgs st) (defBody st) (defScope st) .none kV doc pm an cdv ct) ⟨us, []⟩ = pure ((["campaign", "arguments"] : List Str).zip us)) : Held P w K mg base 8 f sp := by
  obtain ⟨g, fd, hm', F⟩ := d
  rw [hm] at hm'
  cases hm'
  exact ⟨fd, ["campaign", "arguments"], (ok f fd F).mono hk, F.kp, F.binds hb⟩

theorem all_mk {h : Heap} {fa CF CD CC qC qO : Addr} (X : K.In h) (G : h.Ns mainGlobals mg) (hfa : mg "answers" = some (.ref fa))
    (i_with_other_cost : DefIn K mg "with_other_cost" sOth)
    (i_common_divisor : DefIn K mg "common_divisor" sGcd)
    (i_lowest_terms : DefIn K mg "lowest_terms" sLow)
    (i_is_greater : DefIn K mg "is_greater" sGre)
    (i_value_of_going_on : DefIn K mg "value_of_going_on" sGo)
    (i_single_value_of_day : DefIn K mg "single_value_of_day" sOne)
    (i_value_of_days : DefIn K mg "value_of_days" sVal)
    (i_plan_value_of_days : DefIn K mg "plan_value_of_days" sPln)
    (i_best_count_of_days : DefIn K mg "best_count_of_days" sBst)
    (i_lookahead_count_of_days : DefIn K mg "lookahead_count_of_days" sLok)
    (i_is_monotone_case : DefIn K mg "is_monotone_case" sMon)
    (i_quiet_probability_of_days : DefIn K mg "quiet_probability_of_days" sQui)
    (i_greatest_worthwhile_cost : DefIn K mg "greatest_worthwhile_cost" sGwc)
    (i_is_in_range : DefIn K mg "is_in_range" sRng)
    (i_day_with : DefIn K mg "day_with" sDay)
    (i_with_fraction : DefIn K mg "with_fraction" sFra)
    (i_add_day : DefIn K mg "add_day" sAdd)
    (i_set_day : DefIn K mg "set_day" sSet)
    (i_remove_last_day : DefIn K mg "remove_last_day" sPop)
    (i_get_day : DefIn K mg "get_day" sGet)
    (i_value : DefIn K mg "value" sOVal)
    (i_value_from : DefIn K mg "value_from" sOFrom)
    (i_plan_value : DefIn K mg "plan_value" sOPln)
    (i_best_count : DefIn K mg "best_count" sOBst)
    (i_lookahead_count : DefIn K mg "lookahead_count" sOLok)
    (i_single_day_value : DefIn K mg "single_day_value" sOOne)
    (i_is_monotone : DefIn K mg "is_monotone" sOMon)
    (i_quiet_probability : DefIn K mg "quiet_probability" sOQui)
    (i_continue_campaign : DefIn K mg "continue_campaign" sCon)
    (i_stop : DefIn K mg "stop" sSto)
    (i_restart : DefIn K mg "restart" sRes)
    (i_max_event_cost : DefIn K mg "max_event_cost" sMax)
    (i_value_with_cost : DefIn K mg "value_with_cost" sWco)
    (i_is_worthwhile : DefIn K mg "is_worthwhile" sOWor)
    (i_summary : DefIn K mg "summary" sSum)
    (i_answers : DefIn K mg "answers" sAns)
    (i_Fraction : ClIn K mg "Fraction" CF "Fraction.__init__" sFInit)
    (i_Day : ClIn K mg "Day" CD "Day.__init__" sDInit)
    (i_Campaign : ClIn K mg "Campaign" CC "Campaign.__init__" sCInit)
    (i_remaining_days : MeIn K CC "remaining_days" "Campaign.remaining_days" sRem)
    (i_has_day : MeIn K CC "has_day" "Campaign.has_day" sHas)
    (n_Fraction_top : PySem.W.findIn K (.ref CF) "top" = some none)
    (n_Fraction_bottom : PySem.W.findIn K (.ref CF) "bottom" = some none)
    (n_Day_gain : PySem.W.findIn K (.ref CD) "gain" = some none)
    (n_Day_event_top : PySem.W.findIn K (.ref CD) "event_top" = some none)
    (n_Day_event_bottom : PySem.W.findIn K (.ref CD) "event_bottom" = some none)
    (n_Day_cost : PySem.W.findIn K (.ref CD) "cost" = some none)
    (n_Campaign_days : PySem.W.findIn K (.ref CC) "days" = some none)
    (n_Campaign_next_day : PySem.W.findIn K (.ref CC) "next_day" = some none)
    (n_Campaign_total : PySem.W.findIn K (.ref CC) "total" = some none)
    (n_Campaign_status : PySem.W.findIn K (.ref CC) "status" = some none)
    (f_abs : PySem.W.nsIn K mainGlobals "abs" = some none)
    (f_reversed : PySem.W.nsIn K mainGlobals "reversed" = some none)
    (f_len : PySem.W.nsIn K mainGlobals "len" = some none)
    (f_range : PySem.W.nsIn K mainGlobals "range" = some none)
    (f_enumerate : PySem.W.nsIn K mainGlobals "enumerate" = some none)
    (f_list : PySem.W.nsIn K mainGlobals "list" = some none)
    (f_min : PySem.W.nsIn K mainGlobals "min" = some none)
    (c_MOST_DAYS : ∃ t, mg "MOST_DAYS" = some (.int (10) t))
    (c_GREATEST_GAIN : ∃ t, mg "GREATEST_GAIN" = some (.int (1000) t))
    (c_GREATEST_DENOMINATOR : ∃ t, mg "GREATEST_DENOMINATOR" = some (.int (100) t))
    (c_GREATEST_COST : ∃ t, mg "GREATEST_COST" = some (.int (10000) t))
    (c_RUNNING : ∃ t, mg "RUNNING" = some (.int (0) t))
    (c_NO_SUCH_DAY : ∃ t, mg "NO_SUCH_DAY" = some (.int (-2) t))
    (c_NOTHING_TO_REMOVE : ∃ t, mg "NOTHING_TO_REMOVE" = some (.int (-6) t))
    (c_NOT_CREATED : ∃ t, mg "NOT_CREATED" = some (.int (-11) t))
    (c_PAST_OR_NOT_RUNNING : ∃ t, mg "PAST_OR_NOT_RUNNING" = some (.int (-16) t))
    (c_OUT_OF_RANGE : ∃ t, mg "OUT_OF_RANGE" = some (.int (-22) t))
    (c_TOO_MANY_DAYS : ∃ t, mg "TOO_MANY_DAYS" = some (.int (-28) t))
    (c_GREATEST_SAMPLE : ∃ t, mg "GREATEST_SAMPLE" = some (.int (999) t))
    (c_SAMPLES : ∃ t, mg "SAMPLES" = some (.int (1000) t))
    (c_ENDED_BY_EVENT : ∃ t, mg "ENDED_BY_EVENT" = some (.int (1) t))
    (c_STOPPED : ∃ t, mg "STOPPED" = some (.int (2) t))
    (c_NO_DAY_OR_COST : ∃ t, mg "NO_DAY_OR_COST" = some (.int (-33) t))
    (c_CREATE : ∃ t, mg "CREATE" = some (.int (0) t))
    {t0 t1 t2 t3 t4 t5 t6 t7 t8 t9 t10 t11 t12 t13 t14 t15 t16 t17 t18 t19 : Tok} {nT nO : Nat} {dT : Option Addr} {slT : Array (Option Value)}
    (aT : PySem.W.nsIn K mainGlobals "ARGUMENT_COUNTS" = some (some (.ref qC))) (lT : K.lookup qC = some ⟨.type "tuple", dT, .seq #[.int 0 t0, .int 4 t1, .int 5 t2, .int 0 t3, .int 1 t4, .int 0 t5, .int 1 t6, .int 1 t7, .int 0 t8, .int 0 t9, .int 1 t10, .int 0 t11, .int 1 t12, .int 1 t13, .int 0 t14, .int 0 t15, .int 1 t16, .int 2 t17, .int 0 t18, .int 0 t19] nT, slT⟩)
    {f1 f2 f3 f4 f5 f6 f7 f8 f9 f10 f11 f12 f13 f14 f15 f16 f17 f18 f19 : Addr} {u1 u2 u3 u4 u5 u6 u7 u8 u9 u10 u11 u12 u13 u14 u15 u16 u17 u18 u19 : Tok}
    (aO : PySem.W.nsIn K mainGlobals "OPERATIONS" = some (some (.ref qO))) (lO : K.lookup qO = some ⟨.type "dict", none, .dict #[⟨1, .int 1 u1, .ref f1⟩, ⟨2, .int 2 u2, .ref f2⟩, ⟨3, .int 3 u3, .ref f3⟩, ⟨4, .int 4 u4, .ref f4⟩, ⟨5, .int 5 u5, .ref f5⟩, ⟨6, .int 6 u6, .ref f6⟩, ⟨7, .int 7 u7, .ref f7⟩, ⟨8, .int 8 u8, .ref f8⟩, ⟨9, .int 9 u9, .ref f9⟩, ⟨10, .int 10 u10, .ref f10⟩, ⟨11, .int 11 u11, .ref f11⟩, ⟨12, .int 12 u12, .ref f12⟩, ⟨13, .int 13 u13, .ref f13⟩, ⟨14, .int 14 u14, .ref f14⟩, ⟨15, .int 15 u15, .ref f15⟩, ⟨16, .int 16 u16, .ref f16⟩, ⟨17, .int 17 u17, .ref f17⟩, ⟨18, .int 18 u18, .ref f18⟩, ⟨19, .int 19 u19, .ref f19⟩] nO, #[]⟩)
    (o_add_day : PySem.W.nsIn K mainGlobals "add_day" = some (some (.ref f1)))
    (o_set_day : PySem.W.nsIn K mainGlobals "set_day" = some (some (.ref f2)))
    (o_remove_last_day : PySem.W.nsIn K mainGlobals "remove_last_day" = some (some (.ref f3)))
    (o_get_day : PySem.W.nsIn K mainGlobals "get_day" = some (some (.ref f4)))
    (o_value : PySem.W.nsIn K mainGlobals "value" = some (some (.ref f5)))
    (o_value_from : PySem.W.nsIn K mainGlobals "value_from" = some (some (.ref f6)))
    (o_plan_value : PySem.W.nsIn K mainGlobals "plan_value" = some (some (.ref f7)))
    (o_best_count : PySem.W.nsIn K mainGlobals "best_count" = some (some (.ref f8)))
    (o_lookahead_count : PySem.W.nsIn K mainGlobals "lookahead_count" = some (some (.ref f9)))
    (o_single_day_value : PySem.W.nsIn K mainGlobals "single_day_value" = some (some (.ref f10)))
    (o_is_monotone : PySem.W.nsIn K mainGlobals "is_monotone" = some (some (.ref f11)))
    (o_quiet_probability : PySem.W.nsIn K mainGlobals "quiet_probability" = some (some (.ref f12)))
    (o_continue_campaign : PySem.W.nsIn K mainGlobals "continue_campaign" = some (some (.ref f13)))
    (o_stop : PySem.W.nsIn K mainGlobals "stop" = some (some (.ref f14)))
    (o_restart : PySem.W.nsIn K mainGlobals "restart" = some (some (.ref f15)))
    (o_max_event_cost : PySem.W.nsIn K mainGlobals "max_event_cost" = some (some (.ref f16)))
    (o_value_with_cost : PySem.W.nsIn K mainGlobals "value_with_cost" = some (some (.ref f17)))
    (o_is_worthwhile : PySem.W.nsIn K mainGlobals "is_worthwhile" = some (some (.ref f18)))
    (o_summary : PySem.W.nsIn K mainGlobals "summary" = some (some (.ref f19)))
    : ∃ fd : FuncData, (∀ (s : Shared) (us : List Value), us.length = (["calls"] : List Str).length → BindsTo s fd ⟨us, []⟩ ((["calls"] : List Str).zip us)) ∧ ∀ base : Heap, K.In base → base.Ns mainGlobals mg → FnOk P w K mg base CX0 9 fa fd ["calls"] (spAns K) := by
  have T : TxW K mg CF CD := ⟨i_Fraction.2.1, n_Fraction_top, n_Fraction_bottom, i_Day.2.1, n_Day_gain, n_Day_event_top, n_Day_event_bottom, n_Day_cost, PySem.W.mg_none_of X G f_abs, PySem.W.mg_none_of X G f_reversed, PySem.W.mg_none_of X G f_len, PySem.W.mg_none_of X G f_range, PySem.W.mg_none_of X G f_enumerate, PySem.W.mg_none_of X G f_list, PySem.W.mg_none_of X G f_min⟩
  have U : TxC K mg CC := ⟨i_Campaign.2.1, n_Campaign_days, n_Campaign_next_day, n_Campaign_total, n_Campaign_status, c_MOST_DAYS, c_GREATEST_GAIN, c_GREATEST_DENOMINATOR, c_GREATEST_COST, c_RUNNING, c_NO_SUCH_DAY, c_NOTHING_TO_REMOVE, c_NOT_CREATED, c_PAST_OR_NOT_RUNNING, c_OUT_OF_RANGE, c_TOO_MANY_DAYS, c_GREATEST_SAMPLE, c_SAMPLES, c_ENDED_BY_EVENT, c_STOPPED, c_NO_DAY_OR_COST⟩
  obtain ⟨f, fd, hm, F⟩ := i_answers
  rw [hfa] at hm
  cases hm
  refine ⟨fd, fun s us hu => ?_, fun base _ _ => ?_⟩
  · obtain ⟨oc, od, kV, doc, pm, an, cdv, ct, osl, rfl, _⟩ := F.ex
    exact match us, hu with | [_], _ => .of_eq rfl
  have mF : Mak P w K mg base 1 "Fraction" CF ["self", "top", "bottom"] (spFInit CF) := Mak.of i_Fraction (fun _ _ F => ok_finit F T) fun _ _ _ _ _ _ us hl => match us, hl with | [_, _, _], _ => rfl
  have mD : Mak P w K mg base 1 "Day" CD ["self", "gain", "event_top", "event_bottom", "cost"] (spDInit CD) := Mak.of i_Day (fun _ _ F => ok_dinit F T) fun _ _ _ _ _ _ us hl => match us, hl with | [_, _, _, _, _], _ => rfl
  have mC : Mak P w K mg base 1 "Campaign" CC ["self"] (spCInit CC) := Mak.of i_Campaign (fun _ _ F => ok_cinit F U) fun _ _ _ _ _ _ us hl => match us, hl with | [_], _ => rfl
  have mR : Mth P w K mg base 1 CC "remaining_days" ["self"] (spRem K CC CD) := Mth.of i_remaining_days (fun _ _ F => ok_rem F U) fun _ _ _ _ _ _ us hl => match us, hl with | [_], _ => rfl
  have mH : Mth P w K mg base 1 CC "has_day" ["self", "number"] (spHas CC CD) := Mth.of i_has_day (fun _ _ F => ok_has F T U) fun _ _ _ _ _ _ us hl => match us, hl with | [_, _], _ => rfl
  have d_with_other_cost : Def P w K mg base 3 "with_other_cost" ["day", "cost"] (spOth CD) := Def.of i_with_other_cost (fun _ _ F => ok_oth F T mD) fun _ _ _ _ _ _ us hl => match us, hl with | [_, _], _ => rfl
  have d_common_divisor : Def P w K mg base 1 "common_divisor" ["first", "second"] spGcd := Def.of i_common_divisor (fun _ _ F => ok_gcd F) fun _ _ _ _ _ _ us hl => match us, hl with | [_, _], _ => rfl
  have d_lowest_terms : Def P w K mg base 3 "lowest_terms" ["top", "bottom"] (spLow CF) := Def.of i_lowest_terms (fun _ _ F => ok_low F T d_common_divisor mF) fun _ _ _ _ _ _ us hl => match us, hl with | [_, _], _ => rfl
  have d_is_greater : Def P w K mg base 1 "is_greater" ["first", "second"] (spGre CF) := Def.of i_is_greater (fun _ _ F => ok_gre F T) fun _ _ _ _ _ _ us hl => match us, hl with | [_, _], _ => rfl
  have d_value_of_going_on : Def P w K mg base 4 "value_of_going_on" ["day", "rest"] (spGo CF CD) := Def.of i_value_of_going_on (fun _ _ F => ok_go F T d_lowest_terms) fun _ _ _ _ _ _ us hl => match us, hl with | [_, _], _ => rfl
  have d_single_value_of_day : Def P w K mg base 5 "single_value_of_day" ["day"] (spOne CF CD) := Def.of i_single_value_of_day (fun _ _ F => ok_one F d_value_of_going_on mF) fun _ _ _ _ _ _ us hl => match us, hl with | [_], _ => rfl
  have d_value_of_days : Def P w K mg base 5 "value_of_days" ["days"] (spVal K CF CD) := Def.of i_value_of_days (fun _ _ F => ok_val F T d_value_of_going_on mF) fun _ _ _ _ _ _ us hl => match us, hl with | [_], _ => rfl
  have d_plan_value_of_days : Def P w K mg base 5 "plan_value_of_days" ["days"] (spPln K CF CD) := Def.of i_plan_value_of_days (fun _ _ F => ok_pln F T d_value_of_going_on mF) fun _ _ _ _ _ _ us hl => match us, hl with | [_], _ => rfl
  have d_best_count_of_days : Def P w K mg base 6 "best_count_of_days" ["days"] (spBst K CD) := Def.of i_best_count_of_days (fun _ _ F => ok_bst F T d_plan_value_of_days d_is_greater mF) fun _ _ _ _ _ _ us hl => match us, hl with | [_], _ => rfl
  have d_lookahead_count_of_days : Def P w K mg base 6 "lookahead_count_of_days" ["days"] (spLok K CD) := Def.of i_lookahead_count_of_days (fun _ _ F => ok_lok F T d_single_value_of_day) fun _ _ _ _ _ _ us hl => match us, hl with | [_], _ => rfl
  have d_is_monotone_case : Def P w K mg base 7 "is_monotone_case" ["days"] (spMon K CD) := Def.of i_is_monotone_case (fun _ _ F => ok_mon F T d_lookahead_count_of_days d_single_value_of_day) fun _ _ _ _ _ _ us hl => match us, hl with | [_], _ => rfl
  have d_quiet_probability_of_days : Def P w K mg base 4 "quiet_probability_of_days" ["days"] (spQui K CF CD) := Def.of i_quiet_probability_of_days (fun _ _ F => ok_qui F T d_lowest_terms) fun _ _ _ _ _ _ us hl => match us, hl with | [_], _ => rfl
  have d_greatest_worthwhile_cost : Def P w K mg base 5 "greatest_worthwhile_cost" ["day", "rest"] (spGwc CF CD) := Def.of i_greatest_worthwhile_cost (fun _ _ F => ok_gwc F T d_value_of_going_on d_with_other_cost) fun _ _ _ _ _ _ us hl => match us, hl with | [_, _], _ => rfl
  have d_is_in_range : Def P w K mg base 1 "is_in_range" ["fields"] (spRng K) := Def.of i_is_in_range (fun _ _ F => ok_rng F U) fun _ _ _ _ _ _ us hl => match us, hl with | [_], _ => rfl
  have d_day_with : Def P w K mg base 3 "day_with" ["fields"] (spDay K CD) := Def.of i_day_with (fun _ _ F => ok_day F mD) fun _ _ _ _ _ _ us hl => match us, hl with | [_], _ => rfl
  have d_with_fraction : Def P w K mg base 1 "with_fraction" ["fraction"] (spFra CF) := Def.of i_with_fraction (fun _ _ F => ok_fra F T) fun _ _ _ _ _ _ us hl => match us, hl with | [_], _ => rfl
  have h_add_day : Held P w K mg base 8 f1 (spOp K CC CD 1 4) := held_of (k := 4) i_add_day (PySem.W.mg_of X G o_add_day) (fun _ _ F => ok_add F T U d_is_in_range d_day_with) (by decide) fun _ _ _ _ _ _ us hl => match us, hl with | [_, _], _ => rfl
  have h_set_day : Held P w K mg base 8 f2 (spOp K CC CD 2 5) := held_of (k := 4) i_set_day (PySem.W.mg_of X G o_set_day) (fun _ _ F => ok_set F T U d_is_in_range d_day_with mH) (by decide) fun _ _ _ _ _ _ us hl => match us, hl with | [_, _], _ => rfl
  have h_remove_last_day : Held P w K mg base 8 f3 (spOp K CC CD 3 0) := held_of (k := 4) i_remove_last_day (PySem.W.mg_of X G o_remove_last_day) (fun _ _ F => ok_pop F T U mR) (by decide) fun _ _ _ _ _ _ us hl => match us, hl with | [_, _], _ => rfl
  have h_get_day : Held P w K mg base 8 f4 (spOp K CC CD 4 1) := held_of (k := 2) i_get_day (PySem.W.mg_of X G o_get_day) (fun _ _ F => ok_get F T U mH) (by decide) fun _ _ _ _ _ _ us hl => match us, hl with | [_, _], _ => rfl
  have h_value : Held P w K mg base 8 f5 (spOp K CC CD 5 0) := held_of (k := 6) i_value (PySem.W.mg_of X G o_value) (fun _ _ F => ok_oval F U mR d_with_fraction d_value_of_days) (by decide) fun _ _ _ _ _ _ us hl => match us, hl with | [_, _], _ => rfl
  have h_value_from : Held P w K mg base 8 f6 (spOp K CC CD 6 1) := held_of (k := 6) i_value_from (PySem.W.mg_of X G o_value_from) (fun _ _ F => ok_ofrom F T U d_with_fraction d_value_of_days) (by decide) fun _ _ _ _ _ _ us hl => match us, hl with | [_, _], _ => rfl
  have h_plan_value : Held P w K mg base 8 f7 (spOp K CC CD 7 1) := held_of (k := 6) i_plan_value (PySem.W.mg_of X G o_plan_value) (fun _ _ F => ok_opln F T U mR d_with_fraction d_plan_value_of_days) (by decide) fun _ _ _ _ _ _ us hl => match us, hl with | [_, _], _ => rfl
  have h_best_count : Held P w K mg base 8 f8 (spOp K CC CD 8 0) := held_of (k := 7) i_best_count (PySem.W.mg_of X G o_best_count) (fun _ _ F => ok_obst F U mR d_best_count_of_days) (by decide) fun _ _ _ _ _ _ us hl => match us, hl with | [_, _], _ => rfl
  have h_lookahead_count : Held P w K mg base 8 f9 (spOp K CC CD 9 0) := held_of (k := 7) i_lookahead_count (PySem.W.mg_of X G o_lookahead_count) (fun _ _ F => ok_olok F U mR d_lookahead_count_of_days) (by decide) fun _ _ _ _ _ _ us hl => match us, hl with | [_, _], _ => rfl
  have h_single_day_value : Held P w K mg base 8 f10 (spOp K CC CD 10 1) := held_of (k := 6) i_single_day_value (PySem.W.mg_of X G o_single_day_value) (fun _ _ F => ok_oone F U mH d_with_fraction d_single_value_of_day) (by decide) fun _ _ _ _ _ _ us hl => match us, hl with | [_, _], _ => rfl
  have h_is_monotone : Held P w K mg base 8 f11 (spOp K CC CD 11 0) := held_of (k := 8) i_is_monotone (PySem.W.mg_of X G o_is_monotone) (fun _ _ F => ok_omon F U mR d_is_monotone_case) (by decide) fun _ _ _ _ _ _ us hl => match us, hl with | [_, _], _ => rfl
  have h_quiet_probability : Held P w K mg base 8 f12 (spOp K CC CD 12 1) := held_of (k := 5) i_quiet_probability (PySem.W.mg_of X G o_quiet_probability) (fun _ _ F => ok_oqui F T U mR d_with_fraction d_quiet_probability_of_days) (by decide) fun _ _ _ _ _ _ us hl => match us, hl with | [_, _], _ => rfl
  have h_continue_campaign : Held P w K mg base 8 f13 (spOp K CC CD 13 1) := held_of (k := 2) i_continue_campaign (PySem.W.mg_of X G o_continue_campaign) (fun _ _ F => ok_con F T U mH) (by decide) fun _ _ _ _ _ _ us hl => match us, hl with | [_, _], _ => rfl
  have h_stop : Held P w K mg base 8 f14 (spOp K CC CD 14 0) := held_of (k := 1) i_stop (PySem.W.mg_of X G o_stop) (fun _ _ F => ok_sto F U) (by decide) fun _ _ _ _ _ _ us hl => match us, hl with | [_, _], _ => rfl
  have h_restart : Held P w K mg base 8 f15 (spOp K CC CD 15 0) := held_of (k := 1) i_restart (PySem.W.mg_of X G o_restart) (fun _ _ F => ok_res F U) (by decide) fun _ _ _ _ _ _ us hl => match us, hl with | [_, _], _ => rfl
  have h_max_event_cost : Held P w K mg base 8 f16 (spOp K CC CD 16 1) := held_of (k := 6) i_max_event_cost (PySem.W.mg_of X G o_max_event_cost) (fun _ _ F => ok_max F T U mH d_value_of_days d_greatest_worthwhile_cost) (by decide) fun _ _ _ _ _ _ us hl => match us, hl with | [_, _], _ => rfl
  have h_value_with_cost : Held P w K mg base 8 f17 (spOp K CC CD 17 2) := held_of (k := 6) i_value_with_cost (PySem.W.mg_of X G o_value_with_cost) (fun _ _ F => ok_wco F T U mH d_with_fraction d_value_of_days d_with_other_cost) (by decide) fun _ _ _ _ _ _ us hl => match us, hl with | [_, _], _ => rfl
  have h_is_worthwhile : Held P w K mg base 8 f18 (spOp K CC CD 18 0) := held_of (k := 6) i_is_worthwhile (PySem.W.mg_of X G o_is_worthwhile) (fun _ _ F => ok_owor F T U mR d_value_of_days) (by decide) fun _ _ _ _ _ _ us hl => match us, hl with | [_, _], _ => rfl
  have h_summary : Held P w K mg base 8 f19 (spOp K CC CD 19 0) := held_of (k := 1) i_summary (PySem.W.mg_of X G o_summary) (fun _ _ F => ok_sum F T U) (by decide) fun _ _ _ _ _ _ us hl => match us, hl with | [_, _], _ => rfl
  refine ok_ans F T U mC ⟨c_CREATE, ⟨qC, PySem.W.mg_of X G aT, fun H => .inr ⟨_, _, _, lT, rfl, rfl, (by show 20 ≤ sizeLine; decide), ?_⟩⟩, ⟨qO, PySem.W.mg_of X G aO, fun k n hs hk => ?_⟩⟩
  · exact .cons ⟨_, rfl⟩ (.cons ⟨_, rfl⟩ (.cons ⟨_, rfl⟩ (.cons ⟨_, rfl⟩ (.cons ⟨_, rfl⟩ (.cons ⟨_, rfl⟩ (.cons ⟨_, rfl⟩ (.cons ⟨_, rfl⟩ (.cons ⟨_, rfl⟩ (.cons ⟨_, rfl⟩ (.cons ⟨_, rfl⟩ (.cons ⟨_, rfl⟩ (.cons ⟨_, rfl⟩ (.cons ⟨_, rfl⟩ (.cons ⟨_, rfl⟩ (.cons ⟨_, rfl⟩ (.cons ⟨_, rfl⟩ (.cons ⟨_, rfl⟩ (.cons ⟨_, rfl⟩ (.cons ⟨_, rfl⟩ (.nil))))))))))))))))))))
  · obtain ⟨_, m, hm, rfl, ha⟩ := shape_is hs
    match m, hm, ha with
    | 0, _, _ => exact absurd rfl hk
    | 1, _, e => cases Int.ofNat.inj (Option.some.inj e); exact ⟨f1, ⟨_, _, _, lO, by rfl, by rfl, rfl⟩, h_add_day⟩
    | 2, _, e => cases Int.ofNat.inj (Option.some.inj e); exact ⟨f2, ⟨_, _, _, lO, by rfl, by rfl, rfl⟩, h_set_day⟩
    | 3, _, e => cases Int.ofNat.inj (Option.some.inj e); exact ⟨f3, ⟨_, _, _, lO, by rfl, by rfl, rfl⟩, h_remove_last_day⟩
    | 4, _, e => cases Int.ofNat.inj (Option.some.inj e); exact ⟨f4, ⟨_, _, _, lO, by rfl, by rfl, rfl⟩, h_get_day⟩
    | 5, _, e => cases Int.ofNat.inj (Option.some.inj e); exact ⟨f5, ⟨_, _, _, lO, by rfl, by rfl, rfl⟩, h_value⟩
    | 6, _, e => cases Int.ofNat.inj (Option.some.inj e); exact ⟨f6, ⟨_, _, _, lO, by rfl, by rfl, rfl⟩, h_value_from⟩
    | 7, _, e => cases Int.ofNat.inj (Option.some.inj e); exact ⟨f7, ⟨_, _, _, lO, by rfl, by rfl, rfl⟩, h_plan_value⟩
    | 8, _, e => cases Int.ofNat.inj (Option.some.inj e); exact ⟨f8, ⟨_, _, _, lO, by rfl, by rfl, rfl⟩, h_best_count⟩
    | 9, _, e => cases Int.ofNat.inj (Option.some.inj e); exact ⟨f9, ⟨_, _, _, lO, by rfl, by rfl, rfl⟩, h_lookahead_count⟩
    | 10, _, e => cases Int.ofNat.inj (Option.some.inj e); exact ⟨f10, ⟨_, _, _, lO, by rfl, by rfl, rfl⟩, h_single_day_value⟩
    | 11, _, e => cases Int.ofNat.inj (Option.some.inj e); exact ⟨f11, ⟨_, _, _, lO, by rfl, by rfl, rfl⟩, h_is_monotone⟩
    | 12, _, e => cases Int.ofNat.inj (Option.some.inj e); exact ⟨f12, ⟨_, _, _, lO, by rfl, by rfl, rfl⟩, h_quiet_probability⟩
    | 13, _, e => cases Int.ofNat.inj (Option.some.inj e); exact ⟨f13, ⟨_, _, _, lO, by rfl, by rfl, rfl⟩, h_continue_campaign⟩
    | 14, _, e => cases Int.ofNat.inj (Option.some.inj e); exact ⟨f14, ⟨_, _, _, lO, by rfl, by rfl, rfl⟩, h_stop⟩
    | 15, _, e => cases Int.ofNat.inj (Option.some.inj e); exact ⟨f15, ⟨_, _, _, lO, by rfl, by rfl, rfl⟩, h_restart⟩
    | 16, _, e => cases Int.ofNat.inj (Option.some.inj e); exact ⟨f16, ⟨_, _, _, lO, by rfl, by rfl, rfl⟩, h_max_event_cost⟩
    | 17, _, e => cases Int.ofNat.inj (Option.some.inj e); exact ⟨f17, ⟨_, _, _, lO, by rfl, by rfl, rfl⟩, h_value_with_cost⟩
    | 18, _, e => cases Int.ofNat.inj (Option.some.inj e); exact ⟨f18, ⟨_, _, _, lO, by rfl, by rfl, rfl⟩, h_is_worthwhile⟩
    | 19, _, e => cases Int.ofNat.inj (Option.some.inj e); exact ⟨f19, ⟨_, _, _, lO, by rfl, by rfl, rfl⟩, h_summary⟩
end
end HM

open PySem PySem.W PyProof.Rows
theorem PySem.Challenge.cw_haltdays_s01_answers_holds : PySem.Challenge.rw_haltdays_s01_answers.Holds := by
  w_on; k_headS; (case hw => exact ⟨[.list [.int 0]], by decide +kernel, by decide +kernel⟩)
  k_fillS
  refine L2.walk_specK (r := PySem.Challenge.rw_haltdays_s01_answers) (k := 9) (CX := L2.CX0) (ps := ["calls"]) (sp := HM.spAns) (by decide +kernel) rfl rfl ⟨rfl, by decide, by decide⟩ (fun w h Y => PySem.W.kIn_of Y) ?F ?S (fun _ _ _ _ z => z)
  case F =>
    intro w mg fa h Y KX G hmg
    refine' HM.all_mk KX G hmg ?i_with_other_cost ?i_common_divisor ?i_lowest_terms ?i_is_greater ?i_value_of_going_on ?i_single_value_of_day ?i_value_of_days ?i_plan_value_of_days ?i_best_count_of_days ?i_lookahead_count_of_days ?i_is_monotone_case ?i_quiet_probability_of_days ?i_greatest_worthwhile_cost ?i_is_in_range ?i_day_with ?i_with_fraction ?i_add_day ?i_set_day ?i_remove_last_day ?i_get_day ?i_value ?i_value_from ?i_plan_value ?i_best_count ?i_lookahead_count ?i_single_day_value ?i_is_monotone ?i_quiet_probability ?i_continue_campaign ?i_stop ?i_restart ?i_max_event_cost ?i_value_with_cost ?i_is_worthwhile ?i_summary ?i_answers ?i_Fraction ?i_Day ?i_Campaign ?i_remaining_days ?i_has_day ?n_Fraction_top ?n_Fraction_bottom ?n_Day_gain ?n_Day_event_top ?n_Day_event_bottom ?n_Day_cost ?n_Campaign_days ?n_Campaign_next_day ?n_Campaign_total ?n_Campaign_status ?f_abs ?f_reversed ?f_len ?f_range ?f_enumerate ?f_list ?f_min ?c_MOST_DAYS ?c_GREATEST_GAIN ?c_GREATEST_DENOMINATOR ?c_GREATEST_COST ?c_RUNNING ?c_NO_SUCH_DAY ?c_NOTHING_TO_REMOVE ?c_NOT_CREATED ?c_PAST_OR_NOT_RUNNING ?c_OUT_OF_RANGE ?c_TOO_MANY_DAYS ?c_GREATEST_SAMPLE ?c_SAMPLES ?c_ENDED_BY_EVENT ?c_STOPPED ?c_NO_DAY_OR_COST ?c_CREATE ?aT ?lT ?aO ?lO ?o_add_day ?o_set_day ?o_remove_last_day ?o_get_day ?o_value ?o_value_from ?o_plan_value ?o_best_count ?o_lookahead_count ?o_single_day_value ?o_is_monotone ?o_quiet_probability ?o_continue_campaign ?o_stop ?o_restart ?o_max_event_cost ?o_value_with_cost ?o_is_worthwhile ?o_summary
    (case i_with_other_cost => refine' HM.def_in KX G ?a ?l ?c ?k; (case a => k_is); (case l => k_is); (case c => k_is); (case k => k_is))
    (case i_common_divisor => refine' HM.def_in KX G ?a ?l ?c ?k; (case a => k_is); (case l => k_is); (case c => k_is); (case k => k_is))
    (case i_lowest_terms => refine' HM.def_in KX G ?a ?l ?c ?k; (case a => k_is); (case l => k_is); (case c => k_is); (case k => k_is))
    (case i_is_greater => refine' HM.def_in KX G ?a ?l ?c ?k; (case a => k_is); (case l => k_is); (case c => k_is); (case k => k_is))
    (case i_value_of_going_on => refine' HM.def_in KX G ?a ?l ?c ?k; (case a => k_is); (case l => k_is); (case c => k_is); (case k => k_is))
    (case i_single_value_of_day => refine' HM.def_in KX G ?a ?l ?c ?k; (case a => k_is); (case l => k_is); (case c => k_is); (case k => k_is))
    (case i_value_of_days => refine' HM.def_in KX G ?a ?l ?c ?k; (case a => k_is); (case l => k_is); (case c => k_is); (case k => k_is))
    (case i_plan_value_of_days => refine' HM.def_in KX G ?a ?l ?c ?k; (case a => k_is); (case l => k_is); (case c => k_is); (case k => k_is))
    (case i_best_count_of_days => refine' HM.def_in KX G ?a ?l ?c ?k; (case a => k_is); (case l => k_is); (case c => k_is); (case k => k_is))
    (case i_lookahead_count_of_days => refine' HM.def_in KX G ?a ?l ?c ?k; (case a => k_is); (case l => k_is); (case c => k_is); (case k => k_is))
    (case i_is_monotone_case => refine' HM.def_in KX G ?a ?l ?c ?k; (case a => k_is); (case l => k_is); (case c => k_is); (case k => k_is))
    (case i_quiet_probability_of_days => refine' HM.def_in KX G ?a ?l ?c ?k; (case a => k_is); (case l => k_is); (case c => k_is); (case k => k_is))
    (case i_greatest_worthwhile_cost => refine' HM.def_in KX G ?a ?l ?c ?k; (case a => k_is); (case l => k_is); (case c => k_is); (case k => k_is))
    (case i_is_in_range => refine' HM.def_in KX G ?a ?l ?c ?k; (case a => k_is); (case l => k_is); (case c => k_is); (case k => k_is))
    (case i_day_with => refine' HM.def_in KX G ?a ?l ?c ?k; (case a => k_is); (case l => k_is); (case c => k_is); (case k => k_is))
    (case i_with_fraction => refine' HM.def_in KX G ?a ?l ?c ?k; (case a => k_is); (case l => k_is); (case c => k_is); (case k => k_is))
    (case i_add_day => refine' HM.def_in KX G ?a ?l ?c ?k; (case a => k_is); (case l => k_is); (case c => k_is); (case k => k_is))
    (case i_set_day => refine' HM.def_in KX G ?a ?l ?c ?k; (case a => k_is); (case l => k_is); (case c => k_is); (case k => k_is))
    (case i_remove_last_day => refine' HM.def_in KX G ?a ?l ?c ?k; (case a => k_is); (case l => k_is); (case c => k_is); (case k => k_is))
    (case i_get_day => refine' HM.def_in KX G ?a ?l ?c ?k; (case a => k_is); (case l => k_is); (case c => k_is); (case k => k_is))
    (case i_value => refine' HM.def_in KX G ?a ?l ?c ?k; (case a => k_is); (case l => k_is); (case c => k_is); (case k => k_is))
    (case i_value_from => refine' HM.def_in KX G ?a ?l ?c ?k; (case a => k_is); (case l => k_is); (case c => k_is); (case k => k_is))
    (case i_plan_value => refine' HM.def_in KX G ?a ?l ?c ?k; (case a => k_is); (case l => k_is); (case c => k_is); (case k => k_is))
    (case i_best_count => refine' HM.def_in KX G ?a ?l ?c ?k; (case a => k_is); (case l => k_is); (case c => k_is); (case k => k_is))
    (case i_lookahead_count => refine' HM.def_in KX G ?a ?l ?c ?k; (case a => k_is); (case l => k_is); (case c => k_is); (case k => k_is))
    (case i_single_day_value => refine' HM.def_in KX G ?a ?l ?c ?k; (case a => k_is); (case l => k_is); (case c => k_is); (case k => k_is))
    (case i_is_monotone => refine' HM.def_in KX G ?a ?l ?c ?k; (case a => k_is); (case l => k_is); (case c => k_is); (case k => k_is))
    (case i_quiet_probability => refine' HM.def_in KX G ?a ?l ?c ?k; (case a => k_is); (case l => k_is); (case c => k_is); (case k => k_is))
    (case i_continue_campaign => refine' HM.def_in KX G ?a ?l ?c ?k; (case a => k_is); (case l => k_is); (case c => k_is); (case k => k_is))
    (case i_stop => refine' HM.def_in KX G ?a ?l ?c ?k; (case a => k_is); (case l => k_is); (case c => k_is); (case k => k_is))
    (case i_restart => refine' HM.def_in KX G ?a ?l ?c ?k; (case a => k_is); (case l => k_is); (case c => k_is); (case k => k_is))
    (case i_max_event_cost => refine' HM.def_in KX G ?a ?l ?c ?k; (case a => k_is); (case l => k_is); (case c => k_is); (case k => k_is))
    (case i_value_with_cost => refine' HM.def_in KX G ?a ?l ?c ?k; (case a => k_is); (case l => k_is); (case c => k_is); (case k => k_is))
    (case i_is_worthwhile => refine' HM.def_in KX G ?a ?l ?c ?k; (case a => k_is); (case l => k_is); (case c => k_is); (case k => k_is))
    (case i_summary => refine' HM.def_in KX G ?a ?l ?c ?k; (case a => k_is); (case l => k_is); (case c => k_is); (case k => k_is))
    (case i_answers => refine' HM.def_in KX G ?a ?l ?c ?k; (case a => k_is); (case l => k_is); (case c => k_is); (case k => k_is))
    (case i_Fraction => refine' HM.cl_in KX G ?a ?pg ?hd ?po ?sa ?mk ?kc ?b ?i ?l ?c ?k; (case a => k_is); (case pg => k_is); (case hd => k_is); (case po => k_is); (case sa => k_is); (case mk => k_is); (case kc => k_is); (case b => k_is); (case i => k_is); (case l => k_is); (case c => k_is); (case k => k_is))
    (case i_Day => refine' HM.cl_in KX G ?a ?pg ?hd ?po ?sa ?mk ?kc ?b ?i ?l ?c ?k; (case a => k_is); (case pg => k_is); (case hd => k_is); (case po => k_is); (case sa => k_is); (case mk => k_is); (case kc => k_is); (case b => k_is); (case i => k_is); (case l => k_is); (case c => k_is); (case k => k_is))
    (case i_Campaign => refine' HM.cl_in KX G ?a ?pg ?hd ?po ?sa ?mk ?kc ?b ?i ?l ?c ?k; (case a => k_is); (case pg => k_is); (case hd => k_is); (case po => k_is); (case sa => k_is); (case mk => k_is); (case kc => k_is); (case b => k_is); (case i => k_is); (case l => k_is); (case c => k_is); (case k => k_is))
    (case i_remaining_days => refine' HM.me_in ?b ?i ?l ?c ?k; (case b => k_is); (case i => k_is); (case l => k_is); (case c => k_is); (case k => k_is))
    (case i_has_day => refine' HM.me_in ?b ?i ?l ?c ?k; (case b => k_is); (case i => k_is); (case l => k_is); (case c => k_is); (case k => k_is))
    (case n_Fraction_top => k_is)
    (case n_Fraction_bottom => k_is)
    (case n_Day_gain => k_is)
    (case n_Day_event_top => k_is)
    (case n_Day_event_bottom => k_is)
    (case n_Day_cost => k_is)
    (case n_Campaign_days => k_is)
    (case n_Campaign_next_day => k_is)
    (case n_Campaign_total => k_is)
    (case n_Campaign_status => k_is)
    (case f_abs => k_is)
    (case f_reversed => k_is)
    (case f_len => k_is)
    (case f_range => k_is)
    (case f_enumerate => k_is)
    (case f_list => k_is)
    (case f_min => k_is)
    (case c_MOST_DAYS => refine' HM.con_in KX G ?a; (case a => k_is))
    (case c_GREATEST_GAIN => refine' HM.con_in KX G ?a; (case a => k_is))
    (case c_GREATEST_DENOMINATOR => refine' HM.con_in KX G ?a; (case a => k_is))
    (case c_GREATEST_COST => refine' HM.con_in KX G ?a; (case a => k_is))
    (case c_RUNNING => refine' HM.con_in KX G ?a; (case a => k_is))
    (case c_NO_SUCH_DAY => refine' HM.con_in KX G ?a; (case a => k_is))
    (case c_NOTHING_TO_REMOVE => refine' HM.con_in KX G ?a; (case a => k_is))
    (case c_NOT_CREATED => refine' HM.con_in KX G ?a; (case a => k_is))
    (case c_PAST_OR_NOT_RUNNING => refine' HM.con_in KX G ?a; (case a => k_is))
    (case c_OUT_OF_RANGE => refine' HM.con_in KX G ?a; (case a => k_is))
    (case c_TOO_MANY_DAYS => refine' HM.con_in KX G ?a; (case a => k_is))
    (case c_GREATEST_SAMPLE => refine' HM.con_in KX G ?a; (case a => k_is))
    (case c_SAMPLES => refine' HM.con_in KX G ?a; (case a => k_is))
    (case c_ENDED_BY_EVENT => refine' HM.con_in KX G ?a; (case a => k_is))
    (case c_STOPPED => refine' HM.con_in KX G ?a; (case a => k_is))
    (case c_NO_DAY_OR_COST => refine' HM.con_in KX G ?a; (case a => k_is))
    (case c_CREATE => refine' HM.con_in KX G ?a; (case a => k_is))
    (case aT => k_is); (case lT => k_is); (case aO => k_is); (case lO => k_is)
    (case o_add_day => k_is)
    (case o_set_day => k_is)
    (case o_remove_last_day => k_is)
    (case o_get_day => k_is)
    (case o_value => k_is)
    (case o_value_from => k_is)
    (case o_plan_value => k_is)
    (case o_best_count => k_is)
    (case o_lookahead_count => k_is)
    (case o_single_day_value => k_is)
    (case o_is_monotone => k_is)
    (case o_quiet_probability => k_is)
    (case o_continue_campaign => k_is)
    (case o_stop => k_is)
    (case o_restart => k_is)
    (case o_max_event_cost => k_is)
    (case o_value_with_cost => k_is)
    (case o_is_worthwhile => k_is)
    (case o_summary => k_is)
  case S =>
    intro K H xs a hO hwi hask hx
    cases hx with
    | cons h1 h2 =>
      cases h2
      cases h1 with
      | lst hs ha =>
        have e := L2.ints_dw a.1 _ ha
        subst e
        have q : ((Codec.inLen 0 1200 a.1 && a.1.all (Codec.inInt 0 4294967295)) && true) = true := hwi
        rw [Bool.and_eq_true, Bool.and_eq_true] at q
        refine ⟨_, a.1, rfl, hs, fun x hx => ?_, (Codec.inNat_iff.mp q.1.1).2, hask, fun H' p hp => .lst (L2.SqL.of hp) (L2.dw_ints _)⟩
        exact (Codec.inInt_iff.mp (List.all_eq_true.mp q.1.2 x hx)).1
