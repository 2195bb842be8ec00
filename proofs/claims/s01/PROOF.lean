import PyProof.Rows.All
import Wide.All
import OpenK.AllK
import Wide.FinOn
import Open.SpecLaws
import KE.OsGo
import HandS.ForSpec
import HandS.Comp
import HandS.Evl
import PyFlatLaws
import HandS.Iter
import HandS.Walk
import HandS.Text
import PySem.Challenge.RW_farwordsdesk_s01_answers
set_option Elab.async false
/-! The best proof and the greatest spread of the specification, found without walking all corners: every corner is a row of good fractions that keeps the lines; numbers that prove the least are handed in and checked. -/
namespace FwL
open Kh397 (Fr frac whole plus minus times by_ less total clear scaled solve only subs)
open Kh408 (dot corners before leastBy)
/-- what a fraction is worth -/
def val (x : Fr) : Rat := (x.n : Rat) / (x.d : Rat)
/-- below is above 0, and nothing in common -/
def Good (x : Fr) : Prop := 0 < x.d ∧ Int.gcd x.n x.d = 1
theorem Good.ne {x : Fr} (h : Good x) : (x.d : Rat) ≠ 0 := by
  intro e
  have : x.d = 0 := by exact_mod_cast e
  have := h.1
  omega
theorem Good.posR {x : Fr} (h : Good x) : (0 : Rat) < (x.d : Rat) := Rat.intCast_pos.mpr h.1
theorem val_mul {x : Fr} (h : Good x) : (x.n : Rat) = val x * (x.d : Rat) := by
  have := h.ne
  unfold val
  grind
theorem frac_parts (n d : Int) (h : d ≠ 0) : ∃ g : Int, 0 < g ∧ ∃ n' d' : Int, n = g * n' ∧ d = g * d' ∧ Int.gcd n' d' = 1 ∧ frac n d = if d < 0 then ⟨-n', -d'⟩ else ⟨n', d'⟩ := by
  have hg : 0 < Int.gcd n d := Int.gcd_pos_of_ne_zero_right n h
  have hg' : (0 : Int) < (Int.gcd n d : Int) := by exact_mod_cast hg
  have hn : ((Int.gcd n d : Int)) ∣ n := Int.gcd_dvd_left ..
  have hd : ((Int.gcd n d : Int)) ∣ d := Int.gcd_dvd_right ..
  have e1 : (Int.gcd n d : Int) * (n / (Int.gcd n d : Int)) = n := Int.mul_ediv_cancel' hn
  have e2 : (Int.gcd n d : Int) * (d / (Int.gcd n d : Int)) = d := Int.mul_ediv_cancel' hd
  refine ⟨(Int.gcd n d : Int), hg', n / (Int.gcd n d : Int), d / (Int.gcd n d : Int), e1.symm, e2.symm, ?_, ?_⟩
  · have q : Int.gcd ((Int.gcd n d : Int) * (n / (Int.gcd n d : Int))) ((Int.gcd n d : Int) * (d / (Int.gcd n d : Int))) = (Int.gcd n d : Int).natAbs * Int.gcd (n / (Int.gcd n d : Int)) (d / (Int.gcd n d : Int)) := Int.gcd_mul_left ..
    rw [e1, e2] at q
    have e3 : (Int.gcd n d : Int).natAbs = Int.gcd n d := Int.natAbs_natCast _
    rw [e3] at q
    exact Nat.eq_of_mul_eq_mul_left hg (by omega)
  · unfold frac
    simp only
    rw [if_neg (by omega)]
theorem frac_good {n d : Int} (h : d ≠ 0) : Good (frac n d) := by
  obtain ⟨g, hg, n', d', e1, e2, e3, e4⟩ := frac_parts n d h
  rw [e4]
  by_cases c : d < 0
  · rw [if_pos c]
    refine ⟨?_, ?_⟩
    · show 0 < -d'
      rcases Int.lt_trichotomy d' 0 with q | q | q
      · omega
      · subst q; omega
      · have := Int.mul_pos hg q; omega
    · show Int.gcd (-n') (-d') = 1
      rw [Int.gcd_neg, Int.neg_gcd]
      exact e3
  · rw [if_neg c]
    refine ⟨?_, e3⟩
    show 0 < d'
    rcases Int.lt_trichotomy d' 0 with q | q | q
    · have := Int.mul_neg_of_pos_of_neg hg q; omega
    · subst q; omega
    · exact q
theorem frac_val {n d : Int} (h : d ≠ 0) : val (frac n d) = (n : Rat) / (d : Rat) := by
  obtain ⟨g, hg, n', d', e1, e2, e3, e4⟩ := frac_parts n d h
  have g0 : (g : Rat) ≠ 0 := by
    intro e
    have : g = 0 := by exact_mod_cast e
    omega
  have q : (n : Rat) / (d : Rat) = (n' : Rat) / (d' : Rat) := by
    rw [e1, e2, Rat.intCast_mul, Rat.intCast_mul]
    grind
  rw [e4, q]
  by_cases c : d < 0
  · rw [if_pos c]
    unfold val
    simp only [Rat.intCast_neg]
    grind
  · rw [if_neg c]
    rfl
theorem whole_good (z : Int) : Good (whole z) := ⟨by show (0 : Int) < 1; decide, by show Int.gcd z 1 = 1; exact Int.gcd_one⟩
theorem whole_val (z : Int) : val (whole z) = (z : Rat) := by
  show (z : Rat) / ((1 : Int) : Rat) = z
  have e : ((1 : Int) : Rat) = 1 := rfl
  rw [e]
  grind
theorem mul_ne {a b : Int} (ha : 0 < a) (hb : 0 < b) : a * b ≠ 0 := by
  have := Int.mul_pos ha hb
  omega
theorem plus_good {x y : Fr} (hx : Good x) (hy : Good y) : Good (plus x y) := frac_good (mul_ne hx.1 hy.1)
theorem minus_good {x y : Fr} (hx : Good x) (hy : Good y) : Good (minus x y) := frac_good (mul_ne hx.1 hy.1)
theorem times_good {x y : Fr} (hx : Good x) (hy : Good y) : Good (times x y) := frac_good (mul_ne hx.1 hy.1)
theorem plus_val {x y : Fr} (hx : Good x) (hy : Good y) : val (plus x y) = val x + val y := by
  have h1 := hx.ne
  have h2 := hy.ne
  unfold plus
  rw [frac_val (mul_ne hx.1 hy.1)]
  unfold val
  simp only [Rat.intCast_mul, Rat.intCast_add]
  grind
theorem minus_val {x y : Fr} (hx : Good x) (hy : Good y) : val (minus x y) = val x - val y := by
  have h1 := hx.ne
  have h2 := hy.ne
  unfold minus
  rw [frac_val (mul_ne hx.1 hy.1)]
  unfold val
  simp only [Rat.intCast_mul, Rat.intCast_sub]
  grind
theorem times_val {x y : Fr} (hx : Good x) (hy : Good y) : val (times x y) = val x * val y := by
  have h1 := hx.ne
  have h2 := hy.ne
  unfold times
  rw [frac_val (mul_ne hx.1 hy.1)]
  unfold val
  simp only [Rat.intCast_mul]
  grind
theorem less_val {x y : Fr} (hx : Good x) (hy : Good y) : less x y = true ↔ val x < val y := by
  have p : (0 : Rat) < (x.d : Rat) * (y.d : Rat) := Rat.mul_pos hx.posR hy.posR
  have e1 : (((x.n * y.d : Int)) : Rat) = val x * ((x.d : Rat) * (y.d : Rat)) := by
    rw [Rat.intCast_mul, val_mul hx]; grind
  have e2 : (((y.n * x.d : Int)) : Rat) = val y * ((x.d : Rat) * (y.d : Rat)) := by
    rw [Rat.intCast_mul, val_mul hy]; grind
  unfold less
  rw [decide_eq_true_iff, ← Rat.intCast_lt_intCast, e1, e2]
  exact Rat.mul_lt_mul_right p
theorem val_inj {x y : Fr} (hx : Good x) (hy : Good y) (h : val x = val y) : x = y := by
  have e1 : (((x.n * y.d : Int)) : Rat) = (((y.n * x.d : Int)) : Rat) := by
    rw [Rat.intCast_mul, Rat.intCast_mul, val_mul hx, val_mul hy, h]; grind
  have e : x.n * y.d = y.n * x.d := by exact_mod_cast e1
  obtain ⟨xn, xd⟩ := x
  obtain ⟨yn, yd⟩ := y
  obtain ⟨px, rx⟩ := hx
  obtain ⟨py, ry⟩ := hy
  simp only at *
  have d1 : xd ∣ yd := by
    have q : xd ∣ xn * yd := ⟨yn, by rw [e]; exact Int.mul_comm ..⟩
    have q2 := Int.dvd_gcd_mul_iff_dvd_mul.mpr q
    rw [Int.gcd_comm, rx] at q2
    simpa using q2
  have d2 : yd ∣ xd := by
    have q : yd ∣ yn * xd := ⟨xn, by rw [← e]; exact Int.mul_comm ..⟩
    have q2 := Int.dvd_gcd_mul_iff_dvd_mul.mpr q
    rw [Int.gcd_comm, ry] at q2
    simpa using q2
  have ed : xd = yd := Int.dvd_antisymm (by omega) (by omega) d1 d2
  subst ed
  have en : xn = yn := Int.eq_of_mul_eq_mul_right (by omega) e
  subst en
  rfl

/-! ### Equations: what comes out of good rows is good -/
def GoodL (l : List Fr) : Prop := ∀ x ∈ l, Good x
def GoodLL (l : List (List Fr)) : Prop := ∀ r ∈ l, GoodL r
theorem good_getD {l : List Fr} (h : GoodL l) (i : Nat) {d : Fr} (hd : Good d) : Good (l.getD i d) := by
  rw [List.getD_eq_getElem?_getD]
  cases e : l[i]? with
  | none => exact hd
  | some x => exact h x (List.mem_of_getElem? e)
theorem mem_zipWith {α β γ : Type} {f : α → β → γ} : ∀ {l : List α} {m : List β} {z : γ}, z ∈ List.zipWith f l m → ∃ x ∈ l, ∃ y ∈ m, z = f x y
  | [], _, z, h => by simp at h
  | _ :: _, [], z, h => by simp at h
  | x :: l, y :: m, z, h => by
    rw [List.zipWith_cons_cons, List.mem_cons] at h
    rcases h with h | h
    · exact ⟨x, List.mem_cons_self, y, List.mem_cons_self, h⟩
    · obtain ⟨a, ha, b, hb, e⟩ := mem_zipWith h
      exact ⟨a, List.mem_cons_of_mem _ ha, b, List.mem_cons_of_mem _ hb, e⟩
theorem clear_good {v : Nat} {p r : List Fr} (hp : GoodL p) (hr : GoodL r) : GoodL (clear v p r) := by
  intro z hz
  obtain ⟨x, hx, y, hy, rfl⟩ := mem_zipWith hz
  exact minus_good (hr x hx) (times_good (good_getD hr v (whole_good 0)) (hp y hy))
theorem good_zero {x : Fr} (h : Good x) (e : x.n = 0) : x = whole 0 := by
  obtain ⟨n, d⟩ := x
  obtain ⟨p, r⟩ := h
  simp only at *
  subst e
  rw [Int.zero_gcd] at r
  have : d = 1 := by omega
  subst this
  rfl
theorem scaled_good {v : Nat} {r : List Fr} (hr : GoodL r) (hv : r.getD v (whole 0) ≠ whole 0) : GoodL (scaled v r) := by
  intro z hz
  obtain ⟨x, hx, rfl⟩ := List.mem_map.mp hz
  have e : r.getD v (whole 1) = r.getD v (whole 0) := by
    rw [List.getD_eq_getElem?_getD, List.getD_eq_getElem?_getD] at *
    cases q : r[v]? with
    | none => rw [q] at hv; exact absurd rfl hv
    | some y => rfl
  rw [e]
  have g : Good (r.getD v (whole 0)) := good_getD hr v (whole_good 0)
  refine frac_good fun q => ?_
  rcases Int.mul_eq_zero.mp q with q | q
  · have := (hr x hx).1
    omega
  · exact hv (good_zero g q)
theorem solve_good : ∀ (k v : Nat) (done rows d : List (List Fr)), GoodLL done → GoodLL rows → solve k v done rows = some d → GoodLL d ∧ d.length = done.length + k
  | 0, v, done, rows, d, hd, hr, h => by
    have e : done = d := Option.some.inj h
    subst e
    exact ⟨hd, rfl⟩
  | k + 1, v, done, rows, d, hd, hr, h => by
    unfold solve at h
    split at h
    · cases h
    · rename_i i hi
      obtain ⟨lt, pi, _⟩ := List.findIdx?_eq_some_iff_getElem.mp hi
      have eg : rows.getD i [] = rows[i] := by simp [List.getD_eq_getElem?_getD, lt]
      have gi : GoodL (rows.getD i []) := by rw [eg]; exact hr _ (List.getElem_mem lt)
      have gp : GoodL (scaled v (rows.getD i [])) := scaled_good gi (by rw [eg]; simpa using pi)
      have := solve_good k (v + 1) _ _ d ?_ ?_ h
      · refine ⟨this.1, ?_⟩
        rw [this.2]
        simp
        omega
      · intro r h1
        rcases List.mem_append.mp h1 with h1 | h1
        · obtain ⟨q, hq, rfl⟩ := List.mem_map.mp h1
          exact clear_good gp (hd q hq)
        · rw [List.mem_singleton] at h1
          subst h1
          exact gp
      · intro r h1
        obtain ⟨q, hq, rfl⟩ := List.mem_map.mp h1
        exact clear_good gp (hr q (List.mem_of_mem_eraseIdx hq))
theorem only_good {n : Nat} {rows : List (List Fr)} {x : List Fr} (hr : GoodLL rows) (h : only n rows = some x) : GoodL x ∧ x.length = n := by
  unfold only at h
  obtain ⟨d, hd, rfl⟩ := Option.map_eq_some_iff.mp h
  obtain ⟨g, l⟩ := solve_good n 0 [] rows d (fun r h => by simp at h) hr hd
  refine ⟨?_, by simpa using l⟩
  intro z hz
  obtain ⟨r, hr', rfl⟩ := List.mem_map.mp hz
  exact good_getD (g r hr') n (whole_good 0)
/-! ### Lines of whole numbers -/
abbrev Line := List Int × Int
def lin : List Int → List Rat → Rat
  | a :: r, y :: s => (a : Rat) * y + lin r s
  | _, _ => 0
def lineFr (l : Line) : List Fr := l.1.map whole ++ [whole l.2]
theorem foldl_plus : ∀ (l : List Fr) (a : Fr), Good a → GoodL l → Good (l.foldl plus a) ∧ val (l.foldl plus a) = val a + (l.map val).foldr (· + ·) 0
  | [], a, ha, _ => ⟨ha, by show val a = val a + 0; grind⟩
  | x :: r, a, ha, hl => by
    have hx := hl x List.mem_cons_self
    obtain ⟨g, e⟩ := foldl_plus r (plus a x) (plus_good ha hx) fun z hz => hl z (List.mem_cons_of_mem _ hz)
    refine ⟨g, ?_⟩
    show val (r.foldl plus (plus a x)) = val a + (val x + (r.map val).foldr (· + ·) 0)
    rw [e, plus_val ha hx]
    grind
theorem total_val {l : List Fr} (hl : GoodL l) : Good (total l) ∧ val (total l) = (l.map val).foldr (· + ·) 0 := by
  obtain ⟨g, e⟩ := foldl_plus l (whole 0) (whole_good 0) hl
  refine ⟨g, ?_⟩
  show val (l.foldl plus (whole 0)) = _
  rw [e, whole_val]
  have : ((0 : Int) : Rat) = 0 := rfl
  rw [this]
  grind
theorem zip_val : ∀ (a : List Int) (y : List Fr), GoodL y → GoodL (List.zipWith times (a.map whole) y) ∧ ((List.zipWith times (a.map whole) y).map val).foldr (· + ·) 0 = lin a (y.map val)
  | [], y, _ => ⟨fun z h => by simp at h, by simp [lin]⟩
  | _ :: _, [], _ => ⟨fun z h => by simp at h, by simp [lin]⟩
  | a :: r, x :: y, h => by
    have hx := h x List.mem_cons_self
    obtain ⟨g, e⟩ := zip_val r y fun z hz => h z (List.mem_cons_of_mem _ hz)
    constructor
    · intro z hz
      rw [List.map_cons, List.zipWith_cons_cons, List.mem_cons] at hz
      rcases hz with hz | hz
      · subst hz; exact times_good (whole_good a) hx
      · exact g z hz
    · show val (times (whole a) x) + ((List.zipWith times (r.map whole) y).map val).foldr (· + ·) 0 = (a : Rat) * val x + lin r (y.map val)
      rw [e, times_val (whole_good a) hx, whole_val]
theorem dot_val {a : List Int} {y : List Fr} (h : GoodL y) : Good (dot (a.map whole) y) ∧ val (dot (a.map whole) y) = lin a (y.map val) := by
  obtain ⟨g, e⟩ := zip_val a y h
  obtain ⟨g2, e2⟩ := total_val g
  exact ⟨g2, e2.trans e⟩
/-- a row of numbers that keeps the lines -/
def Keeps (L : List Line) (y : List Rat) : Prop := ∀ l ∈ L, (l.2 : Rat) ≤ lin l.1 y
theorem goodLL_lines (L : List Line) : GoodLL (L.map lineFr) := by
  intro r hr
  obtain ⟨l, _, rfl⟩ := List.mem_map.mp hr
  intro z hz
  rcases List.mem_append.mp hz with hz | hz
  · obtain ⟨a, _, rfl⟩ := List.mem_map.mp hz
    exact whole_good a
  · rw [List.mem_singleton] at hz
    subst hz
    exact whole_good _
theorem corner_keeps {m : Nat} {L : List Line} (hm : ∀ l ∈ L, l.1.length = m) {y : List Fr} (h : y ∈ corners m (L.map lineFr)) : GoodL y ∧ y.length = m ∧ Keeps L (y.map val) := by
  unfold corners at h
  obtain ⟨h1, h2⟩ := List.mem_filter.mp h
  obtain ⟨s, _, hs⟩ := List.mem_filterMap.mp h1
  have gl : GoodLL (s.map fun i => (L.map lineFr).getD i []) := by
    intro r hr
    obtain ⟨i, _, rfl⟩ := List.mem_map.mp hr
    rw [List.getD_eq_getElem?_getD]
    cases e : (L.map lineFr)[i]? with
    | none => intro z hz; simp at hz
    | some x => exact goodLL_lines L x (List.mem_of_getElem? e)
  obtain ⟨gy, ly⟩ := only_good gl hs
  refine ⟨gy, ly, fun l hl => ?_⟩
  have q := List.all_eq_true.mp h2 (lineFr l) (List.mem_map.mpr ⟨l, hl, rfl⟩)
  have e1 : (lineFr l).take m = l.1.map whole := by
    have : m = (l.1.map whole).length := by rw [List.length_map]; exact (hm l hl).symm
    unfold lineFr
    rw [this, List.take_left]
  have e2 : (lineFr l).getD m (Kh408.whole 0) = whole l.2 := by
    have : m = (l.1.map whole).length := by rw [List.length_map]; exact (hm l hl).symm
    unfold lineFr
    rw [List.getD_eq_getElem?_getD, this, List.getElem?_append_right (Nat.le_refl _), Nat.sub_self]
    rfl
  rw [e1, e2] at q
  obtain ⟨g, e⟩ := dot_val (a := l.1) gy
  have z : ¬ val (dot (l.1.map whole) y) < val (whole l.2) := by
    intro z
    rw [(less_val g (whole_good _)).mpr z] at q
    cases q
  rw [e, whole_val] at z
  exact Rat.not_lt.mp z
/-! ### Numbers that prove the least, one goal after another -/
def add2 : List Int → List Int → List Int
  | a :: r, b :: s => (a + b) :: add2 r s
  | [], s => s
  | r, [] => r
/-- so many times each line, together -/
def comb : List Nat → List Line → Line
  | k :: ks, l :: ls => let c := comb ks ls
    (add2 (l.1.map fun x => (k : Int) * x) c.1, (k : Int) * l.2 + c.2)
  | _, _ => ([], 0)
theorem lin_add : ∀ (a b : List Int) (y : List Rat), lin (add2 a b) y = lin a y + lin b y
  | [], b, y => by
    have e : add2 [] b = b := by cases b <;> rfl
    rw [e]
    simp only [lin]
    grind
  | a :: r, [], y => by
    have e : add2 (a :: r) [] = a :: r := rfl
    rw [e]
    simp only [lin]
    grind
  | a :: r, b :: s, [] => by
    simp only [lin, add2]
    grind
  | a :: r, b :: s, y :: t => by
    show ((a + b : Int) : Rat) * y + lin (add2 r s) t = _
    rw [lin_add r s t, Rat.intCast_add]
    simp only [lin]
    grind
theorem lin_mul (k : Int) : ∀ (a : List Int) (y : List Rat), lin (a.map fun x => k * x) y = (k : Rat) * lin a y
  | [], y => by simp [lin]
  | a :: r, [] => by simp [lin]
  | a :: r, y :: t => by
    show ((k * a : Int) : Rat) * y + lin (r.map fun x => k * x) t = _
    rw [lin_mul k r t, Rat.intCast_mul]
    simp only [lin]
    grind
theorem comb_le : ∀ (ks : List Nat) (L : List Line) (y : List Rat), Keeps L y → ((comb ks L).2 : Rat) ≤ lin (comb ks L).1 y
  | [], L, y, _ => by
    have e : comb [] L = ([], 0) := by cases L <;> rfl
    rw [e]
    simp [lin]
  | _ :: _, [], y, _ => by
    simp [comb, lin]
  | k :: ks, l :: ls, y, h => by
    have h1 := h l List.mem_cons_self
    have ih := comb_le ks ls y fun z hz => h z (List.mem_cons_of_mem _ hz)
    show (((k : Int) * l.2 + (comb ks ls).2 : Int) : Rat) ≤ lin (add2 (l.1.map fun x => (k : Int) * x) (comb ks ls).1) y
    rw [lin_add, lin_mul, Rat.intCast_add, Rat.intCast_mul]
    have k0 : (0 : Rat) ≤ ((k : Int) : Rat) := Rat.intCast_nonneg.mpr (by omega)
    have := Rat.mul_le_mul_of_nonneg_left h1 k0
    grind
/-- a goal: what each unknown's times; the least (b by q); the lines' numbers that prove it -/
structure Stage where
  t : List Int
  b : Int
  q : Nat
  ks : List Nat
def cert : List Line → List Stage → Bool
  | _, [] => true
  | L, s :: r => decide (0 < s.q) && decide (comb s.ks L = (s.t.map fun x => (s.q : Int) * x, s.b)) && cert ((s.t.map fun x => (-(s.q : Int)) * x, -s.b) :: L) r
/-- the goals in order: more at the first where they differ from the least -/
def LexGe : List Stage → List Rat → Prop
  | [], _ => True
  | s :: r, y => (s.b : Rat) / ((s.q : Int) : Rat) < lin s.t y ∨ ((s.b : Rat) / ((s.q : Int) : Rat) = lin s.t y ∧ LexGe r y)
theorem cert_ge : ∀ (ss : List Stage) (L : List Line) (y : List Rat), Keeps L y → cert L ss = true → LexGe ss y
  | [], _, _, _, _ => trivial
  | s :: r, L, y, h, c => by
    unfold cert at c
    rw [Bool.and_eq_true, Bool.and_eq_true, decide_eq_true_iff, decide_eq_true_iff] at c
    obtain ⟨⟨q0, e⟩, c⟩ := c
    have le := comb_le s.ks L y h
    rw [e] at le
    simp only [lin_mul] at le
    have p : (0 : Rat) < ((s.q : Int) : Rat) := Rat.intCast_pos.mpr (by omega)
    have ne : ((s.q : Int) : Rat) ≠ 0 := fun z => by rw [z] at p; exact absurd p (by decide)
    by_cases z : (s.b : Rat) / ((s.q : Int) : Rat) = lin s.t y
    · refine .inr ⟨z, cert_ge r _ y ?_ c⟩
      intro l hl
      rcases List.mem_cons.mp hl with rfl | hl
      · show ((-s.b : Int) : Rat) ≤ lin (s.t.map fun x => (-(s.q : Int)) * x) y
        rw [lin_mul, Rat.intCast_neg, Rat.intCast_neg, ← z]
        have : -((s.q : Int) : Rat) * ((s.b : Rat) / ((s.q : Int) : Rat)) = -(s.b : Rat) := by grind
        rw [this]
        exact Rat.le_refl
      · exact h l hl
    · refine .inl ?_
      have e2 : (s.b : Rat) = ((s.q : Int) : Rat) * ((s.b : Rat) / ((s.q : Int) : Rat)) := by grind
      rw [e2] at le
      have le2 := Rat.le_of_mul_le_mul_left le p
      exact Rat.lt_of_le_of_ne le2 z

/-! ### The least of some rows -/
def bet (w : List Fr → Fr) (x y : List Fr) : Bool := less (w x) (w y) || (w x == w y && before x y)
def pick (w : List Fr → Fr) (r : Option (List Fr)) (x : List Fr) : Option (List Fr) := match r with
  | none => some x
  | some y => if bet w x y then some x else some y
theorem leastBy_pick (w : List Fr → Fr) (l : List (List Fr)) : leastBy w l = l.foldl (pick w) none := rfl
theorem pick_stays {w : List Fr → Fr} {x : List Fr} : ∀ (l : List (List Fr)), (∀ y ∈ l, y ≠ x → bet w y x = false) → l.foldl (pick w) (some x) = some x
  | [], _ => rfl
  | y :: r, h => by
    have e : pick w (some x) y = some x := by
      unfold pick
      by_cases c : y = x
      · subst c
        simp
      · show (if bet w y x then some y else some x) = some x
        rw [h y List.mem_cons_self c]
        rfl
    rw [List.foldl_cons, e]
    exact pick_stays r fun z hz => h z (List.mem_cons_of_mem _ hz)
theorem pick_finds {w : List Fr → Fr} {x : List Fr} : ∀ (l : List (List Fr)) (acc : Option (List Fr)), x ∈ l → (∀ y ∈ l, y ≠ x → bet w x y = true ∧ bet w y x = false) → (∀ z, acc = some z → bet w x z = true) → l.foldl (pick w) acc = some x
  | [], _, hx, _, _ => by simp at hx
  | y :: r, acc, hx, h, ha => by
    rw [List.foldl_cons]
    by_cases c : y = x
    · subst c
      have e : pick w acc y = some y := by
        cases acc with
        | none => rfl
        | some z =>
          show (if bet w y z then some y else some z) = some y
          rw [ha z rfl]
          rfl
      rw [e]
      exact pick_stays r fun z hz hne => (h z (List.mem_cons_of_mem _ hz) hne).2
    · have hx' : x ∈ r := by
        rcases List.mem_cons.mp hx with q | q
        · exact absurd q.symm c
        · exact q
      refine pick_finds r _ hx' (fun z hz => h z (List.mem_cons_of_mem _ hz)) fun z hz => ?_
      have hy := (h y List.mem_cons_self c).1
      cases acc with
      | none =>
        have : y = z := Option.some.inj hz
        subst this
        exact hy
      | some u =>
        have hu := ha u rfl
        have hz' : (if bet w y u then some y else some u) = some z := hz
        split at hz'
        · have : y = z := Option.some.inj hz'
          subst this
          exact hy
        · have : u = z := Option.some.inj hz'
          subst this
          exact hu
theorem leastBy_eq {w : List Fr → Fr} {l : List (List Fr)} {x : List Fr} (hx : x ∈ l) (h : ∀ y ∈ l, y ≠ x → bet w x y = true ∧ bet w y x = false) : leastBy w l = some x := by
  rw [leastBy_pick]
  exact pick_finds l none hx h fun z hz => by cases hz
def LexRow : List Fr → List Fr → Prop
  | x :: r, y :: s => val x < val y ∨ (val x = val y ∧ LexRow r s)
  | [], [] => True
  | _, _ => False
theorem lexrow_before : ∀ {x y : List Fr}, GoodL x → GoodL y → LexRow x y → x = y ∨ (before x y = true ∧ before y x = false)
  | [], [], _, _, _ => .inl rfl
  | [], _ :: _, _, _, h => h.elim
  | _ :: _, [], _, _, h => h.elim
  | x :: r, y :: s, gx, gy, h => by
    have hx := gx x List.mem_cons_self
    have hy := gy y List.mem_cons_self
    rcases h with h | ⟨h, t⟩
    · have l1 := (less_val hx hy).mpr h
      have l2 : less y x = false := by
        cases q : less y x with
        | false => rfl
        | true =>
          have := (less_val hy hx).mp q
          grind
      have ne : y ≠ x := by
        intro e
        subst e
        grind
      refine .inr ⟨by simp [before, l1], ?_⟩
      have nb : (y == x) = false := by simpa using ne
      simp [before, l2, nb]
    · have e := val_inj hx hy h
      subst e
      have l2 : less x x = false := by
        cases q : less x x with
        | false => rfl
        | true =>
          have := (less_val hx hx).mp q
          grind
      rcases lexrow_before (fun z hz => gx z (List.mem_cons_of_mem _ hz)) (fun z hz => gy z (List.mem_cons_of_mem _ hz)) t with q | ⟨q1, q2⟩
      · exact .inl (by rw [q])
      · exact .inr ⟨by simp [before, q1], by simp [before, l2, q2]⟩
theorem lin_zeros : ∀ (k : Nat) (y : List Rat), lin (List.replicate k 0) y = 0
  | 0, _ => rfl
  | k + 1, [] => rfl
  | k + 1, y :: r => by
    show ((0 : Int) : Rat) * y + lin (List.replicate k 0) r = 0
    rw [lin_zeros k r]
    have : ((0 : Int) : Rat) = 0 := rfl
    rw [this]
    grind
theorem lin_unit : ∀ (pre : List Rat) (k : Nat) (y : Rat) (r : List Rat), lin (List.replicate pre.length 0 ++ 1 :: List.replicate k 0) (pre ++ y :: r) = y
  | [], k, y, r => by
    show ((1 : Int) : Rat) * y + lin (List.replicate k 0) r = y
    rw [lin_zeros]
    have : ((1 : Int) : Rat) = 1 := rfl
    rw [this]
    grind
  | p :: pre, k, y, r => by
    show ((0 : Int) : Rat) * p + lin (List.replicate pre.length 0 ++ 1 :: List.replicate k 0) (pre ++ y :: r) = y
    rw [lin_unit pre k y r]
    have : ((0 : Int) : Rat) = 0 := rfl
    rw [this]
    grind
/-- one goal an unknown; with each so many times the fraction, and the lines' numbers -/
def unitStages : Nat → List Fr → List (Nat × List Nat) → List Stage
  | i, x :: r, k :: ks => ⟨List.replicate i 0 ++ 1 :: List.replicate r.length 0, x.n * k.1, x.d.toNat * k.1, k.2⟩ :: unitStages (i + 1) r ks
  | _, _, _ => []
theorem unit_lex : ∀ (xs ys : List Fr) (ks : List (Nat × List Nat)) (pre : List Rat), GoodL xs → xs.length = ys.length → ks.length = xs.length → (∀ k ∈ ks, 0 < k.1) → LexGe (unitStages pre.length xs ks) (pre ++ ys.map val) → LexRow xs ys
  | [], [], _, _, _, _, _, _, _ => trivial
  | [], _ :: _, _, _, _, h, _, _, _ => by simp at h
  | _ :: _, [], _, _, _, h, _, _, _ => by simp at h
  | _ :: _, _ :: _, [], _, _, _, h, _, _ => by simp at h
  | x :: r, y :: s, k :: ks, pre, gx, h1, h2, h3, h => by
    have hx := gx x List.mem_cons_self
    have k0 := h3 k List.mem_cons_self
    have kr : ((k.1 : Int) : Rat) ≠ 0 := by
      intro e
      have : (k.1 : Int) = 0 := by exact_mod_cast e
      omega
    have e0 : ((x.n * (k.1 : Int) : Int) : Rat) / (((x.d.toNat * k.1 : Nat) : Int) : Rat) = val x := by
      rw [Int.natCast_mul, Int.toNat_of_nonneg (Int.le_of_lt hx.1), Rat.intCast_mul, Rat.intCast_mul]
      have := hx.ne
      unfold val
      grind
    have h' : ((x.n * (k.1 : Int) : Int) : Rat) / (((x.d.toNat * k.1 : Nat) : Int) : Rat) < lin (List.replicate pre.length 0 ++ 1 :: List.replicate r.length 0) (pre ++ val y :: s.map val) ∨ (((x.n * (k.1 : Int) : Int) : Rat) / (((x.d.toNat * k.1 : Nat) : Int) : Rat) = lin (List.replicate pre.length 0 ++ 1 :: List.replicate r.length 0) (pre ++ val y :: s.map val) ∧ LexGe (unitStages (pre.length + 1) r ks) (pre ++ val y :: s.map val)) := h
    rw [lin_unit, e0] at h'
    rcases h' with h' | ⟨h', t⟩
    · exact .inl h'
    · refine .inr ⟨h', unit_lex r s ks (pre ++ [val y]) (fun z hz => gx z (List.mem_cons_of_mem _ hz)) (by simpa using h1) (by simpa using h2) (fun z hz => h3 z (List.mem_cons_of_mem _ hz)) ?_⟩
      rw [List.length_append, List.append_assoc]
      exact t
theorem least_is {m : Nat} {L : List Line} {ls : List (List Fr)} (hls : ls = L.map lineFr) (hm : ∀ l ∈ L, l.1.length = m) {w : List Fr → Fr} {t : List Int} (c : Rat) (hw : ∀ y, GoodL y → y.length = m → Good (w y) ∧ val (w y) = lin t (y.map val) + c)
    {x : List Fr} (hx : x ∈ corners m ls) {b0 : Int} {q0 : Nat} {ks0 : List Nat} {ks : List (Nat × List Nat)} (hk : ks.length = m) (hk0 : ∀ k ∈ ks, 0 < k.1) (hq : 0 < q0) (hb : less (frac b0 q0) (dot (t.map whole) x) = false)
    (hc : cert L (⟨t, b0, q0, ks0⟩ :: unitStages 0 x ks) = true) : leastBy w (corners m ls) = some x := by
  subst hls
  obtain ⟨gx, lx, kx⟩ := corner_keeps hm hx
  have q1 : ((q0 : Int)) ≠ 0 := by omega
  obtain ⟨gd, ed⟩ := dot_val (a := t) gx
  have up : lin t (x.map val) ≤ (b0 : Rat) / ((q0 : Int) : Rat) := by
    rw [← ed, ← frac_val q1]
    refine Rat.not_lt.mp fun z => ?_
    rw [(less_val (frac_good q1) gd).mpr z] at hb
    cases hb
  have ex : (b0 : Rat) / ((q0 : Int) : Rat) = lin t (x.map val) := by
    rcases cert_ge _ _ _ kx hc with z | ⟨z, _⟩
    · have z' : (b0 : Rat) / ((q0 : Int) : Rat) < lin t (x.map val) := z
      grind
    · exact z
  obtain ⟨gwx, ewx⟩ := hw x gx lx
  refine leastBy_eq hx fun y hy hne => ?_
  obtain ⟨gy, ly, ky⟩ := corner_keeps hm hy
  obtain ⟨gwy, ewy⟩ := hw y gy ly
  rcases cert_ge _ _ _ ky hc with z | ⟨z, t2⟩
  · have z' : (b0 : Rat) / ((q0 : Int) : Rat) < lin t (y.map val) := z
    have lt : val (w x) < val (w y) := by
      rw [ewx, ewy]
      grind
    have l1 := (less_val gwx gwy).mpr lt
    have l2 : less (w y) (w x) = false := by
      cases q : less (w y) (w x) with
      | false => rfl
      | true =>
        have := (less_val gwy gwx).mp q
        grind
    have ne : (w y == w x) = false := by
      have : w y ≠ w x := by
        intro e
        rw [e] at lt
        grind
      simpa using this
    exact ⟨by simp [bet, l1], by simp [bet, l2, ne]⟩
  · have z' : (b0 : Rat) / ((q0 : Int) : Rat) = lin t (y.map val) := z
    have ev : val (w x) = val (w y) := by
      rw [ewx, ewy, ← ex, ← z']
    have ew := val_inj gwx gwy ev
    have l2 : less (w y) (w x) = false := by
      cases q : less (w y) (w x) with
      | false => rfl
      | true =>
        have := (less_val gwy gwx).mp q
        grind
    have lr := unit_lex x y ks [] gx (lx.trans ly.symm) (hk.trans lx.symm) hk0 t2
    rcases lexrow_before gx gy lr with q | ⟨p1, p2⟩
    · exact absurd q.symm hne
    · exact ⟨by simp [bet, ew, p1], by simp [bet, l2, p2]⟩

theorem corner_mem {m : Nat} {ls : List (List Fr)} {x : List Fr} (s : List Nat) (h1 : s ∈ subs m (List.range ls.length)) (h2 : only m (s.map fun i => ls.getD i []) = some x) (h3 : (ls.all fun l => !less (dot (l.take m) x) (l.getD m (Kh408.whole 0))) = true) : x ∈ corners m ls :=
  List.mem_filter.mpr ⟨List.mem_filterMap.mpr ⟨s, h1, h2⟩, h3⟩
/-! ### The two goals -/
theorem range_zip {y : List Fr} {n : Nat} {f : Nat → Int} (h : y.length = n) : (List.range n).map (fun k => times (y.getD k (whole 0)) (whole (f k))) = List.zipWith (fun a x => times x (whole a)) ((List.range n).map f) y := by
  apply List.ext_getElem
  · simp [h]
  · intro i h1 h2
    have hi : i < y.length := by simp at h1; omega
    simp [List.getD_eq_getElem?_getD, hi]
theorem zip_val2 : ∀ (a : List Int) (y : List Fr), GoodL y → GoodL (List.zipWith (fun a x => times x (whole a)) a y) ∧ ((List.zipWith (fun a x => times x (whole a)) a y).map val).foldr (· + ·) 0 = lin a (y.map val)
  | [], y, _ => ⟨fun z h => by simp at h, by simp [lin]⟩
  | _ :: _, [], _ => ⟨fun z h => by simp at h, by simp [lin]⟩
  | a :: r, x :: y, h => by
    have hx := h x List.mem_cons_self
    obtain ⟨g, e⟩ := zip_val2 r y fun z hz => h z (List.mem_cons_of_mem _ hz)
    constructor
    · intro z hz
      rw [List.zipWith_cons_cons, List.mem_cons] at hz
      rcases hz with hz | hz
      · subst hz; exact times_good hx (whole_good a)
      · exact g z hz
    · show val (times x (whole a)) + ((List.zipWith (fun a x => times x (whole a)) r y).map val).foldr (· + ·) 0 = (a : Rat) * val x + lin r (y.map val)
      rw [e, times_val hx (whole_good a), whole_val]
      grind
theorem cost_val (n : Nat) (y : List Fr) (g : GoodL y) (h : y.length = n) : Good (Kh408.cost n y) ∧ val (Kh408.cost n y) = lin ((List.range n).map fun k => Int.ofNat (Kh407.choose n (k + 1))) (y.map val) + 1 := by
  have e : Kh408.cost n y = total (whole 1 :: List.zipWith (fun a x => times x (whole a)) ((List.range n).map fun k => Int.ofNat (Kh407.choose n (k + 1))) y) := by
    rw [← range_zip h]
    rfl
  obtain ⟨g1, e1⟩ := zip_val2 ((List.range n).map fun k => Int.ofNat (Kh407.choose n (k + 1))) y g
  rw [e]
  obtain ⟨g2, e2⟩ := total_val (l := whole 1 :: List.zipWith (fun a x => times x (whole a)) ((List.range n).map fun k => Int.ofNat (Kh407.choose n (k + 1))) y) (fun z hz => by
    rcases List.mem_cons.mp hz with hz | hz
    · subst hz; exact whole_good 1
    · exact g1 z hz)
  refine ⟨g2, e2.trans ?_⟩
  rw [List.map_cons, List.foldr_cons, e1, whole_val]
  have : ((1 : Int) : Rat) = 1 := rfl
  rw [this]
  grind
theorem sum_lin : ∀ (y : List Fr) (m : Nat), y.length = m → lin (List.replicate m (-1)) (y.map val) = -((y.map val).foldr (· + ·) 0)
  | [], 0, _ => by
    show (0 : Rat) = -0
    grind
  | [], _ + 1, h => by simp at h
  | _ :: _, 0, h => by simp at h
  | x :: r, m + 1, h => by
    show ((-1 : Int) : Rat) * val x + lin (List.replicate m (-1)) (r.map val) = -(val x + (r.map val).foldr (· + ·) 0)
    rw [sum_lin r m (by simpa using h)]
    have : ((-1 : Int) : Rat) = -1 := rfl
    rw [this]
    grind
theorem all_val (y : List Fr) (g : GoodL y) : Good (Kh408.all y) ∧ val (Kh408.all y) = 1 + (y.map val).foldr (· + ·) 0 := by
  obtain ⟨g2, e2⟩ := total_val (l := whole 1 :: y) (fun z hz => by
    rcases List.mem_cons.mp hz with hz | hz
    · subst hz; exact whole_good 1
    · exact g z hz)
  refine ⟨g2, e2.trans ?_⟩
  rw [List.map_cons, List.foldr_cons, whole_val]
  have : ((1 : Int) : Rat) = 1 := rfl
  rw [this]
theorem less_all_val (m : Nat) (y : List Fr) (g : GoodL y) (h : y.length = m) : Good (minus (Kh408.whole 0) (Kh408.all y)) ∧ val (minus (Kh408.whole 0) (Kh408.all y)) = lin (List.replicate m (-1)) (y.map val) + (-1) := by
  obtain ⟨g1, e1⟩ := all_val y g
  refine ⟨minus_good (whole_good 0) g1, ?_⟩
  have e := minus_val (whole_good 0) g1
  have e' : val (minus (Kh408.whole 0) (Kh408.all y)) = val (whole 0) - val (Kh408.all y) := e
  rw [e', e1, whole_val, sum_lin y m h]
  have : ((0 : Int) : Rat) = 0 := rfl
  rw [this]
  grind
end FwL

set_option Elab.async false
set_option maxRecDepth 100000
/-! The best proof and the greatest spread at each number of bits and each d: numbers that prove them, checked. -/
namespace FwL
open Kh397 (Fr)
theorem best_1_1 : Kh408.bestProof ⟨1, 1⟩ = some [⟨1, 1⟩] :=
  least_is (m := 1) (L := [([1], 0), ([1], 1)]) (by decide +kernel) (by decide) 1 (cost_val 1) (corner_mem [1] (by decide +kernel) (by decide +kernel) (by decide +kernel)) (b0 := 1) (q0 := 1) (ks0 := [0, 1]) (ks := [(1, [0, 0, 1])]) rfl (by decide) (by decide) (by decide +kernel) (by decide +kernel)
theorem spread_1_1 : Kh408.spread ⟨1, 1⟩ = some [⟨1, 1⟩] :=
  least_is (m := 1) (L := [([1], 0), ([(-1)], (-1))]) (by decide +kernel) (by decide) (-1) (less_all_val 1) (corner_mem [1] (by decide +kernel) (by decide +kernel) (by decide +kernel)) (b0 := (-1)) (q0 := 1) (ks0 := [0, 1]) (ks := [(1, [1, 0, 0])]) rfl (by decide) (by decide) (by decide +kernel) (by decide +kernel)
theorem best_2_1 : Kh408.bestProof ⟨2, 1⟩ = some [⟨1, 1⟩, ⟨1, 1⟩] :=
  least_is (m := 2) (L := [([1, 0], 0), ([0, 1], 0), ([0, 1], 1), ([2, (-1)], 1)]) (by decide +kernel) (by decide) 1 (cost_val 2) (corner_mem [2, 3] (by decide +kernel) (by decide +kernel) (by decide +kernel)) (b0 := 3) (q0 := 1) (ks0 := [0, 0, 2, 1]) (ks := [(2, [0, 0, 0, 1, 1]), (1, [0, 0, 0, 0, 1, 0])]) rfl (by decide) (by decide) (by decide +kernel) (by decide +kernel)
theorem spread_2_1 : Kh408.spread ⟨2, 1⟩ = some [⟨2, 1⟩, ⟨1, 1⟩] :=
  least_is (m := 2) (L := [([1, 0], 0), ([0, 1], 0), ([0, (-2)], (-2)), ([(-1), 1], (-1))]) (by decide +kernel) (by decide) (-1) (less_all_val 2) (corner_mem [2, 3] (by decide +kernel) (by decide +kernel) (by decide +kernel)) (b0 := (-3)) (q0 := 1) (ks0 := [0, 0, 1, 1]) (ks := [(2, [2, 0, 0, 1, 0]), (2, [1, 2, 0, 0, 0, 0])]) rfl (by decide) (by decide) (by decide +kernel) (by decide +kernel)
theorem best_2_2 : Kh408.bestProof ⟨2, 2⟩ = some [⟨1, 2⟩, ⟨0, 1⟩] :=
  least_is (m := 2) (L := [([1, 0], 0), ([0, 1], 0), ([2, (-1)], 1)]) (by decide +kernel) (by decide) 1 (cost_val 2) (corner_mem [1, 2] (by decide +kernel) (by decide +kernel) (by decide +kernel)) (b0 := 1) (q0 := 1) (ks0 := [0, 2, 1]) (ks := [(1, [0, 0, 1, 1]), (1, [0, 0, 0, 1, 0])]) rfl (by decide) (by decide) (by decide +kernel) (by decide +kernel)
theorem spread_2_2 : Kh408.spread ⟨2, 2⟩ = some [⟨1, 1⟩] :=
  least_is (m := 1) (L := [([1], 0), ([(-2)], (-2)), ([1], (-1))]) (by decide +kernel) (by decide) (-1) (less_all_val 1) (corner_mem [1] (by decide +kernel) (by decide +kernel) (by decide +kernel)) (b0 := (-2)) (q0 := 2) (ks0 := [0, 1, 0]) (ks := [(2, [1, 0, 0, 0])]) rfl (by decide) (by decide) (by decide +kernel) (by decide +kernel)
theorem best_3_1 : Kh408.bestProof ⟨3, 1⟩ = some [⟨1, 1⟩, ⟨1, 1⟩, ⟨1, 1⟩] :=
  least_is (m := 3) (L := [([1, 0, 0], 0), ([0, 1, 0], 0), ([0, 0, 1], 0), ([(-1), 1, 1], 1), ([1, 1, (-1)], 1), ([3, (-3), 1], 1)]) (by decide +kernel) (by decide) 1 (cost_val 3) (corner_mem [3, 4, 5] (by decide +kernel) (by decide +kernel) (by decide +kernel)) (b0 := 7) (q0 := 1) (ks0 := [0, 0, 0, 3, 3, 1]) (ks := [(4, [0, 0, 0, 0, 1, 2, 1]), (2, [0, 0, 0, 0, 0, 1, 1, 0]), (4, [0, 0, 0, 0, 0, 0, 3, 0, 1])]) rfl (by decide) (by decide) (by decide +kernel) (by decide +kernel)
theorem spread_3_1 : Kh408.spread ⟨3, 1⟩ = some [⟨3, 1⟩, ⟨3, 1⟩, ⟨1, 1⟩] :=
  least_is (m := 3) (L := [([1, 0, 0], 0), ([0, 1, 0], 0), ([0, 0, 1], 0), ([1, (-1), (-3)], (-3)), ([(-1), (-1), 3], (-3)), ([(-1), 1, (-1)], (-1))]) (by decide +kernel) (by decide) (-1) (less_all_val 3) (corner_mem [3, 4, 5] (by decide +kernel) (by decide +kernel) (by decide +kernel)) (b0 := (-7)) (q0 := 1) (ks0 := [0, 0, 0, 1, 1, 1]) (ks := [(4, [3, 0, 0, 0, 2, 1, 0]), (2, [1, 3, 0, 0, 0, 1, 0, 0]), (4, [2, 1, 4, 0, 0, 0, 0, 0, 0])]) rfl (by decide) (by decide) (by decide +kernel) (by decide +kernel)
theorem best_3_2 : Kh408.bestProof ⟨3, 2⟩ = some [⟨2, 3⟩, ⟨1, 3⟩, ⟨0, 1⟩] :=
  least_is (m := 3) (L := [([1, 0, 0], 0), ([0, 1, 0], 0), ([0, 0, 1], 0), ([1, 1, (-1)], 1), ([3, (-3), 1], 1)]) (by decide +kernel) (by decide) 1 (cost_val 3) (corner_mem [2, 3, 4] (by decide +kernel) (by decide +kernel) (by decide +kernel)) (b0 := 3) (q0 := 1) (ks0 := [0, 0, 4, 3, 0]) (ks := [(2, [0, 0, 0, 2, 3, 1]), (2, [1, 0, 0, 0, 6, 6, 0]), (1, [0, 0, 0, 0, 0, 1, 0, 0])]) rfl (by decide) (by decide) (by decide +kernel) (by decide +kernel)
theorem spread_3_2 : Kh408.spread ⟨3, 2⟩ = some [⟨3, 1⟩, ⟨0, 1⟩] :=
  least_is (m := 2) (L := [([1, 0], 0), ([0, 1], 0), ([(-1), (-3)], (-3)), ([(-1), 3], (-3)), ([1, (-1)], (-1))]) (by decide +kernel) (by decide) (-1) (less_all_val 2) (corner_mem [1, 2] (by decide +kernel) (by decide +kernel) (by decide +kernel)) (b0 := (-3)) (q0 := 1) (ks0 := [0, 2, 1, 0, 0]) (ks := [(2, [3, 0, 0, 1, 0, 0]), (2, [1, 2, 0, 0, 0, 0, 0])]) rfl (by decide) (by decide) (by decide +kernel) (by decide +kernel)
theorem best_3_3 : Kh408.bestProof ⟨3, 3⟩ = some [⟨0, 1⟩, ⟨0, 1⟩, ⟨1, 1⟩] :=
  least_is (m := 3) (L := [([1, 0, 0], 0), ([0, 1, 0], 0), ([0, 0, 1], 0), ([3, (-3), 1], 1)]) (by decide +kernel) (by decide) 1 (cost_val 3) (corner_mem [0, 1, 3] (by decide +kernel) (by decide +kernel) (by decide +kernel)) (b0 := 1) (q0 := 1) (ks0 := [0, 6, 0, 1]) (ks := [(1, [0, 1, 0, 0, 0]), (1, [0, 0, 0, 1, 0, 0]), (1, [0, 3, 0, 0, 3, 0, 1])]) rfl (by decide) (by decide) (by decide +kernel) (by decide +kernel)
theorem spread_3_3 : Kh408.spread ⟨3, 3⟩ = some [⟨1, 1⟩] :=
  least_is (m := 1) (L := [([1], 0), ([(-3)], (-3)), ([3], (-3)), ([(-1)], (-1))]) (by decide +kernel) (by decide) (-1) (less_all_val 1) (corner_mem [1] (by decide +kernel) (by decide +kernel) (by decide +kernel)) (b0 := (-3)) (q0 := 3) (ks0 := [0, 1, 0, 0]) (ks := [(3, [1, 0, 0, 0, 0])]) rfl (by decide) (by decide) (by decide +kernel) (by decide +kernel)
theorem best_4_1 : Kh408.bestProof ⟨4, 1⟩ = some [⟨1, 1⟩, ⟨1, 1⟩, ⟨1, 1⟩, ⟨1, 1⟩] :=
  least_is (m := 4) (L := [([1, 0, 0, 0], 0), ([0, 1, 0, 0], 0), ([0, 0, 1, 0], 0), ([0, 0, 0, 1], 0), ([(-2), 0, 2, 1], 1), ([0, 2, 0, (-1)], 1), ([2, 0, (-2), 1], 1), ([4, (-6), 4, (-1)], 1)]) (by decide +kernel) (by decide) 1 (cost_val 4) (corner_mem [4, 5, 6, 7] (by decide +kernel) (by decide +kernel) (by decide +kernel)) (b0 := 15) (q0 := 1) (ks0 := [0, 0, 0, 0, 4, 6, 4, 1]) (ks := [(8, [0, 0, 0, 0, 0, 1, 3, 3, 1]), (4, [0, 0, 0, 0, 0, 0, 1, 2, 1, 0]), (8, [0, 0, 0, 0, 0, 0, 0, 3, 3, 1, 1]), (2, [0, 0, 0, 0, 0, 0, 0, 0, 1, 0, 1, 0])]) rfl (by decide) (by decide) (by decide +kernel) (by decide +kernel)
theorem spread_4_1 : Kh408.spread ⟨4, 1⟩ = some [⟨4, 1⟩, ⟨6, 1⟩, ⟨4, 1⟩, ⟨1, 1⟩] :=
  least_is (m := 4) (L := [([1, 0, 0, 0], 0), ([0, 1, 0, 0], 0), ([0, 0, 1, 0], 0), ([0, 0, 0, 1], 0), ([2, 0, (-2), (-4)], (-4)), ([0, (-2), 0, 6], (-6)), ([(-2), 0, 2, (-4)], (-4)), ([(-1), 1, (-1), 1], (-1))]) (by decide +kernel) (by decide) (-1) (less_all_val 4) (corner_mem [4, 5, 6, 7] (by decide +kernel) (by decide +kernel) (by decide +kernel)) (b0 := (-15)) (q0 := 1) (ks0 := [0, 0, 0, 0, 1, 1, 1, 1]) (ks := [(8, [4, 0, 0, 0, 0, 3, 2, 1, 0]), (8, [3, 12, 0, 0, 0, 0, 6, 2, 0, 0]), (8, [2, 3, 16, 0, 0, 0, 0, 4, 0, 0, 0]), (8, [1, 1, 1, 8, 0, 0, 0, 0, 0, 0, 0, 0])]) rfl (by decide) (by decide) (by decide +kernel) (by decide +kernel)
theorem best_4_2 : Kh408.bestProof ⟨4, 2⟩ = some [⟨3, 4⟩, ⟨1, 2⟩, ⟨1, 4⟩, ⟨0, 1⟩] :=
  least_is (m := 4) (L := [([1, 0, 0, 0], 0), ([0, 1, 0, 0], 0), ([0, 0, 1, 0], 0), ([0, 0, 0, 1], 0), ([0, 2, 0, (-1)], 1), ([2, 0, (-2), 1], 1), ([4, (-6), 4, (-1)], 1)]) (by decide +kernel) (by decide) 1 (cost_val 4) (corner_mem [3, 4, 5, 6] (by decide +kernel) (by decide +kernel) (by decide +kernel)) (b0 := 7) (q0 := 1) (ks0 := [0, 0, 0, 8, 6, 0, 1]) (ks := [(2, [0, 0, 0, 0, 2, 3, 2, 1]), (1, [0, 0, 0, 0, 0, 1, 1, 0, 0]), (2, [0, 1, 0, 0, 0, 0, 8, 6, 0, 2]), (1, [0, 0, 0, 0, 0, 0, 0, 1, 0, 0, 0])]) rfl (by decide) (by decide) (by decide +kernel) (by decide +kernel)
theorem spread_4_2 : Kh408.spread ⟨4, 2⟩ = some [⟨6, 1⟩, ⟨0, 1⟩, ⟨1, 1⟩] :=
  least_is (m := 3) (L := [([1, 0, 0], 0), ([0, 1, 0], 0), ([0, 0, 1], 0), ([0, (-2), (-4)], (-4)), ([(-2), 0, 6], (-6)), ([0, 2, (-4)], (-4)), ([1, (-1), 1], (-1))]) (by decide +kernel) (by decide) (-1) (less_all_val 3) (corner_mem [1, 3, 4] (by decide +kernel) (by decide +kernel) (by decide +kernel)) (b0 := (-14)) (q0 := 2) (ks0 := [0, 2, 0, 2, 1, 0, 0]) (ks := [(4, [3, 0, 0, 0, 3, 1, 0, 0]), (1, [0, 0, 0, 1, 0, 0, 0, 0, 0]), (4, [4, 1, 2, 0, 0, 0, 0, 0, 0, 0])]) rfl (by decide) (by decide) (by decide +kernel) (by decide +kernel)
theorem best_4_3 : Kh408.bestProof ⟨4, 3⟩ = some [⟨1, 3⟩, ⟨0, 1⟩, ⟨0, 1⟩, ⟨1, 3⟩] :=
  least_is (m := 4) (L := [([1, 0, 0, 0], 0), ([0, 1, 0, 0], 0), ([0, 0, 1, 0], 0), ([0, 0, 0, 1], 0), ([2, 0, (-2), 1], 1), ([4, (-6), 4, (-1)], 1)]) (by decide +kernel) (by decide) 1 (cost_val 4) (corner_mem [1, 2, 4, 5] (by decide +kernel) (by decide +kernel) (by decide +kernel)) (b0 := 5) (q0 := 3) (ks0 := [0, 24, 16, 0, 4, 1]) (ks := [(16, [1, 0, 72, 0, 0, 12, 9]), (1, [0, 0, 0, 1, 0, 0, 0, 0]), (1, [0, 0, 0, 0, 0, 1, 0, 0, 0]), (8, [0, 0, 1, 0, 0, 0, 48, 0, 24, 0])]) rfl (by decide) (by decide) (by decide +kernel) (by decide +kernel)
theorem spread_4_3 : Kh408.spread ⟨4, 3⟩ = some [⟨4, 3⟩, ⟨1, 3⟩] :=
  least_is (m := 2) (L := [([1, 0], 0), ([0, 1], 0), ([(-2), (-4)], (-4)), ([0, 6], (-6)), ([2, (-4)], (-4)), ([(-1), 1], (-1))]) (by decide +kernel) (by decide) (-1) (less_all_val 2) (corner_mem [2, 5] (by decide +kernel) (by decide +kernel) (by decide +kernel)) (b0 := (-5)) (q0 := 3) (ks0 := [0, 0, 1, 0, 0, 1]) (ks := [(2, [4, 0, 0, 3, 0, 0, 0]), (2, [1, 2, 0, 0, 0, 0, 0, 0])]) rfl (by decide) (by decide) (by decide +kernel) (by decide +kernel)
theorem best_4_4 : Kh408.bestProof ⟨4, 4⟩ = some [⟨0, 1⟩, ⟨0, 1⟩, ⟨1, 4⟩, ⟨0, 1⟩] :=
  least_is (m := 4) (L := [([1, 0, 0, 0], 0), ([0, 1, 0, 0], 0), ([0, 0, 1, 0], 0), ([0, 0, 0, 1], 0), ([4, (-6), 4, (-1)], 1)]) (by decide +kernel) (by decide) 1 (cost_val 4) (corner_mem [0, 1, 3, 4] (by decide +kernel) (by decide +kernel) (by decide +kernel)) (b0 := 1) (q0 := 1) (ks0 := [0, 12, 0, 2, 1]) (ks := [(1, [0, 1, 0, 0, 0, 0]), (1, [0, 0, 0, 1, 0, 0, 0]), (1, [0, 4, 0, 0, 6, 0, 1, 1]), (1, [0, 0, 0, 0, 0, 0, 0, 1, 0])]) rfl (by decide) (by decide) (by decide +kernel) (by decide +kernel)
theorem spread_4_4 : Kh408.spread ⟨4, 4⟩ = some [⟨1, 1⟩] :=
  least_is (m := 1) (L := [([1], 0), ([(-4)], (-4)), ([6], (-6)), ([(-4)], (-4)), ([1], (-1))]) (by decide +kernel) (by decide) (-1) (less_all_val 1) (corner_mem [1] (by decide +kernel) (by decide +kernel) (by decide +kernel)) (b0 := (-4)) (q0 := 4) (ks0 := [0, 1, 0, 0, 0]) (ks := [(4, [1, 0, 0, 0, 0, 0])]) rfl (by decide) (by decide) (by decide +kernel) (by decide +kernel)
theorem best_5_1 : Kh408.bestProof ⟨5, 1⟩ = some [⟨1, 1⟩, ⟨1, 1⟩, ⟨1, 1⟩, ⟨1, 1⟩, ⟨1, 1⟩] :=
  least_is (m := 5) (L := [([1, 0, 0, 0, 0], 0), ([0, 1, 0, 0, 0], 0), ([0, 0, 1, 0, 0], 0), ([0, 0, 0, 1, 0], 0), ([0, 0, 0, 0, 1], 0), ([(-3), (-2), 2, 3, 1], 1), ([(-1), 2, 2, (-1), (-1)], 1), ([1, 2, (-2), (-1), 1], 1), ([3, (-2), (-2), 3, (-1)], 1), ([5, (-10), 10, (-5), 1], 1)]) (by decide +kernel) (by decide) 1 (cost_val 5) (corner_mem [5, 6, 7, 8, 9] (by decide +kernel) (by decide +kernel) (by decide +kernel)) (b0 := 31) (q0 := 1) (ks0 := [0, 0, 0, 0, 0, 5, 10, 10, 5, 1]) (ks := [(16, [0, 0, 0, 0, 0, 0, 1, 4, 6, 4, 1]), (8, [0, 0, 0, 0, 0, 0, 0, 1, 3, 3, 1, 0]), (16, [0, 0, 0, 0, 0, 0, 0, 0, 3, 6, 4, 2, 1]), (4, [0, 0, 0, 0, 0, 0, 0, 0, 0, 1, 1, 1, 1, 0]), (16, [0, 0, 0, 0, 0, 0, 0, 0, 0, 0, 5, 0, 10, 0, 1])]) rfl (by decide) (by decide) (by decide +kernel) (by decide +kernel)
theorem spread_5_1 : Kh408.spread ⟨5, 1⟩ = some [⟨5, 1⟩, ⟨10, 1⟩, ⟨10, 1⟩, ⟨5, 1⟩, ⟨1, 1⟩] :=
  least_is (m := 5) (L := [([1, 0, 0, 0, 0], 0), ([0, 1, 0, 0, 0], 0), ([0, 0, 1, 0, 0], 0), ([0, 0, 0, 1, 0], 0), ([0, 0, 0, 0, 1], 0), ([3, 1, (-1), (-3), (-5)], (-5)), ([2, (-2), (-2), 2, 10], (-10)), ([(-2), (-2), 2, 2, (-10)], (-10)), ([(-3), 1, 1, (-3), 5], (-5)), ([(-1), 1, (-1), 1, (-1)], (-1))]) (by decide +kernel) (by decide) (-1) (less_all_val 5) (corner_mem [5, 6, 7, 8, 9] (by decide +kernel) (by decide +kernel) (by decide +kernel)) (b0 := (-31)) (q0 := 1) (ks0 := [0, 0, 0, 0, 0, 1, 1, 1, 1, 1]) (ks := [(16, [5, 0, 0, 0, 0, 0, 4, 3, 2, 1, 0]), (8, [2, 10, 0, 0, 0, 0, 0, 6, 3, 1, 0, 0]), (8, [3, 3, 20, 0, 0, 0, 0, 0, 8, 2, 0, 0, 0]), (8, [2, 3, 2, 20, 0, 0, 0, 0, 0, 4, 0, 0, 0, 0]), (16, [2, 2, 2, 1, 16, 0, 0, 0, 0, 0, 0, 0, 0, 0, 0])]) rfl (by decide) (by decide) (by decide +kernel) (by decide +kernel)
theorem best_5_2 : Kh408.bestProof ⟨5, 2⟩ = some [⟨4, 5⟩, ⟨3, 5⟩, ⟨2, 5⟩, ⟨1, 5⟩, ⟨0, 1⟩] :=
  least_is (m := 5) (L := [([1, 0, 0, 0, 0], 0), ([0, 1, 0, 0, 0], 0), ([0, 0, 1, 0, 0], 0), ([0, 0, 0, 1, 0], 0), ([0, 0, 0, 0, 1], 0), ([(-1), 2, 2, (-1), (-1)], 1), ([1, 2, (-2), (-1), 1], 1), ([3, (-2), (-2), 3, (-1)], 1), ([5, (-10), 10, (-5), 1], 1)]) (by decide +kernel) (by decide) 1 (cost_val 5) (corner_mem [4, 5, 6, 7, 8] (by decide +kernel) (by decide +kernel) (by decide +kernel)) (b0 := 15) (q0 := 1) (ks0 := [0, 0, 0, 0, 16, 10, 0, 5, 0]) (ks := [(4, [0, 0, 0, 0, 0, 4, 5, 5, 5, 1]), (8, [1, 0, 0, 0, 0, 0, 20, 20, 10, 10, 0]), (8, [1, 0, 0, 0, 0, 0, 0, 40, 30, 0, 10, 0]), (4, [0, 0, 1, 0, 0, 0, 0, 0, 20, 10, 0, 10, 0]), (1, [0, 0, 0, 0, 0, 0, 0, 0, 0, 1, 0, 0, 0, 0])]) rfl (by decide) (by decide) (by decide +kernel) (by decide +kernel)
theorem spread_5_2 : Kh408.spread ⟨5, 2⟩ = some [⟨10, 1⟩, ⟨0, 1⟩, ⟨5, 1⟩, ⟨0, 1⟩] :=
  least_is (m := 4) (L := [([1, 0, 0, 0], 0), ([0, 1, 0, 0], 0), ([0, 0, 1, 0], 0), ([0, 0, 0, 1], 0), ([1, (-1), (-3), (-5)], (-5)), ([(-2), (-2), 2, 10], (-10)), ([(-2), 2, 2, (-10)], (-10)), ([1, 1, (-3), 5], (-5)), ([1, (-1), 1, (-1)], (-1))]) (by decide +kernel) (by decide) (-1) (less_all_val 4) (corner_mem [1, 3, 4, 5] (by decide +kernel) (by decide +kernel) (by decide +kernel)) (b0 := (-150)) (q0 := 10) (ks0 := [0, 8, 0, 0, 10, 7, 3, 0, 0]) (ks := [(8, [1, 0, 0, 0, 0, 6, 3, 1, 0, 0]), (1, [0, 0, 0, 1, 0, 0, 0, 0, 0, 0, 0]), (8, [16, 3, 2, 0, 0, 0, 0, 4, 0, 0, 0, 0]), (40, [5, 40, 5, 4, 0, 0, 0, 0, 0, 0, 0, 0, 0])]) rfl (by decide) (by decide) (by decide +kernel) (by decide +kernel)
theorem best_5_3 : Kh408.bestProof ⟨5, 3⟩ = some [⟨1, 2⟩, ⟨0, 1⟩, ⟨0, 1⟩, ⟨0, 1⟩, ⟨1, 2⟩] :=
  least_is (m := 5) (L := [([1, 0, 0, 0, 0], 0), ([0, 1, 0, 0, 0], 0), ([0, 0, 1, 0, 0], 0), ([0, 0, 0, 1, 0], 0), ([0, 0, 0, 0, 1], 0), ([1, 2, (-2), (-1), 1], 1), ([3, (-2), (-2), 3, (-1)], 1), ([5, (-10), 10, (-5), 1], 1)]) (by decide +kernel) (by decide) 1 (cost_val 5) (corner_mem [1, 2, 3, 5, 6] (by decide +kernel) (by decide +kernel) (by decide +kernel)) (b0 := 3) (q0 := 1) (ks0 := [0, 8, 16, 4, 0, 2, 1, 0]) (ks := [(4, [1, 0, 8, 24, 0, 0, 4, 3, 0]), (1, [0, 0, 0, 1, 0, 0, 0, 0, 0, 0]), (1, [0, 0, 0, 0, 0, 1, 0, 0, 0, 0, 0]), (1, [0, 0, 0, 0, 0, 0, 0, 1, 0, 0, 0, 0]), (4, [0, 0, 16, 1, 0, 0, 0, 16, 8, 0, 8, 0, 0])]) rfl (by decide) (by decide) (by decide +kernel) (by decide +kernel)
theorem spread_5_3 : Kh408.spread ⟨5, 3⟩ = some [⟨2, 1⟩, ⟨1, 1⟩, ⟨0, 1⟩] :=
  least_is (m := 3) (L := [([1, 0, 0], 0), ([0, 1, 0], 0), ([0, 0, 1], 0), ([(-1), (-3), (-5)], (-5)), ([(-2), 2, 10], (-10)), ([2, 2, (-10)], (-10)), ([1, (-3), 5], (-5)), ([(-1), 1, (-1)], (-1))]) (by decide +kernel) (by decide) (-1) (less_all_val 3) (corner_mem [2, 3, 7] (by decide +kernel) (by decide +kernel) (by decide +kernel)) (b0 := (-6)) (q0 := 2) (ks0 := [0, 0, 4, 1, 0, 0, 0, 1]) (ks := [(4, [3, 0, 0, 4, 2, 0, 0, 0, 0]), (4, [2, 5, 0, 0, 0, 2, 0, 0, 0, 0]), (4, [1, 1, 2, 0, 0, 0, 0, 0, 0, 0, 0])]) rfl (by decide) (by decide) (by decide +kernel) (by decide +kernel)
theorem best_5_4 : Kh408.bestProof ⟨5, 4⟩ = some [⟨4, 15⟩, ⟨0, 1⟩, ⟨0, 1⟩, ⟨1, 15⟩, ⟨0, 1⟩] :=
  least_is (m := 5) (L := [([1, 0, 0, 0, 0], 0), ([0, 1, 0, 0, 0], 0), ([0, 0, 1, 0, 0], 0), ([0, 0, 0, 1, 0], 0), ([0, 0, 0, 0, 1], 0), ([3, (-2), (-2), 3, (-1)], 1), ([5, (-10), 10, (-5), 1], 1)]) (by decide +kernel) (by decide) 1 (cost_val 5) (corner_mem [1, 2, 4, 5, 6] (by decide +kernel) (by decide +kernel) (by decide +kernel)) (b0 := 5) (q0 := 3) (ks0 := [0, 40, 40, 0, 8, 5, 0]) (ks := [(4, [1, 0, 120, 0, 0, 12, 15, 6]), (1, [0, 0, 0, 1, 0, 0, 0, 0, 0]), (1, [0, 0, 0, 0, 0, 1, 0, 0, 0, 0]), (4, [0, 0, 1, 0, 0, 40, 40, 0, 20, 20, 0]), (1, [0, 0, 0, 0, 0, 0, 0, 0, 0, 1, 0, 0])]) rfl (by decide) (by decide) (by decide +kernel) (by decide +kernel)
theorem spread_5_4 : Kh408.spread ⟨5, 4⟩ = some [⟨5, 3⟩, ⟨0, 1⟩] :=
  least_is (m := 2) (L := [([1, 0], 0), ([0, 1], 0), ([(-3), (-5)], (-5)), ([2, 10], (-10)), ([2, (-10)], (-10)), ([(-3), 5], (-5)), ([1, (-1)], (-1))]) (by decide +kernel) (by decide) (-1) (less_all_val 2) (corner_mem [1, 2] (by decide +kernel) (by decide +kernel) (by decide +kernel)) (b0 := (-5)) (q0 := 3) (ks0 := [0, 2, 1, 0, 0, 0, 0]) (ks := [(2, [5, 0, 0, 3, 0, 0, 0, 0]), (6, [1, 2, 0, 0, 0, 0, 0, 0, 0])]) rfl (by decide) (by decide) (by decide +kernel) (by decide +kernel)
theorem best_5_5 : Kh408.bestProof ⟨5, 5⟩ = some [⟨0, 1⟩, ⟨0, 1⟩, ⟨0, 1⟩, ⟨0, 1⟩, ⟨1, 1⟩] :=
  least_is (m := 5) (L := [([1, 0, 0, 0, 0], 0), ([0, 1, 0, 0, 0], 0), ([0, 0, 1, 0, 0], 0), ([0, 0, 0, 1, 0], 0), ([0, 0, 0, 0, 1], 0), ([5, (-10), 10, (-5), 1], 1)]) (by decide +kernel) (by decide) 1 (cost_val 5) (corner_mem [0, 1, 2, 3, 5] (by decide +kernel) (by decide +kernel) (by decide +kernel)) (b0 := 1) (q0 := 1) (ks0 := [0, 20, 0, 10, 0, 1]) (ks := [(1, [0, 1, 0, 0, 0, 0, 0]), (1, [0, 0, 0, 1, 0, 0, 0, 0]), (1, [0, 0, 0, 0, 0, 1, 0, 0, 0]), (1, [0, 0, 0, 0, 0, 0, 0, 1, 0, 0]), (1, [0, 10, 0, 5, 0, 0, 10, 0, 5, 0, 1])]) rfl (by decide) (by decide) (by decide +kernel) (by decide +kernel)
theorem spread_5_5 : Kh408.spread ⟨5, 5⟩ = some [⟨1, 1⟩] :=
  least_is (m := 1) (L := [([1], 0), ([(-5)], (-5)), ([10], (-10)), ([(-10)], (-10)), ([5], (-5)), ([(-1)], (-1))]) (by decide +kernel) (by decide) (-1) (less_all_val 1) (corner_mem [1] (by decide +kernel) (by decide +kernel) (by decide +kernel)) (b0 := (-5)) (q0 := 5) (ks0 := [0, 1, 0, 0, 0, 0]) (ks := [(5, [1, 0, 0, 0, 0, 0, 0])]) rfl (by decide) (by decide) (by decide +kernel) (by decide +kernel)
theorem best_6_1 : Kh408.bestProof ⟨6, 1⟩ = some [⟨1, 1⟩, ⟨1, 1⟩, ⟨1, 1⟩, ⟨1, 1⟩, ⟨1, 1⟩, ⟨1, 1⟩] :=
  least_is (m := 6) (L := [([1, 0, 0, 0, 0, 0], 0), ([0, 1, 0, 0, 0, 0], 0), ([0, 0, 1, 0, 0, 0], 0), ([0, 0, 0, 1, 0, 0], 0), ([0, 0, 0, 0, 1, 0], 0), ([0, 0, 0, 0, 0, 1], 0), ([(-4), (-5), 0, 5, 4, 1], 1), ([(-2), 1, 4, 1, (-2), (-1)], 1), ([0, 3, 0, (-3), 0, 1], 1), ([2, 1, (-4), 1, 2, (-1)], 1), ([4, (-5), 0, 5, (-4), 1], 1), ([6, (-15), 20, (-15), 6, (-1)], 1)]) (by decide +kernel) (by decide) 1 (cost_val 6) (corner_mem [6, 7, 8, 9, 10, 11] (by decide +kernel) (by decide +kernel) (by decide +kernel)) (b0 := 63) (q0 := 1) (ks0 := [0, 0, 0, 0, 0, 0, 6, 15, 20, 15, 6, 1]) (ks := [(32, [0, 0, 0, 0, 0, 0, 0, 1, 5, 10, 10, 5, 1]), (16, [0, 0, 0, 0, 0, 0, 0, 0, 1, 4, 6, 4, 1, 0]), (32, [0, 0, 0, 0, 0, 0, 0, 0, 0, 3, 9, 10, 6, 3, 1]), (8, [0, 0, 0, 0, 0, 0, 0, 0, 0, 0, 1, 2, 2, 2, 1, 0]), (32, [0, 0, 0, 0, 0, 0, 0, 0, 0, 0, 0, 5, 5, 10, 10, 1, 1]), (16, [0, 0, 0, 0, 0, 0, 0, 0, 0, 0, 0, 0, 3, 0, 10, 0, 3, 0])]) rfl (by decide) (by decide) (by decide +kernel) (by decide +kernel)
theorem spread_6_1 : Kh408.spread ⟨6, 1⟩ = some [⟨6, 1⟩, ⟨15, 1⟩, ⟨20, 1⟩, ⟨15, 1⟩, ⟨6, 1⟩, ⟨1, 1⟩] :=
  least_is (m := 6) (L := [([1, 0, 0, 0, 0, 0], 0), ([0, 1, 0, 0, 0, 0], 0), ([0, 0, 1, 0, 0, 0], 0), ([0, 0, 0, 1, 0, 0], 0), ([0, 0, 0, 0, 1, 0], 0), ([0, 0, 0, 0, 0, 1], 0), ([4, 2, 0, (-2), (-4), (-6)], (-6)), ([5, (-1), (-3), (-1), 5, 15], (-15)), ([0, (-4), 0, 4, 0, (-20)], (-20)), ([(-5), (-1), 3, (-1), (-5), 15], (-15)), ([(-4), 2, 0, (-2), 4, (-6)], (-6)), ([(-1), 1, (-1), 1, (-1), 1], (-1))]) (by decide +kernel) (by decide) (-1) (less_all_val 6) (corner_mem [6, 7, 8, 9, 10, 11] (by decide +kernel) (by decide +kernel) (by decide +kernel)) (b0 := (-63)) (q0 := 1) (ks0 := [0, 0, 0, 0, 0, 0, 1, 1, 1, 1, 1, 1]) (ks := [(32, [6, 0, 0, 0, 0, 0, 0, 5, 4, 3, 2, 1, 0]), (32, [5, 30, 0, 0, 0, 0, 0, 0, 20, 12, 6, 2, 0, 0]), (16, [2, 5, 40, 0, 0, 0, 0, 0, 0, 20, 8, 2, 0, 0, 0]), (16, [3, 3, 5, 60, 0, 0, 0, 0, 0, 0, 20, 4, 0, 0, 0, 0]), (32, [4, 6, 4, 5, 96, 0, 0, 0, 0, 0, 0, 16, 0, 0, 0, 0, 0]), (32, [1, 2, 2, 1, 1, 32, 0, 0, 0, 0, 0, 0, 0, 0, 0, 0, 0, 0])]) rfl (by decide) (by decide) (by decide +kernel) (by decide +kernel)
theorem best_6_2 : Kh408.bestProof ⟨6, 2⟩ = some [⟨5, 6⟩, ⟨2, 3⟩, ⟨1, 2⟩, ⟨1, 3⟩, ⟨1, 6⟩, ⟨0, 1⟩] :=
  least_is (m := 6) (L := [([1, 0, 0, 0, 0, 0], 0), ([0, 1, 0, 0, 0, 0], 0), ([0, 0, 1, 0, 0, 0], 0), ([0, 0, 0, 1, 0, 0], 0), ([0, 0, 0, 0, 1, 0], 0), ([0, 0, 0, 0, 0, 1], 0), ([(-2), 1, 4, 1, (-2), (-1)], 1), ([0, 3, 0, (-3), 0, 1], 1), ([2, 1, (-4), 1, 2, (-1)], 1), ([4, (-5), 0, 5, (-4), 1], 1), ([6, (-15), 20, (-15), 6, (-1)], 1)]) (by decide +kernel) (by decide) 1 (cost_val 6) (corner_mem [5, 6, 7, 8, 9, 10] (by decide +kernel) (by decide +kernel) (by decide +kernel)) (b0 := 31) (q0 := 1) (ks0 := [0, 0, 0, 0, 0, 32, 15, 0, 15, 0, 1]) (ks := [(16, [0, 0, 0, 0, 0, 0, 16, 15, 20, 30, 12, 3]), (4, [0, 0, 0, 0, 0, 0, 0, 4, 3, 2, 3, 0, 0]), (16, [0, 0, 0, 0, 0, 0, 0, 0, 16, 9, 0, 6, 0, 1]), (4, [0, 1, 0, 0, 0, 0, 0, 0, 0, 12, 6, 0, 6, 0, 0]), (16, [0, 0, 0, 1, 0, 0, 0, 0, 0, 0, 96, 30, 0, 60, 0, 6]), (1, [0, 0, 0, 0, 0, 0, 0, 0, 0, 0, 0, 1, 0, 0, 0, 0, 0])]) rfl (by decide) (by decide) (by decide +kernel) (by decide +kernel)
theorem spread_6_2 : Kh408.spread ⟨6, 2⟩ = some [⟨15, 1⟩, ⟨0, 1⟩, ⟨15, 1⟩, ⟨0, 1⟩, ⟨1, 1⟩] :=
  least_is (m := 5) (L := [([1, 0, 0, 0, 0], 0), ([0, 1, 0, 0, 0], 0), ([0, 0, 1, 0, 0], 0), ([0, 0, 0, 1, 0], 0), ([0, 0, 0, 0, 1], 0), ([2, 0, (-2), (-4), (-6)], (-6)), ([(-1), (-3), (-1), 5, 15], (-15)), ([(-4), 0, 4, 0, (-20)], (-20)), ([(-1), 3, (-1), (-5), 15], (-15)), ([2, 0, (-2), 4, (-6)], (-6)), ([1, (-1), 1, (-1), 1], (-1))]) (by decide +kernel) (by decide) (-1) (less_all_val 5) (corner_mem [1, 3, 5, 6, 7] (by decide +kernel) (by decide +kernel) (by decide +kernel)) (b0 := (-310)) (q0 := 10) (ks0 := [0, 8, 0, 0, 0, 10, 8, 5, 2, 0, 0]) (ks := [(32, [3, 0, 0, 0, 0, 0, 20, 12, 6, 2, 0, 0]), (1, [0, 0, 0, 1, 0, 0, 0, 0, 0, 0, 0, 0, 0]), (16, [48, 3, 6, 0, 0, 0, 0, 0, 20, 4, 0, 0, 0, 0]), (1, [0, 0, 0, 0, 0, 0, 0, 1, 0, 0, 0, 0, 0, 0, 0]), (160, [160, 10, 160, 5, 16, 0, 0, 0, 0, 0, 0, 0, 0, 0, 0, 0])]) rfl (by decide) (by decide) (by decide +kernel) (by decide +kernel)
theorem best_6_3 : Kh408.bestProof ⟨6, 3⟩ = some [⟨1, 2⟩, ⟨0, 1⟩, ⟨0, 1⟩, ⟨0, 1⟩, ⟨1, 2⟩, ⟨1, 1⟩] :=
  least_is (m := 6) (L := [([1, 0, 0, 0, 0, 0], 0), ([0, 1, 0, 0, 0, 0], 0), ([0, 0, 1, 0, 0, 0], 0), ([0, 0, 0, 1, 0, 0], 0), ([0, 0, 0, 0, 1, 0], 0), ([0, 0, 0, 0, 0, 1], 0), ([0, 3, 0, (-3), 0, 1], 1), ([2, 1, (-4), 1, 2, (-1)], 1), ([4, (-5), 0, 5, (-4), 1], 1), ([6, (-15), 20, (-15), 6, (-1)], 1)]) (by decide +kernel) (by decide) 1 (cost_val 6) (corner_mem [1, 2, 3, 6, 7, 8] (by decide +kernel) (by decide +kernel) (by decide +kernel)) (b0 := 7) (q0 := 1) (ks0 := [0, 0, 32, 24, 0, 0, 4, 3, 0, 0]) (ks := [(24, [1, 0, 0, 80, 0, 0, 0, 10, 15, 6, 0]), (1, [0, 0, 0, 1, 0, 0, 0, 0, 0, 0, 0, 0]), (1, [0, 0, 0, 0, 0, 1, 0, 0, 0, 0, 0, 0, 0]), (1, [0, 0, 0, 0, 0, 0, 0, 1, 0, 0, 0, 0, 0, 0]), (24, [0, 0, 96, 1, 0, 0, 0, 96, 48, 0, 0, 24, 24, 0, 0]), (1, [0, 0, 0, 3, 0, 0, 0, 0, 0, 3, 0, 0, 1, 0, 0, 0])]) rfl (by decide) (by decide) (by decide +kernel) (by decide +kernel)
theorem spread_6_3 : Kh408.spread ⟨6, 3⟩ = some [⟨4, 1⟩, ⟨3, 1⟩, ⟨0, 1⟩, ⟨0, 1⟩] :=
  least_is (m := 4) (L := [([1, 0, 0, 0], 0), ([0, 1, 0, 0], 0), ([0, 0, 1, 0], 0), ([0, 0, 0, 1], 0), ([0, (-2), (-4), (-6)], (-6)), ([(-3), (-1), 5, 15], (-15)), ([0, 4, 0, (-20)], (-20)), ([3, (-1), (-5), 15], (-15)), ([0, (-2), 4, (-6)], (-6)), ([(-1), 1, (-1), 1], (-1))]) (by decide +kernel) (by decide) (-1) (less_all_val 4) (corner_mem [2, 3, 4, 5] (by decide +kernel) (by decide +kernel) (by decide +kernel)) (b0 := (-42)) (q0 := 6) (ks0 := [0, 0, 8, 0, 4, 1, 0, 0, 0, 3]) (ks := [(6, [1, 0, 0, 6, 12, 3, 0, 0, 0, 0, 0]), (6, [2, 2, 0, 0, 0, 6, 3, 0, 0, 0, 0, 0]), (1, [0, 0, 0, 0, 0, 1, 0, 0, 0, 0, 0, 0, 0]), (6, [6, 1, 1, 1, 0, 0, 0, 0, 0, 0, 0, 0, 0, 0])]) rfl (by decide) (by decide) (by decide +kernel) (by decide +kernel)
theorem best_6_4 : Kh408.bestProof ⟨6, 4⟩ = some [⟨3, 8⟩, ⟨0, 1⟩, ⟨0, 1⟩, ⟨0, 1⟩, ⟨1, 8⟩, ⟨0, 1⟩] :=
  least_is (m := 6) (L := [([1, 0, 0, 0, 0, 0], 0), ([0, 1, 0, 0, 0, 0], 0), ([0, 0, 1, 0, 0, 0], 0), ([0, 0, 0, 1, 0, 0], 0), ([0, 0, 0, 0, 1, 0], 0), ([0, 0, 0, 0, 0, 1], 0), ([2, 1, (-4), 1, 2, (-1)], 1), ([4, (-5), 0, 5, (-4), 1], 1), ([6, (-15), 20, (-15), 6, (-1)], 1)]) (by decide +kernel) (by decide) 1 (cost_val 6) (corner_mem [1, 2, 3, 5, 6, 7] (by decide +kernel) (by decide +kernel) (by decide +kernel)) (b0 := 3) (q0 := 1) (ks0 := [0, 12, 32, 12, 0, 4, 3, 0, 0]) (ks := [(12, [7, 0, 120, 320, 0, 0, 40, 45, 12, 0]), (1, [0, 0, 0, 1, 0, 0, 0, 0, 0, 0, 0]), (1, [0, 0, 0, 0, 0, 1, 0, 0, 0, 0, 0, 0]), (1, [0, 0, 0, 0, 0, 0, 0, 1, 0, 0, 0, 0, 0]), (12, [48, 0, 48, 1, 0, 0, 0, 192, 0, 0, 48, 48, 0, 0]), (1, [0, 0, 0, 0, 0, 0, 0, 0, 0, 0, 0, 1, 0, 0, 0])]) rfl (by decide) (by decide) (by decide +kernel) (by decide +kernel)
theorem spread_6_4 : Kh408.spread ⟨6, 4⟩ = some [⟨3, 1⟩, ⟨0, 1⟩, ⟨0, 1⟩] :=
  least_is (m := 3) (L := [([1, 0, 0], 0), ([0, 1, 0], 0), ([0, 0, 1], 0), ([(-2), (-4), (-6)], (-6)), ([(-1), 5, 15], (-15)), ([4, 0, (-20)], (-20)), ([(-1), (-5), 15], (-15)), ([(-2), 4, (-6)], (-6)), ([1, (-1), 1], (-1))]) (by decide +kernel) (by decide) (-1) (less_all_val 3) (corner_mem [1, 2, 3] (by decide +kernel) (by decide +kernel) (by decide +kernel)) (b0 := (-6)) (q0 := 2) (ks0 := [0, 2, 4, 1, 0, 0, 0, 0, 0]) (ks := [(2, [2, 0, 0, 2, 1, 0, 0, 0, 0, 0]), (1, [0, 0, 0, 1, 0, 0, 0, 0, 0, 0, 0]), (2, [2, 1, 1, 0, 0, 0, 0, 0, 0, 0, 0, 0])]) rfl (by decide) (by decide) (by decide +kernel) (by decide +kernel)
theorem best_6_5 : Kh408.bestProof ⟨6, 5⟩ = some [⟨1, 5⟩, ⟨0, 1⟩, ⟨0, 1⟩, ⟨0, 1⟩, ⟨0, 1⟩, ⟨1, 5⟩] :=
  least_is (m := 6) (L := [([1, 0, 0, 0, 0, 0], 0), ([0, 1, 0, 0, 0, 0], 0), ([0, 0, 1, 0, 0, 0], 0), ([0, 0, 0, 1, 0, 0], 0), ([0, 0, 0, 0, 1, 0], 0), ([0, 0, 0, 0, 0, 1], 0), ([4, (-5), 0, 5, (-4), 1], 1), ([6, (-15), 20, (-15), 6, (-1)], 1)]) (by decide +kernel) (by decide) 1 (cost_val 6) (corner_mem [1, 2, 3, 4, 6, 7] (by decide +kernel) (by decide +kernel) (by decide +kernel)) (b0 := 7) (q0 := 5) (ks0 := [0, 120, 80, 60, 48, 0, 6, 1]) (ks := [(8, [1, 0, 200, 0, 100, 40, 0, 10, 5]), (1, [0, 0, 0, 1, 0, 0, 0, 0, 0, 0]), (1, [0, 0, 0, 0, 0, 1, 0, 0, 0, 0, 0]), (1, [0, 0, 0, 0, 0, 0, 0, 1, 0, 0, 0, 0]), (1, [0, 0, 0, 0, 0, 0, 0, 0, 0, 1, 0, 0, 0]), (2, [0, 50, 0, 0, 1, 0, 0, 50, 0, 0, 40, 0, 10, 0])]) rfl (by decide) (by decide) (by decide +kernel) (by decide +kernel)
theorem spread_6_5 : Kh408.spread ⟨6, 5⟩ = some [⟨6, 5⟩, ⟨1, 5⟩] :=
  least_is (m := 2) (L := [([1, 0], 0), ([0, 1], 0), ([(-4), (-6)], (-6)), ([5, 15], (-15)), ([0, (-20)], (-20)), ([(-5), 15], (-15)), ([4, (-6)], (-6)), ([(-1), 1], (-1))]) (by decide +kernel) (by decide) (-1) (less_all_val 2) (corner_mem [2, 7] (by decide +kernel) (by decide +kernel) (by decide +kernel)) (b0 := (-7)) (q0 := 5) (ks0 := [0, 0, 1, 0, 0, 0, 0, 1]) (ks := [(2, [6, 0, 0, 5, 0, 0, 0, 0, 0]), (2, [1, 2, 0, 0, 0, 0, 0, 0, 0, 0])]) rfl (by decide) (by decide) (by decide +kernel) (by decide +kernel)
theorem best_6_6 : Kh408.bestProof ⟨6, 6⟩ = some [⟨0, 1⟩, ⟨0, 1⟩, ⟨0, 1⟩, ⟨0, 1⟩, ⟨1, 6⟩, ⟨0, 1⟩] :=
  least_is (m := 6) (L := [([1, 0, 0, 0, 0, 0], 0), ([0, 1, 0, 0, 0, 0], 0), ([0, 0, 1, 0, 0, 0], 0), ([0, 0, 0, 1, 0, 0], 0), ([0, 0, 0, 0, 1, 0], 0), ([0, 0, 0, 0, 0, 1], 0), ([6, (-15), 20, (-15), 6, (-1)], 1)]) (by decide +kernel) (by decide) 1 (cost_val 6) (corner_mem [0, 1, 2, 3, 5, 6] (by decide +kernel) (by decide +kernel) (by decide +kernel)) (b0 := 1) (q0 := 1) (ks0 := [0, 30, 0, 30, 0, 2, 1]) (ks := [(1, [0, 1, 0, 0, 0, 0, 0, 0]), (1, [0, 0, 0, 1, 0, 0, 0, 0, 0]), (1, [0, 0, 0, 0, 0, 1, 0, 0, 0, 0]), (1, [0, 0, 0, 0, 0, 0, 0, 1, 0, 0, 0]), (1, [0, 20, 0, 6, 0, 0, 15, 0, 15, 0, 1, 1]), (1, [0, 0, 0, 0, 0, 0, 0, 0, 0, 0, 0, 1, 0])]) rfl (by decide) (by decide) (by decide +kernel) (by decide +kernel)
theorem spread_6_6 : Kh408.spread ⟨6, 6⟩ = some [⟨1, 1⟩] :=
  least_is (m := 1) (L := [([1], 0), ([(-6)], (-6)), ([15], (-15)), ([(-20)], (-20)), ([15], (-15)), ([(-6)], (-6)), ([1], (-1))]) (by decide +kernel) (by decide) (-1) (less_all_val 1) (corner_mem [1] (by decide +kernel) (by decide +kernel) (by decide +kernel)) (b0 := (-6)) (q0 := 6) (ks0 := [0, 1, 0, 0, 0, 0, 0]) (ks := [(6, [1, 0, 0, 0, 0, 0, 0, 0])]) rfl (by decide) (by decide) (by decide +kernel) (by decide +kernel)
end FwL

set_option Elab.async false
set_option linter.all false
set_option maxRecDepth 100000
set_option maxHeartbeats 2000000
/-! Words of my own over the hand layer: a def, a method, a whole number of the top, by one hypothesis each. -/
namespace Fw
open PySem PySem.Spec PyProof.Rows L2 Evl
/-- a def of the top that keeps its promise -/
def Cal (P : Program) (w : World) (K : PySem.W.Frag) (mg : Str → Option Value) (base : Heap) (x : Str) (k : Nat) (ps : List Str) (sp : Sp) : Prop :=
  ∃ (f : Addr) (fd : FuncData), mg x = some (.ref f) ∧ PySem.W.keepIn K (.ref f) = true ∧ Binds K fd ps [] ∧ FnOk P w K mg base CX0 k f fd ps sp
/-- a method of the class at C that keeps its promise -/
def Met (P : Program) (w : World) (K : PySem.W.Frag) (mg : Str → Option Value) (base : Heap) (C : Addr) (m : Str) (k : Nat) (ps : List Str) (sp : Sp) : Prop :=
  Cls K C ∧ ∃ (f : Addr) (fd : FuncData), Meth K C m f ∧ Binds K fd ps [] ∧ FnOk P w K mg base CX0 k f fd ps sp
/-- a class whose __init__ keeps its promise -/
def Mkc (P : Program) (w : World) (K : PySem.W.Frag) (mg : Str → Option Value) (base : Heap) (x : Str) (C : Addr) (k : Nat) (ps : List Str) (sp : Sp) : Prop :=
  mg x = some (.ref C) ∧ ∃ (f : Addr) (fd : FuncData), Mk K C f ∧ Binds K fd ps [] ∧ FnOk P w K mg base CX0 k f fd ps sp
/-- a whole number of the top -/
def GInt (mg : Str → Option Value) (x : Str) (i : Int) : Prop := ∃ u, mg x = some u ∧ RelV (.int i) u
section
variable {X : Cx} {x m : Str} {k : Nat} {C : Addr} {ps : List Str} {sp : Sp} {e o : Expr} {es : List Expr} {t : TA} {ta : TE} {p pos apos : Pos}
theorem pe_cal (c : Cal X.prog X.w X.K X.mg X.base x k ps sp) (hr : Room k X.A) (ha : PA X (e :: es) t) (hg : Gl X x := by rfl) (hdb : (x == ("__debug__" : Str)) = false := by decide)
    (he : starEach (e :: es) X.env = (false, eval e X.env) :: starEach es X.env := by rfl) (hpl : (backTo pos (starEach es X.env)).any (·.1) = false := by rfl) :
    PE X (.Call (.Name x p) (e :: es) [] pos) (tCall sp [] E0 t) := by
  obtain ⟨f, fd, h1, h2, h3, h4⟩ := c
  exact pe_call h4 hr hg h1 h2 h3 .nil pass0 ha hdb he hpl
theorem pe_cal0 (c : Cal X.prog X.w X.K X.mg X.base x k ps sp) (hr : Room k X.A) (hg : Gl X x := by rfl) (hdb : (x == ("__debug__" : Str)) = false := by decide) : PE X (.Call (.Name x p) [] [] pos) (tCall sp [] E0 tNil) := by
  obtain ⟨f, fd, h1, h2, h3, h4⟩ := c
  exact pe_call0 h4 hr hg h1 h2 h3 .nil pass0 hdb
theorem pe_met {pl : Sem Bool} (he : PE X o ta) (c : Met X.prog X.w X.K X.mg X.base C m k ps sp) (hr : Room k X.A) (ha : PA X (e :: es) t)
    (hst : starEach (e :: es) X.env = (false, eval e X.env) :: starEach es X.env := by rfl) (hpl : (backTo pos (starEach es X.env)).any (·.1) = false := by rfl)
    (ht : eval (.Call (.Attribute o m apos) (e :: es) [] pos) X.env = (do
      let ov ← eval o X.env
      standAt apos.atName
      let (f, first) ← holding [ov] (getMethod ov m pl)
      callWith pos f first (backTo pos (starEach (e :: es) X.env)) (backToKw pos (keywordEach [] X.env))) := by rfl) :
    PE X (.Call (.Attribute o m apos) (e :: es) [] pos) (tMeth C m sp [] E0 ta t) := by
  obtain ⟨cl, f, fd, h1, h2, h3⟩ := c
  exact pe_meth he cl h1 h3 hr h2 .nil pass0 ha hst hpl ht
theorem pe_met0 {pl : Sem Bool} (he : PE X o ta) (c : Met X.prog X.w X.K X.mg X.base C m k ps sp) (hr : Room k X.A)
    (ht : eval (.Call (.Attribute o m apos) [] [] pos) X.env = (do
      let ov ← eval o X.env
      standAt apos.atName
      let (f, first) ← holding [ov] (getMethod ov m pl)
      callWith pos f first (backTo pos (starEach [] X.env)) (backToKw pos (keywordEach [] X.env))) := by rfl) :
    PE X (.Call (.Attribute o m apos) [] [] pos) (tMeth C m sp [] E0 ta tNil) := by
  obtain ⟨cl, f, fd, h1, h2, h3⟩ := c
  exact pe_meth0 he cl h1 h3 hr h2 .nil pass0 ht
theorem pe_mkc0 (c : Mkc X.prog X.w X.K X.mg X.base x C k ps sp) (hr : Room (k + 1) X.A) (hg : Gl X x := by rfl) (hdb : (x == ("__debug__" : Str)) = false := by decide) : PE X (.Call (.Name x p) [] [] pos) (tMake C sp [] E0 tNil) := by
  obtain ⟨h1, f, fd, h2, h3, h4⟩ := c
  exact pe_make0 h2 h4 hr hg h1 h3 .nil pass0 hdb
theorem pe_mkc (c : Mkc X.prog X.w X.K X.mg X.base x C k ps sp) (hr : Room (k + 1) X.A) (ha : PA X (e :: es) t) (hg : Gl X x := by rfl) (hdb : (x == ("__debug__" : Str)) = false := by decide)
    (he : starEach (e :: es) X.env = (false, eval e X.env) :: starEach es X.env := by rfl) (hpl : (backTo pos (starEach es X.env)).any (·.1) = false := by rfl) : PE X (.Call (.Name x p) (e :: es) [] pos) (tMake C sp [] E0 t) := by
  obtain ⟨h1, f, fd, h2, h3, h4⟩ := c
  exact pe_make h2 h4 hr hg h1 h3 .nil pass0 ha hdb he hpl
theorem pe_gi {i : Int} (g : GInt X.mg x i) (hg : Gl X x := by rfl) (hd : (x == ("__debug__" : Str)) = false := by decide) : PE X (.Name x pos) (tC (.int i)) := by
  obtain ⟨u, h1, h2⟩ := g
  exact pe_glob hg h1 h2 hd
end
section
variable {K : PySem.W.Frag} {σ : L2.St} {H H' : Hp} {ta tb te tx : TE} {t u : TT} {x y z v : V} {r : R2}
/-- o.f -/
theorem ev_fld {a C dx : Addr} {fs : List (Str × V)} {f : Str} (ha : Ev ta σ H (.ref a)) (ho : H a = some (.ins C dx fs)) (cl : Cls K C) (na : NoAttr K C f) (hf : fs.lookup f = some v) : Ev (tFld K ta f) σ H v := fun H1 e Q q =>
  ha H1 e _ fun H2 e2 => ⟨a, C, dx, fs, v, rfl, (e.trans e2) a _ ho, cl, na, hf, q H2 e2⟩
/-- o.m(..), a value, nothing that was there changed -/
theorem ev_meth {a C dx : Addr} {fs : List (Str × V)} {m : Str} {sp : Sp} {vs : List V} {E : XK} {tr : TA} (ha : Ev ta σ H (.ref a)) (ho : H a = some (.ins C dx fs)) (hm : fs.lookup m = none) (hv : EvA tr σ H vs) (hs : SpV sp (.ref a :: (vs ++ [])) H z) : Ev (tMeth C m sp [] E ta tr) σ H z := fun H1 e Q q =>
  ha H1 e _ fun H2 e2 => ⟨a, dx, fs, rfl, (e.trans e2) a _ ho, hm, hv H2 (e.trans e2) _ fun H3 e3 => hs H3 ((e.trans e2).trans e3) Q (fun H4 e4 => q H4 ((e2.trans e3).trans e4)) E⟩
/-- x is None, x is not None -/
theorem ev_isN (ha : Ev ta σ H x) : Ev (tOp (fun x y H Q => y = V.non ∧ Q (.bl (decide (x = .non))) H) ta (tC .non)) σ H (.bl (decide (x = .non))) :=
  ev_op ha ev_c fun H1 _ Q q => ⟨rfl, q H1 (Ex.refl H1)⟩
/-- a call of a built-in upon a new list -/
theorem ev_cb1L {r : List V → Hp → VK → Prop} {xs : List V} (h : EvL te σ H xs) (hr : ∀ p H1, Ex H H1 → H1 p = some (.lst xs) → RC r [.ref p] H1 z) : Ev (tCB r (tCons te tNil)) σ H z := fun H1 e Q q =>
  h H1 e _ fun p H2 _ e2 h2 => hr p H2 (e.trans e2) h2 H2 (Ex.refl H2) Q fun H3 e3 => q H3 (e2.trans e3)
/-- a new list and a new list, one behind the other -/
theorem el_cat {xs ys : List V} (ha : EvL ta σ H xs) (hb : EvL tb σ H ys) (hz : xs.length + ys.length ≤ 100000) : EvL (tOp rCat ta tb) σ H (xs ++ ys) := fun H1 e Q q =>
  ha H1 e _ fun p H2 hp e2 h2 => hb H2 (e.trans e2) _ fun p3 H3 hp3 e3 h3 => ⟨p, p3, xs, ys, rfl, rfl, e3 p _ h2, h3, sz_of hz, fun p4 h4 => q p4 _ (fresh_back (e2.trans e3) h4) ((e2.trans e3).trans (Ex.new h4)) upd_same⟩
end
end Fw

set_option Elab.async false
set_option linter.all false
set_option maxRecDepth 100000
set_option maxHeartbeats 2000000
namespace Fw
open PySem PySem.Spec PyProof.Rows L2 Evl
def top (i : Nat) : Stmt := PySem.Challenge.pw_farwordsdesk_s01_answers.main.body.getD i (.Pass ⟨0, 0, 0, 0⟩)
/-! ### numbers -/
theorem choose_step : ∀ n < 8, ∀ i < 7, ((Kh407.choose n i : Nat) : Int) * ((n : Int) - (i : Int)) / ((i : Int) + 1) = ((Kh407.choose n (i + 1) : Nat) : Int) := by decide +kernel
theorem choose_le : ∀ n < 8, ∀ i < 8, Kh407.choose n i ≤ 35 := by decide +kernel
def sgn (n k i j : Nat) : Int := (if j % 2 = 0 then (1 : Int) else -1) * Int.ofNat (Kh407.choose i j * Kh407.choose (n - i) (k - j))
theorem fold_more (f : Nat → Int) (j : Nat) : ((List.range (j + 1)).map f).foldl (· + ·) 0 = ((List.range j).map f).foldl (· + ·) 0 + f j := by
  rw [List.range_succ, List.map_append, List.foldl_append]
  rfl
theorem ixI {l : List Int} {i : Nat} {x : Int} (h : l[i]? = some x) : atI (l.map V.int) (i : Int) = some (.int x) := by
  have h2 : (l.map V.int)[i]? = some (.int x) := by rw [List.getElem?_map, h]; rfl
  exact atI_nat h2
section
variable {P : Program} {w : World} {K : PySem.W.Frag} {mg : Str → Option Value} {base : Heap} {C : Addr}
abbrev s_power_of_two : Stmt := top 1
theorem sc_power_of_two : FnScope ["exponent", "power", "step"] ["exponent"] (defScope s_power_of_two) := ⟨rfl, rfl, rfl, by decide +kernel, rfl, by decide +kernel, by decide +kernel⟩

def spPow : Sp := fun vs H Q _ => ∃ n : Nat, vs = [.int n] ∧ n ≤ 7 ∧ RetV (.int ((2 ^ n : Nat) : Int)) H Q
theorem ok_power_of_two {f : Addr} {fd : FuncData} (F : Fun K "power_of_two" "power_of_two" s_power_of_two f fd) (b_range : mg "range" = none) : FnOk P w K mg base CX0 1 f fd ["exponent"] spPow := by
  refine F.ok sc_power_of_two (fun vs H Q E h => ?_) (fun cdv A outer s H vs Q E hr h => ⟨_, (pss_cons (ps_set (i := 1) sc_power_of_two.nd rfl (Or.inl rfl) pe_int)
      (pss_cons (ps_for PassesOwn.never rfl (pi_range1 (by rfl) b_range (pa_cons (pv 0) pa_nil)) (pg_name (i := 2) sc_power_of_two.nd rfl (Or.inl rfl)) (pss_one (ps_set (i := 1) sc_power_of_two.nd rfl (Or.inl rfl) (pe_op op_mul (pv 1) pe_int))))
      (pss_one (ps_ret (pv 1))))), ?_⟩)
  · obtain ⟨n, rfl, _⟩ := h
    rfl
  · obtain ⟨n, rfl, hn, k⟩ := h
    refine q_asg ev_c fun H1 e1 => ?_
    refine q_forR1 (n := (n : Int)) (ea_cons (ev_var rfl) ea_nil) ⟨by omega, by omega⟩ (fun i σ' H' => (∃ v, σ' = [some (.int n), some (.int ((2 ^ i : Nat) : Int)), v]) ∧ Ex H H') (fun H2 e2 => ⟨⟨_, rfl⟩, e1.trans e2⟩) ?_ ?_
    · rintro i σ' H' hi ⟨⟨v, rfl⟩, e⟩
      refine s_asg (ev_is (w := .int ((2 ^ (i + 1) : Nat) : Int)) (ev_op (ev_var rfl) ev_c (rv_I (Or.inr (by constructor <;> decide)))) ?_) fun H2 e2 => ⟨⟨_, rfl⟩, e.trans e2⟩
      rw [Nat.pow_succ, Int.natCast_mul]
      rfl
    · rintro σ' H' ⟨⟨v, rfl⟩, e⟩
      exact s_ret (ev_var rfl) fun H2 e2 => k _ (e.trans e2)
abbrev s_choose : Stmt := top 2
theorem sc_choose : FnScope ["total", "size", "sets", "step"] ["total", "size"] (defScope s_choose) := ⟨rfl, rfl, rfl, by decide +kernel, rfl, by decide +kernel, by decide +kernel⟩

def spChoose : Sp := fun vs H Q _ => ∃ n k : Nat, vs = [.int n, .int k] ∧ n ≤ 7 ∧ k ≤ 7 ∧ RetV (.int ((Kh407.choose n k : Nat) : Int)) H Q
theorem ok_choose {f : Addr} {fd : FuncData} (F : Fun K "choose" "choose" s_choose f fd) (b_range : mg "range" = none) : FnOk P w K mg base CX0 1 f fd ["total", "size"] spChoose := by
  refine F.ok sc_choose (fun vs H Q E h => ?_) (fun cdv A outer s H vs Q E hr h => ⟨_, (pss_cons (ps_set (i := 2) sc_choose.nd rfl (Or.inl rfl) pe_int)
      (pss_cons (ps_for PassesOwn.never rfl (pi_range1 (by rfl) b_range (pa_cons (pv 1) pa_nil)) (pg_name (i := 3) sc_choose.nd rfl (Or.inl rfl)) (pss_one (ps_set (i := 2) sc_choose.nd rfl (Or.inl rfl) (pe_op op_fdiv (pe_op op_mul (pv 2) (pe_op op_sub (pv 0) (pv 3))) (pe_op op_add (pv 3) pe_int)))))
      (pss_one (ps_ret (pv 2))))), ?_⟩)
  · obtain ⟨n, k, rfl, _⟩ := h
    rfl
  · obtain ⟨n, kk, rfl, hn, hk, k⟩ := h
    refine q_asg ev_c fun H1 e1 => ?_
    refine q_forR1 (n := (kk : Int)) (ea_cons (ev_var rfl) ea_nil) ⟨by omega, by omega⟩ (fun i σ' H' => (∃ v, σ' = [some (.int n), some (.int kk), some (.int ((Kh407.choose n i : Nat) : Int)), v]) ∧ Ex H H') (fun H2 e2 => ⟨⟨none, ?_⟩, e1.trans e2⟩) ?_ ?_
    · have : Kh407.choose n 0 = 1 := by cases n <;> rfl
      rw [this]
      rfl
    · rintro i σ' H' hi ⟨⟨v, rfl⟩, e⟩
      have b := choose_le n (by omega) i (by omega)
      refine s_asg (ev_is (w := .int ((Kh407.choose n (i + 1) : Nat) : Int)) (ev_op (ev_op (ev_var rfl) (ev_op (ev_var rfl) (ev_var rfl) rv_I0) (rv_I (Or.inl ⟨by omega, by omega⟩))) (ev_op (ev_var rfl) ev_c rv_I0) (rv_I ⟨by omega, by omega⟩)) (congrArg V.int (choose_step n (by omega) i (by omega)))) fun H2 e2 => ⟨⟨_, rfl⟩, e.trans e2⟩
    · rintro σ' H' ⟨⟨v, rfl⟩, e⟩
      exact s_ret (ev_var rfl) fun H2 e2 => k _ (e.trans e2)
abbrev s_sign_sum : Stmt := top 3
theorem sc_sign_sum : FnScope ["bits", "k", "i", "together", "inside", "sets"] ["bits", "k", "i"] (defScope s_sign_sum) := ⟨rfl, rfl, rfl, by decide +kernel, rfl, by decide +kernel, by decide +kernel⟩

def spSign : Sp := fun vs H Q _ => ∃ n k i : Nat, vs = [.int n, .int k, .int i] ∧ n ≤ 7 ∧ k ≤ n ∧ i ≤ n ∧ RetV (.int (Kh407.sign n k i)) H Q
theorem ok_sign_sum {f : Addr} {fd : FuncData} (F : Fun K "sign_sum" "sign_sum" s_sign_sum f fd) (b_range : mg "range" = none) (c_choose : Cal P w K mg base "choose" 1 ["total", "size"] spChoose) : FnOk P w K mg base CX0 2 f fd ["bits", "k", "i"] spSign := by
  refine F.ok sc_sign_sum (fun vs H Q E h => ?_) (fun cdv A outer s H vs Q E hr h => ⟨_, (pss_cons (ps_set (i := 3) sc_sign_sum.nd rfl (Or.inl rfl) pe_int)
      (pss_cons (ps_for PassesOwn.never rfl (pi_range1 (by rfl) b_range (pa_cons (pe_op op_add (pv 1) pe_int) pa_nil)) (pg_name (i := 4) sc_sign_sum.nd rfl (Or.inl rfl)) (pss_cons (ps_set (i := 5) sc_sign_sum.nd rfl (Or.inl rfl) (pe_op op_mul (pe_cal c_choose (hr.mono (by decide)) (pa_cons (pv 2) (pa_cons (pv 4) pa_nil))) (pe_cal c_choose (hr.mono (by decide)) (pa_cons (pe_op op_sub (pv 0) (pv 2)) (pa_cons (pe_op op_sub (pv 1) (pv 4)) pa_nil)))))
      (pss_one (ps_if (pt_cmpR op_eq (pe_op op_mod (pv 4) pe_int) pe_int (nomark _)) (pss_one (ps_set (i := 3) sc_sign_sum.nd rfl (Or.inl rfl) (pe_op op_add (pv 3) (pv 5)))) (pss_one (ps_set (i := 3) sc_sign_sum.nd rfl (Or.inl rfl) (pe_op op_sub (pv 3) (pv 5))))))))
      (pss_one (ps_ret (pv 3))))), ?_⟩)
  · obtain ⟨n, k, i, rfl, _⟩ := h
    rfl
  · obtain ⟨n, kk, ii, rfl, hn, hk, hi, k⟩ := h
    refine q_asg ev_c fun H1 e1 => ?_
    refine q_forR1 (n := (kk : Int) + 1) (ea_cons (ev_op (ev_var rfl) ev_c rv_I0) ea_nil) ⟨by omega, by omega⟩ (fun j σ' H' => (∃ v u, σ' = [some (.int n), some (.int kk), some (.int ii), some (.int (((List.range j).map (sgn n kk ii)).foldl (· + ·) 0)), v, u]) ∧ Ex H H') (fun H2 e2 => ⟨⟨_, _, rfl⟩, e1.trans e2⟩) ?_ ?_
    · rintro j σ' H' hj ⟨⟨v, u, rfl⟩, e⟩
      have c1 := choose_le ii (by omega) j (by omega)
      refine q_asg (v := .int (((Kh407.choose ii j * Kh407.choose (n - ii) (kk - j) : Nat) : Int))) (ev_is (ev_op (ev_call (z := .int ((Kh407.choose ii j : Nat) : Int)) (ea_cons (ev_var rfl) (ea_cons (ev_var rfl) ea_nil)) fun H2 e2 Q2 q2 E2 => ⟨ii, j, rfl, by omega, by omega, q2⟩)
        (ev_call (z := .int ((Kh407.choose (n - ii) (kk - j) : Nat) : Int)) (ea_cons (ev_op (ev_var rfl) (ev_var rfl) rv_I0) (ea_cons (ev_op (ev_var rfl) (ev_var rfl) rv_I0) ea_nil)) fun H2 e2 Q2 q2 E2 => ⟨n - ii, kk - j, ?_, by omega, by omega, q2⟩) (rv_I (Or.inl ⟨by omega, by omega⟩))) (by rw [Int.natCast_mul])) fun H2 e2 => ?_
      · rw [Int.natCast_sub hi, Int.natCast_sub (by omega)]
        rfl
      refine s_if (b := decide (j % 2 = 0)) (et_test (ev_is (ev_op (ev_op (ev_var rfl) ev_c (rv_I (by show (0 : Int) < 2; decide))) ev_c (rv_eq rfl)) ?_)) ?_ ?_
      · have : ((j : Int) % 2 = 0) ↔ j % 2 = 0 := by omega
        simp [this]
      · intro hb H3 e3
        have hb' := of_decide_eq_true hb
        refine s_asg (ev_is (w := .int (((List.range (j + 1)).map (sgn n kk ii)).foldl (· + ·) 0)) (ev_op (ev_var rfl) (ev_var rfl) rv_I0) ?_) fun H4 e4 => ⟨⟨_, _, rfl⟩, ((e.trans e2).trans e3).trans e4⟩
        rw [fold_more]
        have : sgn n kk ii j = ((Kh407.choose ii j * Kh407.choose (n - ii) (kk - j) : Nat) : Int) := by
          unfold sgn
          rw [if_pos hb', Int.one_mul]
          rfl
        rw [this]
      · intro hb H3 e3
        have hb' := of_decide_eq_false hb
        refine s_asg (ev_is (w := .int (((List.range (j + 1)).map (sgn n kk ii)).foldl (· + ·) 0)) (ev_op (ev_var rfl) (ev_var rfl) rv_I0) ?_) fun H4 e4 => ⟨⟨_, _, rfl⟩, ((e.trans e2).trans e3).trans e4⟩
        rw [fold_more]
        have : sgn n kk ii j = -((Kh407.choose ii j * Kh407.choose (n - ii) (kk - j) : Nat) : Int) := by
          unfold sgn
          rw [if_neg hb', Int.neg_one_mul]
          rfl
        rw [this, ← Int.sub_eq_add_neg]
    · rintro σ' H' ⟨⟨v, u, rfl⟩, e⟩
      exact s_ret (ev_var rfl) fun H2 e2 => k _ (e.trans e2)
abbrev s_comes_to : Stmt := top 4
theorem sc_comes_to : FnScope ["bits", "numbers", "i", "together", "k"] ["bits", "numbers", "i"] (defScope s_comes_to) := ⟨rfl, rfl, rfl, by decide +kernel, rfl, by decide +kernel, by decide +kernel⟩

/-- numbers handed in as a list at a -/
def spComes (K : PySem.W.Frag) : Sp := fun vs H Q _ => ∃ (n : Nat) (a : Addr) (b : List Nat) (i : Nat), vs = [.int n, .ref a, .int i] ∧ SqL K H a ((b.map Int.ofNat).map V.int) ∧ n ≤ 7 ∧ i ≤ n ∧ b.length = n + 1 ∧ (∀ x ∈ b, x ≤ 1000) ∧ RetV (.int (Kh408.at_ n b i)) H Q
theorem ok_comes_to {f : Addr} {fd : FuncData} (F : Fun K "comes_to" "comes_to" s_comes_to f fd) (b_range : mg "range" = none) (c_sign_sum : Cal P w K mg base "sign_sum" 2 ["bits", "k", "i"] spSign) : FnOk P w K mg base CX0 3 f fd ["bits", "numbers", "i"] (spComes K) := by
  refine F.ok sc_comes_to (fun vs H Q E h => ?_) (fun cdv A outer s H vs Q E hr h => ⟨_, (pss_cons (ps_set (i := 3) sc_comes_to.nd rfl (Or.inl rfl) pe_int)
      (pss_cons (ps_for PassesOwn.never rfl (pi_range1 (by rfl) b_range (pa_cons (pe_op op_add (pv 0) pe_int) pa_nil)) (pg_name (i := 4) sc_comes_to.nd rfl (Or.inl rfl)) (pss_one (ps_set (i := 3) sc_comes_to.nd rfl (Or.inl rfl) (pe_op op_add (pv 3) (pe_op op_mul (pe_ix ix_list (pv 1) (pv 4) (fun _ _ => rfl)) (pe_cal c_sign_sum (hr.mono (by decide)) (pa_cons (pv 0) (pa_cons (pv 4) (pa_cons (pv 2) pa_nil)))))))))
      (pss_one (ps_ret (pv 3))))), ?_⟩)
  · obtain ⟨n, a, ns, i, rfl, _⟩ := h
    rfl
  · obtain ⟨n, a, b, ii, rfl, hS, hn, hi, hl, hb, k⟩ := h
    refine q_asg ev_c fun H1 e1 => ?_
    refine q_forR1 (n := (n : Int) + 1) (ea_cons (ev_op (ev_var rfl) ev_c rv_I0) ea_nil) ⟨by omega, by omega⟩ (fun j σ' H' => (∃ v, σ' = [some (.int n), some (.ref a), some (.int ii), some (.int (((List.range j).map fun k => Int.ofNat (b.getD k 0) * Kh407.sign n k ii).foldl (· + ·) 0)), v]) ∧ Ex H H') (fun H2 e2 => ⟨⟨_, rfl⟩, e1.trans e2⟩) ?_ ?_
    · rintro j σ' H' hj ⟨⟨v, rfl⟩, e⟩
      have hj' : j < b.length := by omega
      have hbj : b[j] ≤ 1000 := hb _ (List.getElem_mem hj')
      have eg : b.getD j 0 = b[j] := by simp [List.getD_eq_getElem?_getD, hj']
      have hx : (b.map Int.ofNat)[j]? = some (Int.ofNat (b.getD j 0)) := by rw [List.getElem?_map, List.getElem?_eq_getElem hj', eg]; rfl
      have hm : -(2 ^ 64 : Int) < Int.ofNat (b.getD j 0) ∧ Int.ofNat (b.getD j 0) < 2 ^ 64 := by
        have q : (Int.ofNat (b.getD j 0)) = ((b.getD j 0 : Nat) : Int) := rfl
        omega
      refine s_asg (ev_is (w := .int (((List.range (j + 1)).map fun k => Int.ofNat (b.getD k 0) * Kh407.sign n k ii).foldl (· + ·) 0)) (ev_op (ev_var rfl) (ev_op (ev_op (ev_var rfl) (ev_var rfl) (rv_ixL (ex_l e hS) (ixI hx)))
        (ev_call (z := .int (Kh407.sign n j ii)) (ea_cons (ev_var rfl) (ea_cons (ev_var rfl) (ea_cons (ev_var rfl) ea_nil))) fun H2 e2 Q2 q2 E2 => ⟨n, j, ii, rfl, by omega, by omega, by omega, q2⟩) (rv_I (Or.inl hm))) rv_I0) ?_) fun H4 e4 => ⟨⟨_, rfl⟩, e.trans e4⟩
      rw [fold_more]
    · rintro σ' H' ⟨⟨v, rfl⟩, e⟩
      exact s_ret (ev_var rfl) fun H2 e2 => k _ (e.trans e2)
abbrev s_common_part : Stmt := top 5
theorem sc_common_part : FnScope ["first", "second", "larger", "smaller", "rest"] ["first", "second"] (defScope s_common_part) := ⟨rfl, rfl, rfl, by decide +kernel, rfl, by decide +kernel, by decide +kernel⟩

def spCommon : Sp := fun vs H Q _ => ∃ n k : Nat, vs = [.int n, .int k] ∧ RetV (.int ((Nat.gcd k n : Nat) : Int)) H Q
theorem ok_common_part {f : Addr} {fd : FuncData} (F : Fun K "common_part" "common_part" s_common_part f fd)  : FnOk P w K mg base CX0 1 f fd ["first", "second"] spCommon := by
  refine F.ok sc_common_part (fun vs H Q E h => ?_) (fun cdv A outer s H vs Q E hr h => ⟨_, (pss_cons (ps_set (i := 2) sc_common_part.nd rfl (Or.inl rfl) (pv 0))
      (pss_cons (ps_set (i := 3) sc_common_part.nd rfl (Or.inl rfl) (pv 1))
      (pss_cons (ps_while PassesOwn.never (pt_cmpR op_gt (pv 3) pe_int (nomark _)) (pss_cons (ps_set (i := 4) sc_common_part.nd rfl (Or.inl rfl) (pe_op op_mod (pv 2) (pv 3)))
      (pss_cons (ps_set (i := 2) sc_common_part.nd rfl (Or.inl rfl) (pv 3))
      (pss_one (ps_set (i := 3) sc_common_part.nd rfl (Or.inl rfl) (pv 4))))))
      (pss_one (ps_ret (pv 2)))))), ?_⟩)
  · obtain ⟨n, k, rfl, _⟩ := h
    rfl
  · obtain ⟨n, m, rfl, k⟩ := h
    refine q_asg (ev_var rfl) fun H1 e1 => ?_
    refine q_asg (ev_var rfl) fun H2 e2 => ?_
    refine q_while (fun x σ' H' => (∃ (l : Nat) (v : Option V), σ' = [some (.int n), some (.int m), some (.int l), some (.int x), v] ∧ Nat.gcd x l = Nat.gcd m n) ∧ Ex H H') m ⟨⟨n, _, rfl, rfl⟩, e1.trans e2⟩ ?_
    rintro x σ' H' ⟨⟨l, v, rfl, g⟩, e⟩
    refine ⟨decide ((0 : Int) < x), et_test (ev_op (ev_var rfl) ev_c rv_I0), fun hb H3 e3 => ?_, fun hb H3 e3 => ?_⟩
    · have hx : (0 : Int) < x := of_decide_eq_true hb
      refine ⟨fun σ2 H4 => ∃ m', m' < x ∧ ((∃ (l : Nat) (v : Option V), σ2 = [some (.int n), some (.int m), some (.int l), some (.int m'), v] ∧ Nat.gcd m' l = Nat.gcd m n) ∧ Ex H H4), fun σ2 H4 q => q, ?_⟩
      refine q_asg (ev_is (w := .int ((l % x : Nat) : Int)) (ev_op (ev_var rfl) (ev_var rfl) (rv_I hx)) (by rw [Int.natCast_emod])) fun H4 e4 => ?_
      refine q_asg (ev_var rfl) fun H5 e5 => ?_
      refine s_asg (ev_var rfl) fun H6 e6 => ⟨l % x, Nat.mod_lt _ (by omega), ⟨x, _, rfl, ?_⟩, (((e.trans e3).trans e4).trans e5).trans e6⟩
      rw [← g, ← Nat.gcd_rec]
    · have hx : ¬ (0 : Int) < x := of_decide_eq_false hb
      have h0 : x = 0 := by omega
      subst h0
      rw [Nat.gcd_zero_left] at g
      subst g
      exact s_ret (ev_var rfl) fun H4 e4 => k _ ((e.trans e3).trans e4)
abbrev s_lowest_terms : Stmt := top 6
theorem sc_lowest_terms : FnScope ["above", "below", "common"] ["above", "below"] (defScope s_lowest_terms) := ⟨rfl, rfl, rfl, by decide +kernel, rfl, by decide +kernel, by decide +kernel⟩

def spLowest : Sp := fun vs H Q _ => ∃ n m : Nat, vs = [.int n, .int m] ∧ 0 < m ∧ m < 1000000 ∧ RetL [.int ((n / Nat.gcd m n : Nat) : Int), .int ((m / Nat.gcd m n : Nat) : Int)] H Q
theorem ok_lowest_terms {f : Addr} {fd : FuncData} (F : Fun K "lowest_terms" "lowest_terms" s_lowest_terms f fd) (c_common_part : Cal P w K mg base "common_part" 1 ["first", "second"] spCommon) : FnOk P w K mg base CX0 2 f fd ["above", "below"] spLowest := by
  refine F.ok sc_lowest_terms (fun vs H Q E h => ?_) (fun cdv A outer s H vs Q E hr h => ⟨_, (pss_cons (ps_set (i := 2) sc_lowest_terms.nd rfl (Or.inl rfl) (pe_cal c_common_part (hr.mono (by decide)) (pa_cons (pv 0) (pa_cons (pv 1) pa_nil))))
      (pss_one (ps_ret (pe_lst (pa_cons (pe_op op_fdiv (pv 0) (pv 2)) (pa_cons (pe_op op_fdiv (pv 1) (pv 2)) pa_nil)))))), ?_⟩)
  · obtain ⟨n, k, rfl, _⟩ := h
    rfl
  · obtain ⟨n, m, rfl, h0, h1, k⟩ := h
    have g0 : 0 < Nat.gcd m n := Nat.gcd_pos_of_pos_left _ h0
    have g1 : Nat.gcd m n ≤ m := Nat.gcd_le_left _ h0
    refine q_asg (ev_call (z := .int ((Nat.gcd m n : Nat) : Int)) (ea_cons (ev_var rfl) (ea_cons (ev_var rfl) ea_nil)) fun H2 e2 Q2 q2 E2 => ⟨n, m, rfl, q2⟩) fun H1 e1 => ?_
    exact s_retL (el_lst (vs := [.int ((n / Nat.gcd m n : Nat) : Int), .int ((m / Nat.gcd m n : Nat) : Int)]) (ea_cons (ev_is (ev_op (ev_var rfl) (ev_var rfl) (rv_I ⟨by omega, by omega⟩)) (by rw [Int.natCast_ediv])) (ea_cons (ev_is (ev_op (ev_var rfl) (ev_var rfl) (rv_I ⟨by omega, by omega⟩)) (by rw [Int.natCast_ediv])) ea_nil)) (by show 2 ≤ 100000; decide)) fun p H2 hp e2 h2 => k.go e1 hp e2 h2
end
end Fw

set_option Elab.async false
set_option linter.all false
set_option maxRecDepth 100000
set_option maxHeartbeats 2000000
namespace Fw
open PySem PySem.Spec PyProof.Rows L2 Evl
/-- None, or a whole number -/
def optV : Option Nat → V
  | none => .non
  | some x => .int (x : Int)
theorem ball_bounds : ∀ n < 7, ∀ r < 7, 1 ≤ Kh408.ball n r ∧ Kh408.ball n r ≤ 300 := by decide +kernel
theorem sum_more (f : Nat → Nat) (j : Nat) : ((List.range (j + 1)).map f).sum = ((List.range j).map f).sum + f j := by
  rw [List.range_succ, List.map_append, List.sum_append]
  simp
section
variable {P : Program} {w : World} {K : PySem.W.Frag} {mg : Str → Option Value} {base : Heap} {C : Addr}
abbrev s_by_balls : Stmt := top 19
theorem sc_by_balls : FnScope ["bits", "distance", "radius", "ball", "weight"] ["bits", "distance"] (defScope s_by_balls) := ⟨rfl, rfl, rfl, by decide +kernel, rfl, by decide +kernel, by decide +kernel⟩

def spBalls : Sp := fun vs H Q _ => ∃ n d : Nat, vs = [.int n, .int d] ∧ 1 ≤ d ∧ d ≤ n ∧ n ≤ 6 ∧ RetV (.int ((Kh408.byBalls ⟨n, d⟩ : Nat) : Int)) H Q
theorem ok_by_balls {f : Addr} {fd : FuncData} (F : Fun K "by_balls" "by_balls" s_by_balls f fd) (c_power_of_two : Cal P w K mg base "power_of_two" 1 ["exponent"] spPow) (b_range : mg "range" = none) (c_choose : Cal P w K mg base "choose" 1 ["total", "size"] spChoose) : FnOk P w K mg base CX0 2 f fd ["bits", "distance"] spBalls := by
  refine F.ok sc_by_balls (fun vs H Q E h => ?_) (fun cdv A outer s H vs Q E hr h => ⟨_, (pss_cons (ps_set (i := 2) sc_by_balls.nd rfl (Or.inl rfl) (pe_op op_fdiv (pe_op op_sub (pv 1) pe_int) pe_int))
      (pss_cons (ps_set (i := 3) sc_by_balls.nd rfl (Or.inl rfl) pe_int)
      (pss_cons (ps_for PassesOwn.never rfl (pi_range1 (by rfl) b_range (pa_cons (pe_op op_add (pv 2) pe_int) pa_nil)) (pg_name (i := 4) sc_by_balls.nd rfl (Or.inl rfl)) (pss_one (ps_set (i := 3) sc_by_balls.nd rfl (Or.inl rfl) (pe_op op_add (pv 3) (pe_cal c_choose (hr.mono (by decide)) (pa_cons (pv 0) (pa_cons (pv 4) pa_nil)))))))
      (pss_one (ps_ret (pe_op op_fdiv (pe_cal c_power_of_two (hr.mono (by decide)) (pa_cons (pv 0) pa_nil)) (pv 3))))))), ?_⟩)
  · obtain ⟨n, d, rfl, _⟩ := h
    rfl
  · obtain ⟨n, d, rfl, hd, hdn, hn, k⟩ := h
    refine q_asg (v := .int (((d - 1) / 2 : Nat) : Int)) (ev_is (ev_op (ev_op (ev_var rfl) ev_c rv_I0) ev_c (rv_I ⟨by decide, by decide⟩)) ?_) fun H1 e1 => ?_
    · rw [Int.natCast_ediv, Int.natCast_sub hd]
      rfl
    refine q_asg ev_c fun H2 e2 => ?_
    refine q_forR1 (n := (((d - 1) / 2 : Nat) : Int) + 1) (ea_cons (ev_op (ev_var rfl) ev_c rv_I0) ea_nil) ⟨by omega, by omega⟩ (fun j σ' H' => (∃ v, σ' = [some (.int n), some (.int d), some (.int (((d - 1) / 2 : Nat) : Int)), some (.int ((((List.range j).map (Kh407.choose n)).sum : Nat) : Int)), v]) ∧ Ex H H') (fun H3 e3 => ⟨⟨none, rfl⟩, (e1.trans e2).trans e3⟩) ?_ ?_
    · rintro j σ' H' hj ⟨⟨v, rfl⟩, e⟩
      refine s_asg (ev_is (w := .int ((((List.range (j + 1)).map (Kh407.choose n)).sum : Nat) : Int)) (ev_op (ev_var rfl) (ev_call (z := .int ((Kh407.choose n j : Nat) : Int)) (ea_cons (ev_var rfl) (ea_cons (ev_var rfl) ea_nil)) fun H2 e2 Q2 q2 E2 => ⟨n, j, rfl, by omega, by omega, q2⟩) rv_I0) ?_) fun H4 e4 => ⟨⟨_, rfl⟩, e.trans e4⟩
      rw [sum_more, Int.natCast_add]
    · rintro σ' H' ⟨⟨v, rfl⟩, e⟩
      have e0 : ((((d - 1) / 2 : Nat) : Int) + 1).toNat = (d - 1) / 2 + 1 := by omega
      rw [e0]
      have b := ball_bounds n (by omega) ((d - 1) / 2) (by omega)
      have eb : ((List.range ((d - 1) / 2 + 1)).map (Kh407.choose n)).sum = Kh408.ball n ((d - 1) / 2) := rfl
      rw [eb]
      refine s_ret (ev_is (w := .int ((Kh408.byBalls ⟨n, d⟩ : Nat) : Int)) (ev_op (ev_call (z := .int ((2 ^ n : Nat) : Int)) (ea_cons (ev_var rfl) ea_nil) fun H2 e2 Q2 q2 E2 => ⟨n, rfl, by omega, q2⟩) (ev_var rfl) (rv_I ⟨by omega, by omega⟩)) ?_) fun H2 e2 => k _ (e.trans e2)
      show V.int _ = V.int (((2 ^ n / Kh408.ball n ((d - 1) / 2) : Nat)) : Int)
      rw [Int.natCast_ediv]
abbrev s_by_cut : Stmt := top 20
theorem sc_by_cut : FnScope ["bits", "distance"] ["bits", "distance"] (defScope s_by_cut) := ⟨rfl, rfl, rfl, by decide +kernel, rfl, by decide +kernel, by decide +kernel⟩

def spCut : Sp := fun vs H Q _ => ∃ n d : Nat, vs = [.int n, .int d] ∧ 1 ≤ d ∧ d ≤ n ∧ n ≤ 6 ∧ RetV (.int ((Kh408.byCut ⟨n, d⟩ : Nat) : Int)) H Q
theorem ok_by_cut {f : Addr} {fd : FuncData} (F : Fun K "by_cut" "by_cut" s_by_cut f fd) (c_power_of_two : Cal P w K mg base "power_of_two" 1 ["exponent"] spPow) : FnOk P w K mg base CX0 2 f fd ["bits", "distance"] spCut := by
  refine F.ok sc_by_cut (fun vs H Q E h => ?_) (fun cdv A outer s H vs Q E hr h => ⟨_, (pss_one (ps_ret (pe_cal c_power_of_two (hr.mono (by decide)) (pa_cons (pe_op op_add (pe_op op_sub (pv 0) (pv 1)) pe_int) pa_nil)))), ?_⟩)
  · obtain ⟨n, d, rfl, _⟩ := h
    rfl
  · obtain ⟨n, d, rfl, hd, hdn, hn, k⟩ := h
    refine s_ret (ev_call (z := .int ((Kh408.byCut ⟨n, d⟩ : Nat) : Int)) (ea_cons (ev_op (ev_op (ev_var rfl) (ev_var rfl) rv_I0) ev_c rv_I0) ea_nil) fun H2 e2 Q2 q2 E2 => ⟨n + 1 - d, ?_, by omega, q2⟩) fun H2 e2 => k _ e2
    show [V.int ((n : Int) - d + 1)] = [V.int ((n + 1 - d : Nat) : Int)]
    have : (n : Int) - d + 1 = ((n + 1 - d : Nat) : Int) := by omega
    rw [this]
abbrev s_by_mean : Stmt := top 21
theorem sc_by_mean : FnScope ["bits", "distance", "twice"] ["bits", "distance"] (defScope s_by_mean) := ⟨rfl, rfl, rfl, by decide +kernel, rfl, by decide +kernel, by decide +kernel⟩

def spMean : Sp := fun vs H Q _ => ∃ n d : Nat, vs = [.int n, .int d] ∧ 1 ≤ d ∧ n ≤ 7 ∧ d ≤ 7 ∧ RetV (optV (Kh408.byMean n d)) H Q
theorem ok_by_mean {f : Addr} {fd : FuncData} (F : Fun K "by_mean" "by_mean" s_by_mean f fd)  : FnOk P w K mg base CX0 1 f fd ["bits", "distance"] spMean := by
  refine F.ok sc_by_mean (fun vs H Q E h => ?_) (fun cdv A outer s H vs Q E hr h => ⟨_, (pss_cons (ps_set (i := 2) sc_by_mean.nd rfl (Or.inl rfl) (pe_op op_mul pe_int (pv 1)))
      (pss_cons (ps_if (pt_cmpR op_le (pv 2) (pv 0) (nomark _)) (pss_one (ps_ret pe_non)) pss_nil)
      (pss_one (ps_ret (pe_op op_fdiv (pv 2) (pe_op op_sub (pv 2) (pv 0))))))), ?_⟩)
  · obtain ⟨n, d, rfl, _⟩ := h
    rfl
  · obtain ⟨n, d, rfl, hd, hn, hd7, k⟩ := h
    refine q_asg (ev_op ev_c (ev_var rfl) (rv_I (Or.inl ⟨by decide, by decide⟩))) fun H1 e1 => ?_
    refine q_when (b := decide (2 * (d : Int) ≤ n)) (et_test (ev_op (ev_var rfl) (ev_var rfl) rv_I0)) (fun hb H2 e2 => ?_) fun hb H2 e2 => ?_
    · have hb' := of_decide_eq_true hb
      refine s_ret ev_c fun H3 e3 => ?_
      have : Kh408.byMean n d = none := by unfold Kh408.byMean; rw [if_neg (by omega)]
      rw [this] at k
      exact k _ ((e1.trans e2).trans e3)
    · have hb' := of_decide_eq_false hb
      have : Kh408.byMean n d = some (2 * d / (2 * d - n)) := by unfold Kh408.byMean; rw [if_pos (by omega)]
      rw [this] at k
      refine s_ret (ev_is (w := .int ((2 * d / (2 * d - n) : Nat) : Int)) (ev_op (ev_var rfl) (ev_op (ev_var rfl) (ev_var rfl) rv_I0) (rv_I ⟨by omega, by omega⟩)) ?_) fun H3 e3 => k _ ((e1.trans e2).trans e3)
      rw [Int.natCast_ediv, Int.natCast_sub (by omega)]
      rfl
abbrev s_by_even : Stmt := top 22
theorem sc_by_even : FnScope ["bits", "distance"] ["bits", "distance"] (defScope s_by_even) := ⟨rfl, rfl, rfl, by decide +kernel, rfl, by decide +kernel, by decide +kernel⟩

def spEven : Sp := fun vs H Q _ => ∃ n d : Nat, vs = [.int n, .int d] ∧ 1 ≤ d ∧ d ≤ n ∧ n ≤ 6 ∧ RetV (optV (Kh408.byEven ⟨n, d⟩)) H Q
theorem ok_by_even {f : Addr} {fd : FuncData} (F : Fun K "by_even" "by_even" s_by_even f fd) (c_by_mean : Cal P w K mg base "by_mean" 1 ["bits", "distance"] spMean) : FnOk P w K mg base CX0 2 f fd ["bits", "distance"] spEven := by
  refine F.ok sc_by_even (fun vs H Q E h => ?_) (fun cdv A outer s H vs Q E hr h => ⟨_, (pss_cons (ps_if (pt_cmpR op_eq (pe_op op_mod (pv 1) pe_int) pe_int (nomark _)) (pss_one (ps_ret (pe_cal c_by_mean (hr.mono (by decide)) (pa_cons (pe_op op_add (pv 0) pe_int) (pa_cons (pe_op op_add (pv 1) pe_int) pa_nil))))) pss_nil)
      (pss_one (ps_ret (pe_cal c_by_mean (hr.mono (by decide)) (pa_cons (pv 0) (pa_cons (pv 1) pa_nil)))))), ?_⟩)
  · obtain ⟨n, d, rfl, _⟩ := h
    rfl
  · obtain ⟨n, d, rfl, hd, hdn, hn, k⟩ := h
    refine q_when (b := decide (d % 2 = 1)) (et_test (ev_is (ev_op (ev_op (ev_var rfl) ev_c (rv_I (by show (0 : Int) < 2; decide))) ev_c (rv_eq rfl)) ?_)) (fun hb H2 e2 => ?_) fun hb H2 e2 => ?_
    · have : ((d : Int) % 2 = 1) ↔ d % 2 = 1 := by omega
      simp [this]
    · have hb' := of_decide_eq_true hb
      have : Kh408.byEven ⟨n, d⟩ = Kh408.byMean (n + 1) (d + 1) := by unfold Kh408.byEven; rw [if_pos hb']
      rw [this] at k
      exact s_ret (ev_call (z := optV (Kh408.byMean (n + 1) (d + 1))) (ea_cons (ev_op (ev_var rfl) ev_c rv_I0) (ea_cons (ev_op (ev_var rfl) ev_c rv_I0) ea_nil)) fun H2 e2 Q2 q2 E2 => ⟨n + 1, d + 1, rfl, by omega, by omega, by omega, q2⟩) fun H3 e3 => k _ (e2.trans e3)
    · have hb' := of_decide_eq_false hb
      have : Kh408.byEven ⟨n, d⟩ = Kh408.byMean n d := by unfold Kh408.byEven; rw [if_neg hb']
      rw [this] at k
      exact s_ret (ev_call (z := optV (Kh408.byMean n d)) (ea_cons (ev_var rfl) (ea_cons (ev_var rfl) ea_nil)) fun H2 e2 Q2 q2 E2 => ⟨n, d, rfl, by omega, by omega, by omega, q2⟩) fun H3 e3 => k _ (e2.trans e3)
abbrev s_least_bound : Stmt := top 23
theorem sc_least_bound : FnScope ["bits", "distance", "bounds", "bound"] ["bits", "distance"] (defScope s_least_bound) := ⟨rfl, rfl, rfl, by decide +kernel, rfl, by decide +kernel, by decide +kernel⟩

def spLeastB : Sp := fun vs H Q _ => ∃ n d : Nat, vs = [.int n, .int d] ∧ 1 ≤ d ∧ d ≤ n ∧ n ≤ 6 ∧ RetV (.int ((Kh408.plain ⟨n, d⟩ : Nat) : Int)) H Q
/-- those that are there -/
def there (l : List (Option Nat)) : List Int := l.filterMap fun o => o.map Int.ofNat
theorem given_there (a b : Nat) (c d : Option Nat) : given 4 (fun i => !decide (([V.int (a : Int), V.int (b : Int), optV c, optV d] : List V).getD i .non = .non)) (fun i => ([V.int (a : Int), V.int (b : Int), optV c, optV d] : List V).getD i .non) = (there [some a, some b, c, d]).map V.int := by
  cases c <;> cases d <;> rfl
theorem least_there {a b : Nat} {c d : Option Nat} {m : Int} (h1 : m ∈ there [some a, some b, c, d]) (h2 : ∀ y, y ∈ there [some a, some b, c, d] → m ≤ y) : m = (([c, d].foldl (fun r x => match x with
  | none => r
  | some y => min r y) (min a b) : Nat) : Int) := by
  cases c <;> cases d <;> simp [there] at h1 h2 ⊢ <;> omega
theorem ok_least_bound {f : Addr} {fd : FuncData} (F : Fun K "least_bound" "least_bound" s_least_bound f fd) (b_min : mg "min" = none) (c_by_even : Cal P w K mg base "by_even" 2 ["bits", "distance"] spEven) (c_by_mean : Cal P w K mg base "by_mean" 1 ["bits", "distance"] spMean) (c_by_cut : Cal P w K mg base "by_cut" 2 ["bits", "distance"] spCut) (c_by_balls : Cal P w K mg base "by_balls" 2 ["bits", "distance"] spBalls) : FnOk P w K mg base CX0 3 f fd ["bits", "distance"] spLeastB := by
  refine F.ok sc_least_bound (fun vs H Q E h => ?_) (fun cdv A outer s H vs Q E hr h => ⟨_, (pss_cons (ps_set (i := 2) sc_least_bound.nd rfl (Or.inl rfl) (pe_lst (pa_cons (pe_cal c_by_balls (hr.mono (by decide)) (pa_cons (pv 0) (pa_cons (pv 1) pa_nil))) (pa_cons (pe_cal c_by_cut (hr.mono (by decide)) (pa_cons (pv 0) (pa_cons (pv 1) pa_nil))) (pa_cons (pe_cal c_by_mean (hr.mono (by decide)) (pa_cons (pv 0) (pa_cons (pv 1) pa_nil))) (pa_cons (pe_cal c_by_even (hr.mono (by decide)) (pa_cons (pv 0) (pa_cons (pv 1) pa_nil))) pa_nil))))))
      (pss_one (ps_ret (pe_callB (cr_min rfl) (by rfl) b_min (by decide +kernel) (pa_cons (pe_lc (own := [("bound", 3)]) (g := gName 3) (by rfl) sc_least_bound.nd (pi_list (pv 2)) (blkOk_by (own := [("bound", 3)]) (N := ["bits", "distance", "bounds", "bound"]) (sc := defScope s_least_bound) (by decide +kernel)) (fun _ _ _ _ _ => pg_name (i := 3) sc_least_bound.nd rfl (Or.inl rfl)) (fun _ _ _ _ _ => (pts_one (pt_cmpR op_notN (pv 3) pe_non (nomark _)))) (fun _ _ _ _ _ => (pv 3))) pa_nil))))), ?_⟩)
  · obtain ⟨n, d, rfl, _⟩ := h
    rfl
  · obtain ⟨n, d, rfl, hd, hdn, hn, k⟩ := h
    refine q_asgL (el_lst (vs := [.int ((Kh408.byBalls ⟨n, d⟩ : Nat) : Int), .int ((Kh408.byCut ⟨n, d⟩ : Nat) : Int), optV (Kh408.byMean n d), optV (Kh408.byEven ⟨n, d⟩)])
      (ea_cons (ev_call (ea_cons (ev_var rfl) (ea_cons (ev_var rfl) ea_nil)) fun H2 e2 Q2 q2 E2 => ⟨n, d, rfl, hd, hdn, hn, q2⟩)
      (ea_cons (ev_call (ea_cons (ev_var rfl) (ea_cons (ev_var rfl) ea_nil)) fun H2 e2 Q2 q2 E2 => ⟨n, d, rfl, hd, hdn, hn, q2⟩)
      (ea_cons (ev_call (ea_cons (ev_var rfl) (ea_cons (ev_var rfl) ea_nil)) fun H2 e2 Q2 q2 E2 => ⟨n, d, rfl, hd, by omega, by omega, q2⟩)
      (ea_cons (ev_call (ea_cons (ev_var rfl) (ea_cons (ev_var rfl) ea_nil)) fun H2 e2 Q2 q2 E2 => ⟨n, d, rfl, hd, hdn, hn, q2⟩) ea_nil)))) (by show 4 ≤ 100000; decide)) fun p H1 hp e1 h1 => ?_
    refine s_ret (ev_cb1L (xs := (there [some (Kh408.byBalls ⟨n, d⟩), some (Kh408.byCut ⟨n, d⟩), Kh408.byMean n d, Kh408.byEven ⟨n, d⟩]).map V.int) (z := .int ((Kh408.plain ⟨n, d⟩ : Nat) : Int)) ?_ ?_) fun H2 e2 => k _ (e1.trans e2)
    · rw [← given_there]
      refine el_lcL _ _ (ev_var rfl) (sq_of h1) (by show 4 ≤ 40000; decide) (fun x => rfl) ?_ ?_
      · intro i x H2 e2 hx
        have ex : ([V.int ((Kh408.byBalls ⟨n, d⟩ : Nat) : Int), V.int ((Kh408.byCut ⟨n, d⟩ : Nat) : Int), optV (Kh408.byMean n d), optV (Kh408.byEven ⟨n, d⟩)] : List V).getD i .non = x := by rw [List.getD_eq_getElem?_getD, hx]; rfl
        rw [ex]
        exact et_test (ev_op (ev_var rfl) ev_c fun H3 _ Q3 q3 => ⟨rfl, q3 H3 (Ex.refl H3)⟩)
      · intro i x H2 e2 hx _
        have ex : ([V.int ((Kh408.byBalls ⟨n, d⟩ : Nat) : Int), V.int ((Kh408.byCut ⟨n, d⟩ : Nat) : Int), optV (Kh408.byMean n d), optV (Kh408.byEven ⟨n, d⟩)] : List V).getD i .non = x := by rw [List.getD_eq_getElem?_getD, hx]; rfl
        rw [ex]
        exact ev_var rfl
    · intro p2 H2 e2 h2 H3 e3 Q3 q3
      refine ⟨p2, _, rfl, sq_of (e3 p2 _ h2), ?_, fun m h1 h2 => ?_⟩
      · show 0 < (there (some (Kh408.byBalls ⟨n, d⟩) :: _)).length
        simp [there]
      · rw [least_there h1 h2]
        exact q3 H3 (Ex.refl H3)
end
end Fw

set_option Elab.async false
set_option linter.all false
set_option maxRecDepth 100000
set_option maxHeartbeats 2000000
namespace Fw
open PySem PySem.Spec PyProof.Rows L2 Evl
/-! ### rows of numbers -/
def okRowB (n : Nat) (b : List Nat) : Bool := decide (b.length = n + 1) && b.all fun x => decide (x ≤ 1000)
theorem okRowB_is (n d : Nat) (b : List Nat) : Kh408.okRow ⟨n, d⟩ b = okRowB n b := rfl
abbrev natsV (b : List Nat) : List V := (b.map Int.ofNat).map V.int
theorem natsV_get {b : List Nat} {i : Nat} {x : V} (h : (natsV b)[i]? = some x) : ∃ z, b[i]? = some z ∧ x = .int ((z : Nat) : Int) := by
  rw [List.getElem?_map, List.getElem?_map] at h
  cases e : b[i]? with
  | none => rw [e] at h; cases h
  | some z => rw [e] at h; exact ⟨z, rfl, (Option.some.inj h).symm⟩
theorem take_more {α : Type} : ∀ {l : List α} {i : Nat} {x : α}, l[i]? = some x → l.take (i + 1) = l.take i ++ [x]
  | [], i, x, h => by simp at h
  | a :: l, 0, x, h => by
    have e : a = x := Option.some.inj h
    subst e
    rfl
  | a :: l, i + 1, x, h => by
    have ih := take_more (l := l) (i := i) (x := x) h
    show a :: l.take (i + 1) = a :: l.take i ++ [x]
    rw [ih]
    rfl
theorem take_all {b : List Nat} {i z : Nat} (h : b[i]? = some z) {p : Nat → Bool} : (b.take (i + 1)).all p = ((b.take i).all p && p z) := by
  rw [take_more h, List.all_append]
  simp
theorem all_take_false {b : List Nat} {i z : Nat} (h : b[i]? = some z) {p : Nat → Bool} (hz : p z = false) : b.all p = false := by
  have hm := List.mem_of_getElem? h
  cases q : b.all p with
  | false => rfl
  | true => rw [List.all_eq_true.mp q z hm] at hz; cases hz
/-! ### the object -/
def bitsOf : Option Kh408.Abs → Nat
  | none => 0
  | some a => a.n
def distOf : Option Kh408.Abs → Nat
  | none => 0
  | some a => a.d
def dF (s : Option Kh408.Abs) : List (Str × V) := [("bits", .int ((bitsOf s : Nat) : Int)), ("distance", .int ((distOf s : Nat) : Int))]
def DeskAt (C : Addr) (H : Hp) (a : Addr) (s : Option Kh408.Abs) : Prop := ∃ dx, H a = some (.ins C dx (dF s))
theorem lk_here {k : Str} {v : V} {r : List (Str × V)} : List.lookup k ((k, v) :: r) = some v := by
  have e : (k == k) = true := beq_self_eq_true k
  simp only [List.lookup, e]
theorem lk_past {k g : Str} {v : V} {r : List (Str × V)} (h : (k == g) = false) : List.lookup k ((g, v) :: r) = List.lookup k r := by
  simp only [List.lookup, h]
theorem put_here {f : Str} {v x : V} {r : List (Str × V)} : putF f v ((f, x) :: r) = (f, v) :: r := if_pos rfl
theorem put_past {f g : Str} {v x : V} {r : List (Str × V)} (h : ¬ g = f) : putF f v ((g, x) :: r) = (g, x) :: putF f v r := if_neg h
theorem dF_bits (s : Option Kh408.Abs) : (dF s).lookup ("bits" : Str) = some (.int ((bitsOf s : Nat) : Int)) := lk_here
theorem dF_dist (s : Option Kh408.Abs) : (dF s).lookup ("distance" : Str) = some (.int ((distOf s : Nat) : Int)) := (lk_past (by decide +kernel)).trans lk_here
theorem dF_none (s : Option Kh408.Abs) {m : Str} (h1 : (m == ("bits" : Str)) = false) (h2 : (m == ("distance" : Str)) = false) : (dF s).lookup m = none := (lk_past h1).trans ((lk_past h2).trans rfl)
structure DeskT (K : PySem.W.Frag) (C : Addr) : Prop where
  cl : Cls K C
  nB : NoAttr K C "bits"
  nD : NoAttr K C "distance"
theorem DeskAt.ex {C : Addr} {H H' : Hp} {a : Addr} {s : Option Kh408.Abs} (h : DeskAt C H a s) (e : Ex H H') : DeskAt C H' a s := by
  obtain ⟨dx, h⟩ := h
  exact ⟨dx, e a _ h⟩
/-- a new list comes out, the object at a stands at s, all else as it was -/
def RetD (C a : Addr) (s : Option Kh408.Abs) (xs : List V) (H : Hp) (Q : VK) : Prop := ∀ H' p, (∀ b o, H b = some o → b ≠ a → H' b = some o) → DeskAt C H' a s → H p = none → H' p = some (.lst xs) → Q (.ref p) H'
theorem RetD.l {C a : Addr} {s : Option Kh408.Abs} {xs : List V} {H : Hp} {Q : VK} (k : RetD C a s xs H Q) (h : DeskAt C H a s) : RetL xs H Q := fun p H2 hp e h2 => k H2 p (fun b o hb _ => e b o hb) (h.ex e) hp h2
section
variable {K : PySem.W.Frag} {σ : L2.St} {H H' : Hp} {ta tb te tx : TE} {D : Ends} {tz : TS}
theorem ev_bits {C a : Addr} {s : Option Kh408.Abs} (T : DeskT K C) (ha : Ev ta σ H (.ref a)) (h : DeskAt C H a s) : Ev (tFld K ta "bits") σ H (.int ((bitsOf s : Nat) : Int)) := by
  obtain ⟨dx, h⟩ := h
  exact ev_fld ha h T.cl T.nB (dF_bits s)
theorem ev_dist {C a : Addr} {s : Option Kh408.Abs} (T : DeskT K C) (ha : Ev ta σ H (.ref a)) (h : DeskAt C H a s) : Ev (tFld K ta "distance") σ H (.int ((distOf s : Nat) : Int)) := by
  obtain ⟨dx, h⟩ := h
  exact ev_fld ha h T.cl T.nD (dF_dist s)
theorem s_fld {a C dx : Addr} {fs : List (Str × V)} {f : Str} {v : V} (hv : Ev te σ H v) (ha : Ev ta σ H (.ref a)) (ho : H a = some (.ins C dx fs)) (cl : Cls K C) (na : NoAttr K C f) (hl : fs.length < 1000) (k : ∀ H1, Ex H H1 → D.nx σ (upd H1 a (.ins C dx (putF f v fs)))) : sFld K ta te f D σ H :=
  hv H (Ex.refl H) _ fun H1 e1 => ha H1 e1 _ fun H2 e2 => ⟨a, C, dx, fs, rfl, (e1.trans e2) a _ ho, cl, na, hl, k H2 (e1.trans e2)⟩
theorem q_fld {a C dx : Addr} {fs : List (Str × V)} {f : Str} {v : V} (hv : Ev te σ H v) (ha : Ev ta σ H (.ref a)) (ho : H a = some (.ins C dx fs)) (cl : Cls K C) (na : NoAttr K C f) (hl : fs.length < 1000) (k : ∀ H1, Ex H H1 → tz D σ (upd H1 a (.ins C dx (putF f v fs)))) : tSeq (sFld K ta te f) tz D σ H :=
  s_fld (D := { D with nx := tz D }) hv ha ho cl na hl k
end
/-! ### what a proof comes to -/
theorem sign0 : ∀ n < 7, ∀ k < 8, 0 ≤ Kh407.sign n k 0 := by decide +kernel
theorem fold_nonneg : ∀ (l : List Int) (a : Int), 0 ≤ a → (∀ x ∈ l, 0 ≤ x) → 0 ≤ l.foldl (· + ·) a
  | [], a, h, _ => h
  | x :: r, a, h, hl => fold_nonneg r (a + x) (by have := hl x List.mem_cons_self; omega) fun y hy => hl y (List.mem_cons_of_mem _ hy)
theorem at0_nonneg {n : Nat} (hn : n ≤ 6) (b : List Nat) : 0 ≤ Kh408.at_ n b 0 := by
  refine fold_nonneg _ 0 (by omega) fun x hx => ?_
  obtain ⟨k, hk, rfl⟩ := List.mem_map.mp hx
  rw [List.mem_range] at hk
  exact Int.mul_nonneg (Int.natCast_nonneg _) (sign0 n (by omega) k (by omega))
theorem frac_nat {A m : Nat} (h : 0 < m) : Kh397.frac (A : Int) (m : Int) = ⟨((A / Nat.gcd m A : Nat) : Int), ((m / Nat.gcd m A : Nat) : Int)⟩ := by
  have e : Int.gcd (A : Int) (m : Int) = Nat.gcd m A := by
    rw [Nat.gcd_comm]
    rfl
  have g0 : 0 < Nat.gcd m A := Nat.gcd_pos_of_pos_left _ h
  unfold Kh397.frac
  simp only [e]
  rw [if_neg (by omega), if_neg (by omega), Int.natCast_ediv, Int.natCast_ediv]
theorem floor_nat {A m : Nat} (h : 0 < m) : ((A / Nat.gcd m A : Nat) : Int) / ((m / Nat.gcd m A : Nat) : Int) = ((A / m : Nat) : Int) := by
  have g0 : 0 < Nat.gcd m A := Nat.gcd_pos_of_pos_left _ h
  rw [← Int.natCast_ediv]
  congr 1
  obtain ⟨x, hx⟩ := Nat.gcd_dvd_right m A
  obtain ⟨y, hy⟩ := Nat.gcd_dvd_left m A
  have e1 : A / Nat.gcd m A = x := by conv => lhs; lhs; rw [hx]
                                      exact Nat.mul_div_cancel_left x g0
  have e2 : m / Nat.gcd m A = y := by conv => lhs; lhs; rw [hy]
                                      exact Nat.mul_div_cancel_left y g0
  rw [e1, e2]
  have e3 : A / m = (Nat.gcd m A * x) / (Nat.gcd m A * y) := by rw [← hx, ← hy]
  rw [e3, Nat.mul_div_mul_left _ _ g0]
section
variable {P : Program} {w : World} {K : PySem.W.Frag} {mg : Str → Option Value} {base : Heap} {C : Addr}
abbrev s_is_right_row : Stmt := top 26
theorem sc_is_right_row : FnScope ["bits", "numbers", "number"] ["bits", "numbers"] (defScope s_is_right_row) := ⟨rfl, rfl, rfl, by decide +kernel, rfl, by decide +kernel, by decide +kernel⟩

def spRow (K : PySem.W.Frag) : Sp := fun vs H Q _ => ∃ (n : Nat) (a : Addr) (b : List Nat), vs = [.int n, .ref a] ∧ SqL K H a (natsV b) ∧ RetV (.bl (okRowB n b)) H Q
theorem ok_is_right_row {f : Addr} {fd : FuncData} (F : Fun K "is_right_row" "is_right_row" s_is_right_row f fd) (g_LARGEST_NUMBER : GInt mg "LARGEST_NUMBER" (1000)) (b_len : mg "len" = none) : FnOk P w K mg base CX0 1 f fd ["bits", "numbers"] (spRow K) := by
  refine F.ok sc_is_right_row (fun vs H Q E h => ?_) (fun cdv A outer s H vs Q E hr h => ⟨_, (pss_cons (ps_if (pt_cmpR op_ne (pe_callB call_len_seq (by rfl) b_len PySem.boot_len (pa_cons (pv 1) pa_nil)) (pe_op op_add (pv 0) pe_int) (nomark _)) (pss_one (ps_ret pe_bl)) pss_nil)
      (pss_cons (ps_for PassesOwn.never rfl (pi_list (pv 1)) (pg_name (i := 2) sc_is_right_row.nd rfl (Or.inl rfl)) (pss_one (ps_if (pt_cmpR op_gt (pv 2) (pe_gi g_LARGEST_NUMBER) (nomark _)) (pss_one (ps_ret pe_bl)) pss_nil)))
      (pss_one (ps_ret pe_bl)))), ?_⟩)
  · obtain ⟨n, a, b, rfl, _⟩ := h
    rfl
  · obtain ⟨n, a, b, rfl, hS, k⟩ := h
    refine q_when (b := !decide (b.length = n + 1)) (et_test (ev_is (ev_op (ev_len (ev_var rfl) hS) (ev_op (ev_var rfl) ev_c rv_I0) (rv_ne rfl)) ?_)) (fun hb H1 e1 => ?_) fun hb H1 e1 => ?_
    · have : ((natsV b).length : Int) = (n : Int) + 1 ↔ b.length = n + 1 := by
        rw [List.length_map, List.length_map]
        omega
      simp only [V.int.injEq, this]
    · have hb' : decide (b.length = n + 1) = false := by simpa using hb
      refine s_ret ev_c fun H2 e2 => ?_
      have : okRowB n b = false := by unfold okRowB; rw [hb']; rfl
      rw [this] at k
      exact k _ (e1.trans e2)
    · have hb' : decide (b.length = n + 1) = true := by simpa using hb
      refine q_forLn (xs := natsV b) (ev_var rfl) (ex_l e1 hS) (fun i σ' H' => (∃ v, σ' = [some (.int n), some (.ref a), v]) ∧ Ex H H' ∧ (b.take i).all (fun x => decide (x ≤ 1000)) = true) (fun H2 e2 => ⟨⟨none, rfl⟩, e1.trans e2, rfl⟩) (fun i σ' H' _ p => ex_l p.2.1 hS) ?_ ?_
      · rintro i x σ' H' hx ⟨⟨v, rfl⟩, e, ha⟩
        obtain ⟨z, hz, rfl⟩ := natsV_get hx
        refine s_when (b := decide ((1000 : Int) < z)) (et_test (ev_op (ev_var rfl) ev_c rv_I0)) (fun hc H2 e2 => ?_) fun hc H2 e2 => ⟨⟨_, rfl⟩, e.trans e2, ?_⟩
        · have hc' := of_decide_eq_true hc
          refine s_ret ev_c fun H3 e3 => ?_
          have : okRowB n b = false := by unfold okRowB; rw [all_take_false hz (by simp; omega), Bool.and_false]
          rw [this] at k
          exact k _ ((e.trans e2).trans e3)
        · have hc' := of_decide_eq_false hc
          rw [take_all hz, ha]
          simp
          omega
      · rintro σ' H' ⟨⟨v, rfl⟩, e, ha⟩
        rw [List.length_map, List.length_map, List.take_length] at ha
        refine s_ret ev_c fun H2 e2 => ?_
        have : okRowB n b = true := by unfold okRowB; rw [hb', ha]; rfl
        rw [this] at k
        exact k _ (e.trans e2)
abbrev s_is_proof : Stmt := top 27
theorem sc_is_proof : FnScope ["bits", "distance", "numbers", "i"] ["bits", "distance", "numbers"] (defScope s_is_proof) := ⟨rfl, rfl, rfl, by decide +kernel, rfl, by decide +kernel, by decide +kernel⟩

def spProof (K : PySem.W.Frag) : Sp := fun vs H Q _ => ∃ (n d : Nat) (a : Addr) (b : List Nat), vs = [.int n, .int d, .ref a] ∧ SqL K H a (natsV b) ∧ n ≤ 6 ∧ 1 ≤ d ∧ d ≤ n ∧ b.length = n + 1 ∧ (∀ x ∈ b, x ≤ 1000) ∧ RetV (.bl (Kh408.isProof ⟨n, d⟩ b)) H Q
theorem isProof_false {n d i : Nat} {b : List Nat} (h1 : d ≤ i) (h2 : i ≤ n) (h : 0 < Kh408.at_ n b i) : Kh408.isProof ⟨n, d⟩ b = false := by
  unfold Kh408.isProof
  have : ((List.range (n + 1)).all fun i => decide (i < d) || decide (Kh408.at_ n b i ≤ 0)) = false := by
    rw [List.all_eq_false]
    refine ⟨i, List.mem_range.mpr (by omega), ?_⟩
    simp
    omega
  show (decide (1 ≤ b.getD 0 0) && ((List.range (n + 1)).all fun i => decide (i < d) || decide (Kh408.at_ n b i ≤ 0))) = false
  rw [this, Bool.and_false]
theorem isProof_true {n d : Nat} {b : List Nat} (h0 : 1 ≤ b.getD 0 0) (h : ∀ j, j < n + 1 - d → Kh408.at_ n b (d + j) ≤ 0) : Kh408.isProof ⟨n, d⟩ b = true := by
  show (decide (1 ≤ b.getD 0 0) && ((List.range (n + 1)).all fun i => decide (i < d) || decide (Kh408.at_ n b i ≤ 0))) = true
  rw [Bool.and_eq_true]
  refine ⟨decide_eq_true h0, List.all_eq_true.mpr fun i hi => ?_⟩
  rw [List.mem_range] at hi
  by_cases c : i < d
  · simp [c]
  · have := h (i - d) (by omega)
    rw [show d + (i - d) = i by omega] at this
    simp [this]
theorem ok_is_proof {f : Addr} {fd : FuncData} (F : Fun K "is_proof" "is_proof" s_is_proof f fd) (b_range : mg "range" = none) (c_comes_to : Cal P w K mg base "comes_to" 3 ["bits", "numbers", "i"] (spComes K)) : FnOk P w K mg base CX0 4 f fd ["bits", "distance", "numbers"] (spProof K) := by
  refine F.ok sc_is_proof (fun vs H Q E h => ?_) (fun cdv A outer s H vs Q E hr h => ⟨_, (pss_cons (ps_if (pt_cmpR op_lt (pe_ix ix_list (pv 2) pe_int (fun _ _ => rfl)) pe_int (nomark _)) (pss_one (ps_ret pe_bl)) pss_nil)
      (pss_cons (ps_for PassesOwn.never rfl (pi_range2 (by rfl) b_range (pa_cons (pv 1) (pa_cons (pe_op op_add (pv 0) pe_int) pa_nil))) (pg_name (i := 3) sc_is_proof.nd rfl (Or.inl rfl)) (pss_one (ps_if (pt_cmpR op_gt (pe_cal c_comes_to (hr.mono (by decide)) (pa_cons (pv 0) (pa_cons (pv 2) (pa_cons (pv 3) pa_nil)))) pe_int (nomark _)) (pss_one (ps_ret pe_bl)) pss_nil)))
      (pss_one (ps_ret pe_bl)))), ?_⟩)
  · obtain ⟨n, d, a, b, rfl, _⟩ := h
    rfl
  · obtain ⟨n, d, a, b, rfl, hS, hn, hd, hdn, hl, hb, k⟩ := h
    have h0 : 0 < b.length := by omega
    have eg : b.getD 0 0 = b[0] := by simp [List.getD_eq_getElem?_getD, h0]
    have hx : (b.map Int.ofNat)[0]? = some ((b.getD 0 0 : Nat) : Int) := by rw [List.getElem?_map, List.getElem?_eq_getElem h0, eg]; rfl
    refine q_when (b := decide (((b.getD 0 0 : Nat) : Int) < 1)) (et_test (ev_op (ev_op (ev_var rfl) ev_c (rv_ixL hS (ixI hx))) ev_c rv_I0)) (fun hc H1 e1 => ?_) fun hc H1 e1 => ?_
    · have hc' := of_decide_eq_true hc
      refine s_ret ev_c fun H2 e2 => ?_
      have : Kh408.isProof ⟨n, d⟩ b = false := by
        unfold Kh408.isProof
        rw [decide_eq_false (by omega), Bool.false_and]
      rw [this] at k
      exact k _ (e1.trans e2)
    · have hc' := of_decide_eq_false hc
      refine q_forR2 (lo := (d : Int)) (n := (n : Int) + 1) (ea_cons (ev_var rfl) (ea_cons (ev_op (ev_var rfl) ev_c rv_I0) ea_nil)) ⟨by omega, by omega, by omega, by omega⟩ (fun i σ' H' => (∃ v, σ' = [some (.int n), some (.int d), some (.ref a), v]) ∧ Ex H H' ∧ ∀ j, j < i → Kh408.at_ n b (d + j) ≤ 0) (fun H2 e2 => ⟨⟨none, rfl⟩, e1.trans e2, fun j hj => by omega⟩) ?_ ?_
      · rintro i σ' H' hi ⟨⟨v, rfl⟩, e, ha⟩
        refine s_when (b := decide ((0 : Int) < Kh408.at_ n b (d + i))) (et_test (ev_op (ev_call (z := .int (Kh408.at_ n b (d + i))) (ea_cons (ev_var rfl) (ea_cons (ev_var rfl) (ea_cons (ev_var rfl) ea_nil))) fun H2 e2 Q2 q2 E2 => ⟨n, a, b, d + i, by rw [Int.natCast_add]; rfl, ex_l (e.trans e2) hS, by omega, by omega, hl, hb, q2⟩) ev_c rv_I0)) (fun hc H2 e2 => ?_) fun hc H2 e2 => ⟨⟨_, rfl⟩, e.trans e2, ?_⟩
        · refine s_ret ev_c fun H3 e3 => ?_
          rw [isProof_false (i := d + i) (by omega) (by omega) (of_decide_eq_true hc)] at k
          exact k _ ((e.trans e2).trans e3)
        · have hc'' := of_decide_eq_false hc
          intro j hj
          by_cases c : j = i
          · subst c; omega
          · exact ha j (by omega)
      · rintro σ' H' ⟨⟨v, rfl⟩, e, ha⟩
        refine s_ret ev_c fun H2 e2 => ?_
        rw [isProof_true (by omega) (fun j hj => ha j (by omega))] at k
        exact k _ (e.trans e2)
abbrev s_bound_or_refusal : Stmt := top 42
theorem sc_bound_or_refusal : FnScope ["bound"] ["bound"] (defScope s_bound_or_refusal) := ⟨rfl, rfl, rfl, by decide +kernel, rfl, by decide +kernel, by decide +kernel⟩

def spBoR : Sp := fun vs H Q _ => ∃ o : Option Nat, vs = [optV o] ∧ RetL [.int (match o with
  | none => -33
  | some x => ((x : Nat) : Int))] H Q
theorem ok_bound_or_refusal {f : Addr} {fd : FuncData} (F : Fun K "bound_or_refusal" "bound_or_refusal" s_bound_or_refusal f fd) (g_NOT_SO : GInt mg "NOT_SO" (-33)) : FnOk P w K mg base CX0 1 f fd ["bound"] spBoR := by
  refine F.ok sc_bound_or_refusal (fun vs H Q E h => ?_) (fun cdv A outer s H vs Q E hr h => ⟨_, (pss_cons (ps_if (pt_cmpR op_isN (pv 0) pe_non (nomark _)) (pss_one (ps_ret (pe_lst (pa_cons (pe_gi g_NOT_SO) pa_nil)))) pss_nil)
      (pss_one (ps_ret (pe_lst (pa_cons (pv 0) pa_nil))))), ?_⟩)
  · obtain ⟨o, rfl, _⟩ := h
    rfl
  · obtain ⟨o, rfl, k⟩ := h
    cases o with
    | none =>
      refine q_when (b := true) (et_test (ev_is (ev_isN (ev_var (v := .non) rfl)) rfl)) (fun hb H1 e1 => ?_) fun hb => by cases hb
      exact s_retL (el_lst (ea_cons ev_c ea_nil) (by show 1 ≤ 100000; decide)) fun p H2 hp e2 h2 => k.go e1 hp e2 h2
    | some x =>
      refine q_when (b := false) (et_test (ev_is (ev_isN (ev_var (v := .int ((x : Nat) : Int)) rfl)) (congrArg V.bl (decide_eq_false fun z => by cases z)))) (fun hb => by cases hb) fun hb H1 e1 => ?_
      exact s_retL (el_lst (ea_cons (ev_var rfl) ea_nil) (by show 1 ≤ 100000; decide)) fun p H2 hp e2 h2 => k.go e1 hp e2 h2
abbrev s_Desk___init__ : Stmt := inClass (top 44) 0
theorem sc_Desk___init__ : FnScope ["self"] ["self"] (defScope s_Desk___init__) := ⟨rfl, rfl, rfl, by decide +kernel, rfl, by decide +kernel, by decide +kernel⟩

def spInit (C : Addr) : Sp := fun vs H Q _ => ∃ (p dx : Addr), vs = [.ref p] ∧ H p = some (.ins C dx []) ∧ ∀ H' : Hp, DeskAt C H' p none → (∀ b o, H b = some o → b ≠ p → H' b = some o) → Q .non H'
theorem ok_Desk___init__ {f : Addr} {fd : FuncData} (F : Fun K "__init__" "Desk.__init__" s_Desk___init__ f fd)  (T : DeskT K C): FnOk P w K mg base CX0 1 f fd ["self"] (spInit C) := by
  refine F.ok sc_Desk___init__ (fun vs H Q E h => ?_) (fun cdv A outer s H vs Q E hr h => ⟨_, (pss_cons (ps_fld (pv 0) pe_int rfl)
      (pss_one (ps_fld (pv 0) pe_int rfl))), ?_⟩)
  · obtain ⟨p, dx, rfl, _⟩ := h
    rfl
  · obtain ⟨p, dx, rfl, hp, k⟩ := h
    refine q_fld (a := p) ev_c (ev_var rfl) hp T.cl T.nB (by show 0 < 1000; decide) fun H1 e1 => ?_
    refine s_fld (a := p) ev_c (ev_var rfl) upd_same T.cl T.nD (by show 1 < 1000; decide) fun H2 e2 => ?_
    refine k _ ⟨dx, Eq.trans upd_same (congrArg (fun q => some (HO.ins C dx q)) ?_)⟩ fun b o hb hne => ?_
    · exact (put_past (by decide +kernel)).trans rfl
    · rw [upd_ne hne]
      refine e2 b o ?_
      rw [upd_ne hne]
      exact e1 b o hb
abbrev s_Desk_is_begun : Stmt := inClass (top 44) 1
theorem sc_Desk_is_begun : FnScope ["self"] ["self"] (defScope s_Desk_is_begun) := ⟨rfl, rfl, rfl, by decide +kernel, rfl, by decide +kernel, by decide +kernel⟩

def spIsB (C : Addr) : Sp := fun vs H Q _ => ∃ (a : Addr) (s : Option Kh408.Abs), vs = [.ref a] ∧ DeskAt C H a s ∧ RetV (.bl (decide (0 < bitsOf s))) H Q
theorem ok_Desk_is_begun {f : Addr} {fd : FuncData} (F : Fun K "is_begun" "Desk.is_begun" s_Desk_is_begun f fd)  (T : DeskT K C): FnOk P w K mg base CX0 1 f fd ["self"] (spIsB C) := by
  refine F.ok sc_Desk_is_begun (fun vs H Q E h => ?_) (fun cdv A outer s H vs Q E hr h => ⟨_, (pss_one (ps_ret (pe_cmpR op_gt (pe_fld (pv 0) rfl) pe_int (nomark _)))), ?_⟩)
  · obtain ⟨a, s, rfl, _⟩ := h
    rfl
  · obtain ⟨a, s, rfl, hD, k⟩ := h
    refine s_ret (ev_is (ev_op (ev_bits T (ev_var rfl) hD) ev_c rv_I0) ?_) k
    have : (0 : Int) < ((bitsOf s : Nat) : Int) ↔ 0 < bitsOf s := by omega
    simp only [this]
abbrev s_Desk_begin : Stmt := inClass (top 44) 2
theorem sc_Desk_begin : FnScope ["self", "bits", "distance"] ["self", "bits", "distance"] (defScope s_Desk_begin) := ⟨rfl, rfl, rfl, by decide +kernel, rfl, by decide +kernel, by decide +kernel⟩

def spBegin (C : Addr) : Sp := fun vs H Q _ => ∃ (a : Addr) (s : Option Kh408.Abs) (n d : Nat), vs = [.ref a, .int n, .int d] ∧ DeskAt C H a s ∧
  ((n < 1 ∨ 6 < n ∨ d < 1 ∨ n < d) → RetD C a s [.int (-22)] H Q) ∧ (¬ (n < 1 ∨ 6 < n ∨ d < 1 ∨ n < d) → RetD C a (some ⟨n, d⟩) [.int 0] H Q)
theorem ok_Desk_begin {f : Addr} {fd : FuncData} (F : Fun K "begin" "Desk.begin" s_Desk_begin f fd) (g_MOST_BITS : GInt mg "MOST_BITS" (6)) (g_NOT_RIGHT : GInt mg "NOT_RIGHT" (-22)) (T : DeskT K C): FnOk P w K mg base CX0 1 f fd ["self", "bits", "distance"] (spBegin C) := by
  refine F.ok sc_Desk_begin (fun vs H Q E h => ?_) (fun cdv A outer s H vs Q E hr h => ⟨_, (pss_cons (ps_if (PW.pt (pw_or (pt_cmpR op_lt (pv 1) pe_int (nomark _)) (pw_or (pt_cmpR op_gt (pv 1) (pe_gi g_MOST_BITS) (nomark _)) (pw_or (pt_cmpR op_lt (pv 2) pe_int (nomark _)) (pw_or1 (pt_cmpR op_gt (pv 2) (pv 1) (nomark _))))))) (pss_one (ps_ret (pe_lst (pa_cons (pe_gi g_NOT_RIGHT) pa_nil)))) pss_nil)
      (pss_cons (ps_fld (pv 0) (pv 1) rfl)
      (pss_cons (ps_fld (pv 0) (pv 2) rfl)
      (pss_one (ps_ret (pe_lst (pa_cons pe_int pa_nil))))))), ?_⟩)
  · obtain ⟨a, s, n, d, rfl, _⟩ := h
    rfl
  · obtain ⟨a, s, n, d, rfl, hD, k1, k2⟩ := h
    refine q_when (b := decide ((n : Int) < 1) || (decide ((6 : Int) < n) || (decide ((d : Int) < 1) || decide ((n : Int) < d)))) (et_or (et_test (ev_op (ev_var rfl) ev_c rv_I0)) fun _ => et_or (et_test (ev_op (ev_var rfl) ev_c rv_I0)) fun _ => et_or (et_test (ev_op (ev_var rfl) ev_c rv_I0)) fun _ => et_test (ev_op (ev_var rfl) (ev_var rfl) rv_I0)) (fun hb H1 e1 => ?_) fun hb H1 e1 => ?_
    · have hb' : n < 1 ∨ 6 < n ∨ d < 1 ∨ n < d := by simp at hb; omega
      exact s_retL (el_lst (ea_cons ev_c ea_nil) (by show 1 ≤ 100000; decide)) fun p H2 hp e2 h2 => ((k1 hb').l hD).go e1 hp e2 h2
    · have hb' : ¬ (n < 1 ∨ 6 < n ∨ d < 1 ∨ n < d) := by simp at hb; omega
      obtain ⟨dx, hO⟩ := hD
      refine q_fld (a := a) (ev_var rfl) (ev_var rfl) (e1 a _ hO) T.cl T.nB (by show 2 < 1000; decide) fun H2 e2 => ?_
      refine q_fld (a := a) (ev_var rfl) (ev_var rfl) upd_same T.cl T.nD (by show 2 < 1000; decide) fun H3 e3 => ?_
      refine s_retL (el_lst (ea_cons ev_c ea_nil) (by show 1 ≤ 100000; decide)) fun p H4 hp e4 h4 => ?_
      have keep : ∀ b o, H b = some o → b ≠ a → H4 b = some o := fun b o hb hne => by
        refine e4 b o ?_
        rw [upd_ne hne]
        refine e3 b o ?_
        rw [upd_ne hne]
        exact e2 b o (e1 b o hb)
      refine k2 hb' H4 p keep ⟨dx, e4 a _ (Eq.trans upd_same (congrArg (fun q => some (HO.ins C dx q)) ?_))⟩ ?_ h4
      · refine Eq.trans (congrArg (putF "distance" _) put_here) ?_
        exact (put_past (by decide +kernel)).trans (congrArg _ put_here)
      · cases hc : H p with
        | none => rfl
        | some o =>
          by_cases ne : p = a
          · subst ne
            rw [upd_same] at hp
            cases hp
          · rw [upd_ne ne] at hp
            have q := e3 p o (by rw [upd_ne ne]; exact e2 p o (e1 p o hc))
            rw [hp] at q
            cases q
abbrev s_Desk_goal : Stmt := inClass (top 44) 3
theorem sc_Desk_goal : FnScope ["self", "distance", "before"] ["self", "distance"] (defScope s_Desk_goal) := ⟨rfl, rfl, rfl, by decide +kernel, rfl, by decide +kernel, by decide +kernel⟩

def spGoal (C : Addr) : Sp := fun vs H Q _ => ∃ (a : Addr) (s : Kh408.Abs) (d : Nat), vs = [.ref a, .int d] ∧ DeskAt C H a (some s) ∧
  ((d < 1 ∨ s.n < d) → RetD C a (some s) [.int (-22)] H Q) ∧ (¬ (d < 1 ∨ s.n < d) → RetD C a (some ⟨s.n, d⟩) [.int ((s.d : Nat) : Int)] H Q)
theorem ok_Desk_goal {f : Addr} {fd : FuncData} (F : Fun K "goal" "Desk.goal" s_Desk_goal f fd) (g_NOT_RIGHT : GInt mg "NOT_RIGHT" (-22)) (T : DeskT K C): FnOk P w K mg base CX0 1 f fd ["self", "distance"] (spGoal C) := by
  refine F.ok sc_Desk_goal (fun vs H Q E h => ?_) (fun cdv A outer s H vs Q E hr h => ⟨_, (pss_cons (ps_if (PW.pt (pw_or (pt_cmpR op_lt (pv 1) pe_int (nomark _)) (pw_or1 (pt_cmpR op_gt (pv 1) (pe_fld (pv 0) rfl) (nomark _))))) (pss_one (ps_ret (pe_lst (pa_cons (pe_gi g_NOT_RIGHT) pa_nil)))) pss_nil)
      (pss_cons (ps_set (i := 2) sc_Desk_goal.nd rfl (Or.inl rfl) (pe_fld (pv 0) rfl))
      (pss_cons (ps_fld (pv 0) (pv 1) rfl)
      (pss_one (ps_ret (pe_lst (pa_cons (pv 2) pa_nil))))))), ?_⟩)
  · obtain ⟨a, s, d, rfl, _⟩ := h
    rfl
  · obtain ⟨a, s, d, rfl, hD, k1, k2⟩ := h
    refine q_when (b := decide ((d : Int) < 1) || decide (((s.n : Nat) : Int) < d)) (et_or (et_test (ev_op (ev_var rfl) ev_c rv_I0)) fun _ => et_test (ev_op (ev_var rfl) (ev_bits T (ev_var rfl) hD) rv_I0)) (fun hb H1 e1 => ?_) fun hb H1 e1 => ?_
    · have hb' : d < 1 ∨ s.n < d := by simp at hb; omega
      exact s_retL (el_lst (ea_cons ev_c ea_nil) (by show 1 ≤ 100000; decide)) fun p H2 hp e2 h2 => ((k1 hb').l hD).go e1 hp e2 h2
    · have hb' : ¬ (d < 1 ∨ s.n < d) := by simp at hb; omega
      refine q_asg (ev_dist T (ev_var rfl) (hD.ex e1)) fun H2 e2 => ?_
      obtain ⟨dx, hO⟩ := hD
      refine q_fld (a := a) (ev_var rfl) (ev_var rfl) (e2 a _ (e1 a _ hO)) T.cl T.nD (by show 2 < 1000; decide) fun H3 e3 => ?_
      refine s_retL (el_lst (ea_cons (ev_var rfl) ea_nil) (by show 1 ≤ 100000; decide)) fun p H4 hp e4 h4 => ?_
      have keep : ∀ b o, H b = some o → b ≠ a → H4 b = some o := fun b o hb hne => by
        refine e4 b o ?_
        rw [upd_ne hne]
        exact e3 b o (e2 b o (e1 b o hb))
      refine k2 hb' H4 p keep ⟨dx, e4 a _ (Eq.trans upd_same (congrArg (fun q => some (HO.ins C dx q)) ?_))⟩ ?_ h4
      · exact (put_past (by decide +kernel)).trans (congrArg _ put_here)
      · cases hc : H p with
        | none => rfl
        | some o =>
          by_cases ne : p = a
          · subst ne
            rw [upd_same] at hp
            cases hp
          · rw [upd_ne ne] at hp
            have q := e3 p o (e2 p o (e1 p o hc))
            rw [hp] at q
            cases q
abbrev s_Desk_balls : Stmt := inClass (top 44) 4
theorem sc_Desk_balls : FnScope ["self"] ["self"] (defScope s_Desk_balls) := ⟨rfl, rfl, rfl, by decide +kernel, rfl, by decide +kernel, by decide +kernel⟩

def sp_balls (C : Addr) : Sp := fun vs H Q _ => ∃ (a : Addr) (n d : Nat), vs = [.ref a] ∧ DeskAt C H a (some ⟨n, d⟩) ∧ 1 ≤ d ∧ d ≤ n ∧ n ≤ 6 ∧ RetL [.int ((Kh408.byBalls ⟨n, d⟩ : Nat) : Int)] H Q
theorem ok_Desk_balls {f : Addr} {fd : FuncData} (F : Fun K "balls" "Desk.balls" s_Desk_balls f fd) (c_by_balls : Cal P w K mg base "by_balls" 2 ["bits", "distance"] spBalls) (T : DeskT K C): FnOk P w K mg base CX0 3 f fd ["self"] (sp_balls C) := by
  refine F.ok sc_Desk_balls (fun vs H Q E h => ?_) (fun cdv A outer s H vs Q E hr h => ⟨_, (pss_one (ps_ret (pe_lst (pa_cons (pe_cal c_by_balls (hr.mono (by decide)) (pa_cons (pe_fld (pv 0) rfl) (pa_cons (pe_fld (pv 0) rfl) pa_nil))) pa_nil)))), ?_⟩)
  · obtain ⟨a, n, d, rfl, _⟩ := h
    rfl
  · obtain ⟨a, n, d, rfl, hD, hd, hdn, hn, k⟩ := h
    exact s_retL (el_lst (ea_cons (ev_call (ea_cons (ev_bits T (ev_var rfl) hD) (ea_cons (ev_dist T (ev_var rfl) hD) ea_nil)) fun H2 e2 Q2 q2 E2 => ⟨n, d, rfl, hd, hdn, hn, q2⟩) ea_nil) (by show 1 ≤ 100000; decide)) k
abbrev s_Desk_cut : Stmt := inClass (top 44) 5
theorem sc_Desk_cut : FnScope ["self"] ["self"] (defScope s_Desk_cut) := ⟨rfl, rfl, rfl, by decide +kernel, rfl, by decide +kernel, by decide +kernel⟩

def sp_cut (C : Addr) : Sp := fun vs H Q _ => ∃ (a : Addr) (n d : Nat), vs = [.ref a] ∧ DeskAt C H a (some ⟨n, d⟩) ∧ 1 ≤ d ∧ d ≤ n ∧ n ≤ 6 ∧ RetL [.int ((Kh408.byCut ⟨n, d⟩ : Nat) : Int)] H Q
theorem ok_Desk_cut {f : Addr} {fd : FuncData} (F : Fun K "cut" "Desk.cut" s_Desk_cut f fd) (c_by_cut : Cal P w K mg base "by_cut" 2 ["bits", "distance"] spCut) (T : DeskT K C): FnOk P w K mg base CX0 3 f fd ["self"] (sp_cut C) := by
  refine F.ok sc_Desk_cut (fun vs H Q E h => ?_) (fun cdv A outer s H vs Q E hr h => ⟨_, (pss_one (ps_ret (pe_lst (pa_cons (pe_cal c_by_cut (hr.mono (by decide)) (pa_cons (pe_fld (pv 0) rfl) (pa_cons (pe_fld (pv 0) rfl) pa_nil))) pa_nil)))), ?_⟩)
  · obtain ⟨a, n, d, rfl, _⟩ := h
    rfl
  · obtain ⟨a, n, d, rfl, hD, hd, hdn, hn, k⟩ := h
    exact s_retL (el_lst (ea_cons (ev_call (ea_cons (ev_bits T (ev_var rfl) hD) (ea_cons (ev_dist T (ev_var rfl) hD) ea_nil)) fun H2 e2 Q2 q2 E2 => ⟨n, d, rfl, hd, hdn, hn, q2⟩) ea_nil) (by show 1 ≤ 100000; decide)) k
abbrev s_Desk_mean : Stmt := inClass (top 44) 6
theorem sc_Desk_mean : FnScope ["self"] ["self"] (defScope s_Desk_mean) := ⟨rfl, rfl, rfl, by decide +kernel, rfl, by decide +kernel, by decide +kernel⟩

def sp_mean (C : Addr) : Sp := fun vs H Q _ => ∃ (a : Addr) (n d : Nat), vs = [.ref a] ∧ DeskAt C H a (some ⟨n, d⟩) ∧ 1 ≤ d ∧ d ≤ n ∧ n ≤ 6 ∧ RetL [.int (match Kh408.byMean n d with | none => -33 | some x => ((x : Nat) : Int))] H Q
theorem ok_Desk_mean {f : Addr} {fd : FuncData} (F : Fun K "mean" "Desk.mean" s_Desk_mean f fd) (c_bound_or_refusal : Cal P w K mg base "bound_or_refusal" 1 ["bound"] spBoR) (c_by_mean : Cal P w K mg base "by_mean" 1 ["bits", "distance"] spMean) (T : DeskT K C): FnOk P w K mg base CX0 3 f fd ["self"] (sp_mean C) := by
  refine F.ok sc_Desk_mean (fun vs H Q E h => ?_) (fun cdv A outer s H vs Q E hr h => ⟨_, (pss_one (ps_ret (pe_cal c_bound_or_refusal (hr.mono (by decide)) (pa_cons (pe_cal c_by_mean (hr.mono (by decide)) (pa_cons (pe_fld (pv 0) rfl) (pa_cons (pe_fld (pv 0) rfl) pa_nil))) pa_nil)))), ?_⟩)
  · obtain ⟨a, n, d, rfl, _⟩ := h
    rfl
  · obtain ⟨a, n, d, rfl, hD, hd, hdn, hn, k⟩ := h
    exact s_retL (el_call (ea_cons (ev_call (z := optV (Kh408.byMean n d)) (ea_cons (ev_bits T (ev_var rfl) hD) (ea_cons (ev_dist T (ev_var rfl) hD) ea_nil)) fun H2 e2 Q2 q2 E2 => ⟨n, d, rfl, hd, by omega, by omega, q2⟩) ea_nil) fun H2 e2 Q2 q2 E2 => ⟨Kh408.byMean n d, rfl, q2⟩) k
abbrev s_Desk_even : Stmt := inClass (top 44) 7
theorem sc_Desk_even : FnScope ["self"] ["self"] (defScope s_Desk_even) := ⟨rfl, rfl, rfl, by decide +kernel, rfl, by decide +kernel, by decide +kernel⟩

def sp_even (C : Addr) : Sp := fun vs H Q _ => ∃ (a : Addr) (n d : Nat), vs = [.ref a] ∧ DeskAt C H a (some ⟨n, d⟩) ∧ 1 ≤ d ∧ d ≤ n ∧ n ≤ 6 ∧ RetL [.int (match Kh408.byEven ⟨n, d⟩ with | none => -33 | some x => ((x : Nat) : Int))] H Q
theorem ok_Desk_even {f : Addr} {fd : FuncData} (F : Fun K "even" "Desk.even" s_Desk_even f fd) (c_bound_or_refusal : Cal P w K mg base "bound_or_refusal" 1 ["bound"] spBoR) (c_by_even : Cal P w K mg base "by_even" 2 ["bits", "distance"] spEven) (T : DeskT K C): FnOk P w K mg base CX0 3 f fd ["self"] (sp_even C) := by
  refine F.ok sc_Desk_even (fun vs H Q E h => ?_) (fun cdv A outer s H vs Q E hr h => ⟨_, (pss_one (ps_ret (pe_cal c_bound_or_refusal (hr.mono (by decide)) (pa_cons (pe_cal c_by_even (hr.mono (by decide)) (pa_cons (pe_fld (pv 0) rfl) (pa_cons (pe_fld (pv 0) rfl) pa_nil))) pa_nil)))), ?_⟩)
  · obtain ⟨a, n, d, rfl, _⟩ := h
    rfl
  · obtain ⟨a, n, d, rfl, hD, hd, hdn, hn, k⟩ := h
    exact s_retL (el_call (ea_cons (ev_call (z := optV (Kh408.byEven ⟨n, d⟩)) (ea_cons (ev_bits T (ev_var rfl) hD) (ea_cons (ev_dist T (ev_var rfl) hD) ea_nil)) fun H2 e2 Q2 q2 E2 => ⟨n, d, rfl, hd, hdn, hn, q2⟩) ea_nil) fun H2 e2 Q2 q2 E2 => ⟨Kh408.byEven ⟨n, d⟩, rfl, q2⟩) k
abbrev s_Desk_least : Stmt := inClass (top 44) 8
theorem sc_Desk_least : FnScope ["self"] ["self"] (defScope s_Desk_least) := ⟨rfl, rfl, rfl, by decide +kernel, rfl, by decide +kernel, by decide +kernel⟩

def sp_least (C : Addr) : Sp := fun vs H Q _ => ∃ (a : Addr) (n d : Nat), vs = [.ref a] ∧ DeskAt C H a (some ⟨n, d⟩) ∧ 1 ≤ d ∧ d ≤ n ∧ n ≤ 6 ∧ RetL [.int ((Kh408.plain ⟨n, d⟩ : Nat) : Int)] H Q
theorem ok_Desk_least {f : Addr} {fd : FuncData} (F : Fun K "least" "Desk.least" s_Desk_least f fd) (c_least_bound : Cal P w K mg base "least_bound" 3 ["bits", "distance"] spLeastB) (T : DeskT K C): FnOk P w K mg base CX0 4 f fd ["self"] (sp_least C) := by
  refine F.ok sc_Desk_least (fun vs H Q E h => ?_) (fun cdv A outer s H vs Q E hr h => ⟨_, (pss_one (ps_ret (pe_lst (pa_cons (pe_cal c_least_bound (hr.mono (by decide)) (pa_cons (pe_fld (pv 0) rfl) (pa_cons (pe_fld (pv 0) rfl) pa_nil))) pa_nil)))), ?_⟩)
  · obtain ⟨a, n, d, rfl, _⟩ := h
    rfl
  · obtain ⟨a, n, d, rfl, hD, hd, hdn, hn, k⟩ := h
    exact s_retL (el_lst (ea_cons (ev_call (ea_cons (ev_bits T (ev_var rfl) hD) (ea_cons (ev_dist T (ev_var rfl) hD) ea_nil)) fun H2 e2 Q2 q2 E2 => ⟨n, d, rfl, hd, hdn, hn, q2⟩) ea_nil) (by show 1 ≤ 100000; decide)) k
abbrev s_Desk_proves : Stmt := inClass (top 44) 9
theorem sc_Desk_proves : FnScope ["self", "numbers", "above", "below"] ["self", "numbers"] (defScope s_Desk_proves) := ⟨rfl, rfl, rfl, by decide +kernel, rfl, by decide +kernel, by decide +kernel⟩

def provesAns (n d : Nat) (b : List Nat) : List Int := let r := (Kh408.does ⟨n, d⟩ (.proves b)).2
  r.ret :: r.out
theorem provesAns_row {n d : Nat} {b : List Nat} (h : okRowB n b = false) : provesAns n d b = [-22] := by
  have e : (Kh408.does ⟨n, d⟩ (.proves b)).2 = Kh408.say (-22) := by
    show (if Kh408.okRow ⟨n, d⟩ b = false then _ else _) = _
    rw [if_pos (show Kh408.okRow ⟨n, d⟩ b = false from h)]
  unfold provesAns
  rw [e]
  rfl
theorem provesAns_not {n d : Nat} {b : List Nat} (h : okRowB n b = true) (h2 : Kh408.isProof ⟨n, d⟩ b = false) : provesAns n d b = [-33] := by
  have e : (Kh408.does ⟨n, d⟩ (.proves b)).2 = Kh408.say (-33) := by
    show (if Kh408.okRow ⟨n, d⟩ b = false then _ else if Kh408.isProof ⟨n, d⟩ b = false then _ else _) = _
    rw [if_neg (by rw [show Kh408.okRow ⟨n, d⟩ b = true from h]; decide), if_pos h2]
  unfold provesAns
  rw [e]
  rfl
theorem provesAns_yes {n d A m : Nat} {b : List Nat} (h : okRowB n b = true) (h2 : Kh408.isProof ⟨n, d⟩ b = true) (hA : Kh408.at_ n b 0 = (A : Int)) (hm : b.getD 0 1 = m) (m0 : 0 < m) : provesAns n d b = [((A / m : Nat) : Int), ((A / Nat.gcd m A : Nat) : Int), ((m / Nat.gcd m A : Nat) : Int)] := by
  have e : (Kh408.does ⟨n, d⟩ (.proves b)).2 = Kh408.frs (Kh408.floor (Kh397.frac (Kh408.at_ n b 0) (Int.ofNat (b.getD 0 1)))) [Kh397.frac (Kh408.at_ n b 0) (Int.ofNat (b.getD 0 1))] := by
    show (if Kh408.okRow ⟨n, d⟩ b = false then _ else if Kh408.isProof ⟨n, d⟩ b = false then _ else _) = _
    rw [if_neg (by rw [show Kh408.okRow ⟨n, d⟩ b = true from h]; decide), if_neg (by rw [h2]; decide)]
  have ef : Kh397.frac (Kh408.at_ n b 0) (Int.ofNat (b.getD 0 1)) = ⟨((A / Nat.gcd m A : Nat) : Int), ((m / Nat.gcd m A : Nat) : Int)⟩ := by
    rw [hA, hm]
    exact frac_nat m0
  rw [ef] at e
  unfold provesAns
  rw [e]
  show [((A / Nat.gcd m A : Nat) : Int) / ((m / Nat.gcd m A : Nat) : Int), ((A / Nat.gcd m A : Nat) : Int), ((m / Nat.gcd m A : Nat) : Int)] = _
  rw [floor_nat m0]
def spProves (K : PySem.W.Frag) (C : Addr) : Sp := fun vs H Q _ => ∃ (a r : Addr) (n d : Nat) (b : List Nat), vs = [.ref a, .ref r] ∧ DeskAt C H a (some ⟨n, d⟩) ∧ SqL K H r (natsV b) ∧ 1 ≤ d ∧ d ≤ n ∧ n ≤ 6 ∧ RetL ((provesAns n d b).map V.int) H Q
theorem ok_Desk_proves {f : Addr} {fd : FuncData} (F : Fun K "proves" "Desk.proves" s_Desk_proves f fd) (c_lowest_terms : Cal P w K mg base "lowest_terms" 2 ["above", "below"] spLowest) (c_comes_to : Cal P w K mg base "comes_to" 3 ["bits", "numbers", "i"] (spComes K)) (c_is_proof : Cal P w K mg base "is_proof" 4 ["bits", "distance", "numbers"] (spProof K)) (g_NOT_SO : GInt mg "NOT_SO" (-33)) (c_is_right_row : Cal P w K mg base "is_right_row" 1 ["bits", "numbers"] (spRow K)) (g_NOT_RIGHT : GInt mg "NOT_RIGHT" (-22)) (T : DeskT K C): FnOk P w K mg base CX0 5 f fd ["self", "numbers"] (spProves K C) := by
  refine F.ok sc_Desk_proves (fun vs H Q E h => ?_) (fun cdv A outer s H vs Q E hr h => ⟨_, (pss_cons (ps_if (pt_not (pt_val (pe_cal c_is_right_row (hr.mono (by decide)) (pa_cons (pe_fld (pv 0) rfl) (pa_cons (pv 1) pa_nil))))) (pss_one (ps_ret (pe_lst (pa_cons (pe_gi g_NOT_RIGHT) pa_nil)))) pss_nil)
      (pss_cons (ps_if (pt_not (pt_val (pe_cal c_is_proof (hr.mono (by decide)) (pa_cons (pe_fld (pv 0) rfl) (pa_cons (pe_fld (pv 0) rfl) (pa_cons (pv 1) pa_nil)))))) (pss_one (ps_ret (pe_lst (pa_cons (pe_gi g_NOT_SO) pa_nil)))) pss_nil)
      (pss_cons (ps_set (i := 2) sc_Desk_proves.nd rfl (Or.inl rfl) (pe_cal c_comes_to (hr.mono (by decide)) (pa_cons (pe_fld (pv 0) rfl) (pa_cons (pv 1) (pa_cons pe_int pa_nil)))))
      (pss_cons (ps_set (i := 3) sc_Desk_proves.nd rfl (Or.inl rfl) (pe_ix ix_list (pv 1) pe_int (fun _ _ => rfl)))
      (pss_one (ps_ret (pe_op op_cat (pe_lst (pa_cons (pe_op op_fdiv (pv 2) (pv 3)) pa_nil)) (pe_cal c_lowest_terms (hr.mono (by decide)) (pa_cons (pv 2) (pa_cons (pv 3) pa_nil)))))))))), ?_⟩)
  · obtain ⟨a, r, n, d, b, rfl, _⟩ := h
    rfl
  · obtain ⟨a, r, n, d, b, rfl, hD, hS, hd, hdn, hn, k⟩ := h
    refine q_when (b := !okRowB n b) (et_not (et_B (ev_call (z := .bl (okRowB n b)) (ea_cons (ev_bits T (ev_var rfl) hD) (ea_cons (ev_var rfl) ea_nil)) fun H2 e2 Q2 q2 E2 => ⟨n, r, b, rfl, ex_l e2 hS, q2⟩))) (fun hb H1 e1 => ?_) fun hb H1 e1 => ?_
    · rw [provesAns_row (by simpa using hb)] at k
      exact s_retL (el_lst (ea_cons ev_c ea_nil) (by show 1 ≤ 100000; decide)) fun p H2 hp e2 h2 => k.go e1 hp e2 h2
    have hr1 : okRowB n b = true := by simpa using hb
    have hr2 : b.length = n + 1 ∧ ∀ x ∈ b, x ≤ 1000 := by
      unfold okRowB at hr1
      rw [Bool.and_eq_true, decide_eq_true_iff, List.all_eq_true] at hr1
      exact ⟨hr1.1, fun x hx => of_decide_eq_true (hr1.2 x hx)⟩
    refine q_when (b := !Kh408.isProof ⟨n, d⟩ b) (et_not (et_B (ev_call (z := .bl (Kh408.isProof ⟨n, d⟩ b)) (ea_cons (ev_bits T (ev_var rfl) (hD.ex e1)) (ea_cons (ev_dist T (ev_var rfl) (hD.ex e1)) (ea_cons (ev_var rfl) ea_nil))) fun H2 e2 Q2 q2 E2 => ⟨n, d, r, b, rfl, ex_l (e1.trans e2) hS, hn, hd, hdn, hr2.1, hr2.2, q2⟩))) (fun hc H2 e2 => ?_) fun hc H2 e2 => ?_
    · rw [provesAns_not hr1 (by simpa using hc)] at k
      exact s_retL (el_lst (ea_cons ev_c ea_nil) (by show 1 ≤ 100000; decide)) fun p H3 hp e3 h3 => k.go (e1.trans e2) hp e3 h3
    have hp1 : Kh408.isProof ⟨n, d⟩ b = true := by simpa using hc
    have h0 : 0 < b.length := by omega
    have eg0 : b.getD 0 0 = b[0] := by simp [List.getD_eq_getElem?_getD, h0]
    have eg1 : b.getD 0 1 = b[0] := by simp [List.getD_eq_getElem?_getD, h0]
    have m0 : 0 < b[0] := by
      unfold Kh408.isProof at hp1
      rw [Bool.and_eq_true, decide_eq_true_iff] at hp1
      omega
    have m1 : b[0] ≤ 1000 := hr2.2 _ (List.getElem_mem h0)
    obtain ⟨A, hA⟩ := Int.eq_ofNat_of_zero_le (at0_nonneg hn b)
    rw [provesAns_yes hr1 hp1 hA eg1 m0] at k
    have hx : (b.map Int.ofNat)[0]? = some ((b[0] : Nat) : Int) := by rw [List.getElem?_map, List.getElem?_eq_getElem h0]; rfl
    refine q_asg (v := .int (A : Int)) (ev_call (ea_cons (ev_bits T (ev_var rfl) (hD.ex (e1.trans e2))) (ea_cons (ev_var rfl) (ea_cons ev_c ea_nil))) fun H3 e3 Q3 q3 E3 => ⟨n, r, b, 0, rfl, ex_l ((e1.trans e2).trans e3) hS, by omega, by omega, hr2.1, hr2.2, by rw [hA]; exact q3⟩) fun H3 e3 => ?_
    refine q_asg (v := .int ((b[0] : Nat) : Int)) (ev_op (ev_var rfl) ev_c (rv_ixL (ex_l ((e1.trans e2).trans e3) hS) (ixI hx))) fun H4 e4 => ?_
    refine s_retL (el_cat (xs := [.int ((A / b[0] : Nat) : Int)]) (ys := [.int ((A / Nat.gcd b[0] A : Nat) : Int), .int ((b[0] / Nat.gcd b[0] A : Nat) : Int)]) (el_lst (ea_cons (ev_is (ev_op (ev_var rfl) (ev_var rfl) (rv_I ⟨by omega, by omega⟩)) (by rw [Int.natCast_ediv])) ea_nil) (by show 1 ≤ 100000; decide)) (el_call (ea_cons (ev_var rfl) (ea_cons (ev_var rfl) ea_nil)) fun H5 e5 Q5 q5 E5 => ⟨A, b[0], rfl, m0, by omega, q5⟩) (by show 3 ≤ 100000; decide)) fun p H5 hp e5 h5 => k.go (((e1.trans e2).trans e3).trans e4) hp e5 h5
abbrev s_Desk_at : Stmt := inClass (top 44) 10
theorem sc_Desk_at : FnScope ["self", "i", "numbers"] ["self", "i", "numbers"] (defScope s_Desk_at) := ⟨rfl, rfl, rfl, by decide +kernel, rfl, by decide +kernel, by decide +kernel⟩

def atAns (n i : Nat) (b : List Nat) : List Int := if n < i ∨ okRowB n b = false then [-22] else [0, Kh408.at_ n b i]
def spAt (K : PySem.W.Frag) (C : Addr) : Sp := fun vs H Q _ => ∃ (a : Addr) (i : Nat) (r : Addr) (n d : Nat) (b : List Nat), vs = [.ref a, .int i, .ref r] ∧ DeskAt C H a (some ⟨n, d⟩) ∧ SqL K H r (natsV b) ∧ n ≤ 6 ∧ RetL ((atAns n i b).map V.int) H Q
theorem ok_Desk_at {f : Addr} {fd : FuncData} (F : Fun K "at" "Desk.at" s_Desk_at f fd) (c_comes_to : Cal P w K mg base "comes_to" 3 ["bits", "numbers", "i"] (spComes K)) (c_is_right_row : Cal P w K mg base "is_right_row" 1 ["bits", "numbers"] (spRow K)) (g_NOT_RIGHT : GInt mg "NOT_RIGHT" (-22)) (T : DeskT K C): FnOk P w K mg base CX0 4 f fd ["self", "i", "numbers"] (spAt K C) := by
  refine F.ok sc_Desk_at (fun vs H Q E h => ?_) (fun cdv A outer s H vs Q E hr h => ⟨_, (pss_cons (ps_if (PW.pt (pw_or (pt_cmpR op_gt (pv 1) (pe_fld (pv 0) rfl) (nomark _)) (pw_or1 (pt_not (pt_val (pe_cal c_is_right_row (hr.mono (by decide)) (pa_cons (pe_fld (pv 0) rfl) (pa_cons (pv 2) pa_nil)))))))) (pss_one (ps_ret (pe_lst (pa_cons (pe_gi g_NOT_RIGHT) pa_nil)))) pss_nil)
      (pss_one (ps_ret (pe_lst (pa_cons pe_int (pa_cons (pe_cal c_comes_to (hr.mono (by decide)) (pa_cons (pe_fld (pv 0) rfl) (pa_cons (pv 2) (pa_cons (pv 1) pa_nil)))) pa_nil)))))), ?_⟩)
  · obtain ⟨a, i, r, n, d, b, rfl, _⟩ := h
    rfl
  · obtain ⟨a, i, r, n, d, b, rfl, hD, hS, hn, k⟩ := h
    refine q_when (b := decide ((n : Int) < i) || !okRowB n b) (et_or (et_test (ev_op (ev_var rfl) (ev_bits T (ev_var rfl) hD) rv_I0)) fun _ => et_not (et_B (ev_call (z := .bl (okRowB n b)) (ea_cons (ev_bits T (ev_var rfl) hD) (ea_cons (ev_var rfl) ea_nil)) fun H2 e2 Q2 q2 E2 => ⟨n, r, b, rfl, ex_l e2 hS, q2⟩))) (fun hb H1 e1 => ?_) fun hb H1 e1 => ?_
    · have hb' : n < i ∨ okRowB n b = false := by
        rw [Bool.or_eq_true, decide_eq_true_iff] at hb
        rcases hb with hb | hb
        · exact .inl (by omega)
        · exact .inr (by simpa using hb)
      rw [show atAns n i b = [-22] from if_pos hb'] at k
      exact s_retL (el_lst (ea_cons ev_c ea_nil) (by show 1 ≤ 100000; decide)) fun p H2 hp e2 h2 => k.go e1 hp e2 h2
    · rw [Bool.or_eq_false_iff, decide_eq_false_iff_not] at hb
      have hr1 : okRowB n b = true := by simpa using hb.2
      have hr2 : b.length = n + 1 ∧ ∀ x ∈ b, x ≤ 1000 := by
        unfold okRowB at hr1
        rw [Bool.and_eq_true, decide_eq_true_iff, List.all_eq_true] at hr1
        exact ⟨hr1.1, fun x hx => of_decide_eq_true (hr1.2 x hx)⟩
      rw [show atAns n i b = [0, Kh408.at_ n b i] from if_neg (by rw [hr1]; simp; omega)] at k
      exact s_retL (el_lst (ea_cons ev_c (ea_cons (ev_call (ea_cons (ev_bits T (ev_var rfl) (hD.ex e1)) (ea_cons (ev_var rfl) (ea_cons (ev_var rfl) ea_nil))) fun H3 e3 Q3 q3 E3 => ⟨n, r, b, i, rfl, ex_l (e1.trans e3) hS, by omega, by omega, hr2.1, hr2.2, q3⟩) ea_nil)) (by show 2 ≤ 100000; decide)) fun p H2 hp e2 h2 => k.go e1 hp e2 h2
end
end Fw

set_option Elab.async false
set_option linter.all false
set_option maxRecDepth 100000
set_option maxHeartbeats 2000000
/-! More words of my own: comprehensions without a test, from a number on, of new lists; tables (a list of new lists). -/
namespace Fw
open PySem PySem.Spec PyProof.Rows L2 Evl
section
variable {K : PySem.W.Frag} {σ : L2.St} {H H' : Hp} {ta tb te tx : TE} {t u : TT} {x y z v : V} {r : R2} {D : Ends} {tz : TS}
theorem et_yes : EvT tYes σ H true := fun H1 _ _ q => q H1 (Ex.refl H1)
theorem given_all (n : Nat) (v : Nat → V) : given n (fun _ => true) v = (List.range n).map v := by
  unfold given
  rw [List.filter_eq_self.mpr (fun _ _ => rfl)]
/-- a comprehension over a range from lo on -/
theorem el_lcR2 {ta : TA} {j : Nat} {vs : List Nat} {lo n : Int} (f : Nat → Bool) (v : Nat → V) (h : EvA ta σ H [.int lo, .int n]) (hn : 0 ≤ lo ∧ lo ≤ 40000 ∧ 0 ≤ n ∧ n ≤ 40000) (hw : ∀ x, wipe ((wipe σ vs).set j (some x)) vs = wipe σ vs)
    (ht : ∀ (i : Nat) H1, Ex H H1 → lo + (i : Int) < n → EvT t ((wipe σ vs).set j (some (.int (lo + (i : Int))))) H1 (f i)) (he : ∀ (i : Nat) H1, Ex H H1 → lo + (i : Int) < n → f i = true → Ev te ((wipe σ vs).set j (some (.int (lo + (i : Int))))) H1 (v i)) :
    EvL (tLc (iRng2 ta) (gName j) t te vs) σ H (given (n - lo).toNat f v) := fun H0 e Q q => h H0 e _ fun H1 e1 => ⟨lo, n, rfl, ⟨by omega, by omega, by omega, by omega⟩, fun Dl hD =>
  lc_range (lo := lo) (n := (n - lo).toNat) (Cw H1 f v Dl) ⟨hD, Ex.new hD, upd_same⟩ (fun i H' hi p => ⟨hw _, cw_turn p (by omega) (ht i H1 (e.trans e1) (by omega)) (fun hf => he i H1 (e.trans e1) (by omega) hf)⟩) (fun H' p => q Dl H' (fresh_back e1 p.1) (e1.trans p.2.1) p.2.2)⟩
/-- the same without a test -/
theorem el_mapR1 {ta : TA} {j : Nat} {vs : List Nat} {n : Int} (v : Nat → V) (h : EvA ta σ H [.int n]) (hn : 0 ≤ n ∧ n ≤ 40000) (hw : ∀ x, wipe ((wipe σ vs).set j (some x)) vs = wipe σ vs)
    (he : ∀ (i : Nat) H1, Ex H H1 → (i : Int) < n → Ev te ((wipe σ vs).set j (some (.int (i : Int)))) H1 (v i)) :
    EvL (tLc (iRng1 ta) (gName j) tYes te vs) σ H ((List.range n.toNat).map v) := by
  rw [← given_all]
  exact el_lcR1 _ _ h hn hw (fun _ _ _ _ => et_yes) fun i H1 e1 hi _ => he i H1 e1 hi
theorem el_mapR2 {ta : TA} {j : Nat} {vs : List Nat} {lo n : Int} (v : Nat → V) (h : EvA ta σ H [.int lo, .int n]) (hn : 0 ≤ lo ∧ lo ≤ 40000 ∧ 0 ≤ n ∧ n ≤ 40000) (hw : ∀ x, wipe ((wipe σ vs).set j (some x)) vs = wipe σ vs)
    (he : ∀ (i : Nat) H1, Ex H H1 → lo + (i : Int) < n → Ev te ((wipe σ vs).set j (some (.int (lo + (i : Int))))) H1 (v i)) :
    EvL (tLc (iRng2 ta) (gName j) tYes te vs) σ H ((List.range (n - lo).toNat).map v) := by
  rw [← given_all]
  exact el_lcR2 _ _ h hn hw (fun _ _ _ _ => et_yes) fun i H1 e1 hi _ => he i H1 e1 hi
theorem el_mapNL {xs : List V} {tl : TE} {j : Nat} {vs : List Nat} (v : Nat → V) (h : EvL tl σ H xs) (hz : xs.length ≤ 40000) (hw : ∀ x, wipe ((wipe σ vs).set j (some x)) vs = wipe σ vs)
    (he : ∀ (i : Nat) (x : V) H1, Ex H H1 → xs[i]? = some x → Ev te ((wipe σ vs).set j (some x)) H1 (v i)) :
    EvL (tLc (iList K tl) (gName j) tYes te vs) σ H ((List.range xs.length).map v) := by
  rw [← given_all]
  exact el_lcNL _ _ h hz hw (fun _ _ _ _ _ => et_yes) fun i x H1 e1 hi _ => he i x H1 e1 hi
/-- xs.extend(a new list) -/
theorem s_extL {l : Addr} {xs zs : List V} (hl : H l = some (.lst xs)) (ha : Ev ta σ H (.ref l)) (h : EvL te σ H zs) (hz : xs.length + zs.length ≤ 100000) (k : ∀ H1, Ex H H1 → D.nx σ (upd H1 l (.lst (xs ++ zs)))) :
    tDrop (tBM K "list" rExtend ta (tCons te tNil)) D σ H := ha H (Ex.refl H) _ fun H1 e1 =>
  ⟨Or.inl ⟨rfl, xs, sq_of (e1 l _ hl)⟩, h H1 e1 _ fun p H2 hp e2 h2 => ⟨l, p, xs, zs, rfl, rfl, e2 l _ (e1 l _ hl), h2, sz_of hz, k H2 (e1.trans e2)⟩⟩
/-- two lists that are there, one behind the other -/
theorem el_catV {l b : Addr} {xs ys : List V} (ha : Ev ta σ H (.ref l)) (hb : Ev tb σ H (.ref b)) (hl : H l = some (.lst xs)) (hb2 : H b = some (.lst ys)) (hz : xs.length + ys.length ≤ 100000) : EvL (tOp rCat ta tb) σ H (xs ++ ys) := fun H1 e Q q =>
  ha H1 e _ fun H2 e2 => hb H2 (e.trans e2) _ fun H3 e3 => ⟨l, b, xs, ys, rfl, rfl, ((e.trans e2).trans e3) l _ hl, ((e.trans e2).trans e3) b _ hb2, sz_of hz, fun p hp => q p _ (fresh_back (e2.trans e3) hp) ((e2.trans e3).trans (Ex.new hp)) upd_same⟩
/-- a new list and one that is there -/
theorem el_catN {b : Addr} {xs ys : List V} (ha : EvL ta σ H xs) (hb : Ev tb σ H (.ref b)) (hb2 : H b = some (.lst ys)) (hz : xs.length + ys.length ≤ 100000) : EvL (tOp rCat ta tb) σ H (xs ++ ys) := fun H1 e Q q =>
  ha H1 e _ fun p H2 hp e2 h2 => hb H2 (e.trans e2) _ fun H3 e3 => ⟨p, b, xs, ys, rfl, rfl, e3 p _ h2, ((e.trans e2).trans e3) b _ hb2, sz_of hz, fun p4 h4 => q p4 _ (fresh_back (e2.trans e3) h4) ((e2.trans e3).trans (Ex.new h4)) upd_same⟩
theorem el_catM {b : Addr} {xs ys : List V} (ha : Ev ta σ H (.ref b)) (hb2 : H b = some (.lst xs)) (hb : EvL tb σ H ys) (hz : xs.length + ys.length ≤ 100000) : EvL (tOp rCat ta tb) σ H (xs ++ ys) := fun H1 e Q q =>
  ha H1 e _ fun H2 e2 => hb H2 (e.trans e2) _ fun p H3 hp e3 h3 => ⟨b, p, xs, ys, rfl, rfl, ((e.trans e2).trans e3) b _ hb2, h3, sz_of hz, fun p4 h4 => q p4 _ (fresh_back (e2.trans e3) h4) ((e2.trans e3).trans (Ex.new h4)) upd_same⟩
theorem ev_call1 {sp : Sp} {E : XK} {tr : TA} {xs : List V} {f : Addr → List V} (h : EvL te σ H xs) (hr : ∀ p H1, Ex H H1 → H1 p = some (.lst xs) → ∃ vs, EvA tr σ H1 vs ∧ SpV sp (.ref p :: vs ++ []) H1 z) : Ev (tCall sp [] E (tCons te tr)) σ H z := fun H1 e Q q =>
  h H1 e _ fun p H2 hp e2 h2 => by
    obtain ⟨vs, hv, hs⟩ := hr p H2 (e.trans e2) h2
    exact hv H2 (Ex.refl H2) _ fun H3 e3 => hs H3 e3 Q (fun H4 e4 => q H4 ((e2.trans e3).trans e4)) E
/-- f(a new list, ..) that gives a new list -/
theorem el_call1 {sp : Sp} {E : XK} {tr : TA} {xs zs : List V} (h : EvL te σ H xs) (hr : ∀ p H1, Ex H H1 → H1 p = some (.lst xs) → ∃ vs, EvA tr σ H1 vs ∧ SpL sp (.ref p :: vs ++ []) H1 zs) : EvL (tCall sp [] E (tCons te tr)) σ H zs := fun H1 e Q q =>
  h H1 e _ fun p H2 hp e2 h2 => by
    obtain ⟨vs, hv, hs⟩ := hr p H2 (e.trans e2) h2
    exact hv H2 (Ex.refl H2) _ fun H3 e3 => hs H3 e3 Q (fun p4 H4 h4 e4 q4 => q p4 H4 (fresh_back (e2.trans e3) h4) ((e2.trans e3).trans e4) q4) E
/-- f(a value, a new list, ..) -/
theorem ev_call2 {sp : Sp} {E : XK} {tr : TA} {xs : List V} {x : V} (h1 : Ev ta σ H x) (h : EvL te σ H xs) (hr : ∀ p H1, Ex H H1 → H1 p = some (.lst xs) → ∃ vs, EvA tr σ H1 vs ∧ SpV sp (x :: .ref p :: vs ++ []) H1 z) : Ev (tCall sp [] E (tCons ta (tCons te tr))) σ H z := fun H0 e0 Q q =>
  h1 H0 e0 _ fun H1 e => h H1 (e0.trans e) _ fun p H2 hp e2 h2 => by
    obtain ⟨vs, hv, hs⟩ := hr p H2 ((e0.trans e).trans e2) h2
    exact hv H2 (Ex.refl H2) _ fun H3 e3 => hs H3 e3 Q (fun H4 e4 => q H4 (((e.trans e2).trans e3).trans e4)) E
theorem el_call2 {sp : Sp} {E : XK} {tr : TA} {xs zs : List V} {x : V} (h1 : Ev ta σ H x) (h : EvL te σ H xs) (hr : ∀ p H1, Ex H H1 → H1 p = some (.lst xs) → ∃ vs, EvA tr σ H1 vs ∧ SpL sp (x :: .ref p :: vs ++ []) H1 zs) : EvL (tCall sp [] E (tCons ta (tCons te tr))) σ H zs := fun H0 e0 Q q =>
  h1 H0 e0 _ fun H1 e => h H1 (e0.trans e) _ fun p H2 hp e2 h2 => by
    obtain ⟨vs, hv, hs⟩ := hr p H2 ((e0.trans e).trans e2) h2
    exact hv H2 (Ex.refl H2) _ fun H3 e3 => hs H3 e3 Q (fun p4 H4 h4 e4 q4 => q p4 H4 (fresh_back ((e.trans e2).trans e3) h4) (((e.trans e2).trans e3).trans e4) q4) E
/-- for i, x in enumerate(xs) -/
theorem q_forE {a : Addr} {xs : List V} {ta : TA} {g : TG} {tu : TS} (h : EvA ta σ H [.ref a]) (hx : SqL K H a xs) (Pv : Nat → L2.St → Hp → Prop) (h0 : ∀ H1, Ex H H1 → Pv 0 σ H1) (hl : ∀ i σ' H', i ≤ xs.length → Pv i σ' H' → SqL K H' a xs)
    (hs : ∀ i x σ' H' T, xs[i]? = some x → Pv i σ' H' → H' T = none → g (.ref T) σ' (upd H' T (.tup [.int (i : Nat), x])) fun σ2 H2 => tu { D with nx := Pv (i + 1), ct := Pv (i + 1), bk := tz D } σ2 H2) (hd : ∀ σ' H', Pv xs.length σ' H' → tz D σ' H') : tSeq (tFor (iEnum K ta) g tu) tz D σ H :=
  h H (Ex.refl H) _ fun H1 e => ⟨a, xs, rfl, ex_l e hx, for_it (D := { D with nx := tz D }) walk_enum Pv (h0 H1 e) hl (fun i x σ' H' H2 hi p y => by
    obtain ⟨T, u, v, rfl, hT, rfl, hu, hv⟩ := y
    cases hu
    exact hs i v σ' H' T hv p hT) hd⟩
end
/-! ### tables -/
abbrev Rws := List (Addr × List Int)
def refs (ps : Rws) : List V := ps.map fun x => V.ref x.1
def nums (ps : Rws) : List (List Int) := ps.map (·.2)
def RwAt (H : Hp) (ps : Rws) : Prop := ∀ x ∈ ps, H x.1 = some (.lst (x.2.map V.int))
/-- a list of rows at a -/
def TabAt (H : Hp) (a : Addr) (ps : Rws) : Prop := H a = some (.lst (refs ps)) ∧ RwAt H ps
theorem RwAt.ex {H H' : Hp} {ps : Rws} (h : RwAt H ps) (e : Ex H H') : RwAt H' ps := fun x hx => e _ _ (h x hx)
theorem TabAt.ex {H H' : Hp} {a : Addr} {ps : Rws} (h : TabAt H a ps) (e : Ex H H') : TabAt H' a ps := ⟨e _ _ h.1, h.2.ex e⟩
theorem TabAt.ne {H : Hp} {a : Addr} {ps : Rws} (h : TabAt H a ps) {x : Addr × List Int} (hx : x ∈ ps) : x.1 ≠ a := fun z => by
  have h1 := h.2 x hx
  rw [z, h.1] at h1
  have h2 : refs ps = x.2.map V.int := by injection Option.some.inj h1
  cases ps with
  | nil => cases hx
  | cons y r =>
    cases e : x.2 with
    | nil => rw [e] at h2; cases h2
    | cons i s => rw [e] at h2; cases h2
theorem refs_get {ps : Rws} {i : Nat} {v : V} (h : (refs ps)[i]? = some v) : ∃ x, ps[i]? = some x ∧ v = .ref x.1 := by
  unfold refs at h
  rw [List.getElem?_map] at h
  cases e : ps[i]? with
  | none => rw [e] at h; cases h
  | some x => rw [e] at h; exact ⟨x, rfl, (Option.some.inj h).symm⟩
theorem refs_len (ps : Rws) : (refs ps).length = ps.length := List.length_map ..
theorem nums_len (ps : Rws) : (nums ps).length = ps.length := List.length_map ..
/-- a new table of new rows -/
def EvTab (te : TE) (σ : L2.St) (H : Hp) (ys : List (List Int)) : Prop := ∀ H1, Ex H H1 → ∀ Q : VK, (∀ p ps H2, H1 p = none → Ex H1 H2 → TabAt H2 p ps → nums ps = ys → Q (.ref p) H2) → te σ H1 Q
def RetT (ys : List (List Int)) (H : Hp) (Q : VK) : Prop := ∀ p ps H2, H p = none → Ex H H2 → TabAt H2 p ps → nums ps = ys → Q (.ref p) H2
theorem RetT.go {ys : List (List Int)} {H H' : Hp} {Q : VK} (k : RetT ys H Q) (e : Ex H H') {p : Addr} {ps : Rws} {H2 : Hp} (hp : H' p = none) (e2 : Ex H' H2) (h : TabAt H2 p ps) (hn : nums ps = ys) : Q (.ref p) H2 := k p ps H2 (fresh_back e hp) (e.trans e2) h hn
section
variable {K : PySem.W.Frag} {σ : L2.St} {H H' : Hp} {ta tb te tx : TE} {t u : TT} {D : Ends} {tz : TS} {ys : List (List Int)} {w : List Int}
theorem q_asgT {i : Nat} (h : EvTab te σ H ys) (k : ∀ p ps H1, H p = none → Ex H H1 → TabAt H1 p ps → nums ps = ys → tz D (σ.set i (some (.ref p))) H1) : tSeq (tAsg te (gName i)) tz D σ H := h H (Ex.refl H) _ k
theorem s_retT (h : EvTab te σ H ys) (k : ∀ p ps H1, H p = none → Ex H H1 → TabAt H1 p ps → nums ps = ys → D.rt (.ref p) H1) : tRet te D σ H := h H (Ex.refl H) _ k
theorem et_call {sp : Sp} {dvs vs : List V} {E : XK} {ta : TA} (h : EvA ta σ H vs) (hs : ∀ H1, Ex H H1 → ∀ Q : VK, RetT ys H1 Q → ∀ E : XK, sp (vs ++ dvs) H1 Q E) : EvTab (tCall sp dvs E ta) σ H ys := fun H1 e Q q =>
  h H1 e _ fun H2 e2 => hs H2 (e.trans e2) Q (fun p ps H3 hp e3 h3 hn => q p ps H3 (fresh_back e2 hp) (e2.trans e3) h3 hn) E
/-- [row], the row new -/
theorem et_lst1 (h : EvL te σ H (w.map V.int)) : EvTab (tLst (tCons te tNil)) σ H [w] := fun H1 e Q q =>
  h H1 e _ fun p H2 hp e2 h2 => ⟨sz_of (by show 1 ≤ 100000; decide), fun l hl => q l [(p, w)] _ (fresh_back e2 hl) (e2.trans (Ex.new hl)) ⟨upd_same, fun x hx => by
    have e : x = (p, w) := List.mem_singleton.mp hx
    subst e
    exact Ex.new hl p _ h2⟩ rfl⟩
/-- table.append(a new row) -/
theorem tab_more {l p : Addr} {ps : Rws} {H1 : Hp} (h : TabAt H1 l ps) (hp : H1 p = some (.lst (w.map V.int))) (hn : p ≠ l) : TabAt (upd H1 l (.lst (refs ps ++ [.ref p]))) l (ps ++ [(p, w)]) := by
  refine ⟨upd_same.trans ?_, fun x hx => ?_⟩
  · unfold refs
    rw [List.map_append]
    rfl
  · rcases List.mem_append.mp hx with hx | hx
    · rw [upd_ne (h.ne hx)]
      exact h.2 x hx
    · have e : x = (p, w) := List.mem_singleton.mp hx
      subst e
      rw [upd_ne hn]
      exact hp
theorem s_appRow {l : Addr} {ps : Rws} (hl : TabAt H l ps) (ha : Ev ta σ H (.ref l)) (h : EvL te σ H (w.map V.int)) (hz : ps.length < 100000) (k : ∀ p H1, Ex H H1 → TabAt (upd H1 l (.lst (refs ps ++ [.ref p]))) l (ps ++ [(p, w)]) → D.nx σ (upd H1 l (.lst (refs ps ++ [.ref p])))) :
    tDrop (tBM K "list" rAppend ta (tCons te tNil)) D σ H := s_appL hl.1 ha h (by rw [refs_len]; exact hz) fun p H1 hp e1 h1 => k p H1 e1 (tab_more (hl.ex e1) h1 fun z => by rw [z, hl.1] at hp; cases hp)
/-- [f(row) for row in table], each a new row -/
theorem et_lcT {a : Addr} {xs : List V} {tl : TE} {j : Nat} {vs : List Nat} (f : Nat → List Int) (h : Ev tl σ H (.ref a)) (hx : SqL K H a xs) (hz : xs.length ≤ 40000) (hw : ∀ x, wipe ((wipe σ vs).set j (some x)) vs = wipe σ vs)
    (he : ∀ (i : Nat) (x : V) H1, Ex H H1 → xs[i]? = some x → EvL te ((wipe σ vs).set j (some x)) H1 ((f i).map V.int)) :
    EvTab (tLc (iList K tl) (gName j) tYes te vs) σ H ((List.range xs.length).map f) := fun H0 e Q q => h H0 e _ fun H1 e1 => ⟨a, rfl, ⟨xs, ex_l (e.trans e1) hx⟩, fun Dl hD =>
  lc_list (xs := xs) (fun i H' => Ex H1 H' ∧ ∃ ps, TabAt H' Dl ps ∧ nums ps = (List.range i).map f) ⟨Ex.new hD, [], ⟨upd_same, fun x hx => by cases hx⟩, rfl⟩ (fun i H' _ p => ex_l ((e.trans e1).trans p.1) hx)
    (fun i x H' hi p => by
      obtain ⟨p1, ps, p2, p3⟩ := p
      have hlt := (List.getElem?_eq_some_iff.mp hi).1
      have hlen : ps.length = i := by
        have := congrArg List.length p3
        rw [nums_len, List.length_map, List.length_range] at this
        exact this
      refine ⟨hw x, ?_⟩
      show te _ H' _
      refine he i x H1 (e.trans e1) hi H' p1 _ fun p4 H4 h4 e4 q4 => ⟨refs ps, e4 _ _ p2.1, ?_, Ex.mut (p1.trans e4) hD, ps ++ [(p4, f i)], tab_more (p2.ex e4) q4 (fun z => by rw [z, p2.1] at h4; cases h4), ?_⟩
      · rw [refs_len]
        exact sz_lt (by omega)
      · unfold nums
        rw [List.map_append, List.range_succ, List.map_append]
        exact congrArg (· ++ [f i]) p3)
    (fun H' p => by
      obtain ⟨p1, ps, p2, p3⟩ := p
      exact q Dl ps H' (fresh_back e1 hD) (e1.trans p1) p2 p3)⟩
end
end Fw

set_option Elab.async false
set_option linter.all false
set_option maxRecDepth 100000
set_option maxHeartbeats 2000000
namespace Fw
open PySem PySem.Spec PyProof.Rows L2 Evl
/-! ### the mirror of the least point -/
def unitRow (m p : Nat) : List Int := (List.range m).map fun o => if o = p then 1 else 0
def firstTable (rows : List (List Int)) : List (List Int) := (List.range (rows.headD []).length).map (unitRow (rows.headD []).length) ++ rows
def isNeg (r : List Int) : Bool := decide (r.getD 0 0 < 0)
def lesser (b : List Int) (c o : Nat) : List (List Int) → Bool
  | [] => false
  | r :: t => if r.getD c 0 * b.getD o 0 = r.getD o 0 * b.getD c 0 then lesser b c o t else decide (r.getD c 0 * b.getD o 0 < r.getD o 0 * b.getD c 0)
def pickStep (t : List (List Int)) (b : List Int) (ch i : Nat) : Nat := if (decide (0 < b.getD (i + 1) 0) && (decide (ch = 0) || lesser b (i + 1) ch t)) = true then i + 1 else ch
def pick (t : List (List Int)) (b : List Int) (n : Nat) : Nat := (List.range n).foldl (pickStep t b) 0
def changed (b : List Int) (c : Nat) (w : Int) (r : List Int) : List Int := (List.range r.length).map fun j => if j = c then r.getD c 0 else (r.getD j 0 * b.getD c 0 - r.getD c 0 * b.getD j 0) / w
def small (x : Int) : Bool := decide (-1000000000 < x) && decide (x < 1000000000)
def okTab (m : Nat) (t : List (List Int)) : Bool := decide (t.length ≤ 1000) && (t.all fun r => decide (r.length = m) && r.all small) && decide (0 < t.length) && decide (0 < (t.headD []).getD 0 0)
def below (t : List (List Int)) : Int := (t.headD []).getD 0 0
def run (m : Nat) : Nat → List (List Int) → Option (List (List Int))
  | 0, _ => none
  | k + 1, t => if okTab m t = true then match t.find? isNeg with
      | none => some t
      | some b => run m k (t.map (changed b (pick t b (m - 1)) (below t)))
    else none
def lp (rows : List (List Int)) : Option (List Int) := match run (rows.headD []).length 60 (firstTable rows) with
  | none => none
  | some t => some ((t.take (rows.headD []).length).map fun r => r.getD 0 0)
/-! ### words on lists -/
theorem getI {l : List Int} {i : Nat} (h : i < l.length) : l[i]? = some (l.getD i 0) := by simp [List.getD_eq_getElem?_getD, h]
theorem ixD {l : List Int} {i : Nat} (h : i < l.length) : atI (l.map V.int) (i : Int) = some (.int (l.getD i 0)) := ixI (getI h)
theorem find_at {α : Type} {p : α → Bool} : ∀ {l : List α} {i : Nat} {x : α}, l[i]? = some x → (l.take i).find? p = none → p x = true → l.find? p = some x
  | [], _, _, h, _, _ => by simp at h
  | a :: l, 0, x, h, _, hp => by
    have e : a = x := Option.some.inj h
    subst e
    simp [List.find?, hp]
  | a :: l, i + 1, x, h, hn, hp => by
    rw [List.take_succ_cons, List.find?_cons] at hn
    rw [List.find?_cons]
    cases e : p a with
    | true => rw [e] at hn; cases hn
    | false =>
      rw [e] at hn
      exact find_at (l := l) (i := i) h hn hp
theorem find_more {α : Type} {p : α → Bool} {l : List α} {i : Nat} {x : α} (h : l[i]? = some x) (hn : (l.take i).find? p = none) (hp : p x = false) : (l.take (i + 1)).find? p = none := by
  rw [take_more h, List.find?_append, hn]
  simp [hp]
theorem drop_at {α : Type} {l : List α} {i : Nat} {x : α} (h : l[i]? = some x) : l.drop i = x :: l.drop (i + 1) := by
  obtain ⟨hi, e⟩ := List.getElem?_eq_some_iff.mp h
  rw [List.drop_eq_getElem_cons hi, e]
theorem cut_to {l : List V} {j : Nat} : cutV l none (some (j : Int)) = l.take j := by
  unfold cutV
  rw [HT.sIx_nat, HT.sIx_none, List.drop_zero, Nat.sub_zero, List.take_eq_take_iff]
  omega
def Small (b : List Int) : Prop := ∀ y ∈ b, -1000000000 < y ∧ y < 1000000000
theorem Small.at {b : List Int} (h : Small b) {i : Nat} (hi : i < b.length) : -1000000000 < b.getD i 0 ∧ b.getD i 0 < 1000000000 := h _ (List.mem_of_getElem? (getI hi))
theorem Small.mul {b : List Int} (h : Small b) {i : Nat} (hi : i < b.length) (x : Int) : CMul x (b.getD i 0) := by
  have := h.at hi
  exact Or.inr ⟨by omega, by omega⟩
theorem num_eq (q j : Nat) : V.bl (decide (V.int (q : Int) = V.int ((j : Nat) : Int))) = V.bl (decide (q = j)) := by
  have : V.int (q : Int) = V.int ((j : Nat) : Int) ↔ q = j := by
    rw [V.int.injEq]
    omega
  simp only [this]
/-- the first broken row's place -/
def brokenV (ps : Rws) : V := match ps.find? (fun x => isNeg x.2) with
  | none => .non
  | some x => .ref x.1
theorem find_nums (ps : Rws) : (nums ps).find? isNeg = (ps.find? (fun x => isNeg x.2)).map (·.2) := by
  unfold nums
  rw [List.find?_map]
  rfl
theorem refs_append (a b : Rws) : refs (a ++ b) = refs a ++ refs b := List.map_append ..
theorem nums_append (a b : Rws) : nums (a ++ b) = nums a ++ nums b := List.map_append ..
theorem okTab_is {m : Nat} {t : List (List Int)} (h : okTab m t = true) : t.length ≤ 1000 ∧ (∀ r ∈ t, r.length = m ∧ Small r) ∧ 0 < t.length ∧ 0 < below t := by
  unfold okTab at h
  simp only [Bool.and_eq_true, decide_eq_true_eq, List.all_eq_true] at h
  obtain ⟨⟨⟨h1, h2⟩, h3⟩, h4⟩ := h
  refine ⟨h1, fun r hr => ⟨(h2 r hr).1, fun y hy => ?_⟩, h3, h4⟩
  have := (h2 r hr).2 y hy
  unfold small at this
  simp only [Bool.and_eq_true, decide_eq_true_eq] at this
  exact this
theorem pick_le (t : List (List Int)) (b : List Int) : ∀ n, pick t b n ≤ n
  | 0 => Nat.le_refl _
  | n + 1 => by
    have ih := pick_le t b n
    unfold pick
    rw [List.range_succ, List.foldl_append]
    show pickStep t b (pick t b n) n ≤ n + 1
    unfold pickStep
    split <;> omega
theorem pick_more (t : List (List Int)) (b : List Int) (n : Nat) : pick t b (n + 1) = pickStep t b (pick t b n) n := by
  unfold pick
  rw [List.range_succ, List.foldl_append]
  rfl
section
variable {P : Program} {w : World} {K : PySem.W.Frag} {mg : Str → Option Value} {base : Heap} {C : Addr}
abbrev s_first_table : Stmt := top 9
theorem sc_first_table : FnScope ["rows", "size", "table", "place", "other"] ["rows"] (defScope s_first_table) := ⟨rfl, rfl, rfl, by decide +kernel, rfl, by decide +kernel, by decide +kernel⟩

def spFirstT : Sp := fun vs H Q _ => ∃ (a : Addr) (ps : Rws), vs = [.ref a] ∧ TabAt H a ps ∧ 0 < ps.length ∧ ps.length ≤ 1000 ∧ ((nums ps).headD []).length ≤ 1000 ∧ RetT (firstTable (nums ps)) H Q
theorem ok_first_table {f : Addr} {fd : FuncData} (F : Fun K "first_table" "first_table" s_first_table f fd) (b_range : mg "range" = none) (b_len : mg "len" = none) : FnOk P w K mg base CX0 1 f fd ["rows"] spFirstT := by
  refine F.ok sc_first_table (fun vs H Q E h => ?_) (fun cdv A outer s H vs Q E hr h => ⟨_, (pss_cons (ps_set (i := 1) sc_first_table.nd rfl (Or.inl rfl) (pe_callB call_len_seq (by rfl) b_len PySem.boot_len (pa_cons (pe_ix (r := rIxL K) ix_list (pv 0) pe_int (fun _ _ => rfl)) pa_nil)))
      (pss_cons (ps_set (i := 2) sc_first_table.nd rfl (Or.inl rfl) (pe_lst pa_nil))
      (pss_cons (ps_for PassesOwn.never rfl (pi_range1 (by rfl) b_range (pa_cons (pv 1) pa_nil)) (pg_name (i := 3) sc_first_table.nd rfl (Or.inr rfl)) (pss_one (ps_expr (pe_bm PySem.F.plainAttrs_list PySem.F.slot_list_append PySem.F.type_list_append mt_append (pv 2) (pa_cons (pe_lc (own := [("other", 4)]) (g := gName 4) (by rfl) sc_first_table.nd (pi_range1 (by rfl) b_range (pa_cons (pv 1) pa_nil)) (blkOk_by (own := [("other", 4)]) (N := ["rows", "size", "table", "place", "other"]) (sc := defScope s_first_table) (by decide +kernel)) (fun _ _ _ _ _ => pg_name (i := 4) sc_first_table.nd rfl (Or.inl rfl)) (fun _ _ _ _ _ => pts_nil) (fun _ _ _ _ _ => (pe_ifExp (pt_cmpR op_eq (pv 4) (pv 3) (nomark _)) pe_int pe_int))) pa_nil)))))
      (pss_one (ps_ret (pe_op op_cat (pv 2) (pv 0))))))), ?_⟩)
  · obtain ⟨a, ps, rfl, _⟩ := h
    rfl
  · obtain ⟨a, ps, rfl, hT, h0, h1, h2, k⟩ := h
    obtain ⟨x0, r0, rfl⟩ : ∃ x r, ps = x :: r := match ps, h0 with
      | x :: r, _ => ⟨x, r, rfl⟩
    have hm : x0.2.length ≤ 1000 := h2
    refine q_asg (v := .int ((x0.2.length : Nat) : Int)) (ev_is (ev_len (ev_op (ev_var rfl) ev_c (rv_ixL (sq_of hT.1) (atI_nat (j := 0) rfl))) (sq_of (hT.2 x0 List.mem_cons_self))) (by rw [List.length_map])) fun H1 e1 => ?_
    refine q_asgL (el_lst ea_nil (by show 0 ≤ 100000; decide)) fun p H2 hp e2 hp2 => ?_
    have fp : H p = none := fresh_back e1 hp
    refine q_forR1 (n := ((x0.2.length : Nat) : Int)) (ea_cons (ev_var rfl) ea_nil) ⟨by omega, by omega⟩ (fun i σ' H' => (∃ v, σ' = [some (.ref a), some (.int ((x0.2.length : Nat) : Int)), some (.ref p), v, none]) ∧ Ex H H' ∧ ∃ qs, TabAt H' p qs ∧ nums qs = (List.range i).map (unitRow x0.2.length)) (fun H3 e3 => ⟨⟨none, rfl⟩, (e1.trans e2).trans e3, [], ⟨e3 p _ hp2, fun x hx => by cases hx⟩, rfl⟩) ?_ ?_
    · rintro i σ' H' hi ⟨⟨v, rfl⟩, e, qs, hq, hn⟩
      have hl : qs.length = i := by
        have := congrArg List.length hn
        rw [nums_len, List.length_map, List.length_range] at this
        exact this
      refine s_appRow (w := unitRow x0.2.length i) hq (ev_var rfl) ?_ (by omega) fun q H1 e1 ht => ⟨⟨_, rfl⟩, (e.trans e1).mut fp, _, ht, ?_⟩
      · have e0 : (unitRow x0.2.length i).map V.int = (List.range ((x0.2.length : Nat) : Int).toNat).map (fun o => V.int (if o = i then 1 else 0)) := by
          unfold unitRow
          rw [List.map_map]
          rfl
        rw [e0]
        refine el_mapR1 _ (ea_cons (ev_var rfl) ea_nil) ⟨by omega, by omega⟩ (fun x => rfl) fun o H1 e1 ho => ?_
        refine ev_if (b := decide (o = i)) (et_test (ev_is (ev_op (ev_var rfl) (ev_var rfl) (rv_eq rfl)) (num_eq o i))) (fun hb => ?_) fun hb => ?_
        · rw [if_pos (of_decide_eq_true hb)]
          exact ev_c
        · rw [if_neg (of_decide_eq_false hb)]
          exact ev_c
      · rw [nums_append, hn, List.range_succ, List.map_append]
        rfl
    · rintro σ' H' ⟨⟨v, rfl⟩, e, qs, hq, hn⟩
      have hl : qs.length = x0.2.length := by
        have := congrArg List.length hn
        rw [nums_len, List.length_map, List.length_range] at this
        exact this
      refine s_retL (el_catV (ev_var rfl) (ev_var rfl) hq.1 (hT.ex e).1 (by rw [refs_len, refs_len]; omega)) fun p2 H4 hp4 e4 h4 => k.go e hp4 e4 (ps := qs ++ (x0 :: r0)) ⟨by rw [refs_append]; exact h4, fun x hx => ?_⟩ ?_
      · rcases List.mem_append.mp hx with hx | hx
        · exact e4 _ _ (hq.2 x hx)
        · exact (e.trans e4) _ _ (hT.2 x hx)
      · rw [nums_append, hn]
        rfl
abbrev s_first_broken : Stmt := top 10
theorem sc_first_broken : FnScope ["table", "row"] ["table"] (defScope s_first_broken) := ⟨rfl, rfl, rfl, by decide +kernel, rfl, by decide +kernel, by decide +kernel⟩

def spBroken : Sp := fun vs H Q _ => ∃ (a : Addr) (ps : Rws), vs = [.ref a] ∧ TabAt H a ps ∧ (∀ x ∈ ps, 0 < x.2.length) ∧ RetV (brokenV ps) H Q
theorem ok_first_broken {f : Addr} {fd : FuncData} (F : Fun K "first_broken" "first_broken" s_first_broken f fd)  : FnOk P w K mg base CX0 1 f fd ["table"] spBroken := by
  refine F.ok sc_first_broken (fun vs H Q E h => ?_) (fun cdv A outer s H vs Q E hr h => ⟨_, (pss_cons (ps_for PassesOwn.never rfl (pi_list (pv 0)) (pg_name (i := 1) sc_first_broken.nd rfl (Or.inl rfl)) (pss_one (ps_if (pt_cmpR op_lt (pe_ix (r := rIxL K) ix_list (pv 1) pe_int (fun _ _ => rfl)) pe_int (nomark _)) (pss_one (ps_ret (pv 1))) pss_nil)))
      (pss_one (ps_ret pe_non))), ?_⟩)
  · obtain ⟨a, ps, rfl, _⟩ := h
    rfl
  · obtain ⟨a, ps, rfl, hT, h0, k⟩ := h
    refine q_forLn (xs := refs ps) (ev_var rfl) (sq_of hT.1) (fun i σ' H' => (∃ v, σ' = [some (.ref a), v]) ∧ Ex H H' ∧ (ps.take i).find? (fun x => isNeg x.2) = none) (fun H1 e1 => ⟨⟨none, rfl⟩, e1, rfl⟩) (fun i σ' H' _ p => ex_l p.2.1 (sq_of hT.1)) ?_ ?_
    · rintro i x σ' H' hx ⟨⟨v, rfl⟩, e, hn⟩
      obtain ⟨y, hy, rfl⟩ := refs_get hx
      have hm := List.mem_of_getElem? hy
      refine s_when (b := isNeg y.2) (et_test (ev_op (ev_op (ev_var rfl) ev_c (rv_ixL (sq_of (e _ _ (hT.2 y hm))) (ixD (i := 0) (h0 y hm)))) ev_c rv_I0)) (fun hb H2 e2 => ?_) fun hb H2 e2 => ⟨⟨_, rfl⟩, e.trans e2, find_more hy hn hb⟩
      refine s_ret (ev_var rfl) fun H3 e3 => ?_
      have : brokenV ps = .ref y.1 := by
        unfold brokenV
        rw [find_at hy hn hb]
      rw [this] at k
      exact k _ ((e.trans e2).trans e3)
    · rintro σ' H' ⟨⟨v, rfl⟩, e, hn⟩
      rw [refs_len, List.take_length] at hn
      refine s_ret ev_c fun H3 e3 => ?_
      have : brokenV ps = .non := by
        unfold brokenV
        rw [hn]
      rw [this] at k
      exact k _ (e.trans e3)
abbrev s_is_lesser_column : Stmt := top 11
theorem sc_is_lesser_column : FnScope ["table", "broken", "column", "other", "row", "here", "there"] ["table", "broken", "column", "other"] (defScope s_is_lesser_column) := ⟨rfl, rfl, rfl, by decide +kernel, rfl, by decide +kernel, by decide +kernel⟩

def spLesser : Sp := fun vs H Q _ => ∃ (a bA : Addr) (ps : Rws) (b : List Int) (c o : Nat), vs = [.ref a, .ref bA, .int c, .int o] ∧ TabAt H a ps ∧ H bA = some (.lst (b.map V.int)) ∧ (∀ x ∈ ps, x.2.length = b.length) ∧ Small b ∧ c < b.length ∧ o < b.length ∧ RetV (.bl (lesser b c o (nums ps))) H Q
theorem ok_is_lesser_column {f : Addr} {fd : FuncData} (F : Fun K "is_lesser_column" "is_lesser_column" s_is_lesser_column f fd)  : FnOk P w K mg base CX0 1 f fd ["table", "broken", "column", "other"] spLesser := by
  refine F.ok sc_is_lesser_column (fun vs H Q E h => ?_) (fun cdv A outer s H vs Q E hr h => ⟨_, (pss_cons (ps_for PassesOwn.never rfl (pi_list (pv 0)) (pg_name (i := 4) sc_is_lesser_column.nd rfl (Or.inl rfl)) (pss_cons (ps_set (i := 5) sc_is_lesser_column.nd rfl (Or.inl rfl) (pe_op op_mul (pe_ix (r := rIxL K) ix_list (pv 4) (pv 2) (fun _ _ => rfl)) (pe_ix (r := rIxL K) ix_list (pv 1) (pv 3) (fun _ _ => rfl))))
      (pss_cons (ps_set (i := 6) sc_is_lesser_column.nd rfl (Or.inl rfl) (pe_op op_mul (pe_ix (r := rIxL K) ix_list (pv 4) (pv 3) (fun _ _ => rfl)) (pe_ix (r := rIxL K) ix_list (pv 1) (pv 2) (fun _ _ => rfl))))
      (pss_one (ps_if (pt_cmpR op_ne (pv 5) (pv 6) (nomark _)) (pss_one (ps_ret (pe_cmpR op_lt (pv 5) (pv 6) (nomark _)))) pss_nil)))))
      (pss_one (ps_ret pe_bl))), ?_⟩)
  · obtain ⟨a, bA, ps, b, c, o, rfl, _⟩ := h
    rfl
  · obtain ⟨a, bA, ps, b, c, o, rfl, hT, hB, hl, hs, hc, ho, k⟩ := h
    refine q_forLn (xs := refs ps) (ev_var rfl) (sq_of hT.1) (fun i σ' H' => (∃ v u w, σ' = [some (.ref a), some (.ref bA), some (.int c), some (.int o), v, u, w]) ∧ Ex H H' ∧ lesser b c o (nums ps) = lesser b c o (nums (ps.drop i))) (fun H1 e1 => ⟨⟨none, none, none, rfl⟩, e1, rfl⟩) (fun i σ' H' _ p => ex_l p.2.1 (sq_of hT.1)) ?_ ?_
    · rintro i x σ' H' hx ⟨⟨v, u, w, rfl⟩, e, hn⟩
      obtain ⟨y, hy, rfl⟩ := refs_get hx
      have hm := List.mem_of_getElem? hy
      have hr : ∀ H2, Ex H' H2 → SqL K H2 y.1 (y.2.map V.int) := fun H2 e2 => sq_of ((e.trans e2) _ _ (hT.2 y hm))
      have hb : ∀ H2, Ex H' H2 → SqL K H2 bA (b.map V.int) := fun H2 e2 => sq_of ((e.trans e2) _ _ hB)
      have hly := hl y hm
      rw [drop_at hy] at hn
      refine q_asg (ev_op (ev_op (ev_var rfl) (ev_var rfl) (rv_ixL (hr _ (Ex.refl _)) (ixD (by omega)))) (ev_op (ev_var rfl) (ev_var rfl) (rv_ixL (hb _ (Ex.refl _)) (ixD ho))) (rv_I (hs.mul ho _))) fun H1 e1 => ?_
      refine q_asg (ev_op (ev_op (ev_var rfl) (ev_var rfl) (rv_ixL (hr _ e1) (ixD (by omega)))) (ev_op (ev_var rfl) (ev_var rfl) (rv_ixL (hb _ e1) (ixD hc))) (rv_I (hs.mul hc _))) fun H2 e2 => ?_
      refine s_when (b := !decide (V.int (y.2.getD c 0 * b.getD o 0) = V.int (y.2.getD o 0 * b.getD c 0))) (et_test (ev_op (ev_var rfl) (ev_var rfl) (rv_ne rfl))) (fun hz H3 e3 => ?_) fun hz H3 e3 => ⟨⟨_, _, _, rfl⟩, ((e.trans e1).trans e2).trans e3, ?_⟩
      · have ne : ¬ (y.2.getD c 0 * b.getD o 0 = y.2.getD o 0 * b.getD c 0) := by simpa using hz
        refine s_ret (ev_op (ev_var rfl) (ev_var rfl) rv_I0) fun H4 e4 => ?_
        have : lesser b c o (nums ps) = decide (y.2.getD c 0 * b.getD o 0 < y.2.getD o 0 * b.getD c 0) := by
          rw [hn]
          exact if_neg ne
        rw [this] at k
        exact k _ ((((e.trans e1).trans e2).trans e3).trans e4)
      · have eq : y.2.getD c 0 * b.getD o 0 = y.2.getD o 0 * b.getD c 0 := by simpa using hz
        rw [hn]
        exact if_pos eq
    · rintro σ' H' ⟨⟨v, u, w, rfl⟩, e, hn⟩
      rw [refs_len, List.drop_length] at hn
      refine s_ret ev_c fun H3 e3 => ?_
      rw [hn] at k
      exact k _ (e.trans e3)
abbrev s_column_to_change : Stmt := top 12
theorem sc_column_to_change : FnScope ["table", "broken", "chosen", "column"] ["table", "broken"] (defScope s_column_to_change) := ⟨rfl, rfl, rfl, by decide +kernel, rfl, by decide +kernel, by decide +kernel⟩

def spPick : Sp := fun vs H Q _ => ∃ (a bA : Addr) (ps : Rws) (b : List Int), vs = [.ref a, .ref bA] ∧ TabAt H a ps ∧ H bA = some (.lst (b.map V.int)) ∧ (∀ x ∈ ps, x.2.length = b.length) ∧ Small b ∧ 0 < b.length ∧ b.length ≤ 1000 ∧ RetV (.int ((pick (nums ps) b (b.length - 1) : Nat) : Int)) H Q
theorem ok_column_to_change {f : Addr} {fd : FuncData} (F : Fun K "column_to_change" "column_to_change" s_column_to_change f fd) (b_range : mg "range" = none) (b_len : mg "len" = none) (c_is_lesser_column : Cal P w K mg base "is_lesser_column" 1 ["table", "broken", "column", "other"] spLesser) : FnOk P w K mg base CX0 2 f fd ["table", "broken"] spPick := by
  refine F.ok sc_column_to_change (fun vs H Q E h => ?_) (fun cdv A outer s H vs Q E hr h => ⟨_, (pss_cons (ps_set (i := 2) sc_column_to_change.nd rfl (Or.inl rfl) pe_int)
      (pss_cons (ps_for PassesOwn.never rfl (pi_range2 (by rfl) b_range (pa_cons pe_int (pa_cons (pe_callB call_len_seq (by rfl) b_len PySem.boot_len (pa_cons (pv 1) pa_nil)) pa_nil))) (pg_name (i := 3) sc_column_to_change.nd rfl (Or.inl rfl)) (pss_one (ps_if (pt_cmpR op_gt (pe_ix (r := rIxL K) ix_list (pv 1) (pv 3) (fun _ _ => rfl)) pe_int (nomark _)) (pss_one (ps_if (PW.pt (pw_or (pt_cmpR op_eq (pv 2) pe_int (nomark _)) (pw_or1 (pt_val (pe_cal c_is_lesser_column (hr.mono (by decide)) (pa_cons (pv 0) (pa_cons (pv 1) (pa_cons (pv 3) (pa_cons (pv 2) pa_nil))))))))) (pss_one (ps_set (i := 2) sc_column_to_change.nd rfl (Or.inl rfl) (pv 3))) pss_nil)) pss_nil)))
      (pss_one (ps_ret (pv 2))))), ?_⟩)
  · obtain ⟨a, bA, ps, b, rfl, _⟩ := h
    rfl
  · obtain ⟨a, bA, ps, b, rfl, hT, hB, hl, hs, h0, h1, k⟩ := h
    refine q_asg ev_c fun H1 e1 => ?_
    refine q_forR2 (lo := 1) (n := ((b.length : Nat) : Int)) (ea_cons ev_c (ea_cons (ev_is (ev_len (ev_var rfl) (sq_of (e1 _ _ hB))) (by rw [List.length_map])) ea_nil)) ⟨by omega, by omega, by omega, by omega⟩ (fun i σ' H' => (∃ v, σ' = [some (.ref a), some (.ref bA), some (.int ((pick (nums ps) b i : Nat) : Int)), v]) ∧ Ex H H') (fun H2 e2 => ⟨⟨none, rfl⟩, e1.trans e2⟩) ?_ ?_
    · rintro i σ' H' hi ⟨⟨v, rfl⟩, e⟩
      have hp := pick_le (nums ps) b i
      have ec : (1 : Int) + (i : Int) = ((i + 1 : Nat) : Int) := by omega
      rw [ec]
      have hno : pickStep (nums ps) b (pick (nums ps) b i) i = pick (nums ps) b i → ∀ H2, Ex H' H2 → (∃ v, ([some (.ref a), some (.ref bA), some (.int ((pick (nums ps) b i : Nat) : Int)), some (.int ((i + 1 : Nat) : Int))] : List (Option V)) = [some (.ref a), some (.ref bA), some (.int ((pick (nums ps) b (i + 1) : Nat) : Int)), v]) ∧ Ex H H2 := fun z H2 e2 => ⟨⟨_, by rw [pick_more, z]⟩, e.trans e2⟩
      refine s_when (b := decide (0 < b.getD (i + 1) 0)) (et_test (ev_op (ev_op (ev_var rfl) (ev_var rfl) (rv_ixL (sq_of (e _ _ hB)) (ixD (by omega)))) ev_c rv_I0)) (fun hb H2 e2 => ?_) fun hb H2 e2 => hno (by unfold pickStep; rw [hb]; rfl) H2 e2
      refine s_when (b := decide (pick (nums ps) b i = 0) || lesser b (i + 1) (pick (nums ps) b i) (nums ps)) (et_or (et_test (ev_is (ev_op (ev_var rfl) ev_c (rv_eq rfl)) (num_eq (pick (nums ps) b i) 0))) fun _ => et_B (ev_call (z := .bl (lesser b (i + 1) (pick (nums ps) b i) (nums ps))) (ea_cons (ev_var rfl) (ea_cons (ev_var rfl) (ea_cons (ev_var rfl) (ea_cons (ev_var rfl) ea_nil)))) fun H3 e3 Q3 q3 E3 => ⟨a, bA, ps, b, i + 1, pick (nums ps) b i, rfl, hT.ex ((e.trans e2).trans e3), ((e.trans e2).trans e3) _ _ hB, hl, hs, by omega, by omega, q3⟩)) (fun hc H3 e3 => ?_) fun hc H3 e3 => hno (by unfold pickStep; rw [hb, hc]; rfl) H3 (e2.trans e3)
      refine s_asg (ev_var rfl) fun H4 e4 => ⟨⟨some (.int ((i + 1 : Nat) : Int)), ?_⟩, ((e.trans e2).trans e3).trans e4⟩
      have : pick (nums ps) b (i + 1) = i + 1 := by
        rw [pick_more]
        unfold pickStep
        rw [hb, hc]
        rfl
      rw [this]
      rfl
    · rintro σ' H' ⟨⟨v, rfl⟩, e⟩
      have e0 : (((b.length : Nat) : Int) - 1).toNat = b.length - 1 := by omega
      rw [e0]
      exact s_ret (ev_var rfl) fun H3 e3 => k _ (e.trans e3)
abbrev s_changed_row : Stmt := top 13
theorem sc_changed_row : FnScope ["row", "broken", "column", "below", "changed", "place"] ["row", "broken", "column", "below"] (defScope s_changed_row) := ⟨rfl, rfl, rfl, by decide +kernel, rfl, by decide +kernel, by decide +kernel⟩

def spChanged : Sp := fun vs H Q _ => ∃ (rA bA : Addr) (r b : List Int) (c : Nat) (w : Int), vs = [.ref rA, .ref bA, .int c, .int w] ∧ H rA = some (.lst (r.map V.int)) ∧ H bA = some (.lst (b.map V.int)) ∧ r.length = b.length ∧ c < b.length ∧ b.length ≤ 1000 ∧ Small b ∧ 0 < w ∧ w < 1000000000 ∧ RetL ((changed b c w r).map V.int) H Q
theorem ok_changed_row {f : Addr} {fd : FuncData} (F : Fun K "changed_row" "changed_row" s_changed_row f fd) (b_range : mg "range" = none) (b_len : mg "len" = none) : FnOk P w K mg base CX0 1 f fd ["row", "broken", "column", "below"] spChanged := by
  refine F.ok sc_changed_row (fun vs H Q E h => ?_) (fun cdv A outer s H vs Q E hr h => ⟨_, (pss_cons (ps_set (i := 4) sc_changed_row.nd rfl (Or.inl rfl) (pe_lst pa_nil))
      (pss_cons (ps_for PassesOwn.never rfl (pi_range1 (by rfl) b_range (pa_cons (pe_callB call_len_seq (by rfl) b_len PySem.boot_len (pa_cons (pv 0) pa_nil)) pa_nil)) (pg_name (i := 5) sc_changed_row.nd rfl (Or.inl rfl)) (pss_one (ps_if (pt_cmpR op_eq (pv 5) (pv 2) (nomark _)) (pss_one (ps_expr (pe_bm PySem.F.plainAttrs_list PySem.F.slot_list_append PySem.F.type_list_append mt_append (pv 4) (pa_cons (pe_ix (r := rIxL K) ix_list (pv 0) (pv 2) (fun _ _ => rfl)) pa_nil)))) (pss_one (ps_expr (pe_bm PySem.F.plainAttrs_list PySem.F.slot_list_append PySem.F.type_list_append mt_append (pv 4) (pa_cons (pe_op op_fdiv (pe_op op_sub (pe_op op_mul (pe_ix (r := rIxL K) ix_list (pv 0) (pv 5) (fun _ _ => rfl)) (pe_ix (r := rIxL K) ix_list (pv 1) (pv 2) (fun _ _ => rfl))) (pe_op op_mul (pe_ix (r := rIxL K) ix_list (pv 0) (pv 2) (fun _ _ => rfl)) (pe_ix (r := rIxL K) ix_list (pv 1) (pv 5) (fun _ _ => rfl)))) (pv 3)) pa_nil)))))))
      (pss_one (ps_ret (pv 4))))), ?_⟩)
  · obtain ⟨rA, bA, r, b, c, w, rfl, _⟩ := h
    rfl
  · obtain ⟨rA, bA, r, b, c, w, rfl, hR, hB, hl, hc, h1, hs, w0, w1, k⟩ := h
    refine q_asgL (el_lst ea_nil (by show 0 ≤ 100000; decide)) fun p H1 hp e1 hp1 => ?_
    refine q_forR1 (n := ((r.length : Nat) : Int)) (ea_cons (ev_is (ev_len (ev_var rfl) (sq_of (e1 _ _ hR))) (by rw [List.length_map])) ea_nil) ⟨by omega, by omega⟩ (fun i σ' H' => (∃ v, σ' = [some (.ref rA), some (.ref bA), some (.int c), some (.int w), some (.ref p), v]) ∧ Ex H H' ∧ H' p = some (.lst (((List.range i).map fun j => if j = c then r.getD c 0 else (r.getD j 0 * b.getD c 0 - r.getD c 0 * b.getD j 0) / w).map V.int))) (fun H2 e2 => ⟨⟨none, rfl⟩, e1.trans e2, e2 p _ hp1⟩) ?_ ?_
    · rintro i σ' H' hi ⟨⟨v, rfl⟩, e, hp2⟩
      have hr : ∀ H2, Ex H' H2 → SqL K H2 rA (r.map V.int) := fun H2 e2 => sq_of ((e.trans e2) _ _ hR)
      have hb : ∀ H2, Ex H' H2 → SqL K H2 bA (b.map V.int) := fun H2 e2 => sq_of ((e.trans e2) _ _ hB)
      refine s_if (b := decide (i = c)) (et_test (ev_is (ev_op (ev_var rfl) (ev_var rfl) (rv_eq rfl)) (num_eq i c))) (fun hz H2 e2 => ?_) fun hz H2 e2 => ?_
      · have hz' := of_decide_eq_true hz
        refine s_app (e2 p _ hp2) (ev_var rfl) (ev_op (ev_var rfl) (ev_var rfl) (rv_ixL (hr _ e2) (ixD (by omega)))) (by rw [List.length_map, List.length_map, List.length_range]; omega) fun H3 e3 => ⟨⟨_, rfl⟩, ((e.trans e2).trans e3).mut hp, ?_⟩
        rw [upd_same, List.range_succ, List.map_append, List.map_append]
        simp [hz']
      · have hz' := of_decide_eq_false hz
        refine s_app (e2 p _ hp2) (ev_var rfl) (ev_op (ev_op (ev_op (ev_op (ev_var rfl) (ev_var rfl) (rv_ixL (hr _ e2) (ixD (by omega)))) (ev_op (ev_var rfl) (ev_var rfl) (rv_ixL (hb _ e2) (ixD hc))) (rv_I (hs.mul hc _))) (ev_op (ev_op (ev_var rfl) (ev_var rfl) (rv_ixL (hr _ e2) (ixD (by omega)))) (ev_op (ev_var rfl) (ev_var rfl) (rv_ixL (hb _ e2) (ixD (by omega)))) (rv_I (hs.mul (by omega) _))) rv_I0) (ev_var rfl) (rv_I ⟨w0, by omega⟩)) (by rw [List.length_map, List.length_map, List.length_range]; omega) fun H3 e3 => ⟨⟨_, rfl⟩, ((e.trans e2).trans e3).mut hp, ?_⟩
        rw [upd_same, List.range_succ, List.map_append, List.map_append]
        simp [hz']
    · rintro σ' H' ⟨⟨v, rfl⟩, e, hp2⟩
      exact s_ret (ev_var rfl) fun H3 e3 => k.go (Ex.refl H) hp (e.trans e3) (e3 p _ hp2)
abbrev s_least_point : Stmt := top 14
theorem sc_least_point : FnScope ["rows", "table", "broken", "column", "below", "row"] ["rows"] (defScope s_least_point) := ⟨rfl, rfl, rfl, by decide +kernel, rfl, by decide +kernel, by decide +kernel⟩

def spLeast : Sp := fun vs H Q _ => ∃ (a : Addr) (ps : Rws) (x : List Int), vs = [.ref a] ∧ TabAt H a ps ∧ 0 < ps.length ∧ ps.length ≤ 1000 ∧ ((nums ps).headD []).length ≤ 1000 ∧ 0 < ((nums ps).headD []).length ∧ lp (nums ps) = some x ∧ RetL (x.map V.int) H Q
theorem run_ok {m k : Nat} {t T : List (List Int)} (h : run m k t = some T) : ∃ k', k = k' + 1 ∧ okTab m t = true ∧ ((t.find? isNeg = none ∧ t = T) ∨ ∃ b, t.find? isNeg = some b ∧ run m k' (t.map (changed b (pick t b (m - 1)) (below t))) = some T) := by
  cases k with
  | zero => cases h
  | succ k =>
    unfold run at h
    by_cases c : okTab m t = true
    · rw [if_pos c] at h
      cases e : t.find? isNeg with
      | none =>
        rw [e] at h
        exact ⟨k, rfl, c, .inl ⟨rfl, Option.some.inj h⟩⟩
      | some b =>
        rw [e] at h
        exact ⟨k, rfl, c, .inr ⟨b, rfl, h⟩⟩
    · rw [if_neg c] at h
      cases h
theorem ok_least_point {f : Addr} {fd : FuncData} (F : Fun K "least_point" "least_point" s_least_point f fd) (b_len : mg "len" = none) (c_first_broken : Cal P w K mg base "first_broken" 1 ["table"] spBroken) (c_changed_row : Cal P w K mg base "changed_row" 1 ["row", "broken", "column", "below"] spChanged) (c_column_to_change : Cal P w K mg base "column_to_change" 2 ["table", "broken"] spPick) (c_first_table : Cal P w K mg base "first_table" 1 ["rows"] spFirstT) : FnOk P w K mg base CX0 3 f fd ["rows"] spLeast := by
  refine F.ok sc_least_point (fun vs H Q E h => ?_) (fun cdv A outer s H vs Q E hr h => ⟨_, (pss_cons (ps_set (i := 1) sc_least_point.nd rfl (Or.inl rfl) (pe_cal c_first_table (hr.mono (by decide)) (pa_cons (pv 0) pa_nil)))
      (pss_cons (ps_set (i := 2) sc_least_point.nd rfl (Or.inr rfl) (pe_cal c_first_broken (hr.mono (by decide)) (pa_cons (pv 1) pa_nil)))
      (pss_cons (ps_while PassesOwn.never (pt_cmpR op_notN (pv 2) pe_non (nomark _)) (pss_cons (ps_set (i := 3) sc_least_point.nd rfl (Or.inr rfl) (pe_cal c_column_to_change (hr.mono (by decide)) (pa_cons (pv 1) (pa_cons (pv 2) pa_nil))))
      (pss_cons (ps_set (i := 4) sc_least_point.nd rfl (Or.inr rfl) (pe_ix (r := rIxL K) ix_list (pe_ix (r := rIxL K) ix_list (pv 1) pe_int (fun _ _ => rfl)) pe_int (fun _ _ => rfl)))
      (pss_cons (ps_setLc (i := 1) (own := [("row", 5)]) (g := gName 5) (by rfl) sc_least_point.nd rfl rfl (sw_true rfl rfl rfl (by decide +kernel)) (pi_list (pv 1)) (blkOk_by (own := [("row", 5)]) (N := ["rows", "table", "broken", "column", "below", "row"]) (sc := defScope s_least_point) (by decide +kernel)) (fun _ _ _ _ _ => pg_name (i := 5) sc_least_point.nd rfl (Or.inl rfl)) (fun _ _ _ _ _ => pts_nil) (fun _ _ _ _ _ => (pe_cal c_changed_row (hr.mono (by decide)) (pa_cons (pv 5) (pa_cons (pv 2) (pa_cons (pv 3) (pa_cons (pv 4) pa_nil)))))))
      (pss_one (ps_set (i := 2) sc_least_point.nd rfl (Or.inr rfl) (pe_cal c_first_broken (hr.mono (by decide)) (pa_cons (pv 1) pa_nil))))))))
      (pss_one (ps_ret (pe_lc (own := [("row", 5)]) (g := gName 5) (by rfl) sc_least_point.nd (pi_list (pe_slice sl_list (pv 1) po_none (po_some (pe_callB call_len_seq (by rfl) b_len PySem.boot_len (pa_cons (pe_ix (r := rIxL K) ix_list (pv 0) pe_int (fun _ _ => rfl)) pa_nil))))) (blkOk_by (own := [("row", 5)]) (N := ["rows", "table", "broken", "column", "below", "row"]) (sc := defScope s_least_point) (by decide +kernel)) (fun _ _ _ _ _ => pg_name (i := 5) sc_least_point.nd rfl (Or.inl rfl)) (fun _ _ _ _ _ => pts_nil) (fun _ _ _ _ _ => (pe_ix (r := rIxL K) ix_list (pv 5) pe_int (fun _ _ => rfl))))))))), ?_⟩)
  · obtain ⟨a, ps, x, rfl, _⟩ := h
    rfl
  · obtain ⟨a, ps, x, rfl, hT, h0, h1, h2, h3, hx, k⟩ := h
    obtain ⟨x0, r0, rfl⟩ : ∃ x r, ps = x :: r := match ps, h0 with
      | x :: r, _ => ⟨x, r, rfl⟩
    have hm : x0.2.length ≤ 1000 := h2
    have hm0 : 0 < x0.2.length := h3
    obtain ⟨T, hT1, hT2⟩ : ∃ T, run x0.2.length 60 (firstTable (nums (x0 :: r0))) = some T ∧ x = (T.take x0.2.length).map fun r => r.getD 0 0 := by
      have hx' : (match run x0.2.length 60 (firstTable (nums (x0 :: r0))) with
        | none => none
        | some t => some ((t.take x0.2.length).map fun r => r.getD 0 0)) = some x := hx
      cases e : run x0.2.length 60 (firstTable (nums (x0 :: r0))) with
      | none => rw [e] at hx'; cases hx'
      | some T => rw [e] at hx'; exact ⟨T, rfl, (Option.some.inj hx').symm⟩
    have pos : ∀ {kk : Nat} {ts : Rws}, run x0.2.length kk (nums ts) = some T → ∀ y ∈ ts, 0 < y.2.length := fun h y hy => by
      obtain ⟨_, _, ok, _⟩ := run_ok h
      have := ((okTab_is ok).2.1 y.2 (List.mem_map_of_mem hy)).1
      omega
    refine q_asgT (et_call (ys := firstTable (nums (x0 :: r0))) (ea_cons (ev_var rfl) ea_nil) fun H1 e1 Q1 q1 E1 => ⟨a, x0 :: r0, rfl, hT.ex e1, h0, h1, h2, q1⟩) fun t ts H1 ht e1 h1t hn => ?_
    rw [← hn] at hT1
    refine q_asg (v := brokenV ts) (ev_call (ea_cons (ev_var rfl) ea_nil) fun H2 e2 Q2 q2 E2 => ⟨t, ts, rfl, h1t.ex e2, pos hT1, q2⟩) fun H2 e2 => ?_
    refine q_while (fun kk σ' H' => ∃ (t : Addr) (ts : Rws) (v3 v4 : Option V), σ' = [some (.ref a), some (.ref t), some (brokenV ts), v3, v4, none] ∧ Ex H H' ∧ TabAt H' t ts ∧ run x0.2.length kk (nums ts) = some T) 60 ⟨t, ts, none, none, rfl, e1.trans e2, h1t.ex e2, hT1⟩ ?_
    rintro kk σ' H' ⟨t, ts, v3, v4, rfl, e, htt, hrun⟩
    refine ⟨!decide (brokenV ts = .non), et_test (ev_op (ev_var rfl) ev_c fun H3 _ Q3 q3 => ⟨rfl, q3 H3 (Ex.refl H3)⟩), fun hb H3 e3 => ?_, fun hb H3 e3 => ?_⟩
    · obtain ⟨k', rfl, ok, hor⟩ := run_ok hrun
      obtain ⟨g1, g2, g3, g4⟩ := okTab_is ok
      obtain ⟨y, hy⟩ : ∃ y, ts.find? (fun x => isNeg x.2) = some y := by
        cases z : ts.find? (fun x => isNeg x.2) with
        | none =>
          have : brokenV ts = .non := by unfold brokenV; rw [z]
          rw [this] at hb
          cases hb
        | some y => exact ⟨y, rfl⟩
      have hbv : brokenV ts = .ref y.1 := by unfold brokenV; rw [hy]
      have hfn : (nums ts).find? isNeg = some y.2 := by rw [find_nums, hy]; rfl
      have hrun' : run x0.2.length k' ((nums ts).map (changed y.2 (pick (nums ts) y.2 (x0.2.length - 1)) (below (nums ts)))) = some T := by
        rcases hor with ⟨z, _⟩ | ⟨b, z, hr⟩
        · rw [hfn] at z; cases z
        · rw [hfn] at z
          cases z
          exact hr
      have hym : y ∈ ts := List.mem_of_find?_eq_some hy
      have hyl := g2 y.2 (List.mem_map_of_mem hym)
      have hall : ∀ z ∈ ts, z.2.length = y.2.length := fun z hz => by rw [(g2 z.2 (List.mem_map_of_mem hz)).1, hyl.1]
      obtain ⟨t0, tr, rfl⟩ : ∃ x r, ts = x :: r := match ts, g3 with
        | x :: r, _ => ⟨x, r, rfl⟩
      have hyA : ∀ H2, Ex H' H2 → H2 y.1 = some (.lst (y.2.map V.int)) := fun H2 e2 => e2 _ _ (htt.2 y hym)
      have hpk : pick (nums (t0 :: tr)) y.2 (x0.2.length - 1) < y.2.length := by
        have := pick_le (nums (t0 :: tr)) y.2 (x0.2.length - 1)
        omega
      have hw1 : below (nums (t0 :: tr)) < 1000000000 := by
        have := (g2 t0.2 (List.mem_map_of_mem List.mem_cons_self))
        exact (this.2.at (by omega)).2
      rw [hbv]
      refine ⟨fun σ2 H4 => ∃ m', m' < k' + 1 ∧ ∃ (t : Addr) (ts : Rws) (v3 v4 : Option V), σ2 = [some (.ref a), some (.ref t), some (brokenV ts), v3, v4, none] ∧ Ex H H4 ∧ TabAt H4 t ts ∧ run x0.2.length m' (nums ts) = some T, fun σ2 H4 z => z, ?_⟩
      refine q_asg (v := .int ((pick (nums (t0 :: tr)) y.2 (x0.2.length - 1) : Nat) : Int)) (ev_call (ea_cons (ev_var rfl) (ea_cons (ev_var rfl) ea_nil)) fun H4 e4 Q4 q4 E4 => ⟨t, y.1, t0 :: tr, y.2, rfl, htt.ex (e3.trans e4), hyA _ (e3.trans e4), hall, hyl.2, by omega, by omega, by rw [hyl.1]; exact q4⟩) fun H4 e4 => ?_
      refine q_asg (v := .int (below (nums (t0 :: tr)))) (ev_op (ev_op (ev_var rfl) ev_c (rv_ixL (sq_of (htt.ex (e3.trans e4)).1) (atI_nat (j := 0) rfl))) ev_c (rv_ixL (sq_of ((e3.trans e4) _ _ (htt.2 t0 List.mem_cons_self))) (ixD (i := 0) (by have := (g2 t0.2 (List.mem_map_of_mem List.mem_cons_self)).1; omega)))) fun H5 e5 => ?_
      have e35 := (e3.trans e4).trans e5
      have hlen : (nums (t0 :: tr)).length = (refs (t0 :: tr)).length := by rw [nums_len, refs_len]
      have hmap : (nums (t0 :: tr)).map (changed y.2 (pick (nums (t0 :: tr)) y.2 (x0.2.length - 1)) (below (nums (t0 :: tr)))) = (List.range (refs (t0 :: tr)).length).map (fun i => changed y.2 (pick (nums (t0 :: tr)) y.2 (x0.2.length - 1)) (below (nums (t0 :: tr))) ((nums (t0 :: tr)).getD i [])) := by
        rw [← hlen]
        refine List.ext_getElem (by simp) fun i h1 h2 => ?_
        have h3 : i < (nums (t0 :: tr)).length := by simpa using h1
        simp only [List.getElem_map, List.getElem_range, List.getD_eq_getElem?_getD, List.getElem?_eq_getElem h3, Option.getD_some]
      refine q_asgT (et_lcT (fun i => changed y.2 (pick (nums (t0 :: tr)) y.2 (x0.2.length - 1)) (below (nums (t0 :: tr))) ((nums (t0 :: tr)).getD i [])) (ev_var rfl) (sq_of (htt.ex e35).1) (by rw [← hlen]; omega) (fun x => rfl) fun i x H6 e6 hx => ?_) fun t6 ts6 H6 ht6 e6 h6 hn6 => ?_
      · obtain ⟨z, hz, rfl⟩ := refs_get hx
        have hzm := List.mem_of_getElem? hz
        have ez : (nums (t0 :: tr)).getD i [] = z.2 := by
          unfold nums
          rw [List.getD_eq_getElem?_getD, List.getElem?_map, hz]
          rfl
        rw [ez]
        exact el_call (ea_cons (ev_var rfl) (ea_cons (ev_var rfl) (ea_cons (ev_var rfl) (ea_cons (ev_var rfl) ea_nil)))) fun H7 e7 Q7 q7 E7 => ⟨z.1, y.1, z.2, y.2, _, _, rfl, ((e35.trans e6).trans e7) _ _ (htt.2 z hzm), hyA _ ((e35.trans e6).trans e7), hall z hzm, hpk, by omega, hyl.2, g4, hw1, q7⟩
      · rw [hmap, ← hn6] at hrun'
        refine s_asg (v := brokenV ts6) (ev_call (ea_cons (ev_var rfl) ea_nil) fun H7 e7 Q7 q7 E7 => ⟨t6, ts6, rfl, h6.ex e7, pos hrun', q7⟩) fun H7 e7 => ⟨k', by omega, t6, ts6, _, _, rfl, ((e.trans e35).trans e6).trans e7, h6.ex e7, hrun'⟩
    · have hbn : brokenV ts = .non := by simpa using hb
      have hfn : (nums ts).find? isNeg = none := by
        rw [find_nums]
        cases z : ts.find? (fun x => isNeg x.2) with
        | none => rfl
        | some y =>
          unfold brokenV at hbn
          rw [z] at hbn
          cases hbn
      obtain ⟨k', rfl, ok, hor⟩ := run_ok hrun
      obtain ⟨g1, g2, g3, g4⟩ := okTab_is ok
      have hTT : nums ts = T := by
        rcases hor with ⟨_, z⟩ | ⟨b, z, _⟩
        · exact z
        · rw [hfn] at z; cases z
      subst hTT
      rw [hT2] at k
      have hlast : ((nums ts).take x0.2.length).map (fun r => V.int (r.getD 0 0)) = (List.range ((refs ts).take x0.2.length).length).map (fun i => V.int (((nums ts).getD i []).getD 0 0)) := by
        have hll : ((refs ts).take x0.2.length).length = ((nums ts).take x0.2.length).length := by
          rw [List.length_take, List.length_take, refs_len, nums_len]
        rw [hll]
        refine List.ext_getElem (by simp) fun i h1 h2 => ?_
        have h3 : i < (nums ts).length := by
          have : i < ((nums ts).take x0.2.length).length := by simpa using h1
          rw [List.length_take] at this
          omega
        simp only [List.getElem_map, List.getElem_range, List.getElem_take, List.getD_eq_getElem?_getD, List.getElem?_eq_getElem h3, Option.getD_some]
      have k2 : RetL (((nums ts).take x0.2.length).map (fun r => V.int (r.getD 0 0))) H Q := by
        rw [List.map_map] at k
        exact k
      rw [hlast] at k2
      have hcut : cutV (refs ts) none (some ((x0.2.length : Nat) : Int)) = (refs ts).take x0.2.length := cut_to
      refine s_retL (el_mapNL (fun i => V.int (((nums ts).getD i []).getD 0 0)) (xs := (refs ts).take x0.2.length) (by
        rw [← hcut]
        exact el_sl (ev_var rfl) eo_none (eo_some (ev_is (ev_len (ev_op (ev_var rfl) ev_c (rv_ixL (sq_of (hT.ex (e.trans e3)).1) (atI_nat (j := 0) rfl))) (sq_of ((e.trans e3) _ _ (hT.2 x0 List.mem_cons_self)))) (by rw [List.length_map]))) (sq_of (htt.ex e3).1)) (by rw [List.length_take]; omega) (fun x => rfl) fun i x H6 e6 hx => ?_) fun p H4 hp e4 h4 => k2.go (e.trans e3) hp e4 h4
      have hx2 : (refs ts)[i]? = some x := by
        rw [List.getElem?_take] at hx
        split at hx
        · exact hx
        · cases hx
      obtain ⟨z, hz, rfl⟩ := refs_get hx2
      have hzm := List.mem_of_getElem? hz
      have ez : (nums ts).getD i [] = z.2 := by
        unfold nums
        rw [List.getD_eq_getElem?_getD, List.getElem?_map, hz]
        rfl
      rw [ez]
      exact ev_op (ev_var rfl) ev_c (rv_ixL (sq_of ((e3.trans e6) _ _ (htt.2 z hzm))) (ixD (i := 0) (by have := (g2 z.2 (List.mem_map_of_mem hzm)).1; omega)))
end
end Fw

set_option Elab.async false
set_option linter.all false
set_option maxRecDepth 100000
set_option maxHeartbeats 2000000
namespace Fw
open PySem PySem.Spec PyProof.Rows L2 Evl
/-! ### the rows of the best proof and of the greatest spread -/
def bpRow (n h i : Nat) : List Int := (-1) :: (h : Int) :: (List.range n).map fun k => -(Kh407.sign n (k + 1) i)
def bpRows (n d : Nat) : List (List Int) := bpRow n 1 0 :: (List.range (n + 1 - d)).map fun j => bpRow n 0 (d + j)
def gsRow (n d k : Nat) : List Int := Kh407.sign n (k + 1) 0 :: 0 :: (List.range (n + 1 - d)).map fun j => Kh407.sign n (k + 1) (d + j)
def gsRows (n d : Nat) : List (List Int) := ((1 - ((2 ^ n : Nat) : Int)) :: 1 :: (List.range (n + 1 - d)).map fun _ => 1) :: (List.range n).map (gsRow n d)
def toldB (b : List Nat) (m : Nat) : List Nat := b.flatMap fun x => [x / Nat.gcd m x, m / Nat.gcd m x]
/-- what is answered out of a point -/
def bpAns : List Nat → List Nat
  | m :: A :: r => A / m :: toldB (A :: r) m
  | _ => []
def gsAns : List Nat → List Nat
  | m :: _ :: r => r.length :: toldB (r ++ [r.sum + m]) m
  | _ => []
/-- what is due, as numbers -/
def bestLit : Nat → Nat → List Nat
  | 1, 1 => [2, 2, 1, 1, 1]
  | 2, 1 => [4, 4, 1, 1, 1, 1, 1]
  | 2, 2 => [2, 2, 1, 1, 2, 0, 1]
  | 3, 1 => [8, 8, 1, 1, 1, 1, 1, 1, 1]
  | 3, 2 => [4, 4, 1, 2, 3, 1, 3, 0, 1]
  | 3, 3 => [2, 2, 1, 0, 1, 0, 1, 1, 1]
  | 4, 1 => [16, 16, 1, 1, 1, 1, 1, 1, 1, 1, 1]
  | 4, 2 => [8, 8, 1, 3, 4, 1, 2, 1, 4, 0, 1]
  | 4, 3 => [2, 8, 3, 1, 3, 0, 1, 0, 1, 1, 3]
  | 4, 4 => [2, 2, 1, 0, 1, 0, 1, 1, 4, 0, 1]
  | 5, 1 => [32, 32, 1, 1, 1, 1, 1, 1, 1, 1, 1, 1, 1]
  | 5, 2 => [16, 16, 1, 4, 5, 3, 5, 2, 5, 1, 5, 0, 1]
  | 5, 3 => [4, 4, 1, 1, 2, 0, 1, 0, 1, 0, 1, 1, 2]
  | 5, 4 => [2, 8, 3, 4, 15, 0, 1, 0, 1, 1, 15, 0, 1]
  | 5, 5 => [2, 2, 1, 0, 1, 0, 1, 0, 1, 0, 1, 1, 1]
  | 6, 1 => [64, 64, 1, 1, 1, 1, 1, 1, 1, 1, 1, 1, 1, 1, 1]
  | 6, 2 => [32, 32, 1, 5, 6, 2, 3, 1, 2, 1, 3, 1, 6, 0, 1]
  | 6, 3 => [8, 8, 1, 1, 2, 0, 1, 0, 1, 0, 1, 1, 2, 1, 1]
  | 6, 4 => [4, 4, 1, 3, 8, 0, 1, 0, 1, 0, 1, 1, 8, 0, 1]
  | 6, 5 => [2, 12, 5, 1, 5, 0, 1, 0, 1, 0, 1, 0, 1, 1, 5]
  | 6, 6 => [2, 2, 1, 0, 1, 0, 1, 0, 1, 0, 1, 1, 6, 0, 1]
  | _, _ => []
def spreadLit : Nat → Nat → List Nat
  | 1, 1 => [1, 1, 1, 2, 1]
  | 2, 1 => [2, 2, 1, 1, 1, 4, 1]
  | 2, 2 => [1, 1, 1, 2, 1]
  | 3, 1 => [3, 3, 1, 3, 1, 1, 1, 8, 1]
  | 3, 2 => [2, 3, 1, 0, 1, 4, 1]
  | 3, 3 => [1, 1, 1, 2, 1]
  | 4, 1 => [4, 4, 1, 6, 1, 4, 1, 1, 1, 16, 1]
  | 4, 2 => [3, 6, 1, 0, 1, 1, 1, 8, 1]
  | 4, 3 => [2, 4, 3, 1, 3, 8, 3]
  | 4, 4 => [1, 1, 1, 2, 1]
  | 5, 1 => [5, 5, 1, 10, 1, 10, 1, 5, 1, 1, 1, 32, 1]
  | 5, 2 => [4, 10, 1, 0, 1, 5, 1, 0, 1, 16, 1]
  | 5, 3 => [3, 2, 1, 1, 1, 0, 1, 4, 1]
  | 5, 4 => [2, 5, 3, 0, 1, 8, 3]
  | 5, 5 => [1, 1, 1, 2, 1]
  | 6, 1 => [6, 6, 1, 15, 1, 20, 1, 15, 1, 6, 1, 1, 1, 64, 1]
  | 6, 2 => [5, 15, 1, 0, 1, 15, 1, 0, 1, 1, 1, 32, 1]
  | 6, 3 => [4, 4, 1, 3, 1, 0, 1, 0, 1, 8, 1]
  | 6, 4 => [3, 3, 1, 0, 1, 0, 1, 4, 1]
  | 6, 5 => [2, 6, 5, 1, 5, 12, 5]
  | 6, 6 => [1, 1, 1, 2, 1]
  | _, _ => []
def goodPt (x : List Int) : Bool := decide (2 ≤ x.length) && decide (x.length ≤ 100) && (x.all fun y => decide (0 ≤ y)) && decide (0 < x.getD 0 0) && decide (x.getD 0 0 < 1000000)
def okBest (n d : Nat) : Bool := (match lp (bpRows n d) with
  | some x => goodPt x && decide (bpAns (x.map Int.toNat) = bestLit n d)
  | none => false) && (match lp (gsRows n d) with
  | some x => goodPt x && decide (gsAns (x.map Int.toNat) = spreadLit n d)
  | none => false)
theorem okBest_all : ∀ n < 7, ∀ d < n, okBest n (d + 1) = true := by decide +kernel
def bp (n d : Nat) : List Int := (lp (bpRows n d)).getD []
def gs (n d : Nat) : List Int := (lp (gsRows n d)).getD []
theorem bp_all {n d : Nat} (h0 : 1 ≤ d) (h1 : d ≤ n) (h2 : n ≤ 6) : (lp (bpRows n d) = some (bp n d) ∧ goodPt (bp n d) = true ∧ bpAns ((bp n d).map Int.toNat) = bestLit n d) ∧ (lp (gsRows n d) = some (gs n d) ∧ goodPt (gs n d) = true ∧ gsAns ((gs n d).map Int.toNat) = spreadLit n d) := by
  have h := okBest_all n (by omega) (d - 1) (by omega)
  rw [show d - 1 + 1 = d by omega] at h
  unfold okBest at h
  rw [Bool.and_eq_true] at h
  obtain ⟨ha, hb⟩ := h
  constructor
  · unfold bp
    cases e : lp (bpRows n d) with
    | none => rw [e] at ha; cases ha
    | some x =>
      rw [e] at ha
      rw [Bool.and_eq_true, decide_eq_true_iff] at ha
      exact ⟨rfl, ha.1, ha.2⟩
  · unfold gs
    cases e : lp (gsRows n d) with
    | none => rw [e] at hb; cases hb
    | some x =>
      rw [e] at hb
      rw [Bool.and_eq_true, decide_eq_true_iff] at hb
      exact ⟨rfl, hb.1, hb.2⟩
theorem bp_is {n d : Nat} (h0 : 1 ≤ d) (h1 : d ≤ n) (h2 : n ≤ 6) : lp (bpRows n d) = some (bp n d) := (bp_all h0 h1 h2).1.1
theorem gs_is {n d : Nat} (h0 : 1 ≤ d) (h1 : d ≤ n) (h2 : n ≤ 6) : lp (gsRows n d) = some (gs n d) := (bp_all h0 h1 h2).2.1
/-- a point, as natural numbers -/
theorem goodPt_is {x : List Int} (h : goodPt x = true) : ∃ (m A : Nat) (r : List Nat), x = (m :: A :: r).map Int.ofNat ∧ x.map Int.toNat = m :: A :: r ∧ 0 < m ∧ m < 1000000 ∧ r.length ≤ 98 := by
  unfold goodPt at h
  simp only [Bool.and_eq_true, decide_eq_true_eq, List.all_eq_true] at h
  obtain ⟨⟨⟨⟨h1, h2⟩, h3⟩, h4⟩, h5⟩ := h
  match x, h1 with
  | m :: A :: r, _ =>
    have e : ∀ l : List Int, (∀ y ∈ l, 0 ≤ y) → l = (l.map Int.toNat).map Int.ofNat := fun l => by
      induction l with
      | nil => exact fun _ => rfl
      | cons y s ih =>
        intro hl
        have h0 := hl y List.mem_cons_self
        have hs := ih fun z hz => hl z (List.mem_cons_of_mem _ hz)
        show y :: s = Int.ofNat y.toNat :: (s.map Int.toNat).map Int.ofNat
        rw [← hs, show Int.ofNat y.toNat = y from Int.toNat_of_nonneg h0]
    have h4' : (0 : Int) < m := h4
    have h5' : m < (1000000 : Int) := h5
    refine ⟨m.toNat, A.toNat, r.map Int.toNat, e _ h3, rfl, by omega, by omega, ?_⟩
    rw [List.length_map]
    simp only [List.length_cons] at h2
    omega
section
variable {P : Program} {w : World} {K : PySem.W.Frag} {mg : Str → Option Value} {base : Heap} {C : Addr}
abbrev s_best_proof_point : Stmt := top 16
theorem sc_best_proof_point : FnScope ["bits", "distance", "rows", "i", "k"] ["bits", "distance"] (defScope s_best_proof_point) := ⟨rfl, rfl, rfl, by decide +kernel, rfl, by decide +kernel, by decide +kernel⟩

def spBestP : Sp := fun vs H Q _ => ∃ n d : Nat, vs = [.int n, .int d] ∧ 1 ≤ d ∧ d ≤ n ∧ n ≤ 6 ∧ RetL ((bp n d).map V.int) H Q
theorem bpRow_map (n h i : Nat) : (bpRow n h i).map V.int = [V.int (-1), V.int (h : Int)] ++ (List.range ((n : Int) + 1 - 1).toNat).map (fun k => V.int (-(Kh407.sign n (k + 1) i))) := by
  have e : ((n : Int) + 1 - 1).toNat = n := by omega
  rw [e]
  unfold bpRow
  simp only [List.map_cons, List.map_map]
  rfl
theorem ok_best_proof_point {f : Addr} {fd : FuncData} (F : Fun K "best_proof_point" "best_proof_point" s_best_proof_point f fd) (c_least_point : Cal P w K mg base "least_point" 3 ["rows"] spLeast) (b_range : mg "range" = none) (c_sign_sum : Cal P w K mg base "sign_sum" 2 ["bits", "k", "i"] spSign) : FnOk P w K mg base CX0 4 f fd ["bits", "distance"] spBestP := by
  refine F.ok sc_best_proof_point (fun vs H Q E h => ?_) (fun cdv A outer s H vs Q E hr h => ⟨_, (pss_cons (ps_set (i := 2) sc_best_proof_point.nd rfl (Or.inl rfl) (pe_lst (pa_cons (pe_op op_cat (pe_lst (pa_cons (pe_un un_neg pe_int) (pa_cons pe_int pa_nil))) (pe_lc (own := [("k", 4)]) (g := gName 4) (by rfl) sc_best_proof_point.nd (pi_range2 (by rfl) b_range (pa_cons pe_int (pa_cons (pe_op op_add (pv 0) pe_int) pa_nil))) (blkOk_by (own := [("k", 4)]) (N := ["bits", "distance", "rows", "i", "k"]) (sc := defScope s_best_proof_point) (by decide +kernel)) (fun _ _ _ _ _ => pg_name (i := 4) sc_best_proof_point.nd rfl (Or.inl rfl)) (fun _ _ _ _ _ => pts_nil) (fun _ _ _ _ _ => (pe_un un_neg (pe_cal c_sign_sum (hr.mono (by decide)) (pa_cons (pv 0) (pa_cons (pv 4) (pa_cons pe_int pa_nil)))))))) pa_nil)))
      (pss_cons (ps_for PassesOwn.never rfl (pi_range2 (by rfl) b_range (pa_cons (pv 1) (pa_cons (pe_op op_add (pv 0) pe_int) pa_nil))) (pg_name (i := 3) sc_best_proof_point.nd rfl (Or.inr rfl)) (pss_one (ps_expr (pe_bm PySem.F.plainAttrs_list PySem.F.slot_list_append PySem.F.type_list_append mt_append (pv 2) (pa_cons (pe_op op_cat (pe_lst (pa_cons (pe_un un_neg pe_int) (pa_cons pe_int pa_nil))) (pe_lc (own := [("k", 4)]) (g := gName 4) (by rfl) sc_best_proof_point.nd (pi_range2 (by rfl) b_range (pa_cons pe_int (pa_cons (pe_op op_add (pv 0) pe_int) pa_nil))) (blkOk_by (own := [("k", 4)]) (N := ["bits", "distance", "rows", "i", "k"]) (sc := defScope s_best_proof_point) (by decide +kernel)) (fun _ _ _ _ _ => pg_name (i := 4) sc_best_proof_point.nd rfl (Or.inl rfl)) (fun _ _ _ _ _ => pts_nil) (fun _ _ _ _ _ => (pe_un un_neg (pe_cal c_sign_sum (hr.mono (by decide)) (pa_cons (pv 0) (pa_cons (pv 4) (pa_cons (pv 3) pa_nil)))))))) pa_nil)))))
      (pss_one (ps_ret (pe_cal c_least_point (hr.mono (by decide)) (pa_cons (pv 2) pa_nil)))))), ?_⟩)
  · obtain ⟨n, d, rfl, _⟩ := h
    rfl
  · obtain ⟨n, d, rfl, hd, hdn, hn, k⟩ := h
    refine q_asgT (et_lst1 (w := bpRow n 1 0) ?_) fun p ps H1 hp e1 h1 hn1 => ?_
    · rw [bpRow_map]
      refine el_cat (el_lst (ea_cons (ev_un ev_c ru_neg) (ea_cons ev_c ea_nil)) (by show 2 ≤ 100000; decide)) (el_mapR2 _ (ea_cons ev_c (ea_cons (ev_op (ev_var rfl) ev_c rv_I0) ea_nil)) ⟨by omega, by omega, by omega, by omega⟩ (fun x => rfl) fun i H1 e1 hi => ?_) (by simp; omega)
      exact ev_un (ev_call (z := .int (Kh407.sign n (i + 1) 0)) (ea_cons (ev_var rfl) (ea_cons (ev_is (w := .int ((i + 1 : Nat) : Int)) (ev_var rfl) (by congr 1; omega)) (ea_cons ev_c ea_nil))) fun H2 e2 Q2 q2 E2 => ⟨n, i + 1, 0, rfl, by omega, by omega, by omega, q2⟩) ru_neg
    refine q_forR2 (lo := (d : Int)) (n := (n : Int) + 1) (ea_cons (ev_var rfl) (ea_cons (ev_op (ev_var rfl) ev_c rv_I0) ea_nil)) ⟨by omega, by omega, by omega, by omega⟩ (fun j σ' H' => (∃ v, σ' = [some (.int n), some (.int d), some (.ref p), v, none]) ∧ Ex H H' ∧ ∃ qs, TabAt H' p qs ∧ nums qs = bpRow n 1 0 :: (List.range j).map (fun j => bpRow n 0 (d + j))) (fun H3 e3 => ⟨⟨none, rfl⟩, e1.trans e3, ps, h1.ex e3, hn1⟩) ?_ ?_
    · rintro j σ' H' hj ⟨⟨v, rfl⟩, e, qs, hq, hnq⟩
      have hl : qs.length = j + 1 := by
        have := congrArg List.length hnq
        rw [nums_len, List.length_cons, List.length_map, List.length_range] at this
        exact this
      have ec : (d : Int) + (j : Int) = ((d + j : Nat) : Int) := by omega
      rw [ec]
      refine s_appRow (w := bpRow n 0 (d + j)) hq (ev_var rfl) ?_ (by omega) fun q H1 e1 ht => ⟨⟨_, rfl⟩, (e.trans e1).mut hp, _, ht, ?_⟩
      · rw [bpRow_map]
        refine el_cat (el_lst (ea_cons (ev_un ev_c ru_neg) (ea_cons ev_c ea_nil)) (by show 2 ≤ 100000; decide)) (el_mapR2 _ (ea_cons ev_c (ea_cons (ev_op (ev_var rfl) ev_c rv_I0) ea_nil)) ⟨by omega, by omega, by omega, by omega⟩ (fun x => rfl) fun i H1 e1 hi => ?_) (by simp; omega)
        exact ev_un (ev_call (z := .int (Kh407.sign n (i + 1) (d + j))) (ea_cons (ev_var rfl) (ea_cons (ev_is (w := .int ((i + 1 : Nat) : Int)) (ev_var rfl) (by congr 1; omega)) (ea_cons (ev_var rfl) ea_nil))) fun H2 e2 Q2 q2 E2 => ⟨n, i + 1, d + j, rfl, by omega, by omega, by omega, q2⟩) ru_neg
      · rw [nums_append, hnq, List.range_succ, List.map_append]
        rfl
    · rintro σ' H' ⟨⟨v, rfl⟩, e, qs, hq, hnq⟩
      have e0 : ((n : Int) + 1 - d).toNat = n + 1 - d := by omega
      rw [e0] at hnq
      have hl : qs.length = n + 1 - d + 1 := by
        have := congrArg List.length hnq
        rw [nums_len, List.length_cons, List.length_map, List.length_range] at this
        exact this
      have hh : ((nums qs).headD []).length = n + 2 := by
        rw [hnq]
        show (bpRow n 1 0).length = _
        unfold bpRow
        simp
      exact s_retL (el_call (ea_cons (ev_var rfl) ea_nil) fun H3 e3 Q3 q3 E3 => ⟨p, qs, bp n d, rfl, hq.ex e3, by omega, by omega, by omega, by omega, by rw [hnq]; exact bp_is hd hdn hn, q3⟩) fun p4 H4 hp4 e4 h4 => k.go e hp4 e4 h4
abbrev s_greatest_spread_point : Stmt := top 17
theorem sc_greatest_spread_point : FnScope ["bits", "distance", "rows", "k", "signs", "i"] ["bits", "distance"] (defScope s_greatest_spread_point) := ⟨rfl, rfl, rfl, by decide +kernel, rfl, by decide +kernel, by decide +kernel⟩

def spGreatP : Sp := fun vs H Q _ => ∃ n d : Nat, vs = [.int n, .int d] ∧ 1 ≤ d ∧ d ≤ n ∧ n ≤ 6 ∧ RetL ((gs n d).map V.int) H Q
theorem ok_greatest_spread_point {f : Addr} {fd : FuncData} (F : Fun K "greatest_spread_point" "greatest_spread_point" s_greatest_spread_point f fd) (c_least_point : Cal P w K mg base "least_point" 3 ["rows"] spLeast) (b_range : mg "range" = none) (c_sign_sum : Cal P w K mg base "sign_sum" 2 ["bits", "k", "i"] spSign) (c_power_of_two : Cal P w K mg base "power_of_two" 1 ["exponent"] spPow) : FnOk P w K mg base CX0 4 f fd ["bits", "distance"] spGreatP := by
  refine F.ok sc_greatest_spread_point (fun vs H Q E h => ?_) (fun cdv A outer s H vs Q E hr h => ⟨_, (pss_cons (ps_set (i := 2) sc_greatest_spread_point.nd rfl (Or.inl rfl) (pe_lst (pa_cons (pe_op op_cat (pe_lst (pa_cons (pe_op op_sub pe_int (pe_cal c_power_of_two (hr.mono (by decide)) (pa_cons (pv 0) pa_nil))) (pa_cons pe_int pa_nil))) (pe_lc (own := [("i", 5)]) (g := gName 5) (by rfl) sc_greatest_spread_point.nd (pi_range2 (by rfl) b_range (pa_cons (pv 1) (pa_cons (pe_op op_add (pv 0) pe_int) pa_nil))) (blkOk_by (own := [("i", 5)]) (N := ["bits", "distance", "rows", "k", "signs", "i"]) (sc := defScope s_greatest_spread_point) (by decide +kernel)) (fun _ _ _ _ _ => pg_name (i := 5) sc_greatest_spread_point.nd rfl (Or.inl rfl)) (fun _ _ _ _ _ => pts_nil) (fun _ _ _ _ _ => pe_int))) pa_nil)))
      (pss_cons (ps_for PassesOwn.never rfl (pi_range2 (by rfl) b_range (pa_cons pe_int (pa_cons (pe_op op_add (pv 0) pe_int) pa_nil))) (pg_name (i := 3) sc_greatest_spread_point.nd rfl (Or.inr rfl)) (pss_cons (ps_setLc (i := 4) (own := [("i", 5)]) (g := gName 5) (by rfl) sc_greatest_spread_point.nd rfl rfl (sw_true rfl rfl rfl (by decide +kernel)) (pi_range2 (by rfl) b_range (pa_cons (pv 1) (pa_cons (pe_op op_add (pv 0) pe_int) pa_nil))) (blkOk_by (own := [("i", 5)]) (N := ["bits", "distance", "rows", "k", "signs", "i"]) (sc := defScope s_greatest_spread_point) (by decide +kernel)) (fun _ _ _ _ _ => pg_name (i := 5) sc_greatest_spread_point.nd rfl (Or.inl rfl)) (fun _ _ _ _ _ => pts_nil) (fun _ _ _ _ _ => (pe_cal c_sign_sum (hr.mono (by decide)) (pa_cons (pv 0) (pa_cons (pv 3) (pa_cons (pv 5) pa_nil))))))
      (pss_one (ps_expr (pe_bm PySem.F.plainAttrs_list PySem.F.slot_list_append PySem.F.type_list_append mt_append (pv 2) (pa_cons (pe_op op_cat (pe_lst (pa_cons (pe_cal c_sign_sum (hr.mono (by decide)) (pa_cons (pv 0) (pa_cons (pv 3) (pa_cons pe_int pa_nil)))) (pa_cons pe_int pa_nil))) (pv 4)) pa_nil))))))
      (pss_one (ps_ret (pe_cal c_least_point (hr.mono (by decide)) (pa_cons (pv 2) pa_nil)))))), ?_⟩)
  · obtain ⟨n, d, rfl, _⟩ := h
    rfl
  · obtain ⟨n, d, rfl, hd, hdn, hn, k⟩ := h
    have e0 : ((n : Int) + 1 - d).toNat = n + 1 - d := by omega
    refine q_asgT (et_lst1 (w := (1 - ((2 ^ n : Nat) : Int)) :: 1 :: (List.range (n + 1 - d)).map fun _ => 1) ?_) fun p ps H1 hp e1 h1 hn1 => ?_
    · have em : ((1 - ((2 ^ n : Nat) : Int)) :: 1 :: (List.range (n + 1 - d)).map fun _ => (1 : Int)).map V.int = [V.int (1 - ((2 ^ n : Nat) : Int)), V.int 1] ++ (List.range ((n : Int) + 1 - d).toNat).map (fun _ => V.int 1) := by
        rw [e0]
        simp only [List.map_cons, List.map_map]
        rfl
      rw [em]
      exact el_cat (el_lst (ea_cons (ev_op ev_c (ev_call (z := .int ((2 ^ n : Nat) : Int)) (ea_cons (ev_var rfl) ea_nil) fun H2 e2 Q2 q2 E2 => ⟨n, rfl, by omega, q2⟩) rv_I0) (ea_cons ev_c ea_nil)) (by show 2 ≤ 100000; decide)) (el_mapR2 _ (ea_cons (ev_var rfl) (ea_cons (ev_op (ev_var rfl) ev_c rv_I0) ea_nil)) ⟨by omega, by omega, by omega, by omega⟩ (fun x => rfl) fun i H1 e1 hi => ev_c) (by simp; omega)
    refine q_forR2 (lo := 1) (n := (n : Int) + 1) (ea_cons ev_c (ea_cons (ev_op (ev_var rfl) ev_c rv_I0) ea_nil)) ⟨by omega, by omega, by omega, by omega⟩ (fun j σ' H' => (∃ v u, σ' = [some (.int n), some (.int d), some (.ref p), v, u, none]) ∧ Ex H H' ∧ ∃ qs, TabAt H' p qs ∧ nums qs = ((1 - ((2 ^ n : Nat) : Int)) :: 1 :: (List.range (n + 1 - d)).map fun _ => 1) :: (List.range j).map (gsRow n d)) (fun H3 e3 => ⟨⟨none, none, rfl⟩, e1.trans e3, ps, h1.ex e3, hn1⟩) ?_ ?_
    · rintro j σ' H' hj ⟨⟨v, u, rfl⟩, e, qs, hq, hnq⟩
      have hl : qs.length = j + 1 := by
        have := congrArg List.length hnq
        rw [nums_len, List.length_cons, List.length_map, List.length_range] at this
        exact this
      have ec : (1 : Int) + (j : Int) = ((j + 1 : Nat) : Int) := by omega
      rw [ec]
      refine q_asgL (xs := (List.range ((n : Int) + 1 - d).toNat).map (fun i => V.int (Kh407.sign n (j + 1) (d + i)))) (el_mapR2 _ (ea_cons (ev_var rfl) (ea_cons (ev_op (ev_var rfl) ev_c rv_I0) ea_nil)) ⟨by omega, by omega, by omega, by omega⟩ (fun x => rfl) fun i H1 e1 hi => ?_) fun sA H2 hsA e2 hs2 => ?_
      · exact ev_call (z := .int (Kh407.sign n (j + 1) (d + i))) (ea_cons (ev_var rfl) (ea_cons (ev_var rfl) (ea_cons (ev_is (w := .int ((d + i : Nat) : Int)) (ev_var rfl) (by congr 1)) ea_nil))) fun H2 e2 Q2 q2 E2 => ⟨n, j + 1, d + i, rfl, by omega, by omega, by omega, q2⟩
      refine s_appRow (w := gsRow n d j) (hq.ex e2) (ev_var rfl) ?_ (by omega) fun q H1 e1 ht => ⟨⟨_, _, rfl⟩, ((e.trans e2).trans e1).mut hp, _, ht, ?_⟩
      · have em : (gsRow n d j).map V.int = [V.int (Kh407.sign n (j + 1) 0), V.int 0] ++ (List.range ((n : Int) + 1 - d).toNat).map (fun i => V.int (Kh407.sign n (j + 1) (d + i))) := by
          rw [e0]
          unfold gsRow
          simp only [List.map_cons, List.map_map]
          rfl
        rw [em]
        exact el_catN (el_lst (ea_cons (ev_call (z := .int (Kh407.sign n (j + 1) 0)) (ea_cons (ev_var rfl) (ea_cons (ev_var rfl) (ea_cons ev_c ea_nil))) fun H2 e2 Q2 q2 E2 => ⟨n, j + 1, 0, rfl, by omega, by omega, by omega, q2⟩) (ea_cons ev_c ea_nil)) (by show 2 ≤ 100000; decide)) (ev_var rfl) hs2 (by simp; omega)
      · rw [nums_append, hnq, List.range_succ, List.map_append]
        rfl
    · rintro σ' H' ⟨⟨v, u, rfl⟩, e, qs, hq, hnq⟩
      have e2 : ((n : Int) + 1 - 1).toNat = n := by omega
      rw [e2] at hnq
      have hl : qs.length = n + 1 := by
        have := congrArg List.length hnq
        rw [nums_len, List.length_cons, List.length_map, List.length_range] at this
        exact this
      have hh : ((nums qs).headD []).length = n + 1 - d + 2 := by
        rw [hnq]
        simp
      exact s_retL (el_call (ea_cons (ev_var rfl) ea_nil) fun H3 e3 Q3 q3 E3 => ⟨p, qs, gs n d, rfl, hq.ex e3, by omega, by omega, by omega, by omega, by rw [hnq]; exact gs_is hd hdn hn, q3⟩) fun p4 H4 hp4 e4 h4 => k.go e hp4 e4 h4
end
end Fw

set_option Elab.async false
set_option linter.all false
set_option maxRecDepth 100000
set_option maxHeartbeats 2000000
namespace Fw
open PySem PySem.Spec PyProof.Rows L2 Evl
/-! ### words -/
def wt (x : Nat) : Nat := x % 2 + x / 2 % 2 + x / 4 % 2 + x / 8 % 2 + x / 16 % 2 + x / 32 % 2
theorem wt_half {x : Nat} (h : x < 64) : x % 2 + wt (x / 2) = wt x := by
  unfold wt
  omega
theorem dist_is : ∀ n < 7, ∀ x < 2 ^ n, ∀ y < 2 ^ n, wt (x ^^^ y) = Kh407.dist n x y := by decide +kernel
theorem wt_le : ∀ n < 7, ∀ x < 2 ^ n, wt x ≤ n := by decide +kernel
theorem two_le {n : Nat} (h : n ≤ 6) : 2 ^ n ≤ 64 := Nat.pow_le_pow_right (n := 2) (by decide) h
theorem xor64 {x y : Nat} (hx : x < 64) (hy : y < 64) : x ^^^ y < 64 := Nat.xor_lt_two_pow (n := 6) hx hy
def far (d x : Nat) (b : List Nat) : Bool := b.all fun y => decide (d ≤ wt (x ^^^ y))
theorem xor_is (x y : Nat) : Builtin.bitXor (x : Int) (y : Int) = ((x ^^^ y : Nat) : Int) := by
  rw [Bits.bitXor_pp (by omega) (by omega)]
  rfl
def scan (e : Nat) : Nat → List Nat → Bool
  | _, [] => true
  | l, w :: r => !(decide (w < l) || decide (e ≤ w)) && scan e (w + 1) r
theorem scan_is (e : Nat) : ∀ (r : List Nat) (l w : Nat), scan e l (w :: r) = (decide (l ≤ w) && (Kh408.rising (w :: r) && (w :: r).all fun x => decide (x < e)))
  | [], l, w => by
    simp only [scan, Kh408.rising, List.all_cons, List.all_nil, Bool.and_true, Bool.true_and]
    rw [Bool.eq_iff_iff]
    simp
  | y :: r, l, w => by
    have ih := scan_is e r (w + 1) y
    show (!(decide (w < l) || decide (e ≤ w)) && scan e (w + 1) (y :: r)) = (decide (l ≤ w) && ((decide (w < y) && Kh408.rising (y :: r)) && (decide (w < e) && (y :: r).all fun x => decide (x < e))))
    rw [ih, Bool.eq_iff_iff]
    simp only [Bool.and_eq_true, Bool.not_eq_true', Bool.or_eq_false_iff, decide_eq_true_eq, decide_eq_false_iff_not]
    constructor
    · rintro ⟨⟨h1, h2⟩, h3, h4, h5⟩
      exact ⟨by omega, ⟨by omega, h4⟩, by omega, h5⟩
    · rintro ⟨h1, ⟨h2, h3⟩, h4, h5⟩
      exact ⟨⟨by omega, by omega⟩, by omega, h3, h5⟩
theorem okWords_scan (n d : Nat) (b : List Nat) : Kh408.okWords ⟨n, d⟩ b = scan (2 ^ n) 0 b := by
  cases b with
  | nil => rfl
  | cons w r =>
    rw [scan_is]
    show _ = (decide (0 ≤ w) && _)
    rw [decide_eq_true (Nat.zero_le w), Bool.true_and]
    rfl
def apartB (d : Nat) (b : List Nat) : Bool := (List.range b.length).all fun i => far d (b.getD i 0) (b.take i)
def fillStep (d : Nat) (c : List Nat) (x : Nat) : List Nat := if far d x c = true then c ++ [x] else c
def fillB (n d : Nat) (b : List Nat) : List Nat := (List.range (2 ^ n)).foldl (fillStep d) b
def cnt (b : List Nat) (i x : Nat) : Nat := (b.filter fun y => wt (x ^^^ y) == i).length
def twosB (b : List Nat) (i : Nat) : Nat := (b.map (cnt b i)).sum
theorem natsV_len (b : List Nat) : (natsV b).length = b.length := by rw [List.length_map, List.length_map]
theorem natsV_append (a b : List Nat) : natsV (a ++ b) = natsV a ++ natsV b := by
  unfold natsV
  rw [List.map_append, List.map_append]
theorem natsV_take (b : List Nat) (i : Nat) : (natsV b).take i = natsV (b.take i) := by
  unfold natsV
  rw [List.map_take, List.map_take]
theorem natsV_map (f : Nat → Nat) (l : List Nat) : natsV (l.map f) = l.map fun i => V.int ((f i : Nat) : Int) := by
  unfold natsV
  rw [List.map_map, List.map_map]
  rfl
theorem all_take {b : List Nat} {i : Nat} {p : Nat → Prop} (h : ∀ y ∈ b, p y) : ∀ y ∈ b.take i, p y := fun y hy => h y (List.mem_of_mem_take hy)
section
variable {P : Program} {w : World} {K : PySem.W.Frag} {mg : Str → Option Value} {base : Heap} {C : Addr}
abbrev s_are_right_words : Stmt := top 29
theorem sc_are_right_words : FnScope ["bits", "words", "every", "least", "word"] ["bits", "words"] (defScope s_are_right_words) := ⟨rfl, rfl, rfl, by decide +kernel, rfl, by decide +kernel, by decide +kernel⟩

def spRightW (K : PySem.W.Frag) : Sp := fun vs H Q _ => ∃ (n : Nat) (a : Addr) (b : List Nat), vs = [.int n, .ref a] ∧ SqL K H a (natsV b) ∧ n ≤ 6 ∧ RetV (.bl (scan (2 ^ n) 0 b)) H Q
theorem ok_are_right_words {f : Addr} {fd : FuncData} (F : Fun K "are_right_words" "are_right_words" s_are_right_words f fd) (c_power_of_two : Cal P w K mg base "power_of_two" 1 ["exponent"] spPow) : FnOk P w K mg base CX0 2 f fd ["bits", "words"] (spRightW K) := by
  refine F.ok sc_are_right_words (fun vs H Q E h => ?_) (fun cdv A outer s H vs Q E hr h => ⟨_, (pss_cons (ps_set (i := 2) sc_are_right_words.nd rfl (Or.inl rfl) (pe_cal c_power_of_two (hr.mono (by decide)) (pa_cons (pv 0) pa_nil)))
      (pss_cons (ps_set (i := 3) sc_are_right_words.nd rfl (Or.inl rfl) pe_int)
      (pss_cons (ps_for PassesOwn.never rfl (pi_list (pv 1)) (pg_name (i := 4) sc_are_right_words.nd rfl (Or.inl rfl)) (pss_cons (ps_if (PW.pt (pw_or (pt_cmpR op_lt (pv 4) (pv 3) (nomark _)) (pw_or1 (pt_cmpR op_ge (pv 4) (pv 2) (nomark _))))) (pss_one (ps_ret pe_bl)) pss_nil)
      (pss_one (ps_set (i := 3) sc_are_right_words.nd rfl (Or.inl rfl) (pe_op op_add (pv 4) pe_int)))))
      (pss_one (ps_ret pe_bl))))), ?_⟩)
  · obtain ⟨n, a, b, rfl, _⟩ := h
    rfl
  · obtain ⟨n, a, b, rfl, hS, hn, k⟩ := h
    refine q_asg (v := .int ((2 ^ n : Nat) : Int)) (ev_call (ea_cons (ev_var rfl) ea_nil) fun H2 e2 Q2 q2 E2 => ⟨n, rfl, by omega, q2⟩) fun H1 e1 => ?_
    refine q_asg ev_c fun H2 e2 => ?_
    refine q_forLn (xs := natsV b) (ev_var rfl) (ex_l (e1.trans e2) hS) (fun i σ' H' => (∃ (l : Nat) (v : Option V), σ' = [some (.int n), some (.ref a), some (.int ((2 ^ n : Nat) : Int)), some (.int (l : Int)), v] ∧ scan (2 ^ n) 0 b = scan (2 ^ n) l (b.drop i)) ∧ Ex H H') (fun H3 e3 => ⟨⟨0, none, rfl, rfl⟩, (e1.trans e2).trans e3⟩) (fun i σ' H' _ p => ex_l p.2 hS) ?_ ?_
    · rintro i x σ' H' hx ⟨⟨l, v, rfl, hl⟩, e⟩
      obtain ⟨z, hz, rfl⟩ := natsV_get hx
      rw [drop_at hz] at hl
      have hl' : scan (2 ^ n) 0 b = (!(decide (z < l) || decide (2 ^ n ≤ z)) && scan (2 ^ n) (z + 1) (b.drop (i + 1))) := hl
      refine q_when (b := decide ((z : Int) < l) || decide (((2 ^ n : Nat) : Int) ≤ z)) (et_or (et_test (ev_op (ev_var rfl) (ev_var rfl) rv_I0)) fun _ => et_test (ev_op (ev_var rfl) (ev_var rfl) rv_I0)) (fun hb H3 e3 => ?_) fun hb H3 e3 => ?_
      · have hb' : (decide (z < l) || decide (2 ^ n ≤ z)) = true := by
          rw [Bool.or_eq_true, decide_eq_true_iff, decide_eq_true_iff] at hb ⊢
          omega
        rw [hl', hb'] at k
        exact s_ret ev_c fun H4 e4 => k _ ((e.trans e3).trans e4)
      · have hb' : (decide (z < l) || decide (2 ^ n ≤ z)) = false := by
          rw [Bool.or_eq_false_iff, decide_eq_false_iff_not, decide_eq_false_iff_not] at hb ⊢
          omega
        rw [hb'] at hl'
        exact s_asg (ev_op (ev_var rfl) ev_c rv_I0) fun H4 e4 => ⟨⟨z + 1, _, rfl, hl'⟩, (e.trans e3).trans e4⟩
    · rintro σ' H' ⟨⟨l, v, rfl, hl⟩, e⟩
      rw [natsV_len, List.drop_length] at hl
      rw [hl] at k
      exact s_ret ev_c fun H4 e4 => k _ (e.trans e4)
abbrev s_weight : Stmt := top 30
theorem sc_weight : FnScope ["word", "ones", "rest"] ["word"] (defScope s_weight) := ⟨rfl, rfl, rfl, by decide +kernel, rfl, by decide +kernel, by decide +kernel⟩

def spWeight : Sp := fun vs H Q _ => ∃ x : Nat, vs = [.int x] ∧ x < 64 ∧ RetV (.int ((wt x : Nat) : Int)) H Q
theorem ok_weight {f : Addr} {fd : FuncData} (F : Fun K "weight" "weight" s_weight f fd)  : FnOk P w K mg base CX0 1 f fd ["word"] spWeight := by
  refine F.ok sc_weight (fun vs H Q E h => ?_) (fun cdv A outer s H vs Q E hr h => ⟨_, (pss_cons (ps_set (i := 1) sc_weight.nd rfl (Or.inl rfl) pe_int)
      (pss_cons (ps_set (i := 2) sc_weight.nd rfl (Or.inl rfl) (pv 0))
      (pss_cons (ps_while PassesOwn.never (pt_cmpR op_gt (pv 2) pe_int (nomark _)) (pss_cons (ps_set (i := 1) sc_weight.nd rfl (Or.inl rfl) (pe_op op_add (pv 1) (pe_op op_mod (pv 2) pe_int)))
      (pss_one (ps_set (i := 2) sc_weight.nd rfl (Or.inl rfl) (pe_op op_fdiv (pv 2) pe_int)))))
      (pss_one (ps_ret (pv 1)))))), ?_⟩)
  · obtain ⟨x, rfl, _⟩ := h
    rfl
  · obtain ⟨x, rfl, hx, k⟩ := h
    refine q_asg ev_c fun H1 e1 => ?_
    refine q_asg (ev_var rfl) fun H2 e2 => ?_
    refine q_while (fun m σ' H' => (∃ (o : Nat), σ' = [some (.int x), some (.int o), some (.int m)] ∧ o + wt m = wt x) ∧ m < 64 ∧ Ex H H') x ⟨⟨0, rfl, Nat.zero_add _⟩, hx, e1.trans e2⟩ ?_
    rintro m σ' H' ⟨⟨o, rfl, hm⟩, h64, e⟩
    refine ⟨decide ((0 : Int) < m), et_test (ev_op (ev_var rfl) ev_c rv_I0), fun hb H3 e3 => ?_, fun hb H3 e3 => ?_⟩
    · have hx : (0 : Int) < m := of_decide_eq_true hb
      refine ⟨fun σ2 H4 => ∃ m', m' < m ∧ ((∃ (o : Nat), σ2 = [some (.int x), some (.int o), some (.int m')] ∧ o + wt m' = wt x) ∧ m' < 64 ∧ Ex H H4), fun σ2 H4 q => q, ?_⟩
      refine q_asg (v := .int ((o + m % 2 : Nat) : Int)) (ev_is (ev_op (ev_var rfl) (ev_op (ev_var rfl) ev_c (rv_I (by show (0 : Int) < 2; decide))) rv_I0) (by rw [Int.natCast_add, Int.natCast_emod]; rfl)) fun H4 e4 => ?_
      refine s_asg (v := .int ((m / 2 : Nat) : Int)) (ev_is (ev_op (ev_var rfl) ev_c (rv_I ⟨by decide, by decide⟩)) (by rw [Int.natCast_ediv]; rfl)) fun H5 e5 => ⟨m / 2, by omega, ⟨_, rfl, ?_⟩, by omega, ((e.trans e3).trans e4).trans e5⟩
      have := wt_half h64
      omega
    · have hx : ¬ (0 : Int) < m := of_decide_eq_false hb
      have h0 : m = 0 := by omega
      subst h0
      have : o = wt x := by
        have z : wt 0 = 0 := rfl
        omega
      subst this
      exact s_ret (ev_var rfl) fun H4 e4 => k _ ((e.trans e3).trans e4)
abbrev s_is_far : Stmt := top 31
theorem sc_is_far : FnScope ["word", "words", "distance", "other"] ["word", "words", "distance"] (defScope s_is_far) := ⟨rfl, rfl, rfl, by decide +kernel, rfl, by decide +kernel, by decide +kernel⟩

def spFar (K : PySem.W.Frag) : Sp := fun vs H Q _ => ∃ (x : Nat) (a : Addr) (d : Nat) (b : List Nat), vs = [.int x, .ref a, .int d] ∧ SqL K H a (natsV b) ∧ x < 64 ∧ (∀ y ∈ b, y < 64) ∧ RetV (.bl (far d x b)) H Q
theorem ok_is_far {f : Addr} {fd : FuncData} (F : Fun K "is_far" "is_far" s_is_far f fd) (c_weight : Cal P w K mg base "weight" 1 ["word"] spWeight) : FnOk P w K mg base CX0 2 f fd ["word", "words", "distance"] (spFar K) := by
  refine F.ok sc_is_far (fun vs H Q E h => ?_) (fun cdv A outer s H vs Q E hr h => ⟨_, (pss_cons (ps_for PassesOwn.never rfl (pi_list (pv 1)) (pg_name (i := 3) sc_is_far.nd rfl (Or.inl rfl)) (pss_one (ps_if (pt_cmpR op_lt (pe_cal c_weight (hr.mono (by decide)) (pa_cons (pe_op op_xor (pv 0) (pv 3)) pa_nil)) (pv 2) (nomark _)) (pss_one (ps_ret pe_bl)) pss_nil)))
      (pss_one (ps_ret pe_bl))), ?_⟩)
  · obtain ⟨x, a, d, b, rfl, _⟩ := h
    rfl
  · obtain ⟨x, a, d, b, rfl, hS, hx, hb64, k⟩ := h
    refine q_forLn (xs := natsV b) (ev_var rfl) hS (fun i σ' H' => (∃ v, σ' = [some (.int x), some (.ref a), some (.int d), v]) ∧ Ex H H' ∧ (b.take i).all (fun y => decide (d ≤ wt (x ^^^ y))) = true) (fun H1 e1 => ⟨⟨none, rfl⟩, e1, rfl⟩) (fun i σ' H' _ p => ex_l p.2.1 hS) ?_ ?_
    · rintro i v σ' H' hv ⟨⟨v0, rfl⟩, e, ha⟩
      obtain ⟨z, hz, rfl⟩ := natsV_get hv
      have hz64 := hb64 z (List.mem_of_getElem? hz)
      refine s_when (b := decide (((wt (x ^^^ z) : Nat) : Int) < d)) (et_test (ev_op (ev_call (z := .int ((wt (x ^^^ z) : Nat) : Int)) (ea_cons (ev_is (w := .int ((x ^^^ z : Nat) : Int)) (ev_op (ev_var rfl) (ev_var rfl) rv_I0) (congrArg V.int (xor_is x z))) ea_nil) fun H2 e2 Q2 q2 E2 => ⟨x ^^^ z, rfl, xor64 hx hz64, q2⟩) (ev_var rfl) rv_I0)) (fun hb H2 e2 => ?_) fun hb H2 e2 => ⟨⟨_, rfl⟩, e.trans e2, ?_⟩
      · have hb' := of_decide_eq_true hb
        have : far d x b = false := all_take_false hz (by simp; omega)
        rw [this] at k
        exact s_ret ev_c fun H3 e3 => k _ ((e.trans e2).trans e3)
      · have hb' := of_decide_eq_false hb
        rw [take_all hz, ha]
        simp
        omega
    · rintro σ' H' ⟨⟨v, rfl⟩, e, ha⟩
      rw [natsV_len, List.take_length] at ha
      have : far d x b = true := ha
      rw [this] at k
      exact s_ret ev_c fun H3 e3 => k _ (e.trans e3)
abbrev s_are_apart : Stmt := top 32
theorem sc_are_apart : FnScope ["words", "distance", "place", "word"] ["words", "distance"] (defScope s_are_apart) := ⟨rfl, rfl, rfl, by decide +kernel, rfl, by decide +kernel, by decide +kernel⟩

def spApartB (K : PySem.W.Frag) : Sp := fun vs H Q _ => ∃ (a : Addr) (d : Nat) (b : List Nat), vs = [.ref a, .int d] ∧ SqL K H a (natsV b) ∧ (∀ y ∈ b, y < 64) ∧ RetV (.bl (apartB d b)) H Q
theorem ok_are_apart {f : Addr} {fd : FuncData} (F : Fun K "are_apart" "are_apart" s_are_apart f fd) (b_enumerate : mg "enumerate" = none) (c_is_far : Cal P w K mg base "is_far" 2 ["word", "words", "distance"] (spFar K)) : FnOk P w K mg base CX0 3 f fd ["words", "distance"] (spApartB K) := by
  refine F.ok sc_are_apart (fun vs H Q E h => ?_) (fun cdv A outer s H vs Q E hr h => ⟨_, (pss_cons (ps_for PassesOwn.never rfl (pi_enum (by rfl) b_enumerate (pa_cons (pv 0) pa_nil)) (pg_tup rfl (pgs_cons (pg_name (i := 2) sc_are_apart.nd rfl (Or.inl rfl)) (pgs_cons (pg_name (i := 3) sc_are_apart.nd rfl (Or.inl rfl)) pgs_nil))) (pss_one (ps_if (pt_not (pt_val (pe_cal c_is_far (hr.mono (by decide)) (pa_cons (pv 3) (pa_cons (pe_slice sl_list (pv 0) po_none (po_some (pv 2))) (pa_cons (pv 1) pa_nil)))))) (pss_one (ps_ret pe_bl)) pss_nil)))
      (pss_one (ps_ret pe_bl))), ?_⟩)
  · obtain ⟨a, d, b, rfl, _⟩ := h
    rfl
  · obtain ⟨a, d, b, rfl, hS, hb64, k⟩ := h
    refine q_forE (xs := natsV b) (ea_cons (ev_var rfl) ea_nil) hS (fun i σ' H' => (∃ v u, σ' = [some (.ref a), some (.int d), v, u]) ∧ Ex H H' ∧ (List.range i).all (fun i => far d (b.getD i 0) (b.take i)) = true) (fun H1 e1 => ⟨⟨none, none, rfl⟩, e1, rfl⟩) (fun i σ' H' _ p => ex_l p.2.1 hS) ?_ ?_
    · rintro i v σ' H' T hv ⟨⟨v0, u0, rfl⟩, e, ha⟩ hT
      obtain ⟨z, hz, rfl⟩ := natsV_get hv
      have hz64 := hb64 z (List.mem_of_getElem? hz)
      have hi : i < b.length := (List.getElem?_eq_some_iff.mp hz).1
      have eg : b.getD i 0 = z := by rw [List.getD_eq_getElem?_getD, hz]; rfl
      refine ⟨T, _, rfl, st_of upd_same, rfl, _, _, rfl, _, _, rfl, rfl, ?_⟩
      have e : Ex H (upd H' T (.tup [.int ((i : Nat) : Int), .int ((z : Nat) : Int)])) := e.trans (Ex.new hT)
      refine s_when (b := !far d z (b.take i)) (et_not (et_B (ev_call2 (xs := natsV (b.take i)) (ev_var rfl) (by
        rw [← natsV_take, ← cut_to]
        exact el_sl (ev_var rfl) eo_none (eo_some (ev_var rfl)) (ex_l e hS)) fun p H2 e2 h2 => ⟨[.int d], ea_cons (ev_var rfl) ea_nil, fun H3 e3 Q3 q3 E3 => ⟨z, p, d, b.take i, rfl, sq_of (e3 p _ h2), hz64, all_take hb64, q3⟩⟩))) (fun hb H2 e2 => ?_) fun hb H2 e2 => ⟨⟨_, _, rfl⟩, e.trans e2, ?_⟩
      · have : apartB d b = false := by
          cases q : apartB d b with
          | false => rfl
          | true =>
            have := List.all_eq_true.mp q i (List.mem_range.mpr hi)
            rw [eg] at this
            rw [this] at hb
            cases hb
        rw [this] at k
        exact s_ret ev_c fun H3 e3 => k _ ((e.trans e2).trans e3)
      · rw [List.range_succ, List.all_append, ha]
        simp only [List.all_cons, List.all_nil, Bool.and_true, Bool.true_and]
        rw [eg]
        simpa using hb
    · rintro σ' H' ⟨⟨v, u, rfl⟩, e, ha⟩
      rw [natsV_len] at ha
      have : apartB d b = true := ha
      rw [this] at k
      exact s_ret ev_c fun H3 e3 => k _ (e.trans e3)
abbrev s_far_words : Stmt := top 33
theorem sc_far_words : FnScope ["bits", "words", "distance", "word"] ["bits", "words", "distance"] (defScope s_far_words) := ⟨rfl, rfl, rfl, by decide +kernel, rfl, by decide +kernel, by decide +kernel⟩

def farB (n d : Nat) (b : List Nat) : List Nat := (List.range (2 ^ n)).filter fun x => far d x b
def spFarW (K : PySem.W.Frag) : Sp := fun vs H Q _ => ∃ (n : Nat) (a : Addr) (d : Nat) (b : List Nat), vs = [.int n, .ref a, .int d] ∧ SqL K H a (natsV b) ∧ n ≤ 6 ∧ (∀ y ∈ b, y < 64) ∧ RetL (natsV (farB n d b)) H Q
theorem ok_far_words {f : Addr} {fd : FuncData} (F : Fun K "far_words" "far_words" s_far_words f fd) (c_is_far : Cal P w K mg base "is_far" 2 ["word", "words", "distance"] (spFar K)) (b_range : mg "range" = none) (c_power_of_two : Cal P w K mg base "power_of_two" 1 ["exponent"] spPow) : FnOk P w K mg base CX0 3 f fd ["bits", "words", "distance"] (spFarW K) := by
  refine F.ok sc_far_words (fun vs H Q E h => ?_) (fun cdv A outer s H vs Q E hr h => ⟨_, (pss_one (ps_ret (pe_lc (own := [("word", 3)]) (g := gName 3) (by rfl) sc_far_words.nd (pi_range1 (by rfl) b_range (pa_cons (pe_cal c_power_of_two (hr.mono (by decide)) (pa_cons (pv 0) pa_nil)) pa_nil)) (blkOk_by (own := [("word", 3)]) (N := ["bits", "words", "distance", "word"]) (sc := defScope s_far_words) (by decide +kernel)) (fun _ _ _ _ _ => pg_name (i := 3) sc_far_words.nd rfl (Or.inl rfl)) (fun _ _ _ _ _ => (pts_one (pt_val (pe_cal c_is_far (hr.mono (by decide)) (pa_cons (pv 3) (pa_cons (pv 1) (pa_cons (pv 2) pa_nil))))))) (fun _ _ _ _ _ => (pv 3))))), ?_⟩)
  · obtain ⟨n, a, d, b, rfl, _⟩ := h
    rfl
  · obtain ⟨n, a, d, b, rfl, hS, hn, hb64, k⟩ := h
    have h2 := two_le hn
    have ek : natsV (farB n d b) = given ((2 ^ n : Nat) : Int).toNat (fun x => far d x b) (fun i => .int (i : Int)) := by
      show ((List.filter _ _).map Int.ofNat).map V.int = (List.filter _ _).map _
      rw [List.map_map]
      rfl
    rw [ek] at k
    refine s_retL (el_lcR1 _ _ (ea_cons (ev_call (z := .int ((2 ^ n : Nat) : Int)) (ea_cons (ev_var rfl) ea_nil) fun H2 e2 Q2 q2 E2 => ⟨n, rfl, by omega, q2⟩) ea_nil) ⟨Int.natCast_nonneg _, by omega⟩ (fun x => rfl) (fun i H1 e1 hi => ?_) fun i H1 e1 hi _ => ev_var rfl) k
    exact et_B (ev_call (ea_cons (ev_var rfl) (ea_cons (ev_var rfl) (ea_cons (ev_var rfl) ea_nil))) fun H2 e2 Q2 q2 E2 => ⟨i, a, d, b, rfl, ex_l (e1.trans e2) hS, by omega, hb64, q2⟩)
abbrev s_filled_words : Stmt := top 34
theorem sc_filled_words : FnScope ["bits", "words", "distance", "filled", "word"] ["bits", "words", "distance"] (defScope s_filled_words) := ⟨rfl, rfl, rfl, by decide +kernel, rfl, by decide +kernel, by decide +kernel⟩

def spFilled (K : PySem.W.Frag) : Sp := fun vs H Q _ => ∃ (n : Nat) (a : Addr) (d : Nat) (b : List Nat), vs = [.int n, .ref a, .int d] ∧ SqL K H a (natsV b) ∧ n ≤ 6 ∧ (∀ y ∈ b, y < 64) ∧ b.length ≤ 1000 ∧ RetL (natsV (fillB n d b)) H Q
theorem ok_filled_words {f : Addr} {fd : FuncData} (F : Fun K "filled_words" "filled_words" s_filled_words f fd) (b_range : mg "range" = none) (c_power_of_two : Cal P w K mg base "power_of_two" 1 ["exponent"] spPow) (c_is_far : Cal P w K mg base "is_far" 2 ["word", "words", "distance"] (spFar K)) (b_list : mg "list" = none) : FnOk P w K mg base CX0 3 f fd ["bits", "words", "distance"] (spFilled K) := by
  refine F.ok sc_filled_words (fun vs H Q E h => ?_) (fun cdv A outer s H vs Q E hr h => ⟨_, (pss_cons (ps_set (i := 3) sc_filled_words.nd rfl (Or.inl rfl) (pe_callTy call_list_of (by rfl) b_list (by decide +kernel) (pa_cons (pv 1) pa_nil)))
      (pss_cons (ps_for PassesOwn.never rfl (pi_range1 (by rfl) b_range (pa_cons (pe_cal c_power_of_two (hr.mono (by decide)) (pa_cons (pv 0) pa_nil)) pa_nil)) (pg_name (i := 4) sc_filled_words.nd rfl (Or.inl rfl)) (pss_one (ps_if (pt_val (pe_cal c_is_far (hr.mono (by decide)) (pa_cons (pv 4) (pa_cons (pv 3) (pa_cons (pv 2) pa_nil))))) (pss_one (ps_expr (pe_bm PySem.F.plainAttrs_list PySem.F.slot_list_append PySem.F.type_list_append mt_append (pv 3) (pa_cons (pv 4) pa_nil)))) pss_nil)))
      (pss_one (ps_ret (pv 3))))), ?_⟩)
  · obtain ⟨n, a, d, b, rfl, _⟩ := h
    rfl
  · obtain ⟨n, a, d, b, rfl, hS, hn, hb64, hbl, k⟩ := h
    have h2 := two_le hn
    refine q_asgL (el_list (ev_var rfl) hS) fun p H1 hp e1 h1 => ?_
    refine q_forR1 (n := ((2 ^ n : Nat) : Int)) (ea_cons (ev_call (z := .int ((2 ^ n : Nat) : Int)) (ea_cons (ev_var rfl) ea_nil) fun H2 e2 Q2 q2 E2 => ⟨n, rfl, by omega, q2⟩) ea_nil) ⟨Int.natCast_nonneg _, by omega⟩ (fun i σ' H' => (∃ v, σ' = [some (.int n), some (.ref a), some (.int d), some (.ref p), v]) ∧ Ex H H' ∧ ∃ c, c = (List.range i).foldl (fillStep d) b ∧ H' p = some (.lst (natsV c)) ∧ (∀ y ∈ c, y < 64) ∧ c.length ≤ 1000 + i) (fun H3 e3 => ⟨⟨none, rfl⟩, e1.trans e3, b, rfl, e3 p _ h1, hb64, hbl⟩) ?_ ?_
    · rintro i σ' H' hi ⟨⟨v, rfl⟩, e, c, hc, hpc, hc64, hcl⟩
      have hmore : (List.range (i + 1)).foldl (fillStep d) b = fillStep d c i := by
        rw [List.range_succ, List.foldl_append, ← hc]
        rfl
      refine s_when (b := far d i c) (et_B (ev_call (ea_cons (ev_var rfl) (ea_cons (ev_var rfl) (ea_cons (ev_var rfl) ea_nil))) fun H2 e2 Q2 q2 E2 => ⟨i, p, d, c, rfl, sq_of (e2 p _ hpc), by omega, hc64, q2⟩)) (fun hb H2 e2 => ?_) fun hb H2 e2 => ⟨⟨_, rfl⟩, e.trans e2, c, ?_, e2 p _ hpc, hc64, by omega⟩
      · refine s_app (e2 p _ hpc) (ev_var rfl) (ev_var rfl) (by rw [natsV_len]; omega) fun H3 e3 => ⟨⟨_, rfl⟩, ((e.trans e2).trans e3).mut hp, c ++ [i], ?_, ?_, ?_, ?_⟩
        · rw [hmore]
          unfold fillStep
          rw [if_pos hb]
        · rw [upd_same, natsV_append]
          rfl
        · intro y hy
          rcases List.mem_append.mp hy with hy | hy
          · exact hc64 y hy
          · have : y = i := List.mem_singleton.mp hy
            omega
        · rw [List.length_append]
          show c.length + 1 ≤ _
          omega
      · rw [hmore]
        unfold fillStep
        rw [hb]
        rfl
    · rintro σ' H' ⟨⟨v, rfl⟩, e, c, hc, hpc, _, _⟩
      have e0 : c = fillB n d b := hc
      rw [e0] at hpc
      exact s_ret (ev_var rfl) fun H3 e3 => k.go (Ex.refl H) hp (e.trans e3) (e3 p _ hpc)
abbrev s_count_twos : Stmt := top 35
theorem sc_count_twos : FnScope ["bits", "words", "i", "twos", "word", "other"] ["bits", "words"] (defScope s_count_twos) := ⟨rfl, rfl, rfl, by decide +kernel, rfl, by decide +kernel, by decide +kernel⟩

def spTwos (K : PySem.W.Frag) : Sp := fun vs H Q _ => ∃ (n : Nat) (a : Addr) (b : List Nat), vs = [.int n, .ref a] ∧ SqL K H a (natsV b) ∧ n ≤ 6 ∧ (∀ y ∈ b, y < 2 ^ n) ∧ RetL (natsV ((List.range (n + 1)).map (twosB b))) H Q
theorem set_more {n w : Nat} {f g : Nat → Nat} (hw : w < n) (h1 : g w = f w + 1) (h2 : ∀ i, i ≠ w → g i = f i) : (natsV ((List.range n).map f)).set w (.int ((f w : Nat) + 1 : Int)) = natsV ((List.range n).map g) := by
  rw [natsV_map, natsV_map]
  refine List.ext_getElem (by simp) fun i h3 h4 => ?_
  rw [List.getElem_set]
  by_cases c : w = i
  · subst c
    rw [if_pos rfl]
    simp only [List.getElem_map, List.getElem_range]
    rw [h1]
    rfl
  · rw [if_neg c]
    simp only [List.getElem_map, List.getElem_range]
    rw [h2 i fun z => c z.symm]
theorem cnt_more {b : List Nat} {k y : Nat} (h : b[k]? = some y) (i x : Nat) : cnt (b.take (k + 1)) i x = cnt (b.take k) i x + (if wt (x ^^^ y) = i then 1 else 0) := by
  unfold cnt
  rw [take_more h, List.filter_append, List.length_append]
  by_cases c : wt (x ^^^ y) = i
  · rw [if_pos c]
    simp [c]
  · rw [if_neg c]
    simp [c]
theorem ok_count_twos {f : Addr} {fd : FuncData} (F : Fun K "count_twos" "count_twos" s_count_twos f fd) (c_weight : Cal P w K mg base "weight" 1 ["word"] spWeight) (b_range : mg "range" = none) : FnOk P w K mg base CX0 2 f fd ["bits", "words"] (spTwos K) := by
  refine F.ok sc_count_twos (fun vs H Q E h => ?_) (fun cdv A outer s H vs Q E hr h => ⟨_, (pss_cons (ps_setLc (i := 3) (own := [("i", 2)]) (g := gName 2) (by rfl) sc_count_twos.nd rfl rfl (sw_true rfl rfl rfl (by decide +kernel)) (pi_range1 (by rfl) b_range (pa_cons (pe_op op_add (pv 0) pe_int) pa_nil)) (blkOk_by (own := [("i", 2)]) (N := ["bits", "words", "i", "twos", "word", "other"]) (sc := defScope s_count_twos) (by decide +kernel)) (fun _ _ _ _ _ => pg_name (i := 2) sc_count_twos.nd rfl (Or.inl rfl)) (fun _ _ _ _ _ => pts_nil) (fun _ _ _ _ _ => pe_int))
      (pss_cons (ps_for PassesOwn.never rfl (pi_list (pv 1)) (pg_name (i := 4) sc_count_twos.nd rfl (Or.inl rfl)) (pss_one (ps_for PassesOwn.never rfl (pi_list (pv 1)) (pg_name (i := 5) sc_count_twos.nd rfl (Or.inl rfl)) (pss_cons (ps_set (i := 2) sc_count_twos.nd rfl (Or.inl rfl) (pe_cal c_weight (hr.mono (by decide)) (pa_cons (pe_op op_xor (pv 4) (pv 5)) pa_nil)))
      (pss_one (ps_asg (pe_op op_add (pe_ix (r := rIxL K) ix_list (pv 3) (pv 2) (fun _ _ => rfl)) pe_int) (pg_sub (pv 3) (pv 2) set_list)))))))
      (pss_one (ps_ret (pv 3))))), ?_⟩)
  · obtain ⟨n, a, b, rfl, _⟩ := h
    rfl
  · obtain ⟨n, a, b, rfl, hS, hn, hb, k⟩ := h
    have h2 := two_le hn
    refine q_asgL (xs := natsV ((List.range (n + 1)).map fun _ => 0)) (by
      rw [natsV_map, show n + 1 = ((n : Int) + 1).toNat by omega]
      exact el_mapR1 _ (ea_cons (ev_op (ev_var rfl) ev_c rv_I0) ea_nil) ⟨by omega, by omega⟩ (fun x => rfl) fun i H1 e1 hi => ev_c) fun p H1 hp e1 h1 => ?_
    refine q_forLn (xs := natsV b) (ev_var rfl) (ex_l e1 hS) (fun j σ' H' => (∃ v u w, σ' = [some (.int n), some (.ref a), v, some (.ref p), u, w]) ∧ Ex H H' ∧ H' p = some (.lst (natsV ((List.range (n + 1)).map fun i => ((b.take j).map (cnt b i)).sum)))) (fun H3 e3 => ⟨⟨none, none, none, rfl⟩, e1.trans e3, e3 p _ h1⟩) (fun i σ' H' _ q => ex_l q.2.1 hS) ?_ ?_
    · rintro j x σ' H' hx ⟨⟨v, u, w, rfl⟩, e, hpj⟩
      obtain ⟨x, hxj, rfl⟩ := natsV_get hx
      have hx2 := hb x (List.mem_of_getElem? hxj)
      refine s_forLn (xs := natsV b) (ev_var rfl) (ex_l e hS) (fun k σ' H' => (∃ v w, σ' = [some (.int n), some (.ref a), v, some (.ref p), some (.int ((x : Nat) : Int)), w]) ∧ Ex H H' ∧ H' p = some (.lst (natsV ((List.range (n + 1)).map fun i => ((b.take j).map (cnt b i)).sum + cnt (b.take k) i x)))) (fun H3 e3 => ⟨⟨_, _, rfl⟩, e.trans e3, e3 p _ hpj⟩) (fun i σ' H' _ q => ex_l q.2.1 hS) ?_ ?_
      · rintro k y σ' H' hy ⟨⟨v, w, rfl⟩, e, hpk⟩
        obtain ⟨y, hyk, rfl⟩ := natsV_get hy
        have hy2 := hb y (List.mem_of_getElem? hyk)
        have hw : wt (x ^^^ y) < n + 1 := Nat.lt_succ_of_le (wt_le n (by omega) _ (Nat.xor_lt_two_pow hx2 hy2))
        refine q_asg (v := .int ((wt (x ^^^ y) : Nat) : Int)) (ev_call (ea_cons (ev_is (w := .int ((x ^^^ y : Nat) : Int)) (ev_op (ev_var rfl) (ev_var rfl) rv_I0) (congrArg V.int (xor_is x y))) ea_nil) fun H2 e2 Q2 q2 E2 => ⟨x ^^^ y, rfl, xor64 (by omega) (by omega), q2⟩) fun H3 e3 => ?_
        have hat : ∀ f : Nat → Nat, atI (natsV ((List.range (n + 1)).map f)) ((wt (x ^^^ y) : Nat) : Int) = some (.int ((f (wt (x ^^^ y)) : Nat) : Int)) := fun f => by
          rw [natsV_map]
          refine atI_nat ?_
          rw [List.getElem?_map, List.getElem?_range hw]
          rfl
        refine s_setL (e3 p _ hpk) (ev_op (ev_op (ev_var rfl) (ev_var rfl) (rv_ixL (sq_of (e3 p _ hpk)) (hat _))) ev_c rv_I0) (ev_var rfl) (ev_var rfl) (by rw [natsV_len, List.length_map, List.length_range]; exact hw) fun H4 e4 => ⟨⟨_, _, rfl⟩, ((e.trans e3).trans e4).mut hp, ?_⟩
        rw [upd_same]
        refine congrArg (fun q => some (HO.lst q)) (set_more (f := fun i => ((b.take j).map (cnt b i)).sum + cnt (b.take k) i x) hw ?_ fun i hi => ?_)
        · show _ + cnt (b.take (k + 1)) _ x = _
          rw [cnt_more hyk, if_pos rfl]
          rfl
        · show _ + cnt (b.take (k + 1)) i x = _
          rw [cnt_more hyk, if_neg fun z => hi z.symm]
          rfl
      · rintro σ' H' ⟨⟨v, w, rfl⟩, e, hpk⟩
        refine ⟨⟨_, _, _, rfl⟩, e, ?_⟩
        rw [natsV_len, List.take_length] at hpk
        rw [hpk]
        have : (fun i => ((b.take (j + 1)).map (cnt b i)).sum) = fun i => ((b.take j).map (cnt b i)).sum + cnt b i x := by
          funext i
          rw [take_more hxj, List.map_append, List.sum_append]
          simp
        rw [this]
    · rintro σ' H' ⟨⟨v, u, w, rfl⟩, e, hpj⟩
      rw [natsV_len, List.take_length] at hpj
      exact s_ret (ev_var rfl) fun H3 e3 => k.go (Ex.refl H) hp (e.trans e3) (e3 p _ hpj)
abbrev s_told_fractions : Stmt := top 7
theorem sc_told_fractions : FnScope ["aboves", "below", "told", "above"] ["aboves", "below"] (defScope s_told_fractions) := ⟨rfl, rfl, rfl, by decide +kernel, rfl, by decide +kernel, by decide +kernel⟩

def spTold (K : PySem.W.Frag) : Sp := fun vs H Q _ => ∃ (a : Addr) (m : Nat) (b : List Nat), vs = [.ref a, .int m] ∧ SqL K H a (natsV b) ∧ 0 < m ∧ m < 1000000 ∧ b.length ≤ 1000 ∧ RetL (natsV (toldB b m)) H Q
theorem toldB_len : ∀ (b : List Nat) (m : Nat), (toldB b m).length = 2 * b.length
  | [], _ => rfl
  | x :: b, m => by
    have ih := toldB_len b m
    show ((x / Nat.gcd m x) :: (m / Nat.gcd m x) :: toldB b m).length = _
    rw [List.length_cons, List.length_cons, List.length_cons, ih]
    omega
theorem toldB_append (b c : List Nat) (m : Nat) : toldB (b ++ c) m = toldB b m ++ toldB c m := List.flatMap_append ..
theorem ok_told_fractions {f : Addr} {fd : FuncData} (F : Fun K "told_fractions" "told_fractions" s_told_fractions f fd) (c_lowest_terms : Cal P w K mg base "lowest_terms" 2 ["above", "below"] spLowest) : FnOk P w K mg base CX0 3 f fd ["aboves", "below"] (spTold K) := by
  refine F.ok sc_told_fractions (fun vs H Q E h => ?_) (fun cdv A outer s H vs Q E hr h => ⟨_, (pss_cons (ps_set (i := 2) sc_told_fractions.nd rfl (Or.inl rfl) (pe_lst pa_nil))
      (pss_cons (ps_for PassesOwn.never rfl (pi_list (pv 0)) (pg_name (i := 3) sc_told_fractions.nd rfl (Or.inl rfl)) (pss_one (ps_expr (pe_bm PySem.F.plainAttrs_list PySem.F.slot_list_extend PySem.F.type_list_extend mt_extend (pv 2) (pa_cons (pe_cal c_lowest_terms (hr.mono (by decide)) (pa_cons (pv 3) (pa_cons (pv 1) pa_nil))) pa_nil)))))
      (pss_one (ps_ret (pv 2))))), ?_⟩)
  · obtain ⟨a, m, b, rfl, _⟩ := h
    rfl
  · obtain ⟨a, m, b, rfl, hS, h0, h1, hl, k⟩ := h
    refine q_asgL (el_lst ea_nil (by show 0 ≤ 100000; decide)) fun p H1 hp e1 hp1 => ?_
    refine q_forLn (xs := natsV b) (ev_var rfl) (ex_l e1 hS) (fun i σ' H' => (∃ v, σ' = [some (.ref a), some (.int m), some (.ref p), v]) ∧ Ex H H' ∧ H' p = some (.lst (natsV (toldB (b.take i) m)))) (fun H3 e3 => ⟨⟨none, rfl⟩, e1.trans e3, e3 p _ hp1⟩) (fun i σ' H' _ q => ex_l q.2.1 hS) ?_ ?_
    · rintro i v σ' H' hv ⟨⟨v0, rfl⟩, e, hpi⟩
      obtain ⟨x, hx, rfl⟩ := natsV_get hv
      refine s_extL hpi (ev_var rfl) (el_call (xs := natsV [x / Nat.gcd m x, m / Nat.gcd m x]) (ea_cons (ev_var rfl) (ea_cons (ev_var rfl) ea_nil)) fun H3 e3 Q3 q3 E3 => ⟨x, m, rfl, h0, h1, q3⟩) (by rw [natsV_len, natsV_len, toldB_len, List.length_take]; show _ + 2 ≤ _; omega) fun H3 e3 => ⟨⟨_, rfl⟩, (e.trans e3).mut hp, ?_⟩
      rw [upd_same, take_more hx, toldB_append, natsV_append]
      rfl
    · rintro σ' H' ⟨⟨v, rfl⟩, e, hpi⟩
      rw [natsV_len, List.take_length] at hpi
      exact s_ret (ev_var rfl) fun H3 e3 => k.go (Ex.refl H) hp (e.trans e3) (e3 p _ hpi)
abbrev s_counted : Stmt := top 43
theorem sc_counted : FnScope ["words"] ["words"] (defScope s_counted) := ⟨rfl, rfl, rfl, by decide +kernel, rfl, by decide +kernel, by decide +kernel⟩

def spCounted : Sp := fun vs H Q _ => ∃ (a : Addr) (b : List Nat), vs = [.ref a] ∧ H a = some (.lst (natsV b)) ∧ b.length ≤ 10000 ∧ RetL (natsV (b.length :: b)) H Q
theorem ok_counted {f : Addr} {fd : FuncData} (F : Fun K "counted" "counted" s_counted f fd) (b_len : mg "len" = none) : FnOk P w K mg base CX0 1 f fd ["words"] spCounted := by
  refine F.ok sc_counted (fun vs H Q E h => ?_) (fun cdv A outer s H vs Q E hr h => ⟨_, (pss_one (ps_ret (pe_op op_cat (pe_lst (pa_cons (pe_callB call_len_seq (by rfl) b_len PySem.boot_len (pa_cons (pv 0) pa_nil)) pa_nil)) (pv 0)))), ?_⟩)
  · obtain ⟨a, b, rfl, _⟩ := h
    rfl
  · obtain ⟨a, b, rfl, hS, hl, k⟩ := h
    exact s_retL (el_catN (xs := natsV [b.length]) (el_lst (ea_cons (ev_is (ev_len (ev_var rfl) (sq_of hS)) (by rw [natsV_len]; rfl)) ea_nil) (by show 1 ≤ 100000; decide)) (ev_var rfl) hS (by rw [natsV_len, natsV_len]; show 1 + _ ≤ _; omega)) k
end
end Fw

set_option Elab.async false
set_option linter.all false
set_option maxRecDepth 100000
set_option maxHeartbeats 2000000
namespace Fw
open PySem PySem.Spec PyProof.Rows L2 Evl
/-! ### what is due, call by call -/
def ansOf (n d : Nat) (c : Kh408.Call) : List Int := (Kh408.does ⟨n, d⟩ c).2.ret :: (Kh408.does ⟨n, d⟩ c).2.out
theorem best_some {n d : Nat} {b : List Kh397.Fr} (h : Kh408.bestProof ⟨n, d⟩ = some b) : ansOf n d .bestProof = Kh408.floor (Kh408.cost n b) :: (Kh408.cost n b :: b).flatMap fun x => [x.n, x.d] := by
  have e : (Kh408.does ⟨n, d⟩ .bestProof).2 = match Kh408.bestProof ⟨n, d⟩ with
    | none => Kh408.say (-33)
    | some b => Kh408.frs (Kh408.floor (Kh408.cost n b)) (Kh408.cost n b :: b) := rfl
  unfold ansOf
  rw [e, h]
  rfl
theorem spread_some {n d : Nat} {x : List Kh397.Fr} (h : Kh408.spread ⟨n, d⟩ = some x) : ansOf n d .spread = ((n + 1 - d : Nat) : Int) :: (x ++ [Kh408.all x]).flatMap fun x => [x.n, x.d] := by
  have e : (Kh408.does ⟨n, d⟩ .spread).2 = match Kh408.spread ⟨n, d⟩ with
    | none => Kh408.say (-33)
    | some x => Kh408.frs (Kh408.far ⟨n, d⟩) (x ++ [Kh408.all x]) := rfl
  unfold ansOf
  rw [e, h]
  rfl
theorem bl_1_1 : ansOf 1 1 .bestProof = (bestLit 1 1).map Int.ofNat := (best_some FwL.best_1_1).trans (by decide +kernel)
theorem sl_1_1 : ansOf 1 1 .spread = (spreadLit 1 1).map Int.ofNat := (spread_some FwL.spread_1_1).trans (by decide +kernel)
theorem bl_2_1 : ansOf 2 1 .bestProof = (bestLit 2 1).map Int.ofNat := (best_some FwL.best_2_1).trans (by decide +kernel)
theorem sl_2_1 : ansOf 2 1 .spread = (spreadLit 2 1).map Int.ofNat := (spread_some FwL.spread_2_1).trans (by decide +kernel)
theorem bl_2_2 : ansOf 2 2 .bestProof = (bestLit 2 2).map Int.ofNat := (best_some FwL.best_2_2).trans (by decide +kernel)
theorem sl_2_2 : ansOf 2 2 .spread = (spreadLit 2 2).map Int.ofNat := (spread_some FwL.spread_2_2).trans (by decide +kernel)
theorem bl_3_1 : ansOf 3 1 .bestProof = (bestLit 3 1).map Int.ofNat := (best_some FwL.best_3_1).trans (by decide +kernel)
theorem sl_3_1 : ansOf 3 1 .spread = (spreadLit 3 1).map Int.ofNat := (spread_some FwL.spread_3_1).trans (by decide +kernel)
theorem bl_3_2 : ansOf 3 2 .bestProof = (bestLit 3 2).map Int.ofNat := (best_some FwL.best_3_2).trans (by decide +kernel)
theorem sl_3_2 : ansOf 3 2 .spread = (spreadLit 3 2).map Int.ofNat := (spread_some FwL.spread_3_2).trans (by decide +kernel)
theorem bl_3_3 : ansOf 3 3 .bestProof = (bestLit 3 3).map Int.ofNat := (best_some FwL.best_3_3).trans (by decide +kernel)
theorem sl_3_3 : ansOf 3 3 .spread = (spreadLit 3 3).map Int.ofNat := (spread_some FwL.spread_3_3).trans (by decide +kernel)
theorem bl_4_1 : ansOf 4 1 .bestProof = (bestLit 4 1).map Int.ofNat := (best_some FwL.best_4_1).trans (by decide +kernel)
theorem sl_4_1 : ansOf 4 1 .spread = (spreadLit 4 1).map Int.ofNat := (spread_some FwL.spread_4_1).trans (by decide +kernel)
theorem bl_4_2 : ansOf 4 2 .bestProof = (bestLit 4 2).map Int.ofNat := (best_some FwL.best_4_2).trans (by decide +kernel)
theorem sl_4_2 : ansOf 4 2 .spread = (spreadLit 4 2).map Int.ofNat := (spread_some FwL.spread_4_2).trans (by decide +kernel)
theorem bl_4_3 : ansOf 4 3 .bestProof = (bestLit 4 3).map Int.ofNat := (best_some FwL.best_4_3).trans (by decide +kernel)
theorem sl_4_3 : ansOf 4 3 .spread = (spreadLit 4 3).map Int.ofNat := (spread_some FwL.spread_4_3).trans (by decide +kernel)
theorem bl_4_4 : ansOf 4 4 .bestProof = (bestLit 4 4).map Int.ofNat := (best_some FwL.best_4_4).trans (by decide +kernel)
theorem sl_4_4 : ansOf 4 4 .spread = (spreadLit 4 4).map Int.ofNat := (spread_some FwL.spread_4_4).trans (by decide +kernel)
theorem bl_5_1 : ansOf 5 1 .bestProof = (bestLit 5 1).map Int.ofNat := (best_some FwL.best_5_1).trans (by decide +kernel)
theorem sl_5_1 : ansOf 5 1 .spread = (spreadLit 5 1).map Int.ofNat := (spread_some FwL.spread_5_1).trans (by decide +kernel)
theorem bl_5_2 : ansOf 5 2 .bestProof = (bestLit 5 2).map Int.ofNat := (best_some FwL.best_5_2).trans (by decide +kernel)
theorem sl_5_2 : ansOf 5 2 .spread = (spreadLit 5 2).map Int.ofNat := (spread_some FwL.spread_5_2).trans (by decide +kernel)
theorem bl_5_3 : ansOf 5 3 .bestProof = (bestLit 5 3).map Int.ofNat := (best_some FwL.best_5_3).trans (by decide +kernel)
theorem sl_5_3 : ansOf 5 3 .spread = (spreadLit 5 3).map Int.ofNat := (spread_some FwL.spread_5_3).trans (by decide +kernel)
theorem bl_5_4 : ansOf 5 4 .bestProof = (bestLit 5 4).map Int.ofNat := (best_some FwL.best_5_4).trans (by decide +kernel)
theorem sl_5_4 : ansOf 5 4 .spread = (spreadLit 5 4).map Int.ofNat := (spread_some FwL.spread_5_4).trans (by decide +kernel)
theorem bl_5_5 : ansOf 5 5 .bestProof = (bestLit 5 5).map Int.ofNat := (best_some FwL.best_5_5).trans (by decide +kernel)
theorem sl_5_5 : ansOf 5 5 .spread = (spreadLit 5 5).map Int.ofNat := (spread_some FwL.spread_5_5).trans (by decide +kernel)
theorem bl_6_1 : ansOf 6 1 .bestProof = (bestLit 6 1).map Int.ofNat := (best_some FwL.best_6_1).trans (by decide +kernel)
theorem sl_6_1 : ansOf 6 1 .spread = (spreadLit 6 1).map Int.ofNat := (spread_some FwL.spread_6_1).trans (by decide +kernel)
theorem bl_6_2 : ansOf 6 2 .bestProof = (bestLit 6 2).map Int.ofNat := (best_some FwL.best_6_2).trans (by decide +kernel)
theorem sl_6_2 : ansOf 6 2 .spread = (spreadLit 6 2).map Int.ofNat := (spread_some FwL.spread_6_2).trans (by decide +kernel)
theorem bl_6_3 : ansOf 6 3 .bestProof = (bestLit 6 3).map Int.ofNat := (best_some FwL.best_6_3).trans (by decide +kernel)
theorem sl_6_3 : ansOf 6 3 .spread = (spreadLit 6 3).map Int.ofNat := (spread_some FwL.spread_6_3).trans (by decide +kernel)
theorem bl_6_4 : ansOf 6 4 .bestProof = (bestLit 6 4).map Int.ofNat := (best_some FwL.best_6_4).trans (by decide +kernel)
theorem sl_6_4 : ansOf 6 4 .spread = (spreadLit 6 4).map Int.ofNat := (spread_some FwL.spread_6_4).trans (by decide +kernel)
theorem bl_6_5 : ansOf 6 5 .bestProof = (bestLit 6 5).map Int.ofNat := (best_some FwL.best_6_5).trans (by decide +kernel)
theorem sl_6_5 : ansOf 6 5 .spread = (spreadLit 6 5).map Int.ofNat := (spread_some FwL.spread_6_5).trans (by decide +kernel)
theorem bl_6_6 : ansOf 6 6 .bestProof = (bestLit 6 6).map Int.ofNat := (best_some FwL.best_6_6).trans (by decide +kernel)
theorem sl_6_6 : ansOf 6 6 .spread = (spreadLit 6 6).map Int.ofNat := (spread_some FwL.spread_6_6).trans (by decide +kernel)
theorem in21 {P : Nat → Nat → Prop} (h : ∀ n < 7, ∀ d < n, P n (d + 1)) {n d : Nat} (h0 : 1 ≤ d) (h1 : d ≤ n) (h2 : n ≤ 6) : P n d := by
  have := h n (by omega) (d - 1) (by omega)
  rw [show d - 1 + 1 = d by omega] at this
  exact this
theorem best_due {n d : Nat} (h0 : 1 ≤ d) (h1 : d ≤ n) (h2 : n ≤ 6) : ansOf n d .bestProof = (bestLit n d).map Int.ofNat := by
  refine in21 (P := fun n d => ansOf n d .bestProof = (bestLit n d).map Int.ofNat) (fun n hn d hd => ?_) h0 h1 h2
  match n, d, hn, hd with
  | 1, 0, _, _ => exact bl_1_1
  | 2, 0, _, _ => exact bl_2_1
  | 2, 1, _, _ => exact bl_2_2
  | 3, 0, _, _ => exact bl_3_1
  | 3, 1, _, _ => exact bl_3_2
  | 3, 2, _, _ => exact bl_3_3
  | 4, 0, _, _ => exact bl_4_1
  | 4, 1, _, _ => exact bl_4_2
  | 4, 2, _, _ => exact bl_4_3
  | 4, 3, _, _ => exact bl_4_4
  | 5, 0, _, _ => exact bl_5_1
  | 5, 1, _, _ => exact bl_5_2
  | 5, 2, _, _ => exact bl_5_3
  | 5, 3, _, _ => exact bl_5_4
  | 5, 4, _, _ => exact bl_5_5
  | 6, 0, _, _ => exact bl_6_1
  | 6, 1, _, _ => exact bl_6_2
  | 6, 2, _, _ => exact bl_6_3
  | 6, 3, _, _ => exact bl_6_4
  | 6, 4, _, _ => exact bl_6_5
  | 6, 5, _, _ => exact bl_6_6
theorem spread_due {n d : Nat} (h0 : 1 ≤ d) (h1 : d ≤ n) (h2 : n ≤ 6) : ansOf n d .spread = (spreadLit n d).map Int.ofNat := by
  refine in21 (P := fun n d => ansOf n d .spread = (spreadLit n d).map Int.ofNat) (fun n hn d hd => ?_) h0 h1 h2
  match n, d, hn, hd with
  | 1, 0, _, _ => exact sl_1_1
  | 2, 0, _, _ => exact sl_2_1
  | 2, 1, _, _ => exact sl_2_2
  | 3, 0, _, _ => exact sl_3_1
  | 3, 1, _, _ => exact sl_3_2
  | 3, 2, _, _ => exact sl_3_3
  | 4, 0, _, _ => exact sl_4_1
  | 4, 1, _, _ => exact sl_4_2
  | 4, 2, _, _ => exact sl_4_3
  | 4, 3, _, _ => exact sl_4_4
  | 5, 0, _, _ => exact sl_5_1
  | 5, 1, _, _ => exact sl_5_2
  | 5, 2, _, _ => exact sl_5_3
  | 5, 3, _, _ => exact sl_5_4
  | 5, 4, _, _ => exact sl_5_5
  | 6, 0, _, _ => exact sl_6_1
  | 6, 1, _, _ => exact sl_6_2
  | 6, 2, _, _ => exact sl_6_3
  | 6, 3, _, _ => exact sl_6_4
  | 6, 4, _, _ => exact sl_6_5
  | 6, 5, _, _ => exact sl_6_6
/-! words -/
theorem scan_len (e : Nat) : ∀ (b : List Nat) (l : Nat), scan e l b = true → l ≤ e → l + b.length ≤ e
  | [], _, _, h => h
  | w :: r, l, h, hl => by
    have h' : (!(decide (w < l) || decide (e ≤ w)) && scan e (w + 1) r) = true := h
    simp only [Bool.and_eq_true, Bool.not_eq_true', Bool.or_eq_false_iff, decide_eq_false_iff_not] at h'
    have := scan_len e r (w + 1) h'.2 (by omega)
    rw [List.length_cons]
    omega
theorem scan_lt (e : Nat) : ∀ (b : List Nat) (l : Nat), scan e l b = true → ∀ y ∈ b, l ≤ y ∧ y < e
  | [], _, _, _, h => by cases h
  | w :: r, l, h, y, hy => by
    have h' : (!(decide (w < l) || decide (e ≤ w)) && scan e (w + 1) r) = true := h
    simp only [Bool.and_eq_true, Bool.not_eq_true', Bool.or_eq_false_iff, decide_eq_false_iff_not] at h'
    rcases List.mem_cons.mp hy with hy | hy
    · subst hy
      omega
    · have := scan_lt e r (w + 1) h'.2 y hy
      omega
/-- those behind are greater -/
theorem scan_get (e : Nat) : ∀ (b : List Nat) (l i j x y : Nat), scan e l b = true → b[i]? = some x → b[j]? = some y → i < j → x < y
  | [], _, _, _, _, _, _, h, _, _ => by simp at h
  | w :: r, l, 0, j + 1, x, y, h, hx, hy, _ => by
    have h' : (!(decide (w < l) || decide (e ≤ w)) && scan e (w + 1) r) = true := h
    rw [Bool.and_eq_true] at h'
    have hw : w = x := Option.some.inj hx
    have := scan_lt e r (w + 1) h'.2 y (List.mem_of_getElem? (i := j) hy)
    omega
  | w :: r, l, i + 1, j + 1, x, y, h, hx, hy, hij => by
    have h' : (!(decide (w < l) || decide (e ≤ w)) && scan e (w + 1) r) = true := h
    rw [Bool.and_eq_true] at h'
    exact scan_get e r (w + 1) i j x y h'.2 hx hy (by omega)
  | w :: r, l, i, 0, x, y, h, hx, hy, hij => by omega
structure Right (n : Nat) (b : List Nat) : Prop where
  lt : ∀ y ∈ b, y < 2 ^ n
  len : b.length ≤ 2 ^ n
  rise : ∀ (i j x y : Nat), b[i]? = some x → b[j]? = some y → i < j → x < y
theorem right_is {n : Nat} {b : List Nat} (h : scan (2 ^ n) 0 b = true) : Right n b := ⟨fun y hy => (scan_lt _ b 0 h y hy).2, by have := scan_len _ b 0 h (Nat.zero_le _); omega, fun i j x y => scan_get _ b 0 i j x y h⟩
theorem Right.lt64 {n : Nat} {b : List Nat} (h : Right n b) (hn : n ≤ 6) : ∀ y ∈ b, y < 64 := fun y hy => Nat.lt_of_lt_of_le (h.lt y hy) (two_le hn)
theorem Right.len64 {n : Nat} {b : List Nat} (h : Right n b) (hn : n ≤ 6) : b.length ≤ 64 := Nat.le_trans h.len (two_le hn)
theorem far_is {n d x : Nat} {b : List Nat} (hn : n ≤ 6) (hx : x < 2 ^ n) (hb : ∀ y ∈ b, y < 2 ^ n) : far d x b = b.all fun y => decide (d ≤ Kh407.dist n x y) := by
  unfold far
  rw [Bool.eq_iff_iff, List.all_eq_true, List.all_eq_true]
  constructor
  · intro h y hy
    rw [← dist_is n (by omega) x hx y (hb y hy)]
    exact h y hy
  · intro h y hy
    rw [dist_is n (by omega) x hx y (hb y hy)]
    exact h y hy
theorem apart_is {n d : Nat} {b : List Nat} (hn : n ≤ 6) (hb : Right n b) : Kh408.apart n d b = apartB d b := by
  rw [Bool.eq_iff_iff]
  unfold Kh408.apart apartB
  simp only [List.all_eq_true, Bool.or_eq_true, beq_iff_eq, decide_eq_true_eq]
  constructor
  · intro h i hi
    have hi' : i < b.length := List.mem_range.mp hi
    have ex : b[i]? = some (b.getD i 0) := by simp [List.getD_eq_getElem?_getD, hi']
    unfold far
    rw [List.all_eq_true]
    intro y hy
    have hyb := List.mem_of_mem_take hy
    obtain ⟨j, hj⟩ := List.mem_iff_getElem?.mp hy
    have hj2 : j < i ∧ b[j]? = some y := by
      rw [List.getElem?_take] at hj
      split at hj
      · exact ⟨by assumption, hj⟩
      · cases hj
    have hlt := hb.rise j i y _ hj2.2 ex hj2.1
    rcases h _ (List.mem_of_getElem? ex) y hyb with z | z
    · omega
    · rw [dist_is n (by omega) _ (hb.lt _ (List.mem_of_getElem? ex)) y (hb.lt y hyb)]
      exact decide_eq_true z
  · intro h x hx y hy
    have key : ∀ (i j x y : Nat), b[i]? = some x → b[j]? = some y → j < i → d ≤ wt (x ^^^ y) := fun i j x y hi hj hji => by
      have hil : i < b.length := (List.getElem?_eq_some_iff.mp hi).1
      have := h i (List.mem_range.mpr hil)
      unfold far at this
      rw [List.all_eq_true] at this
      have eg : b.getD i 0 = x := by rw [List.getD_eq_getElem?_getD, hi]; rfl
      have := this y (List.mem_iff_getElem?.mpr ⟨j, by rw [List.getElem?_take, if_pos hji]; exact hj⟩)
      rw [eg] at this
      exact of_decide_eq_true this
    obtain ⟨i, hi⟩ := List.mem_iff_getElem?.mp hx
    obtain ⟨j, hj⟩ := List.mem_iff_getElem?.mp hy
    rw [← dist_is n (by omega) x (hb.lt x hx) y (hb.lt y hy)]
    rcases Nat.lt_trichotomy i j with c | c | c
    · right
      rw [Nat.xor_comm]
      exact key j i y x hj hi c
    · left
      subst c
      rw [hi] at hj
      exact Option.some.inj hj
    · right
      exact key i j x y hi hj c
theorem fold_fill {n d : Nat} (hn : n ≤ 6) : ∀ (L c : List Nat), (∀ x ∈ L, x < 2 ^ n) → (∀ y ∈ c, y < 2 ^ n) → L.foldl (fillStep d) c = L.foldl (fun c x => if c.all fun y => decide (d ≤ Kh407.dist n x y) then c ++ [x] else c) c
  | [], _, _, _ => rfl
  | x :: L, c, hL, hc => by
    have hx := hL x List.mem_cons_self
    have e : fillStep d c x = if c.all fun y => decide (d ≤ Kh407.dist n x y) then c ++ [x] else c := by
      unfold fillStep
      rw [far_is hn hx hc]
    show L.foldl (fillStep d) (fillStep d c x) = L.foldl _ (if c.all fun y => decide (d ≤ Kh407.dist n x y) then c ++ [x] else c)
    rw [← e]
    refine fold_fill hn L _ (fun z hz => hL z (List.mem_cons_of_mem _ hz)) fun y hy => ?_
    unfold fillStep at hy
    split at hy
    · rcases List.mem_append.mp hy with hy | hy
      · exact hc y hy
      · rw [List.mem_singleton.mp hy]
        exact hx
    · exact hc y hy
theorem fill_is {n d : Nat} {b : List Nat} (hn : n ≤ 6) (hb : ∀ y ∈ b, y < 2 ^ n) : fillB n d b = Kh408.filled ⟨n, d⟩ b := fold_fill hn _ _ (fun x hx => List.mem_range.mp hx) hb
theorem taken_is {n d : Nat} (hn : n ≤ 6) : fillB n d [] = Kh408.taken n d := fold_fill hn _ _ (fun x hx => List.mem_range.mp hx) fun y hy => by cases hy
theorem fold_len (d : Nat) : ∀ (L c : List Nat), (L.foldl (fillStep d) c).length ≤ L.length + c.length
  | [], c => by simp
  | x :: L, c => by
    have ih := fold_len d L (fillStep d c x)
    have : (fillStep d c x).length ≤ c.length + 1 := by
      unfold fillStep
      split
      · rw [List.length_append]
        exact Nat.le_refl _
      · omega
    show (L.foldl (fillStep d) (fillStep d c x)).length ≤ _
    rw [List.length_cons]
    omega
theorem fillB_len {n d : Nat} {b : List Nat} (hn : n ≤ 6) : (fillB n d b).length ≤ 64 + b.length := by
  have := fold_len d (List.range (2 ^ n)) b
  rw [List.length_range] at this
  have := two_le hn
  unfold fillB
  omega
theorem farB_is {n d : Nat} {b : List Nat} (hn : n ≤ 6) (hb : ∀ y ∈ b, y < 2 ^ n) : farB n d b = (List.range (2 ^ n)).filter fun x => b.all fun y => decide (d ≤ Kh407.dist n x y) := by
  unfold farB
  refine List.filter_congr fun x hx => ?_
  rw [far_is hn (List.mem_range.mp hx) hb]
theorem farB_len {n d : Nat} {b : List Nat} (hn : n ≤ 6) : (farB n d b).length ≤ 64 := by
  have h := List.length_filter_le (fun x => far d x b) (List.range (2 ^ n))
  rw [List.length_range] at h
  exact Nat.le_trans h (two_le hn)
theorem twos_is {n i : Nat} {b : List Nat} (hn : n ≤ 6) (hb : ∀ y ∈ b, y < 2 ^ n) : Kh407.twos ⟨n, b⟩ i = twosB b i := by
  unfold Kh407.twos twosB
  refine congrArg List.sum (List.map_congr_left fun x hx => ?_)
  unfold cnt
  refine congrArg List.length (List.filter_congr fun y hy => ?_)
  rw [dist_is n (by omega) x (hb x hx) y (hb y hy)]
theorem frs_told (m : Nat) (h : 0 < m) : ∀ l : List Nat, (l.map fun A => Kh397.frac ((A : Nat) : Int) ((m : Nat) : Int)).flatMap (fun x => [x.n, x.d]) = (toldB l m).map Int.ofNat
  | [] => rfl
  | A :: l => by
    have ih := frs_told m h l
    rw [List.map_cons, List.flatMap_cons, ih, frac_nat h]
    rfl
/-! the answers -/
theorem ans_bad {n d : Nat} {b : List Nat} (h : scan (2 ^ n) 0 b = false) : ansOf n d (.apart b) = [-22] ∧ ansOf n d (.more b) = [-22] ∧ ansOf n d (.fill b) = [-22] ∧ ansOf n d (.held b) = [-22] := by
  have e : Kh408.okWords ⟨n, d⟩ b = false := by rw [okWords_scan]; exact h
  refine ⟨?_, ?_, ?_, ?_⟩
  · have e2 : (Kh408.does ⟨n, d⟩ (.apart b)).2 = Kh408.say (-22) := if_pos e
    unfold ansOf
    rw [e2]
    rfl
  · have e2 : (Kh408.does ⟨n, d⟩ (.more b)).2 = Kh408.say (-22) := if_pos e
    unfold ansOf
    rw [e2]
    rfl
  · have e2 : (Kh408.does ⟨n, d⟩ (.fill b)).2 = Kh408.say (-22) := if_pos e
    unfold ansOf
    rw [e2]
    rfl
  · have e2 : (Kh408.does ⟨n, d⟩ (.held b)).2 = Kh408.say (-22) := if_pos e
    unfold ansOf
    rw [e2]
    rfl
section
variable {n d : Nat} {b : List Nat}
theorem ok_not (h : scan (2 ^ n) 0 b = true) : ¬ Kh408.okWords ⟨n, d⟩ b = false := by rw [okWords_scan, h]; decide
theorem ans_apart (hn : n ≤ 6) (h : scan (2 ^ n) 0 b = true) : ansOf n d (.apart b) = [if apartB d b = true then 1 else 0] := by
  have e2 : (Kh408.does ⟨n, d⟩ (.apart b)).2 = Kh408.say (if Kh408.apart n d b = true then 1 else 0) := if_neg (ok_not h)
  unfold ansOf
  rw [e2, apart_is hn (right_is h)]
  rfl
theorem ans_more (hn : n ≤ 6) (h : scan (2 ^ n) 0 b = true) : ansOf n d (.more b) = ((farB n d b).length :: farB n d b).map Int.ofNat := by
  have e2 : (Kh408.does ⟨n, d⟩ (.more b)).2 = Kh408.nats ((List.range (2 ^ n)).filter fun x => b.all fun y => decide (d ≤ Kh407.dist n x y)).length ((List.range (2 ^ n)).filter fun x => b.all fun y => decide (d ≤ Kh407.dist n x y)) := if_neg (ok_not h)
  unfold ansOf
  rw [e2, ← farB_is hn (right_is h).lt]
  rfl
theorem ans_fill_no (hn : n ≤ 6) (h : scan (2 ^ n) 0 b = true) (h2 : apartB d b = false) : ansOf n d (.fill b) = [-33] := by
  have e2 : (Kh408.does ⟨n, d⟩ (.fill b)).2 = if Kh408.apart n d b = false then Kh408.say (-33) else Kh408.nats (Kh408.filled ⟨n, d⟩ b).length (Kh408.filled ⟨n, d⟩ b) := if_neg (ok_not h)
  unfold ansOf
  rw [e2, apart_is hn (right_is h), if_pos h2]
  rfl
theorem ans_fill (hn : n ≤ 6) (h : scan (2 ^ n) 0 b = true) (h2 : apartB d b = true) : ansOf n d (.fill b) = ((fillB n d b).length :: fillB n d b).map Int.ofNat := by
  have e2 : (Kh408.does ⟨n, d⟩ (.fill b)).2 = if Kh408.apart n d b = false then Kh408.say (-33) else Kh408.nats (Kh408.filled ⟨n, d⟩ b).length (Kh408.filled ⟨n, d⟩ b) := if_neg (ok_not h)
  unfold ansOf
  rw [e2, apart_is hn (right_is h), if_neg (by rw [h2]; decide), ← fill_is hn (right_is h).lt]
  rfl
theorem ans_taken (hn : n ≤ 6) : ansOf n d .taken = ((fillB n d []).length :: fillB n d []).map Int.ofNat := by
  rw [taken_is hn]
  rfl
theorem ans_held0 : ansOf n d (.held []) = [-6] := rfl
theorem ans_held (hn : n ≤ 6) (h : scan (2 ^ n) 0 b = true) (h2 : b ≠ []) : ansOf n d (.held b) = ((n + 1) :: toldB ((List.range (n + 1)).map (twosB b)) b.length).map Int.ofNat := by
  have e2 : (Kh408.does ⟨n, d⟩ (.held b)).2 = if b = [] then Kh408.say (-6) else Kh408.frs (n + 1 : Nat) ((List.range (n + 1)).map fun i => Kh397.frac (Int.ofNat (Kh407.twos ⟨n, b⟩ i)) (Int.ofNat b.length)) := if_neg (ok_not h)
  have hp : 0 < b.length := List.length_pos_iff.mpr h2
  have e3 : ((List.range (n + 1)).map fun i => Kh397.frac (Int.ofNat (Kh407.twos ⟨n, b⟩ i)) (Int.ofNat b.length)) = (((List.range (n + 1)).map (twosB b)).map fun A => Kh397.frac ((A : Nat) : Int) ((b.length : Nat) : Int)) := by
    rw [List.map_map]
    refine List.map_congr_left fun i _ => ?_
    rw [twos_is hn (right_is h).lt]
    rfl
  unfold ansOf
  rw [e2, if_neg h2, e3]
  show ((n + 1 : Nat) : Int) :: List.flatMap _ _ = _
  rw [frs_told _ hp]
  rfl
end
theorem cut_from {l : List V} {j : Nat} : cutV l (some (j : Int)) none = l.drop j := by
  unfold cutV
  rw [HT.sIx_nat, HT.sIx_none]
  by_cases c : j ≤ l.length
  · rw [Nat.min_eq_left c, List.take_of_length_le (by rw [List.length_drop]; exact Nat.le_refl _)]
  · rw [Nat.min_eq_right (by omega), List.drop_eq_nil_of_le (Nat.le_refl _), List.drop_eq_nil_of_le (by omega), List.take_nil]
theorem sum_nats : ∀ r : List Nat, (r.map Int.ofNat).sum = ((r.sum : Nat) : Int)
  | [] => rfl
  | x :: r => by
    rw [List.map_cons, List.sum_cons, List.sum_cons, sum_nats r, Int.natCast_add]
    rfl
theorem ixN {l : List Nat} {i x : Nat} (h : l[i]? = some x) : atI (natsV l) (i : Int) = some (.int (x : Int)) := ixI (by rw [List.getElem?_map, h]; rfl)
section
variable {P : Program} {w : World} {K : PySem.W.Frag} {mg : Str → Option Value} {base : Heap} {C : Addr}
abbrev s_Desk_best_proof : Stmt := inClass (top 44) 11
theorem sc_Desk_best_proof : FnScope ["self", "point", "below", "above"] ["self"] (defScope s_Desk_best_proof) := ⟨rfl, rfl, rfl, by decide +kernel, rfl, by decide +kernel, by decide +kernel⟩

def spMBest (C : Addr) : Sp := fun vs H Q _ => ∃ (a : Addr) (n d : Nat), vs = [.ref a] ∧ DeskAt C H a (some ⟨n, d⟩) ∧ 1 ≤ d ∧ d ≤ n ∧ n ≤ 6 ∧ RetL ((ansOf n d .bestProof).map V.int) H Q
theorem ok_Desk_best_proof {f : Addr} {fd : FuncData} (F : Fun K "best_proof" "Desk.best_proof" s_Desk_best_proof f fd) (c_told_fractions : Cal P w K mg base "told_fractions" 3 ["aboves", "below"] (spTold K)) (c_best_proof_point : Cal P w K mg base "best_proof_point" 4 ["bits", "distance"] spBestP) (T : DeskT K C): FnOk P w K mg base CX0 5 f fd ["self"] (spMBest C) := by
  refine F.ok sc_Desk_best_proof (fun vs H Q E h => ?_) (fun cdv A outer s H vs Q E hr h => ⟨_, (pss_cons (ps_set (i := 1) sc_Desk_best_proof.nd rfl (Or.inl rfl) (pe_cal c_best_proof_point (hr.mono (by decide)) (pa_cons (pe_fld (pv 0) rfl) (pa_cons (pe_fld (pv 0) rfl) pa_nil))))
      (pss_cons (ps_set (i := 2) sc_Desk_best_proof.nd rfl (Or.inl rfl) (pe_ix (r := rIxL K) ix_list (pv 1) pe_int (fun _ _ => rfl)))
      (pss_cons (ps_set (i := 3) sc_Desk_best_proof.nd rfl (Or.inl rfl) (pe_ix (r := rIxL K) ix_list (pv 1) pe_int (fun _ _ => rfl)))
      (pss_one (ps_ret (pe_op op_cat (pe_lst (pa_cons (pe_op op_fdiv (pv 3) (pv 2)) pa_nil)) (pe_cal c_told_fractions (hr.mono (by decide)) (pa_cons (pe_slice sl_list (pv 1) (po_some pe_int) po_none) (pa_cons (pv 2) pa_nil))))))))), ?_⟩)
  · obtain ⟨a, n, d, rfl, _⟩ := h
    rfl
  · obtain ⟨a, n, d, rfl, hD, hd, hdn, hn, k⟩ := h
    obtain ⟨h1, h2, h3⟩ := (bp_all hd hdn hn).1
    obtain ⟨m, A, r, hx, hy, m0, m1, hr⟩ := goodPt_is h2
    rw [hy] at h3
    rw [best_due hd hdn hn, ← h3] at k
    refine q_asgL (xs := natsV (m :: A :: r)) (el_call (ea_cons (ev_bits T (ev_var rfl) hD) (ea_cons (ev_dist T (ev_var rfl) hD) ea_nil)) fun H2 e2 Q2 q2 E2 => ⟨n, d, rfl, hd, hdn, hn, by rw [hx]; exact q2⟩) fun p H1 hp e1 hp1 => ?_
    refine q_asg (v := .int ((m : Nat) : Int)) (ev_op (ev_var rfl) ev_c (rv_ixL (sq_of hp1) (ixN (l := m :: A :: r) (i := 0) rfl))) fun H2 e2 => ?_
    refine q_asg (v := .int ((A : Nat) : Int)) (ev_op (ev_var rfl) ev_c (rv_ixL (sq_of (e2 p _ hp1)) (ixN (l := m :: A :: r) (i := 1) rfl))) fun H3 e3 => ?_
    refine s_retL (el_cat (xs := natsV [A / m]) (ys := natsV (toldB (A :: r) m)) (el_lst (ea_cons (ev_is (ev_op (ev_var rfl) (ev_var rfl) (rv_I ⟨by omega, by omega⟩)) (by rw [← Int.natCast_ediv]; rfl)) ea_nil) (by show 1 ≤ 100000; decide)) (el_call1 (xs := natsV (A :: r)) (by
      have ec : cutV (natsV (m :: A :: r)) (some ((1 : Nat) : Int)) none = natsV (A :: r) := cut_from
      rw [← ec]
      exact el_sl (ev_var rfl) (eo_some ev_c) eo_none (sq_of (e3 p _ (e2 p _ hp1)))) fun q H4 e4 h4 => ⟨[.int ((m : Nat) : Int)], ea_cons (ev_var rfl) ea_nil, fun H5 e5 Q5 q5 E5 => ⟨q, m, A :: r, rfl, sq_of (e5 q _ h4), m0, m1, by rw [List.length_cons]; omega, q5⟩⟩) (by rw [natsV_len, natsV_len, toldB_len]; show 1 + 2 * (r.length + 1) ≤ _; omega)) fun p4 H4 hp4 e4 h4 => k.go ((e1.trans e2).trans e3) hp4 e4 h4
abbrev s_Desk_spread : Stmt := inClass (top 44) 12
theorem sc_Desk_spread : FnScope ["self", "point", "below", "aboves", "together"] ["self"] (defScope s_Desk_spread) := ⟨rfl, rfl, rfl, by decide +kernel, rfl, by decide +kernel, by decide +kernel⟩

def spMSpread (C : Addr) : Sp := fun vs H Q _ => ∃ (a : Addr) (n d : Nat), vs = [.ref a] ∧ DeskAt C H a (some ⟨n, d⟩) ∧ 1 ≤ d ∧ d ≤ n ∧ n ≤ 6 ∧ RetL ((ansOf n d .spread).map V.int) H Q
theorem ok_Desk_spread {f : Addr} {fd : FuncData} (F : Fun K "spread" "Desk.spread" s_Desk_spread f fd) (b_len : mg "len" = none) (c_told_fractions : Cal P w K mg base "told_fractions" 3 ["aboves", "below"] (spTold K)) (b_sum : mg "sum" = none) (c_greatest_spread_point : Cal P w K mg base "greatest_spread_point" 4 ["bits", "distance"] spGreatP) (T : DeskT K C): FnOk P w K mg base CX0 5 f fd ["self"] (spMSpread C) := by
  refine F.ok sc_Desk_spread (fun vs H Q E h => ?_) (fun cdv A outer s H vs Q E hr h => ⟨_, (pss_cons (ps_set (i := 1) sc_Desk_spread.nd rfl (Or.inl rfl) (pe_cal c_greatest_spread_point (hr.mono (by decide)) (pa_cons (pe_fld (pv 0) rfl) (pa_cons (pe_fld (pv 0) rfl) pa_nil))))
      (pss_cons (ps_set (i := 2) sc_Desk_spread.nd rfl (Or.inl rfl) (pe_ix (r := rIxL K) ix_list (pv 1) pe_int (fun _ _ => rfl)))
      (pss_cons (ps_set (i := 3) sc_Desk_spread.nd rfl (Or.inl rfl) (pe_slice sl_list (pv 1) (po_some pe_int) po_none))
      (pss_cons (ps_set (i := 4) sc_Desk_spread.nd rfl (Or.inl rfl) (pe_op op_add (pe_callB (cr_sum rfl) (by rfl) b_sum (by decide +kernel) (pa_cons (pv 3) pa_nil)) (pv 2)))
      (pss_one (ps_ret (pe_op op_cat (pe_lst (pa_cons (pe_callB call_len_seq (by rfl) b_len PySem.boot_len (pa_cons (pv 3) pa_nil)) pa_nil)) (pe_cal c_told_fractions (hr.mono (by decide)) (pa_cons (pe_op op_cat (pv 3) (pe_lst (pa_cons (pv 4) pa_nil))) (pa_cons (pv 2) pa_nil)))))))))), ?_⟩)
  · obtain ⟨a, n, d, rfl, _⟩ := h
    rfl
  · obtain ⟨a, n, d, rfl, hD, hd, hdn, hn, k⟩ := h
    obtain ⟨h1, h2, h3⟩ := (bp_all hd hdn hn).2
    obtain ⟨m, A, r, hx, hy, m0, m1, hr⟩ := goodPt_is h2
    rw [hy] at h3
    rw [spread_due hd hdn hn, ← h3] at k
    refine q_asgL (xs := natsV (m :: A :: r)) (el_call (ea_cons (ev_bits T (ev_var rfl) hD) (ea_cons (ev_dist T (ev_var rfl) hD) ea_nil)) fun H2 e2 Q2 q2 E2 => ⟨n, d, rfl, hd, hdn, hn, by rw [hx]; exact q2⟩) fun p H1 hp e1 hp1 => ?_
    refine q_asg (v := .int ((m : Nat) : Int)) (ev_op (ev_var rfl) ev_c (rv_ixL (sq_of hp1) (ixN (l := m :: A :: r) (i := 0) rfl))) fun H2 e2 => ?_
    refine q_asgL (xs := natsV r) (by
      have ec : cutV (natsV (m :: A :: r)) (some ((2 : Nat) : Int)) none = natsV r := cut_from
      rw [← ec]
      exact el_sl (ev_var rfl) (eo_some ev_c) eo_none (sq_of (e2 p _ hp1))) fun q H3 hq e3 hq3 => ?_
    refine q_asg (v := .int ((r.sum + m : Nat) : Int)) (ev_is (ev_op (ev_cb (z := .int ((r.sum : Nat) : Int)) (ea_cons (ev_var rfl) ea_nil) fun H4 e4 Q4 q4 => ⟨q, r.map Int.ofNat, rfl, sq_of (e4 q _ hq3), by rw [sum_nats]; exact q4 H4 (Ex.refl H4)⟩) (ev_var rfl) rv_I0) (by rw [Int.natCast_add])) fun H4 e4 => ?_
    have e14 := ((e1.trans e2).trans e3).trans e4
    refine s_retL (el_cat (xs := natsV [r.length]) (ys := natsV (toldB (r ++ [r.sum + m]) m)) (el_lst (ea_cons (ev_is (ev_len (ev_var rfl) (sq_of (e4 q _ hq3))) (by rw [natsV_len]; rfl)) ea_nil) (by show 1 ≤ 100000; decide)) (el_call1 (xs := natsV (r ++ [r.sum + m])) (by
      rw [natsV_append]
      exact el_catM (ev_var rfl) (e4 q _ hq3) (el_lst (ea_cons (ev_var rfl) ea_nil) (by show 1 ≤ 100000; decide)) (by rw [natsV_len]; show _ + 1 ≤ _; omega)) fun q5 H5 e5 h5 => ⟨[.int ((m : Nat) : Int)], ea_cons (ev_var rfl) ea_nil, fun H6 e6 Q6 q6 E6 => ⟨q5, m, r ++ [r.sum + m], rfl, sq_of (e6 q5 _ h5), m0, m1, by rw [List.length_append]; show _ + 1 ≤ _; omega, q6⟩⟩) (by rw [natsV_len, natsV_len, toldB_len, List.length_append]; show 1 + 2 * (_ + 1) ≤ _; omega)) fun p4 H5 hp4 e5 h5 => k.go e14 hp4 e5 h5
abbrev s_Desk_taken : Stmt := inClass (top 44) 13
theorem sc_Desk_taken : FnScope ["self"] ["self"] (defScope s_Desk_taken) := ⟨rfl, rfl, rfl, by decide +kernel, rfl, by decide +kernel, by decide +kernel⟩

def spMTaken (C : Addr) : Sp := fun vs H Q _ => ∃ (a : Addr) (n d : Nat), vs = [.ref a] ∧ DeskAt C H a (some ⟨n, d⟩) ∧ 1 ≤ d ∧ d ≤ n ∧ n ≤ 6 ∧ RetL ((ansOf n d .taken).map V.int) H Q
theorem ok_Desk_taken {f : Addr} {fd : FuncData} (F : Fun K "taken" "Desk.taken" s_Desk_taken f fd) (c_counted : Cal P w K mg base "counted" 1 ["words"] spCounted) (c_filled_words : Cal P w K mg base "filled_words" 3 ["bits", "words", "distance"] (spFilled K)) (T : DeskT K C): FnOk P w K mg base CX0 4 f fd ["self"] (spMTaken C) := by
  refine F.ok sc_Desk_taken (fun vs H Q E h => ?_) (fun cdv A outer s H vs Q E hr h => ⟨_, (pss_one (ps_ret (pe_cal c_counted (hr.mono (by decide)) (pa_cons (pe_cal c_filled_words (hr.mono (by decide)) (pa_cons (pe_fld (pv 0) rfl) (pa_cons (pe_lst pa_nil) (pa_cons (pe_fld (pv 0) rfl) pa_nil)))) pa_nil)))), ?_⟩)
  · obtain ⟨a, n, d, rfl, _⟩ := h
    rfl
  · obtain ⟨a, n, d, rfl, hD, hd, hdn, hn, k⟩ := h
    rw [ans_taken hn] at k
    exact s_retL (el_call1 (xs := natsV (fillB n d [])) (el_call2 (xs := []) (ev_bits T (ev_var rfl) hD) (el_lst ea_nil (by show 0 ≤ 100000; decide)) fun p H2 e2 h2 => ⟨_, ea_cons (ev_dist T (ev_var rfl) (hD.ex e2)) ea_nil, fun H3 e3 Q3 q3 E3 => ⟨n, p, d, [], rfl, sq_of (e3 p _ h2), hn, (fun y hy => by cases hy), Nat.zero_le _, q3⟩⟩) fun p H2 e2 h2 => ⟨[], ea_nil, fun H3 e3 Q3 q3 E3 => ⟨p, fillB n d [], rfl, e3 p _ h2, by have := fillB_len (d := d) (b := []) hn; rw [List.length_nil] at this; omega, q3⟩⟩) k
abbrev s_Desk_apart : Stmt := inClass (top 44) 14
theorem sc_Desk_apart : FnScope ["self", "words"] ["self", "words"] (defScope s_Desk_apart) := ⟨rfl, rfl, rfl, by decide +kernel, rfl, by decide +kernel, by decide +kernel⟩

def spMApart (K : PySem.W.Frag) (C : Addr) : Sp := fun vs H Q _ => ∃ (a r : Addr) (n d : Nat) (b : List Nat), vs = [.ref a, .ref r] ∧ DeskAt C H a (some ⟨n, d⟩) ∧ SqL K H r (natsV b) ∧ 1 ≤ d ∧ d ≤ n ∧ n ≤ 6 ∧ RetL ((ansOf n d (.apart b)).map V.int) H Q
theorem ok_Desk_apart {f : Addr} {fd : FuncData} (F : Fun K "apart" "Desk.apart" s_Desk_apart f fd) (c_are_apart : Cal P w K mg base "are_apart" 3 ["words", "distance"] (spApartB K)) (c_are_right_words : Cal P w K mg base "are_right_words" 2 ["bits", "words"] (spRightW K)) (g_NOT_RIGHT : GInt mg "NOT_RIGHT" (-22)) (T : DeskT K C): FnOk P w K mg base CX0 4 f fd ["self", "words"] (spMApart K C) := by
  refine F.ok sc_Desk_apart (fun vs H Q E h => ?_) (fun cdv A outer s H vs Q E hr h => ⟨_, (pss_cons (ps_if (pt_not (pt_val (pe_cal c_are_right_words (hr.mono (by decide)) (pa_cons (pe_fld (pv 0) rfl) (pa_cons (pv 1) pa_nil))))) (pss_one (ps_ret (pe_lst (pa_cons (pe_gi g_NOT_RIGHT) pa_nil)))) pss_nil)
      (pss_one (ps_ret (pe_lst (pa_cons (pe_ifExp (pt_val (pe_cal c_are_apart (hr.mono (by decide)) (pa_cons (pv 1) (pa_cons (pe_fld (pv 0) rfl) pa_nil)))) pe_int pe_int) pa_nil))))), ?_⟩)
  · obtain ⟨a, r, n, d, b, rfl, _⟩ := h
    rfl
  · obtain ⟨a, r, n, d, b, rfl, hD, hS, hd, hdn, hn, k⟩ := h
    refine q_when (b := !scan (2 ^ n) 0 b) (et_not (et_B (ev_call (z := .bl (scan (2 ^ n) 0 b)) (ea_cons (ev_bits T (ev_var rfl) hD) (ea_cons (ev_var rfl) ea_nil)) fun H2 e2 Q2 q2 E2 => ⟨n, r, b, rfl, ex_l e2 hS, hn, q2⟩))) (fun hb H1 e1 => ?_) fun hb H1 e1 => ?_
    · rw [(ans_bad (d := d) (by simpa using hb)).1] at k
      exact s_retL (el_lst (ea_cons ev_c ea_nil) (by show 1 ≤ 100000; decide)) fun p H2 hp e2 h2 => k.go e1 hp e2 h2
    have ok : scan (2 ^ n) 0 b = true := by simpa using hb
    have R := right_is ok
    have hD1 := hD.ex e1
    have hS1 := ex_l e1 hS
    
    rw [ans_apart hn ok] at k
    exact s_retL (el_lst (vs := [.int (if apartB d b = true then 1 else 0)]) (ea_cons (ev_if (b := apartB d b) (et_B (ev_call (ea_cons (ev_var rfl) (ea_cons (ev_dist T (ev_var rfl) hD1) ea_nil)) fun H2 e2 Q2 q2 E2 => ⟨r, d, b, rfl, ex_l e2 hS1, R.lt64 hn, q2⟩)) (fun z => by rw [if_pos z]; exact ev_c) fun z => by rw [if_neg (by rw [z]; decide)]; exact ev_c) ea_nil) (by show 1 ≤ 100000; decide)) fun p H2 hp e2 h2 => k.go e1 hp e2 h2
abbrev s_Desk_more : Stmt := inClass (top 44) 15
theorem sc_Desk_more : FnScope ["self", "words"] ["self", "words"] (defScope s_Desk_more) := ⟨rfl, rfl, rfl, by decide +kernel, rfl, by decide +kernel, by decide +kernel⟩

def spMMore (K : PySem.W.Frag) (C : Addr) : Sp := fun vs H Q _ => ∃ (a r : Addr) (n d : Nat) (b : List Nat), vs = [.ref a, .ref r] ∧ DeskAt C H a (some ⟨n, d⟩) ∧ SqL K H r (natsV b) ∧ 1 ≤ d ∧ d ≤ n ∧ n ≤ 6 ∧ RetL ((ansOf n d (.more b)).map V.int) H Q
theorem ok_Desk_more {f : Addr} {fd : FuncData} (F : Fun K "more" "Desk.more" s_Desk_more f fd) (c_counted : Cal P w K mg base "counted" 1 ["words"] spCounted) (c_far_words : Cal P w K mg base "far_words" 3 ["bits", "words", "distance"] (spFarW K)) (c_are_right_words : Cal P w K mg base "are_right_words" 2 ["bits", "words"] (spRightW K)) (g_NOT_RIGHT : GInt mg "NOT_RIGHT" (-22)) (T : DeskT K C): FnOk P w K mg base CX0 4 f fd ["self", "words"] (spMMore K C) := by
  refine F.ok sc_Desk_more (fun vs H Q E h => ?_) (fun cdv A outer s H vs Q E hr h => ⟨_, (pss_cons (ps_if (pt_not (pt_val (pe_cal c_are_right_words (hr.mono (by decide)) (pa_cons (pe_fld (pv 0) rfl) (pa_cons (pv 1) pa_nil))))) (pss_one (ps_ret (pe_lst (pa_cons (pe_gi g_NOT_RIGHT) pa_nil)))) pss_nil)
      (pss_one (ps_ret (pe_cal c_counted (hr.mono (by decide)) (pa_cons (pe_cal c_far_words (hr.mono (by decide)) (pa_cons (pe_fld (pv 0) rfl) (pa_cons (pv 1) (pa_cons (pe_fld (pv 0) rfl) pa_nil)))) pa_nil))))), ?_⟩)
  · obtain ⟨a, r, n, d, b, rfl, _⟩ := h
    rfl
  · obtain ⟨a, r, n, d, b, rfl, hD, hS, hd, hdn, hn, k⟩ := h
    refine q_when (b := !scan (2 ^ n) 0 b) (et_not (et_B (ev_call (z := .bl (scan (2 ^ n) 0 b)) (ea_cons (ev_bits T (ev_var rfl) hD) (ea_cons (ev_var rfl) ea_nil)) fun H2 e2 Q2 q2 E2 => ⟨n, r, b, rfl, ex_l e2 hS, hn, q2⟩))) (fun hb H1 e1 => ?_) fun hb H1 e1 => ?_
    · rw [(ans_bad (d := d) (by simpa using hb)).2.1] at k
      exact s_retL (el_lst (ea_cons ev_c ea_nil) (by show 1 ≤ 100000; decide)) fun p H2 hp e2 h2 => k.go e1 hp e2 h2
    have ok : scan (2 ^ n) 0 b = true := by simpa using hb
    have R := right_is ok
    have hD1 := hD.ex e1
    have hS1 := ex_l e1 hS
    
    rw [ans_more hn ok] at k
    exact s_retL (el_call1 (xs := natsV (farB n d b)) (el_call (ea_cons (ev_bits T (ev_var rfl) hD1) (ea_cons (ev_var rfl) (ea_cons (ev_dist T (ev_var rfl) hD1) ea_nil))) fun H2 e2 Q2 q2 E2 => ⟨n, r, d, b, rfl, ex_l e2 hS1, hn, R.lt64 hn, q2⟩) fun p H2 e2 h2 => ⟨[], ea_nil, fun H3 e3 Q3 q3 E3 => ⟨p, farB n d b, rfl, e3 p _ h2, by have := farB_len (d := d) (b := b) hn; omega, q3⟩⟩) fun p H2 hp e2 h2 => k.go e1 hp e2 h2
abbrev s_Desk_fill : Stmt := inClass (top 44) 16
theorem sc_Desk_fill : FnScope ["self", "words"] ["self", "words"] (defScope s_Desk_fill) := ⟨rfl, rfl, rfl, by decide +kernel, rfl, by decide +kernel, by decide +kernel⟩

def spMFill (K : PySem.W.Frag) (C : Addr) : Sp := fun vs H Q _ => ∃ (a r : Addr) (n d : Nat) (b : List Nat), vs = [.ref a, .ref r] ∧ DeskAt C H a (some ⟨n, d⟩) ∧ SqL K H r (natsV b) ∧ 1 ≤ d ∧ d ≤ n ∧ n ≤ 6 ∧ RetL ((ansOf n d (.fill b)).map V.int) H Q
theorem ok_Desk_fill {f : Addr} {fd : FuncData} (F : Fun K "fill" "Desk.fill" s_Desk_fill f fd) (c_counted : Cal P w K mg base "counted" 1 ["words"] spCounted) (c_filled_words : Cal P w K mg base "filled_words" 3 ["bits", "words", "distance"] (spFilled K)) (c_are_apart : Cal P w K mg base "are_apart" 3 ["words", "distance"] (spApartB K)) (g_NOT_SO : GInt mg "NOT_SO" (-33)) (c_are_right_words : Cal P w K mg base "are_right_words" 2 ["bits", "words"] (spRightW K)) (g_NOT_RIGHT : GInt mg "NOT_RIGHT" (-22)) (T : DeskT K C): FnOk P w K mg base CX0 4 f fd ["self", "words"] (spMFill K C) := by
  refine F.ok sc_Desk_fill (fun vs H Q E h => ?_) (fun cdv A outer s H vs Q E hr h => ⟨_, (pss_cons (ps_if (pt_not (pt_val (pe_cal c_are_right_words (hr.mono (by decide)) (pa_cons (pe_fld (pv 0) rfl) (pa_cons (pv 1) pa_nil))))) (pss_one (ps_ret (pe_lst (pa_cons (pe_gi g_NOT_RIGHT) pa_nil)))) pss_nil)
      (pss_cons (ps_if (pt_not (pt_val (pe_cal c_are_apart (hr.mono (by decide)) (pa_cons (pv 1) (pa_cons (pe_fld (pv 0) rfl) pa_nil))))) (pss_one (ps_ret (pe_lst (pa_cons (pe_gi g_NOT_SO) pa_nil)))) pss_nil)
      (pss_one (ps_ret (pe_cal c_counted (hr.mono (by decide)) (pa_cons (pe_cal c_filled_words (hr.mono (by decide)) (pa_cons (pe_fld (pv 0) rfl) (pa_cons (pv 1) (pa_cons (pe_fld (pv 0) rfl) pa_nil)))) pa_nil)))))), ?_⟩)
  · obtain ⟨a, r, n, d, b, rfl, _⟩ := h
    rfl
  · obtain ⟨a, r, n, d, b, rfl, hD, hS, hd, hdn, hn, k⟩ := h
    refine q_when (b := !scan (2 ^ n) 0 b) (et_not (et_B (ev_call (z := .bl (scan (2 ^ n) 0 b)) (ea_cons (ev_bits T (ev_var rfl) hD) (ea_cons (ev_var rfl) ea_nil)) fun H2 e2 Q2 q2 E2 => ⟨n, r, b, rfl, ex_l e2 hS, hn, q2⟩))) (fun hb H1 e1 => ?_) fun hb H1 e1 => ?_
    · rw [(ans_bad (d := d) (by simpa using hb)).2.2.1] at k
      exact s_retL (el_lst (ea_cons ev_c ea_nil) (by show 1 ≤ 100000; decide)) fun p H2 hp e2 h2 => k.go e1 hp e2 h2
    have ok : scan (2 ^ n) 0 b = true := by simpa using hb
    have R := right_is ok
    have hD1 := hD.ex e1
    have hS1 := ex_l e1 hS
    
    refine q_when (b := !apartB d b) (et_not (et_B (ev_call (z := .bl (apartB d b)) (ea_cons (ev_var rfl) (ea_cons (ev_dist T (ev_var rfl) hD1) ea_nil)) fun H2 e2 Q2 q2 E2 => ⟨r, d, b, rfl, ex_l e2 hS1, R.lt64 hn, q2⟩))) (fun hc H2 e2 => ?_) fun hc H2 e2 => ?_
    · rw [ans_fill_no hn ok (by simpa using hc)] at k
      exact s_retL (el_lst (ea_cons ev_c ea_nil) (by show 1 ≤ 100000; decide)) fun p H3 hp e3 h3 => k.go (e1.trans e2) hp e3 h3
    rw [ans_fill hn ok (by simpa using hc)] at k
    have hD2 := hD1.ex e2
    exact s_retL (el_call1 (xs := natsV (fillB n d b)) (el_call (ea_cons (ev_bits T (ev_var rfl) hD2) (ea_cons (ev_var rfl) (ea_cons (ev_dist T (ev_var rfl) hD2) ea_nil))) fun H3 e3 Q3 q3 E3 => ⟨n, r, d, b, rfl, ex_l (e2.trans e3) hS1, hn, R.lt64 hn, by have := R.len64 hn; omega, q3⟩) fun p H3 e3 h3 => ⟨[], ea_nil, fun H4 e4 Q4 q4 E4 => ⟨p, fillB n d b, rfl, e4 p _ h3, by have := fillB_len (d := d) (b := b) hn; have := R.len64 hn; omega, q4⟩⟩) fun p H3 hp e3 h3 => k.go (e1.trans e2) hp e3 h3
abbrev s_Desk_held : Stmt := inClass (top 44) 17
theorem sc_Desk_held : FnScope ["self", "words", "twos"] ["self", "words"] (defScope s_Desk_held) := ⟨rfl, rfl, rfl, by decide +kernel, rfl, by decide +kernel, by decide +kernel⟩

def spMHeld (K : PySem.W.Frag) (C : Addr) : Sp := fun vs H Q _ => ∃ (a r : Addr) (n d : Nat) (b : List Nat), vs = [.ref a, .ref r] ∧ DeskAt C H a (some ⟨n, d⟩) ∧ SqL K H r (natsV b) ∧ 1 ≤ d ∧ d ≤ n ∧ n ≤ 6 ∧ RetL ((ansOf n d (.held b)).map V.int) H Q
theorem ok_Desk_held {f : Addr} {fd : FuncData} (F : Fun K "held" "Desk.held" s_Desk_held f fd) (b_len : mg "len" = none) (c_told_fractions : Cal P w K mg base "told_fractions" 3 ["aboves", "below"] (spTold K)) (c_count_twos : Cal P w K mg base "count_twos" 2 ["bits", "words"] (spTwos K)) (g_NO_WORDS : GInt mg "NO_WORDS" (-6)) (c_are_right_words : Cal P w K mg base "are_right_words" 2 ["bits", "words"] (spRightW K)) (g_NOT_RIGHT : GInt mg "NOT_RIGHT" (-22)) (T : DeskT K C): FnOk P w K mg base CX0 4 f fd ["self", "words"] (spMHeld K C) := by
  refine F.ok sc_Desk_held (fun vs H Q E h => ?_) (fun cdv A outer s H vs Q E hr h => ⟨_, (pss_cons (ps_if (pt_not (pt_val (pe_cal c_are_right_words (hr.mono (by decide)) (pa_cons (pe_fld (pv 0) rfl) (pa_cons (pv 1) pa_nil))))) (pss_one (ps_ret (pe_lst (pa_cons (pe_gi g_NOT_RIGHT) pa_nil)))) pss_nil)
      (pss_cons (ps_if (pt_cmpR op_eq (pe_callB call_len_seq (by rfl) b_len PySem.boot_len (pa_cons (pv 1) pa_nil)) pe_int (nomark _)) (pss_one (ps_ret (pe_lst (pa_cons (pe_gi g_NO_WORDS) pa_nil)))) pss_nil)
      (pss_cons (ps_set (i := 2) sc_Desk_held.nd rfl (Or.inl rfl) (pe_cal c_count_twos (hr.mono (by decide)) (pa_cons (pe_fld (pv 0) rfl) (pa_cons (pv 1) pa_nil))))
      (pss_one (ps_ret (pe_op op_cat (pe_lst (pa_cons (pe_callB call_len_seq (by rfl) b_len PySem.boot_len (pa_cons (pv 2) pa_nil)) pa_nil)) (pe_cal c_told_fractions (hr.mono (by decide)) (pa_cons (pv 2) (pa_cons (pe_callB call_len_seq (by rfl) b_len PySem.boot_len (pa_cons (pv 1) pa_nil)) pa_nil))))))))), ?_⟩)
  · obtain ⟨a, r, n, d, b, rfl, _⟩ := h
    rfl
  · obtain ⟨a, r, n, d, b, rfl, hD, hS, hd, hdn, hn, k⟩ := h
    refine q_when (b := !scan (2 ^ n) 0 b) (et_not (et_B (ev_call (z := .bl (scan (2 ^ n) 0 b)) (ea_cons (ev_bits T (ev_var rfl) hD) (ea_cons (ev_var rfl) ea_nil)) fun H2 e2 Q2 q2 E2 => ⟨n, r, b, rfl, ex_l e2 hS, hn, q2⟩))) (fun hb H1 e1 => ?_) fun hb H1 e1 => ?_
    · rw [(ans_bad (d := d) (by simpa using hb)).2.2.2] at k
      exact s_retL (el_lst (ea_cons ev_c ea_nil) (by show 1 ≤ 100000; decide)) fun p H2 hp e2 h2 => k.go e1 hp e2 h2
    have ok : scan (2 ^ n) 0 b = true := by simpa using hb
    have R := right_is ok
    have hD1 := hD.ex e1
    have hS1 := ex_l e1 hS
    
    refine q_when (b := decide (b.length = 0)) (et_test (ev_is (ev_op (ev_is (w := .int ((b.length : Nat) : Int)) (ev_len (ev_var rfl) hS1) (by rw [natsV_len])) ev_c (rv_eq rfl)) (num_eq b.length 0))) (fun hc H2 e2 => ?_) fun hc H2 e2 => ?_
    · have hc' := List.eq_nil_of_length_eq_zero (of_decide_eq_true hc)
      subst hc'
      rw [ans_held0] at k
      exact s_retL (el_lst (ea_cons ev_c ea_nil) (by show 1 ≤ 100000; decide)) fun p H3 hp e3 h3 => k.go (e1.trans e2) hp e3 h3
    have hc' := of_decide_eq_false hc
    have hne : b ≠ [] := fun z => hc' (by rw [z]; rfl)
    rw [ans_held hn ok hne] at k
    have hl := R.len64 hn
    refine q_asgL (xs := natsV ((List.range (n + 1)).map (twosB b))) (el_call (ea_cons (ev_bits T (ev_var rfl) (hD1.ex e2)) (ea_cons (ev_var rfl) ea_nil)) fun H3 e3 Q3 q3 E3 => ⟨n, r, b, rfl, ex_l (e2.trans e3) hS1, hn, R.lt, q3⟩) fun p H3 hp e3 hp3 => ?_
    have hln : ((List.range (n + 1)).map (twosB b)).length = n + 1 := by rw [List.length_map, List.length_range]
    refine s_retL (el_cat (xs := natsV [n + 1]) (ys := natsV (toldB ((List.range (n + 1)).map (twosB b)) b.length)) (el_lst (ea_cons (ev_is (ev_len (ev_var rfl) (sq_of hp3)) (by rw [natsV_len, hln]; rfl)) ea_nil) (by show 1 ≤ 100000; decide)) (el_call (ea_cons (ev_var rfl) (ea_cons (ev_is (w := .int ((b.length : Nat) : Int)) (ev_len (ev_var rfl) (ex_l (e2.trans e3) hS1)) (by rw [natsV_len])) ea_nil)) fun H4 e4 Q4 q4 E4 => ⟨p, b.length, (List.range (n + 1)).map (twosB b), rfl, sq_of (e4 p _ hp3), by omega, by omega, by omega, q4⟩) (by rw [natsV_len, natsV_len, toldB_len, hln]; show 1 + _ ≤ _; omega)) fun p4 H4 hp4 e4 h4 => k.go ((e1.trans e2).trans e3) hp4 e4 h4
abbrev s_Desk_told : Stmt := inClass (top 44) 18
theorem sc_Desk_told : FnScope ["self"] ["self"] (defScope s_Desk_told) := ⟨rfl, rfl, rfl, by decide +kernel, rfl, by decide +kernel, by decide +kernel⟩

def spMTold (C : Addr) : Sp := fun vs H Q _ => ∃ (a : Addr) (n d : Nat), vs = [.ref a] ∧ DeskAt C H a (some ⟨n, d⟩) ∧ 1 ≤ d ∧ d ≤ n ∧ n ≤ 6 ∧ RetL ((ansOf n d .told).map V.int) H Q
theorem ok_Desk_told {f : Addr} {fd : FuncData} (F : Fun K "told" "Desk.told" s_Desk_told f fd)  (T : DeskT K C): FnOk P w K mg base CX0 1 f fd ["self"] (spMTold C) := by
  refine F.ok sc_Desk_told (fun vs H Q E h => ?_) (fun cdv A outer s H vs Q E hr h => ⟨_, (pss_one (ps_ret (pe_lst (pa_cons (pe_fld (pv 0) rfl) (pa_cons (pe_fld (pv 0) rfl) pa_nil))))), ?_⟩)
  · obtain ⟨a, n, d, rfl, _⟩ := h
    rfl
  · obtain ⟨a, n, d, rfl, hD, hd, hdn, hn, k⟩ := h
    exact s_retL (el_lst (vs := [.int ((n : Nat) : Int), .int ((d : Nat) : Int)]) (ea_cons (ev_bits T (ev_var rfl) hD) (ea_cons (ev_dist T (ev_var rfl) hD) ea_nil)) (by show 2 ≤ 100000; decide)) k
end
end Fw

set_option Elab.async false
set_option linter.all false
set_option maxRecDepth 100000
set_option maxHeartbeats 2000000
namespace Fw
open PySem PySem.Spec PyProof.Rows L2 Evl
def lst_WHOLES : List Int := [2, 1, 0, 0, 0, 0, 0, 0, 1, 0, 0, 0, 0, 0, 0, 0, 0]
def lst_ROWS : List Int := [0, 0, 0, 0, 0, 0, 0, 1, 1, 0, 0, 0, 1, 1, 1, 1, 0]
theorem shape_in {p : Int} {x : Nat × Nat} (h : PyKh408.shape p = some x) : 0 ≤ p ∧ p < 17 := by
  by_cases c : 0 ≤ p ∧ p < 17
  · exact c
  · unfold PyKh408.shape at h
    iterate 17 rw [if_neg (by omega)] at h
    cases h
theorem shape_at : ∀ q < 17, PyKh408.shape ((q : Nat) : Int) = some ((lst_WHOLES.getD q 0).toNat, (lst_ROWS.getD q 0).toNat) ∧ lst_WHOLES[q]? = some (((lst_WHOLES.getD q 0).toNat : Nat) : Int) ∧ lst_ROWS[q]? = some (((lst_ROWS.getD q 0).toNat : Nat) : Int) ∧ (lst_ROWS.getD q 0).toNat ≤ 1 := by decide +kernel
theorem shape_is {p : Int} {n k : Nat} (h : PyKh408.shape p = some (n, k)) : ∃ q : Nat, p = (q : Int) ∧ q < 17 ∧ lst_WHOLES[q]? = some (n : Int) ∧ lst_ROWS[q]? = some (k : Int) ∧ k ≤ 1 := by
  obtain ⟨h0, h1⟩ := shape_in h
  obtain ⟨q, rfl⟩ := Int.eq_ofNat_of_zero_le h0
  obtain ⟨e, a, b, c⟩ := shape_at q (by omega)
  rw [e] at h
  obtain ⟨rfl, rfl⟩ := Prod.mk.inj (Option.some.inj h)
  exact ⟨q, rfl, by omega, a, b, c⟩
/-! ### a call's parts -/
def headOf (c : List (List Int)) : Int := (c.headD []).headD 0
def argsOf (c : List (List Int)) : List Int := (c.headD []).tail
def rowOf (c : List (List Int)) : List Int := c.tail.headD []
theorem put_append : ∀ xs ys : List (List (List Int)), PyFlat.put (xs ++ ys) = PyFlat.put xs ++ PyFlat.put ys
  | [], _ => rfl
  | c :: xs, ys => by
    show PyFlat.put1 c ++ PyFlat.put (xs ++ ys) = PyFlat.put1 c ++ PyFlat.put xs ++ PyFlat.put ys
    rw [put_append xs ys, List.append_assoc]
theorem put_one (c : List (List Int)) : PyFlat.put [c] = PyFlat.put1 c := List.append_nil _
theorem put_take {cs : List (List (List Int))} {i : Nat} {c : List (List Int)} (h : cs[i]? = some c) : PyFlat.put (cs.take (i + 1)) = PyFlat.put (cs.take i) ++ PyFlat.put1 c := by
  rw [take_more h, put_append, put_one]
theorem put_split {cs : List (List (List Int))} {i : Nat} {c : List (List Int)} (h : cs[i]? = some c) : PyFlat.put cs = PyFlat.put (cs.take i) ++ (PyFlat.put1 c ++ PyFlat.put (cs.drop (i + 1))) := by
  have e : cs = cs.take (i + 1) ++ cs.drop (i + 1) := (List.take_append_drop _ _).symm
  conv => lhs; rw [e]
  rw [put_append, put_take h, List.append_assoc]
theorem cut_nat {l : List Int} {i j : Nat} (hij : i ≤ j) (hj : j ≤ l.length) : cutV (l.map V.int) (some (i : Int)) (some (j : Int)) = ((l.drop i).take (j - i)).map V.int := by
  unfold cutV
  rw [HT.sIx_nat, HT.sIx_nat, List.length_map, Nat.min_eq_left hj, Nat.min_eq_left (Nat.le_trans hij hj), ← List.map_drop, ← List.map_take]
theorem cut_mid {l a b c : List Int} (h : l = a ++ (b ++ c)) {i j : Nat} (hi : i = a.length) (hj : j = a.length + b.length) : cutV (l.map V.int) (some (i : Int)) (some (j : Int)) = b.map V.int := by
  subst hi hj h
  rw [cut_nat (by omega) (by simp), List.drop_left, show a.length + b.length - a.length = b.length by omega, List.take_left]
theorem get_mid {l a c : List Int} {x : Int} (h : l = a ++ (x :: c)) {i : Nat} (hi : i = a.length) : l[i]? = some x := by
  subst hi h
  rw [List.getElem?_append_right (Nat.le_refl _), Nat.sub_self]
  rfl
/-! ### what comes out of the reading -/
/-- v: a tuple (the call's number, its numbers, its row), all of it new above H0, none of it at p -/
def Split (p : Addr) (H0 H' : Hp) (c : List (List Int)) (v : V) : Prop := ∃ t w r : Addr, v = .ref t ∧ t ≠ p ∧ w ≠ p ∧ r ≠ p ∧ H0 t = none ∧ H0 w = none ∧ H0 r = none ∧
  H' t = some (.tup [.int (headOf c), .ref w, .ref r]) ∧ H' w = some (.lst ((argsOf c).map V.int)) ∧ H' r = some (.lst ((rowOf c).map V.int))
def Splits (p : Addr) (H0 H' : Hp) (cs : List (List (List Int))) (vs : List V) : Prop := vs.length = cs.length ∧ ∀ (i : Nat) (c : List (List Int)), cs[i]? = some c → ∃ v, vs[i]? = some v ∧ Split p H0 H' c v
theorem Split.ex {p : Addr} {H0 H' H2 : Hp} {c : List (List Int)} {v : V} (h : Split p H0 H' c v) (e : ∀ b o, b ≠ p → H' b = some o → H2 b = some o) : Split p H0 H2 c v := by
  obtain ⟨t, w, r, h1, h2, h3, h4, h5, h6, h7, h8, h9, h10⟩ := h
  exact ⟨t, w, r, h1, h2, h3, h4, h5, h6, h7, e t _ h2 h8, e w _ h3 h9, e r _ h4 h10⟩
theorem Splits.more {p : Addr} {H0 H' H2 : Hp} {cs : List (List (List Int))} {c : List (List Int)} {vs : List V} {v : V} (h : Splits p H0 H' cs vs) (e : ∀ b o, b ≠ p → H' b = some o → H2 b = some o) (hc : Split p H0 H2 c v) : Splits p H0 H2 (cs ++ [c]) (vs ++ [v]) := by
  refine ⟨by rw [List.length_append, List.length_append, h.1]; rfl, fun i d hd => ?_⟩
  by_cases ci : i < cs.length
  · rw [List.getElem?_append_left ci] at hd
    obtain ⟨u, hu, hs⟩ := h.2 i d hd
    exact ⟨u, by rw [List.getElem?_append_left (by rw [h.1]; exact ci)]; exact hu, hs.ex e⟩
  · rw [List.getElem?_append_right (by omega)] at hd
    have e0 : i - cs.length = 0 := by
      by_cases z : i - cs.length = 0
      · exact z
      · rw [List.getElem?_eq_none (by simp; omega)] at hd
        cases hd
    rw [e0] at hd
    have : c = d := Option.some.inj hd
    subst this
    exact ⟨v, by rw [List.getElem?_append_right (by rw [h.1]; omega), h.1, e0]; rfl, hc⟩
theorem s_app2 {K : PySem.W.Frag} {σ : L2.St} {H : Hp} {ta te : TE} {v : V} {D : Ends} {l : Addr} {xs : List V} (hl : H l = some (.lst xs)) (ha : Ev ta σ H (.ref l)) (h : Ev te σ H v) (hz : xs.length < sizeLine) (k : ∀ H1, Ex H H1 → D.nx σ (upd H1 l (.lst (xs ++ [v])))) :
    tDrop (tBM K "list" rAppend ta (tCons te tNil)) D σ H := ha H (Ex.refl H) _ fun H1 e1 =>
  ⟨Or.inl ⟨rfl, xs, sq_of (e1 l _ hl)⟩, h H1 e1 _ fun H2 e2 => ⟨l, xs, v, rfl, rfl, e2 l _ (e1 l _ hl), hz, k H2 (e1.trans e2)⟩⟩
theorem s_ext2 {K : PySem.W.Frag} {σ : L2.St} {H : Hp} {ta te : TE} {D : Ends} {l b : Addr} {xs zs : List V} (hl : H l = some (.lst xs)) (hb : H b = some (.lst zs)) (ha : Ev ta σ H (.ref l)) (h : Ev te σ H (.ref b)) (hz : xs.length + zs.length ≤ sizeLine) (k : ∀ H1, Ex H H1 → D.nx σ (upd H1 l (.lst (xs ++ zs)))) :
    tDrop (tBM K "list" rExtend ta (tCons te tNil)) D σ H := ha H (Ex.refl H) _ fun H1 e1 =>
  ⟨Or.inl ⟨rfl, xs, sq_of (e1 l _ hl)⟩, h H1 e1 _ fun H2 e2 => ⟨l, b, xs, zs, rfl, rfl, e2 l _ (e1 l _ hl), e2 b _ (e1 b _ hb), hz, k H2 (e1.trans e2)⟩⟩
section
variable {P : Program} {w : World} {K : PySem.W.Frag} {mg : Str → Option Value} {base : Heap} {C : Addr}
abbrev s_split_calls : Stmt := top 48
theorem sc_split_calls : FnScope ["calls", "split", "place", "call", "behind", "wholes", "row"] ["calls"] (defScope s_split_calls) := ⟨rfl, rfl, rfl, by decide +kernel, rfl, by decide +kernel, by decide +kernel⟩

def spSplit (K : PySem.W.Frag) : Sp := fun vs H Q _ => ∃ (a : Addr) (cs : List (List (List Int))), vs = [.ref a] ∧ SqL K H a ((PyFlat.put cs).map V.int) ∧ (∀ c ∈ cs, PyFlat.okCall PyKh408.shape c) ∧ cs.length ≤ 5000 ∧
  ∀ p H' ts, H p = none → Ex H H' → H' p = some (.lst ts) → Splits p H H' cs ts → Q (.ref p) H'
theorem ok_split_calls {f : Addr} {fd : FuncData} (F : Fun K "split_calls" "split_calls" s_split_calls f fd) (b_len : mg "len" = none) {a_ROWS : Addr} (g_ROWS : mg "ROWS" = some (.ref a_ROWS)) (q_ROWS : ∀ H, SqT K H a_ROWS (lst_ROWS.map V.int)) {a_WHOLES : Addr} (g_WHOLES : mg "WHOLES" = some (.ref a_WHOLES)) (q_WHOLES : ∀ H, SqT K H a_WHOLES (lst_WHOLES.map V.int)) : FnOk P w K mg base CX0 1 f fd ["calls"] (spSplit K) := by
  refine F.ok sc_split_calls (fun vs H Q E h => ?_) (fun cdv A outer s H vs Q E hr h => ⟨_, (pss_cons (ps_set (i := 1) sc_split_calls.nd rfl (Or.inl rfl) (pe_lst pa_nil))
      (pss_cons (ps_set (i := 2) sc_split_calls.nd rfl (Or.inl rfl) pe_int)
      (pss_cons (ps_while PassesOwn.never (pt_cmpR op_lt (pv 2) (pe_callB call_len_seq (by rfl) b_len PySem.boot_len (pa_cons (pv 0) pa_nil)) (nomark _)) (pss_cons (ps_set (i := 3) sc_split_calls.nd rfl (Or.inl rfl) (pe_ix (r := rIxL K) ix_list (pv 0) (pv 2) (fun _ _ => rfl)))
      (pss_cons (ps_set (i := 4) sc_split_calls.nd rfl (Or.inl rfl) (pe_op op_add (pe_op op_add (pv 2) pe_int) (pe_ix (r := rIxT K) ix_tup (pe_glob (v := .ref a_WHOLES) (by rfl) g_WHOLES rfl) (pv 3) (fun _ _ => rfl))))
      (pss_cons (ps_set (i := 5) sc_split_calls.nd rfl (Or.inl rfl) (pe_slice sl_list (pv 0) (po_some (pe_op op_add (pv 2) pe_int)) (po_some (pv 4))))
      (pss_cons (ps_set (i := 6) sc_split_calls.nd rfl (Or.inl rfl) (pe_lst pa_nil))
      (pss_cons (ps_set (i := 2) sc_split_calls.nd rfl (Or.inl rfl) (pv 4))
      (pss_cut (ps_if (pt_cmpR op_eq (pe_ix (r := rIxT K) ix_tup (pe_glob (v := .ref a_ROWS) (by rfl) g_ROWS rfl) (pv 3) (fun _ _ => rfl)) pe_int (nomark _)) (pss_cons (ps_set (i := 2) sc_split_calls.nd rfl (Or.inl rfl) (pe_op op_add (pe_op op_add (pv 4) pe_int) (pe_ix (r := rIxL K) ix_list (pv 0) (pv 4) (fun _ _ => rfl))))
      (pss_one (ps_set (i := 6) sc_split_calls.nd rfl (Or.inl rfl) (pe_slice sl_list (pv 0) (po_some (pe_op op_add (pv 4) pe_int)) (po_some (pv 2)))))) pss_nil)
      (pss_one (ps_expr (pe_bm PySem.F.plainAttrs_list PySem.F.slot_list_append PySem.F.type_list_append mt_append (pv 1) (pa_cons (pe_tup (pa_cons (pv 3) (pa_cons (pv 5) (pa_cons (pv 6) pa_nil)))) pa_nil)))))))))))
      (pss_one (ps_ret (pv 1)))))), ?_⟩)
  · obtain ⟨a, cs, rfl, _⟩ := h
    rfl
  · obtain ⟨a, cs, rfl, hS, hok, hlen, k⟩ := h
    refine q_asgL (el_lst ea_nil (by show 0 ≤ 100000; decide)) fun p H1 hp e1 h1 => ?_
    refine q_asg ev_c fun H2 e2 => ?_
    refine q_while (fun m σ' H' => ∃ (i : Nat) (ts : List V) (x3 x4 x5 x6 : Option V), m = cs.length - i ∧ i ≤ cs.length ∧ σ' = [some (.ref a), some (.ref p), some (.int (((PyFlat.put (cs.take i)).length : Nat) : Int)), x3, x4, x5, x6] ∧ Ex H H' ∧ H' p = some (.lst ts) ∧ Splits p H H' (cs.take i) ts) cs.length
      ⟨0, [], none, none, none, none, rfl, Nat.zero_le _, rfl, e1.trans e2, e2 p _ h1, rfl, fun i c hc => by simp at hc⟩ ?_
    rintro m σ' H' ⟨i, ts, x3, x4, x5, x6, rfl, hi, rfl, e, hpt, hsp⟩
    refine ⟨decide ((((PyFlat.put (cs.take i)).length : Nat) : Int) < (((PyFlat.put cs).map V.int).length : Int)), et_test (ev_op (ev_var rfl) (ev_len (ev_var rfl) (ex_l e hS)) rv_I0), fun hb H3 e3 => ?_, fun hb H3 e3 => ?_⟩
    · have hb' := of_decide_eq_true hb
      rw [List.length_map] at hb'
      have hi' : i < cs.length := by
        by_cases c : i < cs.length
        · exact c
        · rw [List.take_of_length_le (by omega)] at hb'
          omega
      have hc : cs[i]? = some cs[i] := List.getElem?_eq_getElem hi'
      obtain ⟨hd, ar, xs, hce, hsh⟩ := hok _ (List.getElem_mem hi')
      obtain ⟨q, rfl, hq, hW, hR, hk1⟩ := shape_is hsh
      have hall := put_split hc
      have htk := put_take hc
      rw [hce] at hall htk hc
      have hall' : PyFlat.put cs = PyFlat.put (cs.take i) ++ ((q : Int) :: (ar ++ (PyFlat.putRows xs ++ PyFlat.put (cs.drop (i + 1))))) := by
        rw [hall]
        show _ ++ (((q : Int) :: ar ++ PyFlat.putRows xs) ++ _) = _
        simp
      refine ⟨fun σ2 H4 => ∃ (m' : Nat), m' < cs.length - i ∧ ∃ (j : Nat) (ts : List V) (x3 x4 x5 x6 : Option V), m' = cs.length - j ∧ j ≤ cs.length ∧ σ2 = [some (.ref a), some (.ref p), some (.int (((PyFlat.put (cs.take j)).length : Nat) : Int)), x3, x4, x5, x6] ∧ Ex H H4 ∧ H4 p = some (.lst ts) ∧ Splits p H H4 (cs.take j) ts, fun σ2 H4 z => z, ?_⟩
      -- call = calls[place]
      refine q_asg (ev_op (ev_var rfl) (ev_var rfl) (rv_ixL (ex_l (e.trans e3) hS) (ixI (get_mid hall' rfl)))) fun H4 e4 => ?_
      -- behind = place + 1 + WHOLES[call]
      refine q_asg (v := .int (((PyFlat.put (cs.take i)).length + 1 + ar.length : Nat) : Int)) (ev_is (ev_op (ev_op (ev_var rfl) ev_c rv_I0) (ev_op ev_c (ev_var rfl) (rv_ixT (q_WHOLES _) (ixI hW))) rv_I0) (by rw [Int.natCast_add, Int.natCast_add]; rfl)) fun H5 e5 => ?_
      have eW : cutV ((PyFlat.put cs).map V.int) (some (((PyFlat.put (cs.take i)).length + 1 : Nat) : Int)) (some (((PyFlat.put (cs.take i)).length + 1 + ar.length : Nat) : Int)) = ar.map V.int :=
        cut_mid (a := PyFlat.put (cs.take i) ++ [(q : Int)]) (b := ar) (c := PyFlat.putRows xs ++ PyFlat.put (cs.drop (i + 1))) (by rw [hall']; simp) (by simp) (by simp)
      have e15 := ((e.trans e3).trans e4).trans e5
      refine q_asgL (xs := ar.map V.int) (by
        rw [← eW]
        exact el_sl (ev_var rfl) (eo_some (ev_is (ev_op (ev_var rfl) ev_c rv_I0) (by rw [Int.natCast_add]; rfl))) (eo_some (ev_var rfl)) (ex_l e15 hS)) fun wl H6 hwl e6 h6 => ?_
      have e16 := e15.trans e6
      have hpt5 : H5 p = some (.lst ts) := e5 p _ (e4 p _ (e3 p _ hpt))
      have hpt6 : H6 p = some (.lst ts) := e6 p _ hpt5
      refine q_asgL (el_lst ea_nil (by show 0 ≤ 100000; decide)) fun r0 H7 hr0 e7 h7 => ?_
      refine q_asg (ev_var rfl) fun H8 e8 => ?_
      have e18 := (e16.trans e7).trans e8
      have hpt8 : H8 p = some (.lst ts) := e8 p _ (e7 p _ hpt6)
      have h68 : H8 wl = some (.lst (ar.map V.int)) := e8 wl _ (e7 wl _ h6)
      have nwl : wl ≠ p := fun z => by rw [z, hpt5] at hwl; cases hwl
      have fwl : H wl = none := fresh_back e15 hwl
      refine q_cut (M := fun σ2 H9 => ∃ (rl : Addr), σ2 = [some (.ref a), some (.ref p), some (.int (((PyFlat.put (cs.take (i + 1))).length : Nat) : Int)), some (.int (q : Int)), some (.int (((PyFlat.put (cs.take i)).length + 1 + ar.length : Nat) : Int)), some (.ref wl), some (.ref rl)] ∧ Ex H8 H9 ∧ rl ≠ p ∧ H rl = none ∧ H9 rl = some (.lst ((rowOf cs[i]).map V.int))) ?_ ?_
      · -- if ROWS[call] == 1
        refine s_when (b := decide (xs.length = 1)) (et_test (ev_is (ev_op (ev_op ev_c (ev_var rfl) (rv_ixT (q_ROWS _) (ixI hR))) ev_c (rv_eq rfl)) ?_)) (fun hc1 H9 e9 => ?_) fun hc1 H9 e9 => ?_
        · have : ((xs.length : Nat) : Int) = 1 ↔ xs.length = 1 := by omega
          simp only [V.int.injEq, this]
        · have hl1 := of_decide_eq_true hc1
          obtain ⟨x, rfl⟩ : ∃ x, xs = [x] := by
            match xs, hl1 with
            | [x], _ => exact ⟨x, rfl⟩
          have hrow : PyFlat.put cs = (PyFlat.put (cs.take i) ++ ((q : Int) :: ar)) ++ (((x.length : Nat) : Int) :: (x ++ PyFlat.put (cs.drop (i + 1)))) := by
            rw [hall']
            show _ ++ ((q : Int) :: (ar ++ ((((x.length : Nat) : Int) :: x ++ []) ++ _))) = _
            simp
          have hpl : (PyFlat.put (cs.take (i + 1))).length = (PyFlat.put (cs.take i)).length + 1 + ar.length + 1 + x.length := by
            rw [htk]
            show (PyFlat.put (cs.take i) ++ ((q : Int) :: ar ++ ((((x.length : Nat) : Int) :: x ++ [])))).length = _
            simp
            omega
          refine q_asg (v := .int (((PyFlat.put (cs.take (i + 1))).length : Nat) : Int)) (ev_is (ev_op (ev_op (ev_var rfl) ev_c rv_I0) (ev_op (ev_var rfl) (ev_var rfl) (rv_ixL (ex_l (e18.trans e9) hS) (ixI (get_mid (x := ((x.length : Nat) : Int)) hrow (by simp; omega))))) rv_I0) ?_) fun H10 e10 => ?_
          · rw [hpl]
            simp only [Int.natCast_add]
            rfl
          have eR : cutV ((PyFlat.put cs).map V.int) (some (((PyFlat.put (cs.take i)).length + 1 + ar.length + 1 : Nat) : Int)) (some (((PyFlat.put (cs.take (i + 1))).length : Nat) : Int)) = x.map V.int :=
            cut_mid (a := PyFlat.put (cs.take i) ++ ((q : Int) :: ar) ++ [((x.length : Nat) : Int)]) (b := x) (c := PyFlat.put (cs.drop (i + 1))) (by rw [hrow]; simp) (by simp; omega) (by rw [hpl]; simp; omega)
          refine s_asgL (xs := x.map V.int) (by
            rw [← eR]
            exact el_sl (ev_var rfl) (eo_some (ev_is (ev_op (ev_var rfl) ev_c rv_I0) (by rw [Int.natCast_add _ 1]; rfl))) (eo_some (ev_var rfl)) (ex_l ((e18.trans e9).trans e10) hS)) fun rl H11 hrl e11 h11 => ?_
          refine ⟨rl, rfl, (e9.trans e10).trans e11, fun z => ?_, fresh_back ((e18.trans e9).trans e10) hrl, ?_⟩
          · rw [z, e10 p _ (e9 p _ hpt8)] at hrl
            cases hrl
          · rw [hce]
            exact h11
        · have hl0 : xs = [] := by
            have := of_decide_eq_false hc1
            match xs, this, hk1 with
            | [], _, _ => rfl
            | [_], z, _ => exact absurd rfl z
            | _ :: _ :: _, _, z => simp at z
          subst hl0
          have hpl : (PyFlat.put (cs.take (i + 1))).length = (PyFlat.put (cs.take i)).length + 1 + ar.length := by
            rw [htk]
            show (PyFlat.put (cs.take i) ++ ((q : Int) :: ar ++ [])).length = _
            simp
            omega
          refine ⟨r0, ?_, e9, fun z => ?_, fresh_back e16 hr0, ?_⟩
          · rw [hpl]
            rfl
          · rw [z, hpt6] at hr0
            cases hr0
          · rw [hce]
            exact e9 r0 _ (e8 r0 _ h7)
      · rintro σ2 H9 ⟨rl, rfl, e9, nrl, frl, h9⟩
        have e19 := e18.trans e9
        refine s_appU (l := p) (xs := ts) (e9 p _ hpt8) (ev_var rfl) (eu_tup (ea_cons (ev_var rfl) (ea_cons (ev_var rfl) (ea_cons (ev_var rfl) ea_nil))) (by show 3 ≤ 100000; decide)) ?_ fun t H10 ht e10 h10 => ?_
        · rw [hsp.1, List.length_take]
          omega
        have nt : t ≠ p := fun z => by rw [z, e9 p _ hpt8] at ht; cases ht
        have kp : ∀ b o, b ≠ p → H' b = some o → (upd H10 p (.lst (ts ++ [.ref t]))) b = some o := fun b o hb q => by
          rw [upd_ne hb]
          exact e10 b o (e9 b o (e8 b o (e7 b o (e6 b o (e5 b o (e4 b o (e3 b o q)))))))
        refine ⟨cs.length - (i + 1), by omega, i + 1, ts ++ [.ref t], _, _, _, _, rfl, by omega, rfl, (e19.trans e10).mut hp, upd_same, ?_⟩
        rw [take_more (List.getElem?_eq_getElem hi')]
        refine hsp.more kp ⟨t, wl, rl, rfl, nt, nwl, nrl, fresh_back e19 ht, fwl, frl, ?_, ?_, ?_⟩
        · rw [upd_ne nt, h10, hce]
          rfl
        · rw [upd_ne nwl, hce]
          exact e10 wl _ (e9 wl _ h68)
        · rw [upd_ne nrl]
          exact e10 rl _ h9
    · have hb' := of_decide_eq_false hb
      rw [List.length_map] at hb'
      have hi' : i = cs.length := by
        by_cases c : i < cs.length
        · exfalso
          obtain ⟨hd, ar, xs, hce, hsh⟩ := hok _ (List.getElem_mem c)
          have hall := put_split (List.getElem?_eq_getElem c)
          rw [hce] at hall
          have : (PyFlat.put cs).length = (PyFlat.put (cs.take i) ++ (((hd :: ar) ++ PyFlat.putRows xs) ++ PyFlat.put (cs.drop (i + 1)))).length := congrArg List.length hall
          simp at this
          omega
        · omega
      subst hi'
      rw [List.take_length] at hsp
      refine s_ret (ev_var rfl) fun H4 e4 => k p H4 ts hp ((e.trans e3).trans e4) (e4 p _ (e3 p _ hpt)) ⟨hsp.1, fun i c hc => ?_⟩
      obtain ⟨v, hv, hs⟩ := hsp.2 i c hc
      exact ⟨v, hv, hs.ex fun b o _ q => e4 b o (e3 b o q)⟩
end
end Fw

set_option Elab.async false
set_option linter.all false
set_option maxRecDepth 100000
set_option maxHeartbeats 2000000
namespace Fw
open PySem PySem.Spec PyProof.Rows L2 Evl
/-! ### the forms of a call -/
abbrev step := Kh408Neutral.step
def OkS (s : Option Kh408.Abs) : Prop := ∀ x, s = some x → 1 ≤ x.d ∧ x.d ≤ x.n ∧ x.n ≤ 6
def OkC (c : List (List Int)) : Prop := PyFlat.okCall PyKh408.shape c ∧ ∀ l ∈ c, ∀ x ∈ l, 0 ≤ x
theorem nat_list : ∀ {l : List Int}, (∀ x ∈ l, 0 ≤ x) → ∃ b : List Nat, l = b.map Int.ofNat
  | [], _ => ⟨[], rfl⟩
  | x :: r, h => by
    obtain ⟨b, hb⟩ := nat_list (l := r) fun y hy => h y (List.mem_cons_of_mem _ hy)
    obtain ⟨n, hn⟩ := Int.eq_ofNat_of_zero_le (h x List.mem_cons_self)
    exact ⟨n :: b, by rw [hb, hn]; rfl⟩
theorem nat_lists : ∀ {l : List (List Int)}, (∀ r ∈ l, ∀ x ∈ r, 0 ≤ x) → ∃ ys : List (List Nat), l = ys.map (fun b => b.map Int.ofNat)
  | [], _ => ⟨[], rfl⟩
  | x :: r, h => by
    obtain ⟨ys, hy⟩ := nat_lists (l := r) fun y hy => h y (List.mem_cons_of_mem _ hy)
    obtain ⟨b, hb⟩ := nat_list (l := x) (h x List.mem_cons_self)
    exact ⟨b :: ys, by rw [hb, hy]; rfl⟩
theorem nats_back (b : List Nat) : Kh408Neutral.nats (b.map Int.ofNat) = b := by
  unfold Kh408Neutral.nats
  rw [List.map_map]
  have : (Kh408Neutral.nat ∘ Int.ofNat) = id := rfl
  rw [this, List.map_id]
theorem okC_form {c : List (List Int)} (h : OkC c) : ∃ (q : Nat) (ar : List Nat) (xs : List (List Nat)), c = ((q : Int) :: ar.map Int.ofNat) :: xs.map (fun b => b.map Int.ofNat) ∧ PyKh408.shape (q : Int) = some (ar.length, xs.length) := by
  obtain ⟨⟨p, a, xs, rfl, hs⟩, h0⟩ := h
  obtain ⟨q, rfl, _⟩ := shape_is hs
  obtain ⟨ar, rfl⟩ := nat_list (l := a) fun x hx => h0 _ List.mem_cons_self x (List.mem_cons_of_mem _ hx)
  have hx := nat_lists (l := xs) fun l hl => h0 l (List.mem_cons_of_mem _ hl)
  obtain ⟨ys, rfl⟩ := hx
  exact ⟨q, ar, ys, rfl, by rw [hs, List.length_map, List.length_map]⟩
section
variable {K : PySem.W.Frag} {σ : L2.St} {H H1 : Hp} {ta te : TE} {D : Ends} {C a dx : Addr} {sp : Sp} {vs : List V} {tr : TA} {E : XK} {Q : VK} {s : Option Kh408.Abs} {xs : List V}
theorem RetD.mono (k : RetD C a s xs H Q) (e : Ex H H1) : RetD C a s xs H1 Q := fun H' p kp hD hp h => k H' p (fun b o hb hne => kp b o (e b o hb) hne) hD (fresh_back e hp) h
theorem s_retM {fs : List (Str × V)} {m : Str} (ha : Ev ta σ H (.ref a)) (ho : H a = some (.ins C dx fs)) (hm : fs.lookup m = none) (hv : EvA tr σ H vs) (k : ∀ H1, Ex H H1 → sp (.ref a :: (vs ++ [])) H1 D.rt E) : tRet (tMeth C m sp [] E ta tr) D σ H :=
  ha H (Ex.refl H) _ fun H1 e1 => ⟨a, dx, fs, rfl, e1 a _ ho, hm, hv H1 e1 _ fun H2 e2 => k H2 (e1.trans e2)⟩
theorem s_retC (hv : EvA tr σ H vs) (k : ∀ H1, Ex H H1 → sp (vs ++ []) H1 D.rt E) : tRet (tCall sp [] E tr) D σ H :=
  hv H (Ex.refl H) _ fun H1 e1 => k H1 e1
/-- a method of the desk, called and given back -/
theorem s_retDM {m : Str} (ha : Ev ta σ H (.ref a)) (hD : DeskAt C H a s) (h1 : (m == ("bits" : Str)) = false) (h2 : (m == ("distance" : Str)) = false) (hv : EvA tr σ H vs) (k : ∀ H1, Ex H H1 → DeskAt C H1 a s → sp (.ref a :: (vs ++ [])) H1 D.rt E) : tRet (tMeth C m sp [] E ta tr) D σ H := by
  obtain ⟨dx, ho⟩ := hD
  exact s_retM ha ho (dF_none s h1 h2) hv fun H1 e1 => k H1 e1 ⟨dx, e1 a _ ho⟩
theorem et_begun {C a : Addr} (ha : Ev ta σ H (.ref a)) (hD : DeskAt C H a s) : EvT (tB (tMeth C "is_begun" (spIsB C) [] E ta tNil)) σ H (decide (0 < bitsOf s)) := by
  obtain ⟨dx, ho⟩ := hD
  exact et_B (ev_meth ha ho (dF_none s (by decide +kernel) (by decide +kernel)) ea_nil fun H1 e1 Q1 q1 E1 => ⟨a, s, rfl, ⟨dx, e1 a _ ho⟩, q1⟩)
end
/-- what is handed to the dispatch -/
def CallIn (C : Addr) (H : Hp) (a w r : Addr) (s : Option Kh408.Abs) (c : List (List Int)) : Prop := DeskAt C H a s ∧ OkS s ∧ OkC c ∧ headOf c < 17 ∧ H w = some (.lst ((argsOf c).map V.int)) ∧ H r = some (.lst ((rowOf c).map V.int))
section
variable {P : Program} {w : World} {K : PySem.W.Frag} {mg : Str → Option Value} {base : Heap} {C : Addr}
abbrev s_answer_alone : Stmt := top 66
theorem sc_answer_alone : FnScope ["desk", "call"] ["desk", "call"] (defScope s_answer_alone) := ⟨rfl, rfl, rfl, by decide +kernel, rfl, by decide +kernel, by decide +kernel⟩

/-- the calls that hand in nothing -/
def aloneCall : Nat → Option Kh408.Call
  | 2 => some .byBalls
  | 3 => some .byCut
  | 4 => some .byMean
  | 5 => some .byEven
  | 6 => some .least
  | 9 => some .bestProof
  | 10 => some .spread
  | 11 => some .taken
  | 16 => some .told
  | _ => none
theorem alone_some : ∀ {q : Nat}, q < 17 → (q ≠ 0 ∧ q ≠ 1 ∧ q ≠ 7 ∧ q ≠ 8 ∧ q ≠ 12 ∧ q ≠ 13 ∧ q ≠ 14 ∧ q ≠ 15) → ∃ c, aloneCall q = some c := by
  intro q hq h
  have : q = 2 ∨ q = 3 ∨ q = 4 ∨ q = 5 ∨ q = 6 ∨ q = 9 ∨ q = 10 ∨ q = 11 ∨ q = 16 := by omega
  rcases this with rfl | rfl | rfl | rfl | rfl | rfl | rfl | rfl | rfl <;> exact ⟨_, rfl⟩
theorem alone_in {q : Nat} {c : Kh408.Call} (h : aloneCall q = some c) : (q = 2 ∧ c = .byBalls) ∨ (q = 3 ∧ c = .byCut) ∨ (q = 4 ∧ c = .byMean) ∨ (q = 5 ∧ c = .byEven) ∨ (q = 6 ∧ c = .least) ∨ (q = 9 ∧ c = .bestProof) ∨ (q = 10 ∧ c = .spread) ∨ (q = 11 ∧ c = .taken) ∨ (q = 16 ∧ c = .told) := by
  unfold aloneCall at h
  split at h <;> simp_all
theorem alone_shape {q : Nat} {c : Kh408.Call} (h : aloneCall q = some c) : PyKh408.shape (q : Int) = some (0, 0) := by
  rcases alone_in h with h | h | h | h | h | h | h | h | h <;> obtain ⟨rfl, _⟩ := h <;> decide +kernel
theorem alone_last {q : Nat} {c : Kh408.Call} (h : aloneCall q = some c) (n : q ≠ 2 ∧ q ≠ 3 ∧ q ≠ 4 ∧ q ≠ 5 ∧ q ≠ 6 ∧ q ≠ 9 ∧ q ≠ 10 ∧ q ≠ 11) : c = .told := by
  rcases alone_in h with h | h | h | h | h | h | h | h | h <;> first | exact h.2 | (exfalso; omega)
theorem alone_step {n d q : Nat} {c : Kh408.Call} (h : aloneCall q = some c) : step (some ⟨n, d⟩) [[(q : Int)]] = (some ⟨n, d⟩, ansOf n d c) := by
  rcases alone_in h with h | h | h | h | h | h | h | h | h <;> obtain ⟨rfl, rfl⟩ := h <;> rfl
theorem ans_byMean (n d : Nat) : ansOf n d .byMean = [match Kh408.byMean n d with | none => -33 | some x => ((x : Nat) : Int)] := by
  show ((match Kh408.byMean n d with
    | none => Kh408.say (-33)
    | some x => Kh408.say x).ret :: (match Kh408.byMean n d with
    | none => Kh408.say (-33)
    | some x => Kh408.say x).out) = _
  cases Kh408.byMean n d <;> rfl
theorem ans_byEven (n d : Nat) : ansOf n d .byEven = [match Kh408.byEven ⟨n, d⟩ with | none => -33 | some x => ((x : Nat) : Int)] := by
  show ((match Kh408.byEven ⟨n, d⟩ with
    | none => Kh408.say (-33)
    | some x => Kh408.say x).ret :: (match Kh408.byEven ⟨n, d⟩ with
    | none => Kh408.say (-33)
    | some x => Kh408.say x).out) = _
  cases Kh408.byEven ⟨n, d⟩ <;> rfl
def spAlone (C : Addr) : Sp := fun vs H Q _ => ∃ (a : Addr) (q n d : Nat) (c : Kh408.Call), vs = [.ref a, .int (q : Int)] ∧ DeskAt C H a (some ⟨n, d⟩) ∧ 1 ≤ d ∧ d ≤ n ∧ n ≤ 6 ∧ aloneCall q = some c ∧ RetL ((ansOf n d c).map V.int) H Q
theorem ok_answer_alone {f : Addr} {fd : FuncData} (F : Fun K "answer_alone" "answer_alone" s_answer_alone f fd) (m_told : Met P w K mg base C "told" 1 ["self"] (spMTold C)) (g_TAKEN : GInt mg "TAKEN" (11)) (m_taken : Met P w K mg base C "taken" 4 ["self"] (spMTaken C)) (g_SPREAD : GInt mg "SPREAD" (10)) (m_spread : Met P w K mg base C "spread" 5 ["self"] (spMSpread C)) (g_BEST_PROOF : GInt mg "BEST_PROOF" (9)) (m_best_proof : Met P w K mg base C "best_proof" 5 ["self"] (spMBest C)) (g_LEAST : GInt mg "LEAST" (6)) (m_least : Met P w K mg base C "least" 4 ["self"] (sp_least C)) (g_BY_EVEN : GInt mg "BY_EVEN" (5)) (m_even : Met P w K mg base C "even" 3 ["self"] (sp_even C)) (g_BY_MEAN : GInt mg "BY_MEAN" (4)) (m_mean : Met P w K mg base C "mean" 3 ["self"] (sp_mean C)) (g_BY_CUT : GInt mg "BY_CUT" (3)) (m_cut : Met P w K mg base C "cut" 3 ["self"] (sp_cut C)) (g_BY_BALLS : GInt mg "BY_BALLS" (2)) (m_balls : Met P w K mg base C "balls" 3 ["self"] (sp_balls C)) (T : DeskT K C): FnOk P w K mg base CX0 6 f fd ["desk", "call"] (spAlone C) := by
  refine F.ok sc_answer_alone (fun vs H Q E h => ?_) (fun cdv A outer s H vs Q E hr h => ⟨_, (pss_cons (ps_if (pt_cmpR op_eq (pv 1) (pe_gi g_BY_BALLS) (nomark _)) (pss_one (ps_ret (pe_met0 (pv 0) m_balls (hr.mono (by decide))))) pss_nil)
      (pss_cons (ps_if (pt_cmpR op_eq (pv 1) (pe_gi g_BY_CUT) (nomark _)) (pss_one (ps_ret (pe_met0 (pv 0) m_cut (hr.mono (by decide))))) pss_nil)
      (pss_cons (ps_if (pt_cmpR op_eq (pv 1) (pe_gi g_BY_MEAN) (nomark _)) (pss_one (ps_ret (pe_met0 (pv 0) m_mean (hr.mono (by decide))))) pss_nil)
      (pss_cons (ps_if (pt_cmpR op_eq (pv 1) (pe_gi g_BY_EVEN) (nomark _)) (pss_one (ps_ret (pe_met0 (pv 0) m_even (hr.mono (by decide))))) pss_nil)
      (pss_cons (ps_if (pt_cmpR op_eq (pv 1) (pe_gi g_LEAST) (nomark _)) (pss_one (ps_ret (pe_met0 (pv 0) m_least (hr.mono (by decide))))) pss_nil)
      (pss_cons (ps_if (pt_cmpR op_eq (pv 1) (pe_gi g_BEST_PROOF) (nomark _)) (pss_one (ps_ret (pe_met0 (pv 0) m_best_proof (hr.mono (by decide))))) pss_nil)
      (pss_cons (ps_if (pt_cmpR op_eq (pv 1) (pe_gi g_SPREAD) (nomark _)) (pss_one (ps_ret (pe_met0 (pv 0) m_spread (hr.mono (by decide))))) pss_nil)
      (pss_cons (ps_if (pt_cmpR op_eq (pv 1) (pe_gi g_TAKEN) (nomark _)) (pss_one (ps_ret (pe_met0 (pv 0) m_taken (hr.mono (by decide))))) pss_nil)
      (pss_one (ps_ret (pe_met0 (pv 0) m_told (hr.mono (by decide))))))))))))), ?_⟩)
  · obtain ⟨a, q, n, d, c, rfl, _⟩ := h
    rfl
  · obtain ⟨a, q, n, d, c, rfl, hD, hd, hdn, hn, hc, k⟩ := h
    have E : Ex H H := Ex.refl H
    refine q_when (b := decide (q = 2)) (et_test (ev_is (ev_op (ev_var rfl) ev_c (rv_eq rfl)) (num_eq q 2))) (fun hb H2 e2 => ?_) fun hb H2 e2 => ?_
    · have hq := of_decide_eq_true hb
      subst hq
      have hc2 : c = .byBalls := (Option.some.inj hc).symm
      subst hc2
      have E := E.trans e2
      exact s_retDM (ev_var rfl) (hD.ex E) (by decide +kernel) (by decide +kernel) ea_nil fun H1 e1 hD1 => ⟨a, n, d, rfl, hD1, hd, hdn, hn, fun p H2 hp e2 h2 => k.go (E.trans e1) hp e2 h2⟩
    have nq2 := of_decide_eq_false hb
    have E := E.trans e2
    refine q_when (b := decide (q = 3)) (et_test (ev_is (ev_op (ev_var rfl) ev_c (rv_eq rfl)) (num_eq q 3))) (fun hb H3 e3 => ?_) fun hb H3 e3 => ?_
    · have hq := of_decide_eq_true hb
      subst hq
      have hc2 : c = .byCut := (Option.some.inj hc).symm
      subst hc2
      have E := E.trans e3
      exact s_retDM (ev_var rfl) (hD.ex E) (by decide +kernel) (by decide +kernel) ea_nil fun H1 e1 hD1 => ⟨a, n, d, rfl, hD1, hd, hdn, hn, fun p H2 hp e2 h2 => k.go (E.trans e1) hp e2 h2⟩
    have nq3 := of_decide_eq_false hb
    have E := E.trans e3
    refine q_when (b := decide (q = 4)) (et_test (ev_is (ev_op (ev_var rfl) ev_c (rv_eq rfl)) (num_eq q 4))) (fun hb H4 e4 => ?_) fun hb H4 e4 => ?_
    · have hq := of_decide_eq_true hb
      subst hq
      have hc2 : c = .byMean := (Option.some.inj hc).symm
      subst hc2
      rw [ans_byMean] at k
      have E := E.trans e4
      exact s_retDM (ev_var rfl) (hD.ex E) (by decide +kernel) (by decide +kernel) ea_nil fun H1 e1 hD1 => ⟨a, n, d, rfl, hD1, hd, hdn, hn, fun p H2 hp e2 h2 => k.go (E.trans e1) hp e2 h2⟩
    have nq4 := of_decide_eq_false hb
    have E := E.trans e4
    refine q_when (b := decide (q = 5)) (et_test (ev_is (ev_op (ev_var rfl) ev_c (rv_eq rfl)) (num_eq q 5))) (fun hb H5 e5 => ?_) fun hb H5 e5 => ?_
    · have hq := of_decide_eq_true hb
      subst hq
      have hc2 : c = .byEven := (Option.some.inj hc).symm
      subst hc2
      rw [ans_byEven] at k
      have E := E.trans e5
      exact s_retDM (ev_var rfl) (hD.ex E) (by decide +kernel) (by decide +kernel) ea_nil fun H1 e1 hD1 => ⟨a, n, d, rfl, hD1, hd, hdn, hn, fun p H2 hp e2 h2 => k.go (E.trans e1) hp e2 h2⟩
    have nq5 := of_decide_eq_false hb
    have E := E.trans e5
    refine q_when (b := decide (q = 6)) (et_test (ev_is (ev_op (ev_var rfl) ev_c (rv_eq rfl)) (num_eq q 6))) (fun hb H6 e6 => ?_) fun hb H6 e6 => ?_
    · have hq := of_decide_eq_true hb
      subst hq
      have hc2 : c = .least := (Option.some.inj hc).symm
      subst hc2
      have E := E.trans e6
      exact s_retDM (ev_var rfl) (hD.ex E) (by decide +kernel) (by decide +kernel) ea_nil fun H1 e1 hD1 => ⟨a, n, d, rfl, hD1, hd, hdn, hn, fun p H2 hp e2 h2 => k.go (E.trans e1) hp e2 h2⟩
    have nq6 := of_decide_eq_false hb
    have E := E.trans e6
    refine q_when (b := decide (q = 9)) (et_test (ev_is (ev_op (ev_var rfl) ev_c (rv_eq rfl)) (num_eq q 9))) (fun hb H9 e9 => ?_) fun hb H9 e9 => ?_
    · have hq := of_decide_eq_true hb
      subst hq
      have hc2 : c = .bestProof := (Option.some.inj hc).symm
      subst hc2
      have E := E.trans e9
      exact s_retDM (ev_var rfl) (hD.ex E) (by decide +kernel) (by decide +kernel) ea_nil fun H1 e1 hD1 => ⟨a, n, d, rfl, hD1, hd, hdn, hn, fun p H2 hp e2 h2 => k.go (E.trans e1) hp e2 h2⟩
    have nq9 := of_decide_eq_false hb
    have E := E.trans e9
    refine q_when (b := decide (q = 10)) (et_test (ev_is (ev_op (ev_var rfl) ev_c (rv_eq rfl)) (num_eq q 10))) (fun hb H10 e10 => ?_) fun hb H10 e10 => ?_
    · have hq := of_decide_eq_true hb
      subst hq
      have hc2 : c = .spread := (Option.some.inj hc).symm
      subst hc2
      have E := E.trans e10
      exact s_retDM (ev_var rfl) (hD.ex E) (by decide +kernel) (by decide +kernel) ea_nil fun H1 e1 hD1 => ⟨a, n, d, rfl, hD1, hd, hdn, hn, fun p H2 hp e2 h2 => k.go (E.trans e1) hp e2 h2⟩
    have nq10 := of_decide_eq_false hb
    have E := E.trans e10
    refine q_when (b := decide (q = 11)) (et_test (ev_is (ev_op (ev_var rfl) ev_c (rv_eq rfl)) (num_eq q 11))) (fun hb H11 e11 => ?_) fun hb H11 e11 => ?_
    · have hq := of_decide_eq_true hb
      subst hq
      have hc2 : c = .taken := (Option.some.inj hc).symm
      subst hc2
      have E := E.trans e11
      exact s_retDM (ev_var rfl) (hD.ex E) (by decide +kernel) (by decide +kernel) ea_nil fun H1 e1 hD1 => ⟨a, n, d, rfl, hD1, hd, hdn, hn, fun p H2 hp e2 h2 => k.go (E.trans e1) hp e2 h2⟩
    have nq11 := of_decide_eq_false hb
    have E := E.trans e11
    have hc2 : c = .told := alone_last hc ⟨nq2, nq3, nq4, nq5, nq6, nq9, nq10, nq11⟩
    subst hc2
    exact s_retDM (ev_var rfl) (hD.ex E) (by decide +kernel) (by decide +kernel) ea_nil fun H1 e1 hD1 => ⟨a, n, d, rfl, hD1, hd, hdn, hn, fun p H2 hp e2 h2 => k.go (E.trans e1) hp e2 h2⟩
abbrev s_answer_begun : Stmt := top 67
theorem sc_answer_begun : FnScope ["desk", "call", "wholes", "row"] ["desk", "call", "wholes", "row"] (defScope s_answer_begun) := ⟨rfl, rfl, rfl, by decide +kernel, rfl, by decide +kernel, by decide +kernel⟩

theorem atAns_is (n d i : Nat) (b : List Nat) : (Kh408.does ⟨n, d⟩ (.at_ i b)).2.ret :: (Kh408.does ⟨n, d⟩ (.at_ i b)).2.out = atAns n i b := by
  show (if n < i ∨ Kh408.okRow ⟨n, d⟩ b = false then Kh408.say (-22) else (⟨0, [Kh408.at_ n b i]⟩ : Kh408.Ans)).ret :: (if n < i ∨ Kh408.okRow ⟨n, d⟩ b = false then Kh408.say (-22) else (⟨0, [Kh408.at_ n b i]⟩ : Kh408.Ans)).out = if n < i ∨ okRowB n b = false then [-22] else [0, Kh408.at_ n b i]
  by_cases c : n < i ∨ okRowB n b = false
  · rw [if_pos c, if_pos (show n < i ∨ Kh408.okRow ⟨n, d⟩ b = false from c)]
    rfl
  · rw [if_neg c, if_neg (show ¬ (n < i ∨ Kh408.okRow ⟨n, d⟩ b = false) from c)]
def spBegun (C : Addr) : Sp := fun vs H Q _ => ∃ (a w r : Addr) (s : Kh408.Abs) (c : List (List Int)), vs = [.ref a, .int (headOf c), .ref w, .ref r] ∧ CallIn C H a w r (some s) c ∧ headOf c ≠ 0 ∧ RetD C a (step (some s) c).1 ((step (some s) c).2.map V.int) H Q
theorem ok_answer_begun {f : Addr} {fd : FuncData} (F : Fun K "answer_begun" "answer_begun" s_answer_begun f fd) (c_answer_alone : Cal P w K mg base "answer_alone" 6 ["desk", "call"] (spAlone C)) (g_HELD : GInt mg "HELD" (15)) (m_held : Met P w K mg base C "held" 4 ["self", "words"] (spMHeld K C)) (g_FILL : GInt mg "FILL" (14)) (m_fill : Met P w K mg base C "fill" 4 ["self", "words"] (spMFill K C)) (g_MORE : GInt mg "MORE" (13)) (m_more : Met P w K mg base C "more" 4 ["self", "words"] (spMMore K C)) (g_APART : GInt mg "APART" (12)) (m_apart : Met P w K mg base C "apart" 4 ["self", "words"] (spMApart K C)) (g_AT : GInt mg "AT" (8)) (m_at : Met P w K mg base C "at" 4 ["self", "i", "numbers"] (spAt K C)) (g_PROVES : GInt mg "PROVES" (7)) (m_proves : Met P w K mg base C "proves" 5 ["self", "numbers"] (spProves K C)) (g_GOAL : GInt mg "GOAL" (1)) (m_goal : Met P w K mg base C "goal" 1 ["self", "distance"] (spGoal C)) (T : DeskT K C): FnOk P w K mg base CX0 7 f fd ["desk", "call", "wholes", "row"] (spBegun C) := by
  refine F.ok sc_answer_begun (fun vs H Q E h => ?_) (fun cdv A outer s H vs Q E hr h => ⟨_, (pss_cons (ps_if (pt_cmpR op_eq (pv 1) (pe_gi g_GOAL) (nomark _)) (pss_one (ps_ret (pe_met (pv 0) m_goal (hr.mono (by decide)) (pa_cons (pe_ix (r := rIxL K) ix_list (pv 2) pe_int (fun _ _ => rfl)) pa_nil)))) pss_nil)
      (pss_cons (ps_if (pt_cmpR op_eq (pv 1) (pe_gi g_PROVES) (nomark _)) (pss_one (ps_ret (pe_met (pv 0) m_proves (hr.mono (by decide)) (pa_cons (pv 3) pa_nil)))) pss_nil)
      (pss_cons (ps_if (pt_cmpR op_eq (pv 1) (pe_gi g_AT) (nomark _)) (pss_one (ps_ret (pe_met (pv 0) m_at (hr.mono (by decide)) (pa_cons (pe_ix (r := rIxL K) ix_list (pv 2) pe_int (fun _ _ => rfl)) (pa_cons (pv 3) pa_nil))))) pss_nil)
      (pss_cons (ps_if (pt_cmpR op_eq (pv 1) (pe_gi g_APART) (nomark _)) (pss_one (ps_ret (pe_met (pv 0) m_apart (hr.mono (by decide)) (pa_cons (pv 3) pa_nil)))) pss_nil)
      (pss_cons (ps_if (pt_cmpR op_eq (pv 1) (pe_gi g_MORE) (nomark _)) (pss_one (ps_ret (pe_met (pv 0) m_more (hr.mono (by decide)) (pa_cons (pv 3) pa_nil)))) pss_nil)
      (pss_cons (ps_if (pt_cmpR op_eq (pv 1) (pe_gi g_FILL) (nomark _)) (pss_one (ps_ret (pe_met (pv 0) m_fill (hr.mono (by decide)) (pa_cons (pv 3) pa_nil)))) pss_nil)
      (pss_cons (ps_if (pt_cmpR op_eq (pv 1) (pe_gi g_HELD) (nomark _)) (pss_one (ps_ret (pe_met (pv 0) m_held (hr.mono (by decide)) (pa_cons (pv 3) pa_nil)))) pss_nil)
      (pss_one (ps_ret (pe_cal c_answer_alone (hr.mono (by decide)) (pa_cons (pv 0) (pa_cons (pv 1) pa_nil)))))))))))), ?_⟩)
  · obtain ⟨a, w, r, s, c, rfl, _⟩ := h
    rfl
  · obtain ⟨a, w, r, ⟨n, d⟩, c, rfl, ⟨hD, hS, hC, hL, hw, hr2⟩, h0, k⟩ := h
    have hs := hS ⟨n, d⟩ rfl
    obtain ⟨q, ar, xs, rfl, hsh⟩ := okC_form hC
    have h0' : q ≠ 0 := fun z => h0 (by rw [z]; rfl)
    have hL' : (q : Int) < 17 := hL
    have E : Ex H H := Ex.refl H
    refine q_when (b := decide (q = 1)) (et_test (ev_is (ev_op (ev_var rfl) ev_c (rv_eq rfl)) (num_eq q 1))) (fun hb H1 e1 => ?_) fun hb H1 e1 => ?_
    · have hq := of_decide_eq_true hb
      subst hq
      obtain ⟨⟨x0, rfl⟩, rfl⟩ : (∃ x0, ar = [x0]) ∧ xs = [] := by
        have z := hsh
        rw [show PyKh408.shape ((1 : Nat) : Int) = some (1, 0) by decide +kernel] at z
        obtain ⟨z1, z2⟩ := Prod.mk.inj (Option.some.inj z)
        exact ⟨List.length_eq_one_iff.mp z1.symm, List.eq_nil_of_length_eq_zero z2.symm⟩
      have E := E.trans e1
      refine s_retDM (ev_var rfl) (hD.ex E) (by decide +kernel) (by decide +kernel) (ea_cons (ev_op (ev_var rfl) ev_c (rv_ixL (sq_of (E w _ hw)) (ixI (l := [(x0 : Int)]) (i := 0) rfl))) ea_nil) fun H1 e1 hD1 => ⟨a, ⟨n, d⟩, x0, rfl, hD1, fun hb => ?_, fun hb => ?_⟩
      · have e0 : step (some ⟨n, d⟩) [[1, (x0 : Int)]] = (some ⟨n, d⟩, [-22]) := by
          show ((some (Kh408.does ⟨n, d⟩ (.goal x0)).1 : Option Kh408.Abs), (Kh408.does ⟨n, d⟩ (.goal x0)).2.ret :: (Kh408.does ⟨n, d⟩ (.goal x0)).2.out) = _
          rw [show Kh408.does ⟨n, d⟩ (.goal x0) = (⟨n, d⟩, Kh408.say (-22)) from if_pos hb]
          rfl
        have k2 : RetD C a (step (some ⟨n, d⟩) [[1, (x0 : Int)]]).1 ((step (some ⟨n, d⟩) [[1, (x0 : Int)]]).2.map V.int) H Q := k
        rw [e0] at k2
        exact RetD.mono k2 (E.trans e1)
      · have e0 : step (some ⟨n, d⟩) [[1, (x0 : Int)]] = (some ⟨n, x0⟩, [((d : Nat) : Int)]) := by
          show ((some (Kh408.does ⟨n, d⟩ (.goal x0)).1 : Option Kh408.Abs), (Kh408.does ⟨n, d⟩ (.goal x0)).2.ret :: (Kh408.does ⟨n, d⟩ (.goal x0)).2.out) = _
          rw [show Kh408.does ⟨n, d⟩ (.goal x0) = (⟨n, x0⟩, Kh408.say ((d : Nat) : Int)) from if_neg hb]
          rfl
        have k2 : RetD C a (step (some ⟨n, d⟩) [[1, (x0 : Int)]]).1 ((step (some ⟨n, d⟩) [[1, (x0 : Int)]]).2.map V.int) H Q := k
        rw [e0] at k2
        exact RetD.mono k2 (E.trans e1)
    have nq1 := of_decide_eq_false hb
    have E := E.trans e1
    refine q_when (b := decide (q = 7)) (et_test (ev_is (ev_op (ev_var rfl) ev_c (rv_eq rfl)) (num_eq q 7))) (fun hb H7 e7 => ?_) fun hb H7 e7 => ?_
    · have hq := of_decide_eq_true hb
      subst hq
      obtain ⟨rfl, ⟨b, rfl⟩⟩ : ar = [] ∧ ∃ b, xs = [b] := by
        have z := hsh
        rw [show PyKh408.shape ((7 : Nat) : Int) = some (0, 1) by decide +kernel] at z
        obtain ⟨z1, z2⟩ := Prod.mk.inj (Option.some.inj z)
        exact ⟨List.eq_nil_of_length_eq_zero z1.symm, List.length_eq_one_iff.mp z2.symm⟩
      have E := E.trans e7
      have k2 : RetD C a (step (some ⟨n, d⟩) [[7], b.map Int.ofNat]).1 ((step (some ⟨n, d⟩) [[7], b.map Int.ofNat]).2.map V.int) H Q := k
      have e0 : step (some ⟨n, d⟩) [[7], b.map Int.ofNat] = (some ⟨n, d⟩, provesAns n d b) := by
        show ((some ⟨n, d⟩ : Option Kh408.Abs), (Kh408.does ⟨n, d⟩ (.proves (Kh408Neutral.nats (b.map Int.ofNat)))).2.ret :: (Kh408.does ⟨n, d⟩ (.proves (Kh408Neutral.nats (b.map Int.ofNat)))).2.out) = _
        rw [nats_back]
        rfl
      rw [e0] at k2
      exact s_retDM (ev_var rfl) (hD.ex E) (by decide +kernel) (by decide +kernel) (ea_cons (ev_var rfl) ea_nil) fun H1 e1 hD1 => ⟨a, r, n, d, b, rfl, hD1, sq_of (e1 r _ (E r _ hr2)), hs.1, hs.2.1, hs.2.2, (RetD.mono k2 (E.trans e1)).l hD1⟩
    have nq7 := of_decide_eq_false hb
    have E := E.trans e7
    refine q_when (b := decide (q = 8)) (et_test (ev_is (ev_op (ev_var rfl) ev_c (rv_eq rfl)) (num_eq q 8))) (fun hb H8 e8 => ?_) fun hb H8 e8 => ?_
    · have hq := of_decide_eq_true hb
      subst hq
      obtain ⟨⟨x0, rfl⟩, ⟨b, rfl⟩⟩ : (∃ x0, ar = [x0]) ∧ ∃ b, xs = [b] := by
        have z := hsh
        rw [show PyKh408.shape ((8 : Nat) : Int) = some (1, 1) by decide +kernel] at z
        obtain ⟨z1, z2⟩ := Prod.mk.inj (Option.some.inj z)
        exact ⟨List.length_eq_one_iff.mp z1.symm, List.length_eq_one_iff.mp z2.symm⟩
      have E := E.trans e8
      have k2 : RetD C a (step (some ⟨n, d⟩) [[8, (x0 : Int)], b.map Int.ofNat]).1 ((step (some ⟨n, d⟩) [[8, (x0 : Int)], b.map Int.ofNat]).2.map V.int) H Q := k
      have e0 : step (some ⟨n, d⟩) [[8, (x0 : Int)], b.map Int.ofNat] = (some ⟨n, d⟩, atAns n x0 b) := by
        show ((some ⟨n, d⟩ : Option Kh408.Abs), (Kh408.does ⟨n, d⟩ (.at_ x0 (Kh408Neutral.nats (b.map Int.ofNat)))).2.ret :: (Kh408.does ⟨n, d⟩ (.at_ x0 (Kh408Neutral.nats (b.map Int.ofNat)))).2.out) = _
        rw [nats_back]
        exact congrArg _ (atAns_is n d x0 b)
      rw [e0] at k2
      exact s_retDM (ev_var rfl) (hD.ex E) (by decide +kernel) (by decide +kernel) (ea_cons (ev_op (ev_var rfl) ev_c (rv_ixL (sq_of (E w _ hw)) (ixI (l := [(x0 : Int)]) (i := 0) rfl))) (ea_cons (ev_var rfl) ea_nil)) fun H1 e1 hD1 => ⟨a, x0, r, n, d, b, rfl, hD1, sq_of (e1 r _ (E r _ hr2)), hs.2.2, (RetD.mono k2 (E.trans e1)).l hD1⟩
    have nq8 := of_decide_eq_false hb
    have E := E.trans e8
    refine q_when (b := decide (q = 12)) (et_test (ev_is (ev_op (ev_var rfl) ev_c (rv_eq rfl)) (num_eq q 12))) (fun hb H12 e12 => ?_) fun hb H12 e12 => ?_
    · have hq := of_decide_eq_true hb
      subst hq
      obtain ⟨rfl, ⟨b, rfl⟩⟩ : ar = [] ∧ ∃ b, xs = [b] := by
        have z := hsh
        rw [show PyKh408.shape ((12 : Nat) : Int) = some (0, 1) by decide +kernel] at z
        obtain ⟨z1, z2⟩ := Prod.mk.inj (Option.some.inj z)
        exact ⟨List.eq_nil_of_length_eq_zero z1.symm, List.length_eq_one_iff.mp z2.symm⟩
      have E := E.trans e12
      have k2 : RetD C a (step (some ⟨n, d⟩) [[12], b.map Int.ofNat]).1 ((step (some ⟨n, d⟩) [[12], b.map Int.ofNat]).2.map V.int) H Q := k
      have e0 : step (some ⟨n, d⟩) [[12], b.map Int.ofNat] = (some ⟨n, d⟩, ansOf n d (.apart b)) := by
        show ((some ⟨n, d⟩ : Option Kh408.Abs), ansOf n d (.apart (Kh408Neutral.nats (b.map Int.ofNat)))) = _
        rw [nats_back]
      rw [e0] at k2
      exact s_retDM (ev_var rfl) (hD.ex E) (by decide +kernel) (by decide +kernel) (ea_cons (ev_var rfl) ea_nil) fun H1 e1 hD1 => ⟨a, r, n, d, b, rfl, hD1, sq_of (e1 r _ (E r _ hr2)), hs.1, hs.2.1, hs.2.2, (RetD.mono k2 (E.trans e1)).l hD1⟩
    have nq12 := of_decide_eq_false hb
    have E := E.trans e12
    refine q_when (b := decide (q = 13)) (et_test (ev_is (ev_op (ev_var rfl) ev_c (rv_eq rfl)) (num_eq q 13))) (fun hb H13 e13 => ?_) fun hb H13 e13 => ?_
    · have hq := of_decide_eq_true hb
      subst hq
      obtain ⟨rfl, ⟨b, rfl⟩⟩ : ar = [] ∧ ∃ b, xs = [b] := by
        have z := hsh
        rw [show PyKh408.shape ((13 : Nat) : Int) = some (0, 1) by decide +kernel] at z
        obtain ⟨z1, z2⟩ := Prod.mk.inj (Option.some.inj z)
        exact ⟨List.eq_nil_of_length_eq_zero z1.symm, List.length_eq_one_iff.mp z2.symm⟩
      have E := E.trans e13
      have k2 : RetD C a (step (some ⟨n, d⟩) [[13], b.map Int.ofNat]).1 ((step (some ⟨n, d⟩) [[13], b.map Int.ofNat]).2.map V.int) H Q := k
      have e0 : step (some ⟨n, d⟩) [[13], b.map Int.ofNat] = (some ⟨n, d⟩, ansOf n d (.more b)) := by
        show ((some ⟨n, d⟩ : Option Kh408.Abs), ansOf n d (.more (Kh408Neutral.nats (b.map Int.ofNat)))) = _
        rw [nats_back]
      rw [e0] at k2
      exact s_retDM (ev_var rfl) (hD.ex E) (by decide +kernel) (by decide +kernel) (ea_cons (ev_var rfl) ea_nil) fun H1 e1 hD1 => ⟨a, r, n, d, b, rfl, hD1, sq_of (e1 r _ (E r _ hr2)), hs.1, hs.2.1, hs.2.2, (RetD.mono k2 (E.trans e1)).l hD1⟩
    have nq13 := of_decide_eq_false hb
    have E := E.trans e13
    refine q_when (b := decide (q = 14)) (et_test (ev_is (ev_op (ev_var rfl) ev_c (rv_eq rfl)) (num_eq q 14))) (fun hb H14 e14 => ?_) fun hb H14 e14 => ?_
    · have hq := of_decide_eq_true hb
      subst hq
      obtain ⟨rfl, ⟨b, rfl⟩⟩ : ar = [] ∧ ∃ b, xs = [b] := by
        have z := hsh
        rw [show PyKh408.shape ((14 : Nat) : Int) = some (0, 1) by decide +kernel] at z
        obtain ⟨z1, z2⟩ := Prod.mk.inj (Option.some.inj z)
        exact ⟨List.eq_nil_of_length_eq_zero z1.symm, List.length_eq_one_iff.mp z2.symm⟩
      have E := E.trans e14
      have k2 : RetD C a (step (some ⟨n, d⟩) [[14], b.map Int.ofNat]).1 ((step (some ⟨n, d⟩) [[14], b.map Int.ofNat]).2.map V.int) H Q := k
      have e0 : step (some ⟨n, d⟩) [[14], b.map Int.ofNat] = (some ⟨n, d⟩, ansOf n d (.fill b)) := by
        show ((some ⟨n, d⟩ : Option Kh408.Abs), ansOf n d (.fill (Kh408Neutral.nats (b.map Int.ofNat)))) = _
        rw [nats_back]
      rw [e0] at k2
      exact s_retDM (ev_var rfl) (hD.ex E) (by decide +kernel) (by decide +kernel) (ea_cons (ev_var rfl) ea_nil) fun H1 e1 hD1 => ⟨a, r, n, d, b, rfl, hD1, sq_of (e1 r _ (E r _ hr2)), hs.1, hs.2.1, hs.2.2, (RetD.mono k2 (E.trans e1)).l hD1⟩
    have nq14 := of_decide_eq_false hb
    have E := E.trans e14
    refine q_when (b := decide (q = 15)) (et_test (ev_is (ev_op (ev_var rfl) ev_c (rv_eq rfl)) (num_eq q 15))) (fun hb H15 e15 => ?_) fun hb H15 e15 => ?_
    · have hq := of_decide_eq_true hb
      subst hq
      obtain ⟨rfl, ⟨b, rfl⟩⟩ : ar = [] ∧ ∃ b, xs = [b] := by
        have z := hsh
        rw [show PyKh408.shape ((15 : Nat) : Int) = some (0, 1) by decide +kernel] at z
        obtain ⟨z1, z2⟩ := Prod.mk.inj (Option.some.inj z)
        exact ⟨List.eq_nil_of_length_eq_zero z1.symm, List.length_eq_one_iff.mp z2.symm⟩
      have E := E.trans e15
      have k2 : RetD C a (step (some ⟨n, d⟩) [[15], b.map Int.ofNat]).1 ((step (some ⟨n, d⟩) [[15], b.map Int.ofNat]).2.map V.int) H Q := k
      have e0 : step (some ⟨n, d⟩) [[15], b.map Int.ofNat] = (some ⟨n, d⟩, ansOf n d (.held b)) := by
        show ((some ⟨n, d⟩ : Option Kh408.Abs), ansOf n d (.held (Kh408Neutral.nats (b.map Int.ofNat)))) = _
        rw [nats_back]
      rw [e0] at k2
      exact s_retDM (ev_var rfl) (hD.ex E) (by decide +kernel) (by decide +kernel) (ea_cons (ev_var rfl) ea_nil) fun H1 e1 hD1 => ⟨a, r, n, d, b, rfl, hD1, sq_of (e1 r _ (E r _ hr2)), hs.1, hs.2.1, hs.2.2, (RetD.mono k2 (E.trans e1)).l hD1⟩
    have nq15 := of_decide_eq_false hb
    have E := E.trans e15
    have hq17 : q < 17 := by omega
    obtain ⟨c, hc⟩ := alone_some hq17 ⟨h0', nq1, nq7, nq8, nq12, nq13, nq14, nq15⟩
    have z := hsh
    rw [alone_shape hc] at z
    obtain ⟨z1, z2⟩ := Prod.mk.inj (Option.some.inj z)
    have z3 : ar = [] := List.eq_nil_of_length_eq_zero z1.symm
    have z4 : xs = [] := List.eq_nil_of_length_eq_zero z2.symm
    subst z3 z4
    have k2 : RetD C a (step (some ⟨n, d⟩) [[(q : Int)]]).1 ((step (some ⟨n, d⟩) [[(q : Int)]]).2.map V.int) H Q := k
    rw [alone_step hc] at k2
    exact s_retC (ea_cons (ev_var rfl) (ea_cons (ev_var rfl) ea_nil)) fun H1 e1 => ⟨a, q, n, d, c, rfl, hD.ex (E.trans e1), hs.1, hs.2.1, hs.2.2, hc, (RetD.mono k2 (E.trans e1)).l (hD.ex (E.trans e1))⟩
abbrev s_answer_call : Stmt := top 68
theorem sc_answer_call : FnScope ["desk", "call", "wholes", "row"] ["desk", "call", "wholes", "row"] (defScope s_answer_call) := ⟨rfl, rfl, rfl, by decide +kernel, rfl, by decide +kernel, by decide +kernel⟩

def spCall (C : Addr) : Sp := fun vs H Q _ => ∃ (a w r : Addr) (s : Option Kh408.Abs) (c : List (List Int)), vs = [.ref a, .int (headOf c), .ref w, .ref r] ∧ CallIn C H a w r s c ∧ RetD C a (step s c).1 ((step s c).2.map V.int) H Q
theorem step_begin (s : Option Kh408.Abs) (n d : Nat) : step s [[0, (n : Int), (d : Int)]] = if n < 1 ∨ 6 < n ∨ d < 1 ∨ n < d then (s, [-22]) else (some ⟨n, d⟩, [0]) := by
  show ((if n < 1 ∨ 6 < n ∨ d < 1 ∨ n < d then ((s, Kh408.say (-22)) : Option Kh408.Abs × Kh408.Ans) else (some ⟨n, d⟩, Kh408.say 0)).1, _ :: _) = _
  have e : Kh408.doing s (Kh408Neutral.callOf1 [[0, (n : Int), (d : Int)]]) = if n < 1 ∨ 6 < n ∨ d < 1 ∨ n < d then (s, Kh408.say (-22)) else (some ⟨n, d⟩, Kh408.say 0) := by
    cases s <;> rfl
  show ((Kh408.doing s (Kh408Neutral.callOf1 [[0, (n : Int), (d : Int)]])).1, (Kh408.doing s (Kh408Neutral.callOf1 [[0, (n : Int), (d : Int)]])).2.ret :: (Kh408.doing s (Kh408Neutral.callOf1 [[0, (n : Int), (d : Int)]])).2.out) = _
  rw [e]
  split <;> rfl
theorem callOf_begin : ∀ (c : List (List Int)), Kh408Neutral.nat (headOf c) ≠ 0 → ∀ n d, Kh408Neutral.callOf1 c ≠ .begin_ n d := by
  intro c h n d
  unfold Kh408Neutral.callOf1
  have e : Kh408Neutral.nat ((c.getD 0 []).getD 0 0) = Kh408Neutral.nat (headOf c) := by
    unfold headOf
    cases c with
    | nil => rfl
    | cons x r => cases x <;> rfl
  simp only [e]
  split <;> simp_all
theorem step_none {c : List (List Int)} (h : Kh408Neutral.nat (headOf c) ≠ 0) : step none c = (none, [-61]) := by
  have hb := callOf_begin c h
  show ((Kh408.doing none (Kh408Neutral.callOf1 c)).1, (Kh408.doing none (Kh408Neutral.callOf1 c)).2.ret :: (Kh408.doing none (Kh408Neutral.callOf1 c)).2.out) = _
  have e : Kh408.doing none (Kh408Neutral.callOf1 c) = (none, Kh408.say (-61)) := by
    cases hc : Kh408Neutral.callOf1 c <;> first | rfl | exact absurd hc (hb _ _)
  rw [e]
  rfl
theorem ok_answer_call {f : Addr} {fd : FuncData} (F : Fun K "answer_call" "answer_call" s_answer_call f fd) (c_answer_begun : Cal P w K mg base "answer_begun" 7 ["desk", "call", "wholes", "row"] (spBegun C)) (m_is_begun : Met P w K mg base C "is_begun" 1 ["self"] (spIsB C)) (g_NOT_BEGUN : GInt mg "NOT_BEGUN" (-61)) (g_BEGIN : GInt mg "BEGIN" (0)) (m_begin : Met P w K mg base C "begin" 1 ["self", "bits", "distance"] (spBegin C)) (T : DeskT K C): FnOk P w K mg base CX0 8 f fd ["desk", "call", "wholes", "row"] (spCall C) := by
  refine F.ok sc_answer_call (fun vs H Q E h => ?_) (fun cdv A outer s H vs Q E hr h => ⟨_, (pss_cons (ps_if (pt_cmpR op_eq (pv 1) (pe_gi g_BEGIN) (nomark _)) (pss_one (ps_ret (pe_met (pv 0) m_begin (hr.mono (by decide)) (pa_cons (pe_ix (r := rIxL K) ix_list (pv 2) pe_int (fun _ _ => rfl)) (pa_cons (pe_ix (r := rIxL K) ix_list (pv 2) pe_int (fun _ _ => rfl)) pa_nil))))) pss_nil)
      (pss_cons (ps_if (pt_not (pt_val (pe_met0 (pv 0) m_is_begun (hr.mono (by decide))))) (pss_one (ps_ret (pe_lst (pa_cons (pe_gi g_NOT_BEGUN) pa_nil)))) pss_nil)
      (pss_one (ps_ret (pe_cal c_answer_begun (hr.mono (by decide)) (pa_cons (pv 0) (pa_cons (pv 1) (pa_cons (pv 2) (pa_cons (pv 3) pa_nil))))))))), ?_⟩)
  · obtain ⟨a, w, r, s, c, rfl, _⟩ := h
    rfl
  · obtain ⟨a, w, r, s, c, rfl, hI, k⟩ := h
    obtain ⟨hD, hS, hC, hL, hw, hr2⟩ := hI
    obtain ⟨q, ar, xs, rfl, hsh⟩ := okC_form hC
    refine q_when (b := decide (q = 0)) (et_test (ev_is (ev_op (ev_var rfl) ev_c (rv_eq rfl)) (num_eq q 0))) (fun hb H1 e1 => ?_) fun hb H1 e1 => ?_
    · have hq := of_decide_eq_true hb
      subst hq
      have z := hsh
      rw [show PyKh408.shape ((0 : Nat) : Int) = some (2, 0) by decide +kernel] at z
      obtain ⟨z1, z2⟩ := Prod.mk.inj (Option.some.inj z)
      obtain ⟨n, d, rfl⟩ : ∃ n d, ar = [n, d] := match ar, z1.symm with
        | [n, d], _ => ⟨n, d, rfl⟩
      have hx0 : xs = [] := List.eq_nil_of_length_eq_zero z2.symm
      subst hx0
      have k2 : RetD C a (step s [[0, (n : Int), (d : Int)]]).1 ((step s [[0, (n : Int), (d : Int)]]).2.map V.int) H Q := k
      rw [step_begin] at k2
      refine s_retDM (ev_var rfl) (hD.ex e1) (by decide +kernel) (by decide +kernel) (ea_cons (ev_op (ev_var rfl) ev_c (rv_ixL (sq_of (e1 w _ hw)) (ixI (l := [(n : Int), (d : Int)]) (i := 0) rfl))) (ea_cons (ev_op (ev_var rfl) ev_c (rv_ixL (sq_of (e1 w _ hw)) (ixI (l := [(n : Int), (d : Int)]) (i := 1) rfl))) ea_nil)) fun H2 e2 hD2 => ⟨a, s, n, d, rfl, hD2, fun hb => ?_, fun hb => ?_⟩
      · rw [if_pos hb] at k2
        exact RetD.mono k2 (e1.trans e2)
      · rw [if_neg hb] at k2
        exact RetD.mono k2 (e1.trans e2)
    have hq := of_decide_eq_false hb
    have hq' : Kh408Neutral.nat (headOf (((q : Int) :: ar.map Int.ofNat) :: xs.map fun b => b.map Int.ofNat)) ≠ 0 := hq
    refine q_when (b := !decide (0 < bitsOf s)) (et_not (et_begun (ev_var rfl) (hD.ex e1))) (fun hc H2 e2 => ?_) fun hc H2 e2 => ?_
    · have hs : s = none := by
        cases s with
        | none => rfl
        | some x =>
          have z : 0 < x.n := by have := hS x rfl; omega
          rw [show decide (0 < bitsOf (some x)) = true from decide_eq_true z] at hc
          cases hc
      subst hs
      rw [step_none hq'] at k
      exact s_retL (el_lst (ea_cons ev_c ea_nil) (by show 1 ≤ 100000; decide)) fun p H3 hp e3 h3 => (k.l hD).go (e1.trans e2) hp e3 h3
    · cases s with
      | none => cases hc
      | some x => exact s_retC (ea_cons (ev_var rfl) (ea_cons (ev_var rfl) (ea_cons (ev_var rfl) (ea_cons (ev_var rfl) ea_nil)))) fun H3 e3 => ⟨a, w, r, x, _, rfl, ⟨hD.ex ((e1.trans e2).trans e3), hS, hC, hL, ((e1.trans e2).trans e3) w _ hw, ((e1.trans e2).trans e3) r _ hr2⟩, fun z => hq (by have z' : (q : Int) = 0 := z; omega), RetD.mono k ((e1.trans e2).trans e3)⟩
abbrev s_answers : Stmt := top 69
theorem sc_answers : FnScope ["calls", "desk", "answered", "call", "wholes", "row", "answer"] ["calls"] (defScope s_answers) := ⟨rfl, rfl, rfl, by decide +kernel, rfl, by decide +kernel, by decide +kernel⟩

/-! ### the whole list of calls -/
def stAt (s : Option Kh408.Abs) (cs : List (List (List Int))) : Option Kh408.Abs := cs.foldl (fun s c => (step s c).1) s
theorem stAt_more (s : Option Kh408.Abs) (cs : List (List (List Int))) (c : List (List Int)) : stAt s (cs ++ [c]) = (step (stAt s cs) c).1 := by
  unfold stAt
  rw [List.foldl_append]
  rfl
theorem played_more : ∀ (cs : List (List (List Int))) (s : Option Kh408.Abs) (c : List (List Int)), PyFlat.played step s (cs ++ [c]) = PyFlat.played step s cs ++ [(step (stAt s cs) c).2]
  | [], _, _ => rfl
  | x :: r, s, c => by
    show (step s x).2 :: PyFlat.played step (step s x).1 (r ++ [c]) = (step s x).2 :: PyFlat.played step (step s x).1 r ++ [(step (stAt (step s x).1 r) c).2]
    rw [played_more r]
    rfl
theorem told_more (l : List (List Int)) (x : List Int) : PyFlat.told (l ++ [x]) = (PyFlat.told l ++ [((x.length : Nat) : Int)]) ++ x := by
  unfold PyFlat.told
  rw [List.flatMap_append]
  simp
abbrev due (cs : List (List (List Int))) : List Int := PyFlat.told (PyFlat.played step none cs)
theorem due_take {cs : List (List (List Int))} {i : Nat} {c : List (List Int)} (h : cs[i]? = some c) : due (cs.take (i + 1)) = (due (cs.take i) ++ [(((step (stAt none (cs.take i)) c).2.length : Nat) : Int)]) ++ (step (stAt none (cs.take i)) c).2 := by
  unfold due
  rw [take_more h, played_more, told_more]
theorem due_le {cs : List (List (List Int))} : ∀ k, (due (cs.take (cs.length - k))).length ≤ (due cs).length
  | 0 => by rw [Nat.sub_zero, List.take_length]; exact Nat.le_refl _
  | k + 1 => by
    by_cases c : k < cs.length
    · have ih := due_le (cs := cs) k
      have e : cs.length - k = cs.length - (k + 1) + 1 := by omega
      rw [e, due_take (List.getElem?_eq_getElem (show cs.length - (k + 1) < cs.length by omega))] at ih
      simp only [List.length_append] at ih
      omega
    · rw [show cs.length - (k + 1) = cs.length - k by omega]
      exact due_le k
theorem okS_step {s : Option Kh408.Abs} (h : OkS s) (c : List (List Int)) : OkS (step s c).1 := by
  show OkS (Kh408.doing s (Kh408Neutral.callOf1 c)).1
  cases Kh408Neutral.callOf1 c with
  | begin_ n d =>
    have e : Kh408.doing s (.begin_ n d) = if n < 1 ∨ 6 < n ∨ d < 1 ∨ n < d then (s, Kh408.say (-22)) else (some ⟨n, d⟩, Kh408.say 0) := by cases s <;> rfl
    rw [e]
    split
    · exact h
    · intro x hx
      have : x = ⟨n, d⟩ := (Option.some.inj hx).symm
      subst this
      show 1 ≤ d ∧ d ≤ n ∧ n ≤ 6
      omega
  | goal d =>
    cases s with
    | none => exact h
    | some a =>
      show OkS (some (Kh408.does a (.goal d)).1)
      have e : Kh408.does a (.goal d) = if d < 1 ∨ a.n < d then (a, Kh408.say (-22)) else ({ a with d := d }, Kh408.say a.d) := rfl
      rw [e]
      have := h a rfl
      split
      · exact h
      · intro x hx
        have : x = { a with d := d } := (Option.some.inj hx).symm
        subst this
        show 1 ≤ d ∧ d ≤ a.n ∧ a.n ≤ 6
        omega
  | _ => cases s <;> exact h
theorem okS_at {cs : List (List (List Int))} : OkS (stAt none cs) := by
  have : ∀ (cs : List (List (List Int))) (s : Option Kh408.Abs), OkS s → OkS (stAt s cs) := by
    intro cs
    induction cs with
    | nil => exact fun s h => h
    | cons c r ih => exact fun s h => ih _ (okS_step h c)
  exact this cs none fun x hx => by cases hx
def spAns (K : PySem.W.Frag) : Sp := fun vs H Q _ => ∃ (a : Addr) (cs : List (List (List Int))), vs = [.ref a] ∧ SqL K H a ((PyFlat.put cs).map V.int) ∧ (∀ c ∈ cs, OkC c ∧ headOf c < 17) ∧ cs.length ≤ 5000 ∧ (due cs).length ≤ 10000000 ∧
  ∀ (H' : Hp) (p : Addr), H' p = some (.lst ((due cs).map V.int)) → Q (.ref p) H'
theorem ok_answers {f : Addr} {fd : FuncData} (F : Fun K "answers" "answers" s_answers f fd) (c_split_calls : Cal P w K mg base "split_calls" 1 ["calls"] (spSplit K)) (b_len : mg "len" = none) (c_answer_call : Cal P w K mg base "answer_call" 8 ["desk", "call", "wholes", "row"] (spCall C)) (mk_Desk : Mkc P w K mg base "Desk" C 1 ["self"] (spInit C)) (T : DeskT K C): FnOk P w K mg base CX0 9 f fd ["calls"] (spAns K) := by
  refine F.ok sc_answers (fun vs H Q E h => ?_) (fun cdv A outer s H vs Q E hr h => ⟨_, (pss_cons (ps_set (i := 1) sc_answers.nd rfl (Or.inl rfl) (pe_mkc0 mk_Desk (hr.mono (by decide))))
      (pss_cons (ps_set (i := 2) sc_answers.nd rfl (Or.inl rfl) (pe_lst pa_nil))
      (pss_cons (ps_for PassesOwn.never rfl (pi_list (pe_cal c_split_calls (hr.mono (by decide)) (pa_cons (pv 0) pa_nil))) (pg_tup rfl (pgs_cons (pg_name (i := 3) sc_answers.nd rfl (Or.inl rfl)) (pgs_cons (pg_name (i := 4) sc_answers.nd rfl (Or.inl rfl)) (pgs_cons (pg_name (i := 5) sc_answers.nd rfl (Or.inl rfl)) pgs_nil)))) (pss_cons (ps_set (i := 6) sc_answers.nd rfl (Or.inl rfl) (pe_cal c_answer_call (hr.mono (by decide)) (pa_cons (pv 1) (pa_cons (pv 3) (pa_cons (pv 4) (pa_cons (pv 5) pa_nil))))))
      (pss_cons (ps_expr (pe_bm PySem.F.plainAttrs_list PySem.F.slot_list_append PySem.F.type_list_append mt_append (pv 2) (pa_cons (pe_callB call_len_seq (by rfl) b_len PySem.boot_len (pa_cons (pv 6) pa_nil)) pa_nil)))
      (pss_one (ps_expr (pe_bm PySem.F.plainAttrs_list PySem.F.slot_list_extend PySem.F.type_list_extend mt_extend (pv 2) (pa_cons (pv 6) pa_nil)))))))
      (pss_one (ps_ret (pv 2)))))), ?_⟩)
  · obtain ⟨a, cs, rfl, _⟩ := h
    rfl
  · obtain ⟨a, cs, rfl, hS, hok, hlen, hdue, k⟩ := h
    -- desk = Desk()
    intro x dx nx nd ne
    refine ⟨x, dx, rfl, upd_same, fun H1 J kp => ⟨rfl, ?_⟩⟩
    have s1 : Ex H H1 := fun b o q => kp b o (by
      rw [upd_ne (ne_of_none q nx), upd_ne (ne_of_none q nd)]
      exact q) (ne_of_none q nx)
    refine q_asgL (el_lst ea_nil (by show 0 ≤ 100000; decide)) fun p H2 hp e2 h2 => ?_
    -- for .. in split_calls(calls)
    have e3 : Ex H2 H2 := Ex.refl H2
    refine ⟨_, rfl, a, cs, rfl, ex_l ((s1.trans e2).trans e3) hS, fun c hc => (hok c hc).1.1, hlen, fun l H4 ts hl e4 h4 hsp => ⟨l, rfl, ⟨_, sq_of h4⟩, ?_⟩⟩
    have hx3 : DeskAt C H2 x none := (J.ex e2).ex e3
    have hx4 : DeskAt C H4 x none := hx3.ex e4
    have hp4 : H4 p = some (.lst []) := e4 p _ (e3 p _ h2)
    have npx : p ≠ x := fun z => by
      obtain ⟨dy, hy⟩ := hx4
      rw [z, hy] at hp4
      cases hp4
    refine for_list (K := K) (a := l) (xs := ts) (fun i σ' H' => ∃ (v3 v4 v5 v6 : Option V), σ' = [some (.ref a), some (.ref x), some (.ref p), v3, v4, v5, v6] ∧ (∀ b o, H4 b = some o → b ≠ x → b ≠ p → H' b = some o) ∧ DeskAt C H' x (stAt none (cs.take i)) ∧ H' p = some (.lst ((due (cs.take i)).map V.int)))
      ⟨_, _, _, _, rfl, fun b o q _ _ => q, hx4, hp4⟩ ?_ ?_ ?_
    · rintro i σ' H' hi ⟨_, _, _, _, _, kk, _, _⟩
      refine sq_of (kk l _ h4 (fun z => ?_) fun z => ?_)
      · obtain ⟨dy, hy⟩ := hx3
        rw [z, hy] at hl
        cases hl
      · rw [z, e3 p _ h2] at hl
        cases hl
    · rintro i v σ' H' hi ⟨v3, v4, v5, v6, rfl, kk, hDi, hpi⟩
      have hil : i < cs.length := by
        have := (List.getElem?_eq_some_iff.mp hi).1
        rw [hsp.1] at this
        exact this
      have hc := List.getElem?_eq_getElem hil
      obtain ⟨u, hu, t, wl, rl, rfl, _, _, _, ft, fw, fr, ht, hw, hr2⟩ := hsp.2 i _ hc
      have : V.ref t = v := by
        rw [hi] at hu
        exact (Option.some.inj hu).symm
      subst this
      have nx3 : ∀ b, H2 b = none → b ≠ x ∧ b ≠ p := fun b hb => by
        obtain ⟨dy, hy⟩ := hx3
        refine ⟨fun z => ?_, fun z => ?_⟩
        · rw [z, hy] at hb
          cases hb
        · rw [z, e3 p _ h2] at hb
          cases hb
      have ht' := kk t _ ht (nx3 t ft).1 (nx3 t ft).2
      have hw' := kk wl _ hw (nx3 wl fw).1 (nx3 wl fw).2
      have hr' := kk rl _ hr2 (nx3 rl fr).1 (nx3 rl fr).2
      refine ⟨t, _, rfl, st_of ht', rfl, _, _, rfl, _, _, rfl, _, _, rfl, rfl, ?_⟩
      -- answer = answer_call(desk, call, wholes, row)
      have e5 : Ex H' H' := Ex.refl H'
      have hci := hok _ (List.getElem_mem hil)
      refine ⟨_, rfl, _, rfl, _, rfl, _, rfl, x, wl, rl, stAt none (cs.take i), cs[i], rfl, ⟨hDi.ex e5, okS_at, hci.1, hci.2, e5 wl _ hw', e5 rl _ hr'⟩, fun H6 an kp6 hD6 fan h6 => ?_⟩
      have hp6 : H6 p = some (.lst ((due (cs.take i)).map V.int)) := kp6 p _ (e5 p _ hpi) npx
      have nan : an ≠ p := fun z => by rw [z, e5 p _ hpi] at fan; cases fan
      have nax : an ≠ x := fun z => by
        obtain ⟨dy, hy⟩ := hDi.ex e5
        rw [z, hy] at fan
        cases fan
      have dt := due_take hc
      have dl := due_le (cs := cs) (cs.length - (i + 1))
      rw [show cs.length - (cs.length - (i + 1)) = i + 1 by omega, dt] at dl
      simp only [List.length_append, List.length_singleton] at dl
      -- answered.append(len(answer))
      refine s_app2 (D := { nx := _, rt := _, bk := _, ct := _ }) hp6 (ev_var rfl) (ev_len (ev_var rfl) (sq_of h6)) (by rw [List.length_map]; exact Nat.lt_of_lt_of_le (by omega : _ < 10000001) (by decide)) fun H7 e7 => ?_
      have h7 : (upd H7 p (.lst ((due (cs.take i)).map V.int ++ [.int ((((step (stAt none (cs.take i)) cs[i]).2.map V.int).length : Nat) : Int)]))) an = some (.lst ((step (stAt none (cs.take i)) cs[i]).2.map V.int)) := by
        rw [upd_ne nan]
        exact e7 an _ h6
      refine s_ext2 upd_same h7 (ev_var rfl) (ev_var rfl) (by simp only [List.length_append, List.length_map, List.length_singleton]; exact Nat.le_trans (by omega : _ ≤ 10000000) (by decide)) fun H8 e8 => ?_
      refine ⟨_, _, _, _, rfl, fun b o q nbx nbp => ?_, ?_, ?_⟩
      · rw [upd_ne nbp]
        refine e8 b o ?_
        rw [upd_ne nbp]
        exact e7 b o (kp6 b o (e5 b o (kk b o q nbx nbp)) nbx)
      · rw [take_more hc, stAt_more]
        obtain ⟨dy, hy⟩ := hD6
        refine ⟨dy, ?_⟩
        rw [upd_ne npx.symm]
        refine e8 x _ ?_
        rw [upd_ne npx.symm]
        exact e7 x _ hy
      · rw [upd_same, dt]
        simp [List.map_append]
    · rintro σ' H' ⟨v3, v4, v5, v6, rfl, _, _, hpi⟩
      rw [hsp.1, List.take_length] at hpi
      exact s_ret (ev_var rfl) fun H5 e5 => k H5 p (e5 p _ hpi)
end
end Fw

set_option Elab.async false
set_option linter.all false
set_option maxRecDepth 100000
set_option maxHeartbeats 2000000
namespace Fw
open PySem PySem.Spec PyProof.Rows L2 Evl
theorem all_mk {P : Program} {w : World} {K : PySem.W.Frag} {h : Heap} {mg : Str → Option Value} {fa : Addr} (X : K.In h) (G : h.Ns mainGlobals mg) (hfa : mg "answers" = some (.ref fa))
    {C : Addr}
    {i_LARGEST_NUMBER : _}
    {i_NOT_SO : _}
    {i_MOST_BITS : _}
    {i_NOT_RIGHT : _}
    {i_NO_WORDS : _}
    {a_ROWS : Addr} {oc_ROWS : Value} {od_ROWS : Option Addr} {its_ROWS : Array Value} {n_ROWS : Nat} {sl_ROWS : Array (Option Value)}
    {a_WHOLES : Addr} {oc_WHOLES : Value} {od_WHOLES : Option Addr} {its_WHOLES : Array Value} {n_WHOLES : Nat} {sl_WHOLES : Array (Option Value)}
    {i_TAKEN : _}
    {i_SPREAD : _}
    {i_BEST_PROOF : _}
    {i_LEAST : _}
    {i_BY_EVEN : _}
    {i_BY_MEAN : _}
    {i_BY_CUT : _}
    {i_BY_BALLS : _}
    {i_HELD : _}
    {i_FILL : _}
    {i_MORE : _}
    {i_APART : _}
    {i_AT : _}
    {i_PROVES : _}
    {i_GOAL : _}
    {i_NOT_BEGUN : _}
    {i_BEGIN : _}
    {f_power_of_two : Addr} {oc_power_of_two : Value} {od_power_of_two : Option Addr} {kV_power_of_two dc_power_of_two pm_power_of_two : Value} {an_power_of_two : Option Addr} {cd_power_of_two ct_power_of_two : Value} {sl_power_of_two : Array (Option Value)}
    {f_choose : Addr} {oc_choose : Value} {od_choose : Option Addr} {kV_choose dc_choose pm_choose : Value} {an_choose : Option Addr} {cd_choose ct_choose : Value} {sl_choose : Array (Option Value)}
    {f_sign_sum : Addr} {oc_sign_sum : Value} {od_sign_sum : Option Addr} {kV_sign_sum dc_sign_sum pm_sign_sum : Value} {an_sign_sum : Option Addr} {cd_sign_sum ct_sign_sum : Value} {sl_sign_sum : Array (Option Value)}
    {f_comes_to : Addr} {oc_comes_to : Value} {od_comes_to : Option Addr} {kV_comes_to dc_comes_to pm_comes_to : Value} {an_comes_to : Option Addr} {cd_comes_to ct_comes_to : Value} {sl_comes_to : Array (Option Value)}
    {f_common_part : Addr} {oc_common_part : Value} {od_common_part : Option Addr} {kV_common_part dc_common_part pm_common_part : Value} {an_common_part : Option Addr} {cd_common_part ct_common_part : Value} {sl_common_part : Array (Option Value)}
    {f_lowest_terms : Addr} {oc_lowest_terms : Value} {od_lowest_terms : Option Addr} {kV_lowest_terms dc_lowest_terms pm_lowest_terms : Value} {an_lowest_terms : Option Addr} {cd_lowest_terms ct_lowest_terms : Value} {sl_lowest_terms : Array (Option Value)}
    {f_by_balls : Addr} {oc_by_balls : Value} {od_by_balls : Option Addr} {kV_by_balls dc_by_balls pm_by_balls : Value} {an_by_balls : Option Addr} {cd_by_balls ct_by_balls : Value} {sl_by_balls : Array (Option Value)}
    {f_by_cut : Addr} {oc_by_cut : Value} {od_by_cut : Option Addr} {kV_by_cut dc_by_cut pm_by_cut : Value} {an_by_cut : Option Addr} {cd_by_cut ct_by_cut : Value} {sl_by_cut : Array (Option Value)}
    {f_by_mean : Addr} {oc_by_mean : Value} {od_by_mean : Option Addr} {kV_by_mean dc_by_mean pm_by_mean : Value} {an_by_mean : Option Addr} {cd_by_mean ct_by_mean : Value} {sl_by_mean : Array (Option Value)}
    {f_by_even : Addr} {oc_by_even : Value} {od_by_even : Option Addr} {kV_by_even dc_by_even pm_by_even : Value} {an_by_even : Option Addr} {cd_by_even ct_by_even : Value} {sl_by_even : Array (Option Value)}
    {f_least_bound : Addr} {oc_least_bound : Value} {od_least_bound : Option Addr} {kV_least_bound dc_least_bound pm_least_bound : Value} {an_least_bound : Option Addr} {cd_least_bound ct_least_bound : Value} {sl_least_bound : Array (Option Value)}
    {f_is_right_row : Addr} {oc_is_right_row : Value} {od_is_right_row : Option Addr} {kV_is_right_row dc_is_right_row pm_is_right_row : Value} {an_is_right_row : Option Addr} {cd_is_right_row ct_is_right_row : Value} {sl_is_right_row : Array (Option Value)}
    {f_is_proof : Addr} {oc_is_proof : Value} {od_is_proof : Option Addr} {kV_is_proof dc_is_proof pm_is_proof : Value} {an_is_proof : Option Addr} {cd_is_proof ct_is_proof : Value} {sl_is_proof : Array (Option Value)}
    {f_bound_or_refusal : Addr} {oc_bound_or_refusal : Value} {od_bound_or_refusal : Option Addr} {kV_bound_or_refusal dc_bound_or_refusal pm_bound_or_refusal : Value} {an_bound_or_refusal : Option Addr} {cd_bound_or_refusal ct_bound_or_refusal : Value} {sl_bound_or_refusal : Array (Option Value)}
    {f_Desk___init__ : Addr} {oc_Desk___init__ : Value} {od_Desk___init__ : Option Addr} {kV_Desk___init__ dc_Desk___init__ pm_Desk___init__ : Value} {an_Desk___init__ : Option Addr} {cd_Desk___init__ ct_Desk___init__ : Value} {sl_Desk___init__ : Array (Option Value)}
    {f_Desk_is_begun : Addr} {oc_Desk_is_begun : Value} {od_Desk_is_begun : Option Addr} {kV_Desk_is_begun dc_Desk_is_begun pm_Desk_is_begun : Value} {an_Desk_is_begun : Option Addr} {cd_Desk_is_begun ct_Desk_is_begun : Value} {sl_Desk_is_begun : Array (Option Value)}
    {f_Desk_begin : Addr} {oc_Desk_begin : Value} {od_Desk_begin : Option Addr} {kV_Desk_begin dc_Desk_begin pm_Desk_begin : Value} {an_Desk_begin : Option Addr} {cd_Desk_begin ct_Desk_begin : Value} {sl_Desk_begin : Array (Option Value)}
    {f_Desk_goal : Addr} {oc_Desk_goal : Value} {od_Desk_goal : Option Addr} {kV_Desk_goal dc_Desk_goal pm_Desk_goal : Value} {an_Desk_goal : Option Addr} {cd_Desk_goal ct_Desk_goal : Value} {sl_Desk_goal : Array (Option Value)}
    {f_Desk_balls : Addr} {oc_Desk_balls : Value} {od_Desk_balls : Option Addr} {kV_Desk_balls dc_Desk_balls pm_Desk_balls : Value} {an_Desk_balls : Option Addr} {cd_Desk_balls ct_Desk_balls : Value} {sl_Desk_balls : Array (Option Value)}
    {f_Desk_cut : Addr} {oc_Desk_cut : Value} {od_Desk_cut : Option Addr} {kV_Desk_cut dc_Desk_cut pm_Desk_cut : Value} {an_Desk_cut : Option Addr} {cd_Desk_cut ct_Desk_cut : Value} {sl_Desk_cut : Array (Option Value)}
    {f_Desk_mean : Addr} {oc_Desk_mean : Value} {od_Desk_mean : Option Addr} {kV_Desk_mean dc_Desk_mean pm_Desk_mean : Value} {an_Desk_mean : Option Addr} {cd_Desk_mean ct_Desk_mean : Value} {sl_Desk_mean : Array (Option Value)}
    {f_Desk_even : Addr} {oc_Desk_even : Value} {od_Desk_even : Option Addr} {kV_Desk_even dc_Desk_even pm_Desk_even : Value} {an_Desk_even : Option Addr} {cd_Desk_even ct_Desk_even : Value} {sl_Desk_even : Array (Option Value)}
    {f_Desk_least : Addr} {oc_Desk_least : Value} {od_Desk_least : Option Addr} {kV_Desk_least dc_Desk_least pm_Desk_least : Value} {an_Desk_least : Option Addr} {cd_Desk_least ct_Desk_least : Value} {sl_Desk_least : Array (Option Value)}
    {f_Desk_proves : Addr} {oc_Desk_proves : Value} {od_Desk_proves : Option Addr} {kV_Desk_proves dc_Desk_proves pm_Desk_proves : Value} {an_Desk_proves : Option Addr} {cd_Desk_proves ct_Desk_proves : Value} {sl_Desk_proves : Array (Option Value)}
    {f_Desk_at : Addr} {oc_Desk_at : Value} {od_Desk_at : Option Addr} {kV_Desk_at dc_Desk_at pm_Desk_at : Value} {an_Desk_at : Option Addr} {cd_Desk_at ct_Desk_at : Value} {sl_Desk_at : Array (Option Value)}
    {f_first_table : Addr} {oc_first_table : Value} {od_first_table : Option Addr} {kV_first_table dc_first_table pm_first_table : Value} {an_first_table : Option Addr} {cd_first_table ct_first_table : Value} {sl_first_table : Array (Option Value)}
    {f_first_broken : Addr} {oc_first_broken : Value} {od_first_broken : Option Addr} {kV_first_broken dc_first_broken pm_first_broken : Value} {an_first_broken : Option Addr} {cd_first_broken ct_first_broken : Value} {sl_first_broken : Array (Option Value)}
    {f_is_lesser_column : Addr} {oc_is_lesser_column : Value} {od_is_lesser_column : Option Addr} {kV_is_lesser_column dc_is_lesser_column pm_is_lesser_column : Value} {an_is_lesser_column : Option Addr} {cd_is_lesser_column ct_is_lesser_column : Value} {sl_is_lesser_column : Array (Option Value)}
    {f_column_to_change : Addr} {oc_column_to_change : Value} {od_column_to_change : Option Addr} {kV_column_to_change dc_column_to_change pm_column_to_change : Value} {an_column_to_change : Option Addr} {cd_column_to_change ct_column_to_change : Value} {sl_column_to_change : Array (Option Value)}
    {f_changed_row : Addr} {oc_changed_row : Value} {od_changed_row : Option Addr} {kV_changed_row dc_changed_row pm_changed_row : Value} {an_changed_row : Option Addr} {cd_changed_row ct_changed_row : Value} {sl_changed_row : Array (Option Value)}
    {f_least_point : Addr} {oc_least_point : Value} {od_least_point : Option Addr} {kV_least_point dc_least_point pm_least_point : Value} {an_least_point : Option Addr} {cd_least_point ct_least_point : Value} {sl_least_point : Array (Option Value)}
    {f_best_proof_point : Addr} {oc_best_proof_point : Value} {od_best_proof_point : Option Addr} {kV_best_proof_point dc_best_proof_point pm_best_proof_point : Value} {an_best_proof_point : Option Addr} {cd_best_proof_point ct_best_proof_point : Value} {sl_best_proof_point : Array (Option Value)}
    {f_greatest_spread_point : Addr} {oc_greatest_spread_point : Value} {od_greatest_spread_point : Option Addr} {kV_greatest_spread_point dc_greatest_spread_point pm_greatest_spread_point : Value} {an_greatest_spread_point : Option Addr} {cd_greatest_spread_point ct_greatest_spread_point : Value} {sl_greatest_spread_point : Array (Option Value)}
    {f_are_right_words : Addr} {oc_are_right_words : Value} {od_are_right_words : Option Addr} {kV_are_right_words dc_are_right_words pm_are_right_words : Value} {an_are_right_words : Option Addr} {cd_are_right_words ct_are_right_words : Value} {sl_are_right_words : Array (Option Value)}
    {f_weight : Addr} {oc_weight : Value} {od_weight : Option Addr} {kV_weight dc_weight pm_weight : Value} {an_weight : Option Addr} {cd_weight ct_weight : Value} {sl_weight : Array (Option Value)}
    {f_is_far : Addr} {oc_is_far : Value} {od_is_far : Option Addr} {kV_is_far dc_is_far pm_is_far : Value} {an_is_far : Option Addr} {cd_is_far ct_is_far : Value} {sl_is_far : Array (Option Value)}
    {f_are_apart : Addr} {oc_are_apart : Value} {od_are_apart : Option Addr} {kV_are_apart dc_are_apart pm_are_apart : Value} {an_are_apart : Option Addr} {cd_are_apart ct_are_apart : Value} {sl_are_apart : Array (Option Value)}
    {f_far_words : Addr} {oc_far_words : Value} {od_far_words : Option Addr} {kV_far_words dc_far_words pm_far_words : Value} {an_far_words : Option Addr} {cd_far_words ct_far_words : Value} {sl_far_words : Array (Option Value)}
    {f_filled_words : Addr} {oc_filled_words : Value} {od_filled_words : Option Addr} {kV_filled_words dc_filled_words pm_filled_words : Value} {an_filled_words : Option Addr} {cd_filled_words ct_filled_words : Value} {sl_filled_words : Array (Option Value)}
    {f_count_twos : Addr} {oc_count_twos : Value} {od_count_twos : Option Addr} {kV_count_twos dc_count_twos pm_count_twos : Value} {an_count_twos : Option Addr} {cd_count_twos ct_count_twos : Value} {sl_count_twos : Array (Option Value)}
    {f_told_fractions : Addr} {oc_told_fractions : Value} {od_told_fractions : Option Addr} {kV_told_fractions dc_told_fractions pm_told_fractions : Value} {an_told_fractions : Option Addr} {cd_told_fractions ct_told_fractions : Value} {sl_told_fractions : Array (Option Value)}
    {f_counted : Addr} {oc_counted : Value} {od_counted : Option Addr} {kV_counted dc_counted pm_counted : Value} {an_counted : Option Addr} {cd_counted ct_counted : Value} {sl_counted : Array (Option Value)}
    {f_Desk_best_proof : Addr} {oc_Desk_best_proof : Value} {od_Desk_best_proof : Option Addr} {kV_Desk_best_proof dc_Desk_best_proof pm_Desk_best_proof : Value} {an_Desk_best_proof : Option Addr} {cd_Desk_best_proof ct_Desk_best_proof : Value} {sl_Desk_best_proof : Array (Option Value)}
    {f_Desk_spread : Addr} {oc_Desk_spread : Value} {od_Desk_spread : Option Addr} {kV_Desk_spread dc_Desk_spread pm_Desk_spread : Value} {an_Desk_spread : Option Addr} {cd_Desk_spread ct_Desk_spread : Value} {sl_Desk_spread : Array (Option Value)}
    {f_Desk_taken : Addr} {oc_Desk_taken : Value} {od_Desk_taken : Option Addr} {kV_Desk_taken dc_Desk_taken pm_Desk_taken : Value} {an_Desk_taken : Option Addr} {cd_Desk_taken ct_Desk_taken : Value} {sl_Desk_taken : Array (Option Value)}
    {f_Desk_apart : Addr} {oc_Desk_apart : Value} {od_Desk_apart : Option Addr} {kV_Desk_apart dc_Desk_apart pm_Desk_apart : Value} {an_Desk_apart : Option Addr} {cd_Desk_apart ct_Desk_apart : Value} {sl_Desk_apart : Array (Option Value)}
    {f_Desk_more : Addr} {oc_Desk_more : Value} {od_Desk_more : Option Addr} {kV_Desk_more dc_Desk_more pm_Desk_more : Value} {an_Desk_more : Option Addr} {cd_Desk_more ct_Desk_more : Value} {sl_Desk_more : Array (Option Value)}
    {f_Desk_fill : Addr} {oc_Desk_fill : Value} {od_Desk_fill : Option Addr} {kV_Desk_fill dc_Desk_fill pm_Desk_fill : Value} {an_Desk_fill : Option Addr} {cd_Desk_fill ct_Desk_fill : Value} {sl_Desk_fill : Array (Option Value)}
    {f_Desk_held : Addr} {oc_Desk_held : Value} {od_Desk_held : Option Addr} {kV_Desk_held dc_Desk_held pm_Desk_held : Value} {an_Desk_held : Option Addr} {cd_Desk_held ct_Desk_held : Value} {sl_Desk_held : Array (Option Value)}
    {f_Desk_told : Addr} {oc_Desk_told : Value} {od_Desk_told : Option Addr} {kV_Desk_told dc_Desk_told pm_Desk_told : Value} {an_Desk_told : Option Addr} {cd_Desk_told ct_Desk_told : Value} {sl_Desk_told : Array (Option Value)}
    {f_split_calls : Addr} {oc_split_calls : Value} {od_split_calls : Option Addr} {kV_split_calls dc_split_calls pm_split_calls : Value} {an_split_calls : Option Addr} {cd_split_calls ct_split_calls : Value} {sl_split_calls : Array (Option Value)}
    {f_answer_alone : Addr} {oc_answer_alone : Value} {od_answer_alone : Option Addr} {kV_answer_alone dc_answer_alone pm_answer_alone : Value} {an_answer_alone : Option Addr} {cd_answer_alone ct_answer_alone : Value} {sl_answer_alone : Array (Option Value)}
    {f_answer_begun : Addr} {oc_answer_begun : Value} {od_answer_begun : Option Addr} {kV_answer_begun dc_answer_begun pm_answer_begun : Value} {an_answer_begun : Option Addr} {cd_answer_begun ct_answer_begun : Value} {sl_answer_begun : Array (Option Value)}
    {f_answer_call : Addr} {oc_answer_call : Value} {od_answer_call : Option Addr} {kV_answer_call dc_answer_call pm_answer_call : Value} {an_answer_call : Option Addr} {cd_answer_call ct_answer_call : Value} {sl_answer_call : Array (Option Value)}
    {f_answers : Addr} {oc_answers : Value} {od_answers : Option Addr} {kV_answers dc_answers pm_answers : Value} {an_answers : Option Addr} {cd_answers ct_answers : Value} {sl_answers : Array (Option Value)}
    (aC : PySem.W.nsIn K mainGlobals "Desk" = some (some (.ref C)))
    (pgC : PySem.W.plainGet K C Str.empty = true)
    (hdC : PySem.W.hasDictIn K C = true)
    (poC : PySem.W.plainOver K C = true)
    (saC : PySem.W.findIn K (.ref C) "__setattr__" = some (some (.builtin "object.__setattr__")))
    (mkC : PySem.W.makesIn K C = true)
    (kcC : PySem.W.keepIn K (.ref C) = true)
    (n_bits : PySem.W.findIn K (.ref C) "bits" = some none)
    (n_distance : PySem.W.findIn K (.ref C) "distance" = some none)
    (zb_range : PySem.W.nsIn K mainGlobals "range" = some none)
    (zb_min : PySem.W.nsIn K mainGlobals "min" = some none)
    (zg_LARGEST_NUMBER : PySem.W.nsIn K mainGlobals "LARGEST_NUMBER" = some (some (.int (1000) i_LARGEST_NUMBER)))
    (zb_len : PySem.W.nsIn K mainGlobals "len" = some none)
    (zg_NOT_SO : PySem.W.nsIn K mainGlobals "NOT_SO" = some (some (.int (-33) i_NOT_SO)))
    (zg_MOST_BITS : PySem.W.nsIn K mainGlobals "MOST_BITS" = some (some (.int (6) i_MOST_BITS)))
    (zg_NOT_RIGHT : PySem.W.nsIn K mainGlobals "NOT_RIGHT" = some (some (.int (-22) i_NOT_RIGHT)))
    (zb_enumerate : PySem.W.nsIn K mainGlobals "enumerate" = some none)
    (zb_list : PySem.W.nsIn K mainGlobals "list" = some none)
    (zb_sum : PySem.W.nsIn K mainGlobals "sum" = some none)
    (zg_NO_WORDS : PySem.W.nsIn K mainGlobals "NO_WORDS" = some (some (.int (-6) i_NO_WORDS)))
    (zg_ROWS : PySem.W.nsIn K mainGlobals "ROWS" = some (some (.ref a_ROWS)))
    (lg_ROWS : K.lookup a_ROWS = some ⟨oc_ROWS, od_ROWS, .seq its_ROWS n_ROWS, sl_ROWS⟩)
    (tg_ROWS : oc_ROWS = .type "tuple")
    (sg_ROWS : its_ROWS.size ≤ sizeLine)
    (vg_ROWS : L2.Vals (lst_ROWS.map V.int) its_ROWS.toList)
    (zg_WHOLES : PySem.W.nsIn K mainGlobals "WHOLES" = some (some (.ref a_WHOLES)))
    (lg_WHOLES : K.lookup a_WHOLES = some ⟨oc_WHOLES, od_WHOLES, .seq its_WHOLES n_WHOLES, sl_WHOLES⟩)
    (tg_WHOLES : oc_WHOLES = .type "tuple")
    (sg_WHOLES : its_WHOLES.size ≤ sizeLine)
    (vg_WHOLES : L2.Vals (lst_WHOLES.map V.int) its_WHOLES.toList)
    (zg_TAKEN : PySem.W.nsIn K mainGlobals "TAKEN" = some (some (.int (11) i_TAKEN)))
    (zg_SPREAD : PySem.W.nsIn K mainGlobals "SPREAD" = some (some (.int (10) i_SPREAD)))
    (zg_BEST_PROOF : PySem.W.nsIn K mainGlobals "BEST_PROOF" = some (some (.int (9) i_BEST_PROOF)))
    (zg_LEAST : PySem.W.nsIn K mainGlobals "LEAST" = some (some (.int (6) i_LEAST)))
    (zg_BY_EVEN : PySem.W.nsIn K mainGlobals "BY_EVEN" = some (some (.int (5) i_BY_EVEN)))
    (zg_BY_MEAN : PySem.W.nsIn K mainGlobals "BY_MEAN" = some (some (.int (4) i_BY_MEAN)))
    (zg_BY_CUT : PySem.W.nsIn K mainGlobals "BY_CUT" = some (some (.int (3) i_BY_CUT)))
    (zg_BY_BALLS : PySem.W.nsIn K mainGlobals "BY_BALLS" = some (some (.int (2) i_BY_BALLS)))
    (zg_HELD : PySem.W.nsIn K mainGlobals "HELD" = some (some (.int (15) i_HELD)))
    (zg_FILL : PySem.W.nsIn K mainGlobals "FILL" = some (some (.int (14) i_FILL)))
    (zg_MORE : PySem.W.nsIn K mainGlobals "MORE" = some (some (.int (13) i_MORE)))
    (zg_APART : PySem.W.nsIn K mainGlobals "APART" = some (some (.int (12) i_APART)))
    (zg_AT : PySem.W.nsIn K mainGlobals "AT" = some (some (.int (8) i_AT)))
    (zg_PROVES : PySem.W.nsIn K mainGlobals "PROVES" = some (some (.int (7) i_PROVES)))
    (zg_GOAL : PySem.W.nsIn K mainGlobals "GOAL" = some (some (.int (1) i_GOAL)))
    (zg_NOT_BEGUN : PySem.W.nsIn K mainGlobals "NOT_BEGUN" = some (some (.int (-61) i_NOT_BEGUN)))
    (zg_BEGIN : PySem.W.nsIn K mainGlobals "BEGIN" = some (some (.int (0) i_BEGIN)))
    (a_power_of_two : PySem.W.nsIn K mainGlobals "power_of_two" = some (some (.ref f_power_of_two)))
    (l_power_of_two : K.lookup f_power_of_two = some ⟨oc_power_of_two, od_power_of_two, .func (PySem.W.fnOf "power_of_two" "power_of_two" (defArgs s_power_of_two) (defBody s_power_of_two) (defScope s_power_of_two) .none kV_power_of_two dc_power_of_two pm_power_of_two an_power_of_two cd_power_of_two ct_power_of_two), sl_power_of_two⟩)
    (c_c_power_of_two : PySem.W.codeIn K cd_power_of_two "power_of_two" = true)
    (k_power_of_two : PySem.W.keepIn K (.ref f_power_of_two) = true)
    (a_choose : PySem.W.nsIn K mainGlobals "choose" = some (some (.ref f_choose)))
    (l_choose : K.lookup f_choose = some ⟨oc_choose, od_choose, .func (PySem.W.fnOf "choose" "choose" (defArgs s_choose) (defBody s_choose) (defScope s_choose) .none kV_choose dc_choose pm_choose an_choose cd_choose ct_choose), sl_choose⟩)
    (c_c_choose : PySem.W.codeIn K cd_choose "choose" = true)
    (k_choose : PySem.W.keepIn K (.ref f_choose) = true)
    (a_sign_sum : PySem.W.nsIn K mainGlobals "sign_sum" = some (some (.ref f_sign_sum)))
    (l_sign_sum : K.lookup f_sign_sum = some ⟨oc_sign_sum, od_sign_sum, .func (PySem.W.fnOf "sign_sum" "sign_sum" (defArgs s_sign_sum) (defBody s_sign_sum) (defScope s_sign_sum) .none kV_sign_sum dc_sign_sum pm_sign_sum an_sign_sum cd_sign_sum ct_sign_sum), sl_sign_sum⟩)
    (c_c_sign_sum : PySem.W.codeIn K cd_sign_sum "sign_sum" = true)
    (k_sign_sum : PySem.W.keepIn K (.ref f_sign_sum) = true)
    (a_comes_to : PySem.W.nsIn K mainGlobals "comes_to" = some (some (.ref f_comes_to)))
    (l_comes_to : K.lookup f_comes_to = some ⟨oc_comes_to, od_comes_to, .func (PySem.W.fnOf "comes_to" "comes_to" (defArgs s_comes_to) (defBody s_comes_to) (defScope s_comes_to) .none kV_comes_to dc_comes_to pm_comes_to an_comes_to cd_comes_to ct_comes_to), sl_comes_to⟩)
    (c_c_comes_to : PySem.W.codeIn K cd_comes_to "comes_to" = true)
    (k_comes_to : PySem.W.keepIn K (.ref f_comes_to) = true)
    (a_common_part : PySem.W.nsIn K mainGlobals "common_part" = some (some (.ref f_common_part)))
    (l_common_part : K.lookup f_common_part = some ⟨oc_common_part, od_common_part, .func (PySem.W.fnOf "common_part" "common_part" (defArgs s_common_part) (defBody s_common_part) (defScope s_common_part) .none kV_common_part dc_common_part pm_common_part an_common_part cd_common_part ct_common_part), sl_common_part⟩)
    (c_c_common_part : PySem.W.codeIn K cd_common_part "common_part" = true)
    (k_common_part : PySem.W.keepIn K (.ref f_common_part) = true)
    (a_lowest_terms : PySem.W.nsIn K mainGlobals "lowest_terms" = some (some (.ref f_lowest_terms)))
    (l_lowest_terms : K.lookup f_lowest_terms = some ⟨oc_lowest_terms, od_lowest_terms, .func (PySem.W.fnOf "lowest_terms" "lowest_terms" (defArgs s_lowest_terms) (defBody s_lowest_terms) (defScope s_lowest_terms) .none kV_lowest_terms dc_lowest_terms pm_lowest_terms an_lowest_terms cd_lowest_terms ct_lowest_terms), sl_lowest_terms⟩)
    (c_c_lowest_terms : PySem.W.codeIn K cd_lowest_terms "lowest_terms" = true)
    (k_lowest_terms : PySem.W.keepIn K (.ref f_lowest_terms) = true)
    (a_by_balls : PySem.W.nsIn K mainGlobals "by_balls" = some (some (.ref f_by_balls)))
    (l_by_balls : K.lookup f_by_balls = some ⟨oc_by_balls, od_by_balls, .func (PySem.W.fnOf "by_balls" "by_balls" (defArgs s_by_balls) (defBody s_by_balls) (defScope s_by_balls) .none kV_by_balls dc_by_balls pm_by_balls an_by_balls cd_by_balls ct_by_balls), sl_by_balls⟩)
    (c_c_by_balls : PySem.W.codeIn K cd_by_balls "by_balls" = true)
    (k_by_balls : PySem.W.keepIn K (.ref f_by_balls) = true)
    (a_by_cut : PySem.W.nsIn K mainGlobals "by_cut" = some (some (.ref f_by_cut)))
    (l_by_cut : K.lookup f_by_cut = some ⟨oc_by_cut, od_by_cut, .func (PySem.W.fnOf "by_cut" "by_cut" (defArgs s_by_cut) (defBody s_by_cut) (defScope s_by_cut) .none kV_by_cut dc_by_cut pm_by_cut an_by_cut cd_by_cut ct_by_cut), sl_by_cut⟩)
    (c_c_by_cut : PySem.W.codeIn K cd_by_cut "by_cut" = true)
    (k_by_cut : PySem.W.keepIn K (.ref f_by_cut) = true)
    (a_by_mean : PySem.W.nsIn K mainGlobals "by_mean" = some (some (.ref f_by_mean)))
    (l_by_mean : K.lookup f_by_mean = some ⟨oc_by_mean, od_by_mean, .func (PySem.W.fnOf "by_mean" "by_mean" (defArgs s_by_mean) (defBody s_by_mean) (defScope s_by_mean) .none kV_by_mean dc_by_mean pm_by_mean an_by_mean cd_by_mean ct_by_mean), sl_by_mean⟩)
    (c_c_by_mean : PySem.W.codeIn K cd_by_mean "by_mean" = true)
    (k_by_mean : PySem.W.keepIn K (.ref f_by_mean) = true)
    (a_by_even : PySem.W.nsIn K mainGlobals "by_even" = some (some (.ref f_by_even)))
    (l_by_even : K.lookup f_by_even = some ⟨oc_by_even, od_by_even, .func (PySem.W.fnOf "by_even" "by_even" (defArgs s_by_even) (defBody s_by_even) (defScope s_by_even) .none kV_by_even dc_by_even pm_by_even an_by_even cd_by_even ct_by_even), sl_by_even⟩)
    (c_c_by_even : PySem.W.codeIn K cd_by_even "by_even" = true)
    (k_by_even : PySem.W.keepIn K (.ref f_by_even) = true)
    (a_least_bound : PySem.W.nsIn K mainGlobals "least_bound" = some (some (.ref f_least_bound)))
    (l_least_bound : K.lookup f_least_bound = some ⟨oc_least_bound, od_least_bound, .func (PySem.W.fnOf "least_bound" "least_bound" (defArgs s_least_bound) (defBody s_least_bound) (defScope s_least_bound) .none kV_least_bound dc_least_bound pm_least_bound an_least_bound cd_least_bound ct_least_bound), sl_least_bound⟩)
    (c_c_least_bound : PySem.W.codeIn K cd_least_bound "least_bound" = true)
    (k_least_bound : PySem.W.keepIn K (.ref f_least_bound) = true)
    (a_is_right_row : PySem.W.nsIn K mainGlobals "is_right_row" = some (some (.ref f_is_right_row)))
    (l_is_right_row : K.lookup f_is_right_row = some ⟨oc_is_right_row, od_is_right_row, .func (PySem.W.fnOf "is_right_row" "is_right_row" (defArgs s_is_right_row) (defBody s_is_right_row) (defScope s_is_right_row) .none kV_is_right_row dc_is_right_row pm_is_right_row an_is_right_row cd_is_right_row ct_is_right_row), sl_is_right_row⟩)
    (c_c_is_right_row : PySem.W.codeIn K cd_is_right_row "is_right_row" = true)
    (k_is_right_row : PySem.W.keepIn K (.ref f_is_right_row) = true)
    (a_is_proof : PySem.W.nsIn K mainGlobals "is_proof" = some (some (.ref f_is_proof)))
    (l_is_proof : K.lookup f_is_proof = some ⟨oc_is_proof, od_is_proof, .func (PySem.W.fnOf "is_proof" "is_proof" (defArgs s_is_proof) (defBody s_is_proof) (defScope s_is_proof) .none kV_is_proof dc_is_proof pm_is_proof an_is_proof cd_is_proof ct_is_proof), sl_is_proof⟩)
    (c_c_is_proof : PySem.W.codeIn K cd_is_proof "is_proof" = true)
    (k_is_proof : PySem.W.keepIn K (.ref f_is_proof) = true)
    (a_bound_or_refusal : PySem.W.nsIn K mainGlobals "bound_or_refusal" = some (some (.ref f_bound_or_refusal)))
    (l_bound_or_refusal : K.lookup f_bound_or_refusal = some ⟨oc_bound_or_refusal, od_bound_or_refusal, .func (PySem.W.fnOf "bound_or_refusal" "bound_or_refusal" (defArgs s_bound_or_refusal) (defBody s_bound_or_refusal) (defScope s_bound_or_refusal) .none kV_bound_or_refusal dc_bound_or_refusal pm_bound_or_refusal an_bound_or_refusal cd_bound_or_refusal ct_bound_or_refusal), sl_bound_or_refusal⟩)
    (c_c_bound_or_refusal : PySem.W.codeIn K cd_bound_or_refusal "bound_or_refusal" = true)
    (k_bound_or_refusal : PySem.W.keepIn K (.ref f_bound_or_refusal) = true)
    (a_Desk___init__ : PySem.W.findIn K (.ref C) "__init__" = some (some (.ref f_Desk___init__)))
    (i_Desk___init__ : PySem.W.isFn K (.ref f_Desk___init__) = true)
    (l_Desk___init__ : K.lookup f_Desk___init__ = some ⟨oc_Desk___init__, od_Desk___init__, .func (PySem.W.fnOf "__init__" "Desk.__init__" (defArgs s_Desk___init__) (defBody s_Desk___init__) (defScope s_Desk___init__) .none kV_Desk___init__ dc_Desk___init__ pm_Desk___init__ an_Desk___init__ cd_Desk___init__ ct_Desk___init__), sl_Desk___init__⟩)
    (c_c_Desk___init__ : PySem.W.codeIn K cd_Desk___init__ "Desk.__init__" = true)
    (k_Desk___init__ : PySem.W.keepIn K (.ref f_Desk___init__) = true)
    (a_Desk_is_begun : PySem.W.findIn K (.ref C) "is_begun" = some (some (.ref f_Desk_is_begun)))
    (i_Desk_is_begun : PySem.W.isFn K (.ref f_Desk_is_begun) = true)
    (l_Desk_is_begun : K.lookup f_Desk_is_begun = some ⟨oc_Desk_is_begun, od_Desk_is_begun, .func (PySem.W.fnOf "is_begun" "Desk.is_begun" (defArgs s_Desk_is_begun) (defBody s_Desk_is_begun) (defScope s_Desk_is_begun) .none kV_Desk_is_begun dc_Desk_is_begun pm_Desk_is_begun an_Desk_is_begun cd_Desk_is_begun ct_Desk_is_begun), sl_Desk_is_begun⟩)
    (c_c_Desk_is_begun : PySem.W.codeIn K cd_Desk_is_begun "Desk.is_begun" = true)
    (k_Desk_is_begun : PySem.W.keepIn K (.ref f_Desk_is_begun) = true)
    (a_Desk_begin : PySem.W.findIn K (.ref C) "begin" = some (some (.ref f_Desk_begin)))
    (i_Desk_begin : PySem.W.isFn K (.ref f_Desk_begin) = true)
    (l_Desk_begin : K.lookup f_Desk_begin = some ⟨oc_Desk_begin, od_Desk_begin, .func (PySem.W.fnOf "begin" "Desk.begin" (defArgs s_Desk_begin) (defBody s_Desk_begin) (defScope s_Desk_begin) .none kV_Desk_begin dc_Desk_begin pm_Desk_begin an_Desk_begin cd_Desk_begin ct_Desk_begin), sl_Desk_begin⟩)
    (c_c_Desk_begin : PySem.W.codeIn K cd_Desk_begin "Desk.begin" = true)
    (k_Desk_begin : PySem.W.keepIn K (.ref f_Desk_begin) = true)
    (a_Desk_goal : PySem.W.findIn K (.ref C) "goal" = some (some (.ref f_Desk_goal)))
    (i_Desk_goal : PySem.W.isFn K (.ref f_Desk_goal) = true)
    (l_Desk_goal : K.lookup f_Desk_goal = some ⟨oc_Desk_goal, od_Desk_goal, .func (PySem.W.fnOf "goal" "Desk.goal" (defArgs s_Desk_goal) (defBody s_Desk_goal) (defScope s_Desk_goal) .none kV_Desk_goal dc_Desk_goal pm_Desk_goal an_Desk_goal cd_Desk_goal ct_Desk_goal), sl_Desk_goal⟩)
    (c_c_Desk_goal : PySem.W.codeIn K cd_Desk_goal "Desk.goal" = true)
    (k_Desk_goal : PySem.W.keepIn K (.ref f_Desk_goal) = true)
    (a_Desk_balls : PySem.W.findIn K (.ref C) "balls" = some (some (.ref f_Desk_balls)))
    (i_Desk_balls : PySem.W.isFn K (.ref f_Desk_balls) = true)
    (l_Desk_balls : K.lookup f_Desk_balls = some ⟨oc_Desk_balls, od_Desk_balls, .func (PySem.W.fnOf "balls" "Desk.balls" (defArgs s_Desk_balls) (defBody s_Desk_balls) (defScope s_Desk_balls) .none kV_Desk_balls dc_Desk_balls pm_Desk_balls an_Desk_balls cd_Desk_balls ct_Desk_balls), sl_Desk_balls⟩)
    (c_c_Desk_balls : PySem.W.codeIn K cd_Desk_balls "Desk.balls" = true)
    (k_Desk_balls : PySem.W.keepIn K (.ref f_Desk_balls) = true)
    (a_Desk_cut : PySem.W.findIn K (.ref C) "cut" = some (some (.ref f_Desk_cut)))
    (i_Desk_cut : PySem.W.isFn K (.ref f_Desk_cut) = true)
    (l_Desk_cut : K.lookup f_Desk_cut = some ⟨oc_Desk_cut, od_Desk_cut, .func (PySem.W.fnOf "cut" "Desk.cut" (defArgs s_Desk_cut) (defBody s_Desk_cut) (defScope s_Desk_cut) .none kV_Desk_cut dc_Desk_cut pm_Desk_cut an_Desk_cut cd_Desk_cut ct_Desk_cut), sl_Desk_cut⟩)
    (c_c_Desk_cut : PySem.W.codeIn K cd_Desk_cut "Desk.cut" = true)
    (k_Desk_cut : PySem.W.keepIn K (.ref f_Desk_cut) = true)
    (a_Desk_mean : PySem.W.findIn K (.ref C) "mean" = some (some (.ref f_Desk_mean)))
    (i_Desk_mean : PySem.W.isFn K (.ref f_Desk_mean) = true)
    (l_Desk_mean : K.lookup f_Desk_mean = some ⟨oc_Desk_mean, od_Desk_mean, .func (PySem.W.fnOf "mean" "Desk.mean" (defArgs s_Desk_mean) (defBody s_Desk_mean) (defScope s_Desk_mean) .none kV_Desk_mean dc_Desk_mean pm_Desk_mean an_Desk_mean cd_Desk_mean ct_Desk_mean), sl_Desk_mean⟩)
    (c_c_Desk_mean : PySem.W.codeIn K cd_Desk_mean "Desk.mean" = true)
    (k_Desk_mean : PySem.W.keepIn K (.ref f_Desk_mean) = true)
    (a_Desk_even : PySem.W.findIn K (.ref C) "even" = some (some (.ref f_Desk_even)))
    (i_Desk_even : PySem.W.isFn K (.ref f_Desk_even) = true)
    (l_Desk_even : K.lookup f_Desk_even = some ⟨oc_Desk_even, od_Desk_even, .func (PySem.W.fnOf "even" "Desk.even" (defArgs s_Desk_even) (defBody s_Desk_even) (defScope s_Desk_even) .none kV_Desk_even dc_Desk_even pm_Desk_even an_Desk_even cd_Desk_even ct_Desk_even), sl_Desk_even⟩)
    (c_c_Desk_even : PySem.W.codeIn K cd_Desk_even "Desk.even" = true)
    (k_Desk_even : PySem.W.keepIn K (.ref f_Desk_even) = true)
    (a_Desk_least : PySem.W.findIn K (.ref C) "least" = some (some (.ref f_Desk_least)))
    (i_Desk_least : PySem.W.isFn K (.ref f_Desk_least) = true)
    (l_Desk_least : K.lookup f_Desk_least = some ⟨oc_Desk_least, od_Desk_least, .func (PySem.W.fnOf "least" "Desk.least" (defArgs s_Desk_least) (defBody s_Desk_least) (defScope s_Desk_least) .none kV_Desk_least dc_Desk_least pm_Desk_least an_Desk_least cd_Desk_least ct_Desk_least), sl_Desk_least⟩)
    (c_c_Desk_least : PySem.W.codeIn K cd_Desk_least "Desk.least" = true)
    (k_Desk_least : PySem.W.keepIn K (.ref f_Desk_least) = true)
    (a_Desk_proves : PySem.W.findIn K (.ref C) "proves" = some (some (.ref f_Desk_proves)))
    (i_Desk_proves : PySem.W.isFn K (.ref f_Desk_proves) = true)
    (l_Desk_proves : K.lookup f_Desk_proves = some ⟨oc_Desk_proves, od_Desk_proves, .func (PySem.W.fnOf "proves" "Desk.proves" (defArgs s_Desk_proves) (defBody s_Desk_proves) (defScope s_Desk_proves) .none kV_Desk_proves dc_Desk_proves pm_Desk_proves an_Desk_proves cd_Desk_proves ct_Desk_proves), sl_Desk_proves⟩)
    (c_c_Desk_proves : PySem.W.codeIn K cd_Desk_proves "Desk.proves" = true)
    (k_Desk_proves : PySem.W.keepIn K (.ref f_Desk_proves) = true)
    (a_Desk_at : PySem.W.findIn K (.ref C) "at" = some (some (.ref f_Desk_at)))
    (i_Desk_at : PySem.W.isFn K (.ref f_Desk_at) = true)
    (l_Desk_at : K.lookup f_Desk_at = some ⟨oc_Desk_at, od_Desk_at, .func (PySem.W.fnOf "at" "Desk.at" (defArgs s_Desk_at) (defBody s_Desk_at) (defScope s_Desk_at) .none kV_Desk_at dc_Desk_at pm_Desk_at an_Desk_at cd_Desk_at ct_Desk_at), sl_Desk_at⟩)
    (c_c_Desk_at : PySem.W.codeIn K cd_Desk_at "Desk.at" = true)
    (k_Desk_at : PySem.W.keepIn K (.ref f_Desk_at) = true)
    (a_first_table : PySem.W.nsIn K mainGlobals "first_table" = some (some (.ref f_first_table)))
    (l_first_table : K.lookup f_first_table = some ⟨oc_first_table, od_first_table, .func (PySem.W.fnOf "first_table" "first_table" (defArgs s_first_table) (defBody s_first_table) (defScope s_first_table) .none kV_first_table dc_first_table pm_first_table an_first_table cd_first_table ct_first_table), sl_first_table⟩)
    (c_c_first_table : PySem.W.codeIn K cd_first_table "first_table" = true)
    (k_first_table : PySem.W.keepIn K (.ref f_first_table) = true)
    (a_first_broken : PySem.W.nsIn K mainGlobals "first_broken" = some (some (.ref f_first_broken)))
    (l_first_broken : K.lookup f_first_broken = some ⟨oc_first_broken, od_first_broken, .func (PySem.W.fnOf "first_broken" "first_broken" (defArgs s_first_broken) (defBody s_first_broken) (defScope s_first_broken) .none kV_first_broken dc_first_broken pm_first_broken an_first_broken cd_first_broken ct_first_broken), sl_first_broken⟩)
    (c_c_first_broken : PySem.W.codeIn K cd_first_broken "first_broken" = true)
    (k_first_broken : PySem.W.keepIn K (.ref f_first_broken) = true)
    (a_is_lesser_column : PySem.W.nsIn K mainGlobals "is_lesser_column" = some (some (.ref f_is_lesser_column)))
    (l_is_lesser_column : K.lookup f_is_lesser_column = some ⟨oc_is_lesser_column, od_is_lesser_column, .func (PySem.W.fnOf "is_lesser_column" "is_lesser_column" (defArgs s_is_lesser_column) (defBody s_is_lesser_column) (defScope s_is_lesser_column) .none kV_is_lesser_column dc_is_lesser_column pm_is_lesser_column an_is_lesser_column cd_is_lesser_column ct_is_lesser_column), sl_is_lesser_column⟩)
    (c_c_is_lesser_column : PySem.W.codeIn K cd_is_lesser_column "is_lesser_column" = true)
    (k_is_lesser_column : PySem.W.keepIn K (.ref f_is_lesser_column) = true)
    (a_column_to_change : PySem.W.nsIn K mainGlobals "column_to_change" = some (some (.ref f_column_to_change)))
    (l_column_to_change : K.lookup f_column_to_change = some ⟨oc_column_to_change, od_column_to_change, .func (PySem.W.fnOf "column_to_change" "column_to_change" (defArgs s_column_to_change) (defBody s_column_to_change) (defScope s_column_to_change) .none kV_column_to_change dc_column_to_change pm_column_to_change an_column_to_change cd_column_to_change ct_column_to_change), sl_column_to_change⟩)
    (c_c_column_to_change : PySem.W.codeIn K cd_column_to_change "column_to_change" = true)
    (k_column_to_change : PySem.W.keepIn K (.ref f_column_to_change) = true)
    (a_changed_row : PySem.W.nsIn K mainGlobals "changed_row" = some (some (.ref f_changed_row)))
    (l_changed_row : K.lookup f_changed_row = some ⟨oc_changed_row, od_changed_row, .func (PySem.W.fnOf "changed_row" "changed_row" (defArgs s_changed_row) (defBody s_changed_row) (defScope s_changed_row) .none kV_changed_row dc_changed_row pm_changed_row an_changed_row cd_changed_row ct_changed_row), sl_changed_row⟩)
    (c_c_changed_row : PySem.W.codeIn K cd_changed_row "changed_row" = true)
    (k_changed_row : PySem.W.keepIn K (.ref f_changed_row) = true)
    (a_least_point : PySem.W.nsIn K mainGlobals "least_point" = some (some (.ref f_least_point)))
    (l_least_point : K.lookup f_least_point = some ⟨oc_least_point, od_least_point, .func (PySem.W.fnOf "least_point" "least_point" (defArgs s_least_point) (defBody s_least_point) (defScope s_least_point) .none kV_least_point dc_least_point pm_least_point an_least_point cd_least_point ct_least_point), sl_least_point⟩)
    (c_c_least_point : PySem.W.codeIn K cd_least_point "least_point" = true)
    (k_least_point : PySem.W.keepIn K (.ref f_least_point) = true)
    (a_best_proof_point : PySem.W.nsIn K mainGlobals "best_proof_point" = some (some (.ref f_best_proof_point)))
    (l_best_proof_point : K.lookup f_best_proof_point = some ⟨oc_best_proof_point, od_best_proof_point, .func (PySem.W.fnOf "best_proof_point" "best_proof_point" (defArgs s_best_proof_point) (defBody s_best_proof_point) (defScope s_best_proof_point) .none kV_best_proof_point dc_best_proof_point pm_best_proof_point an_best_proof_point cd_best_proof_point ct_best_proof_point), sl_best_proof_point⟩)
    (c_c_best_proof_point : PySem.W.codeIn K cd_best_proof_point "best_proof_point" = true)
    (k_best_proof_point : PySem.W.keepIn K (.ref f_best_proof_point) = true)
    (a_greatest_spread_point : PySem.W.nsIn K mainGlobals "greatest_spread_point" = some (some (.ref f_greatest_spread_point)))
    (l_greatest_spread_point : K.lookup f_greatest_spread_point = some ⟨oc_greatest_spread_point, od_greatest_spread_point, .func (PySem.W.fnOf "greatest_spread_point" "greatest_spread_point" (defArgs s_greatest_spread_point) (defBody s_greatest_spread_point) (defScope s_greatest_spread_point) .none kV_greatest_spread_point dc_greatest_spread_point pm_greatest_spread_point an_greatest_spread_point cd_greatest_spread_point ct_greatest_spread_point), sl_greatest_spread_point⟩)
    (c_c_greatest_spread_point : PySem.W.codeIn K cd_greatest_spread_point "greatest_spread_point" = true)
    (k_greatest_spread_point : PySem.W.keepIn K (.ref f_greatest_spread_point) = true)
    (a_are_right_words : PySem.W.nsIn K mainGlobals "are_right_words" = some (some (.ref f_are_right_words)))
    (l_are_right_words : K.lookup f_are_right_words = some ⟨oc_are_right_words, od_are_right_words, .func (PySem.W.fnOf "are_right_words" "are_right_words" (defArgs s_are_right_words) (defBody s_are_right_words) (defScope s_are_right_words) .none kV_are_right_words dc_are_right_words pm_are_right_words an_are_right_words cd_are_right_words ct_are_right_words), sl_are_right_words⟩)
    (c_c_are_right_words : PySem.W.codeIn K cd_are_right_words "are_right_words" = true)
    (k_are_right_words : PySem.W.keepIn K (.ref f_are_right_words) = true)
    (a_weight : PySem.W.nsIn K mainGlobals "weight" = some (some (.ref f_weight)))
    (l_weight : K.lookup f_weight = some ⟨oc_weight, od_weight, .func (PySem.W.fnOf "weight" "weight" (defArgs s_weight) (defBody s_weight) (defScope s_weight) .none kV_weight dc_weight pm_weight an_weight cd_weight ct_weight), sl_weight⟩)
    (c_c_weight : PySem.W.codeIn K cd_weight "weight" = true)
    (k_weight : PySem.W.keepIn K (.ref f_weight) = true)
    (a_is_far : PySem.W.nsIn K mainGlobals "is_far" = some (some (.ref f_is_far)))
    (l_is_far : K.lookup f_is_far = some ⟨oc_is_far, od_is_far, .func (PySem.W.fnOf "is_far" "is_far" (defArgs s_is_far) (defBody s_is_far) (defScope s_is_far) .none kV_is_far dc_is_far pm_is_far an_is_far cd_is_far ct_is_far), sl_is_far⟩)
    (c_c_is_far : PySem.W.codeIn K cd_is_far "is_far" = true)
    (k_is_far : PySem.W.keepIn K (.ref f_is_far) = true)
    (a_are_apart : PySem.W.nsIn K mainGlobals "are_apart" = some (some (.ref f_are_apart)))
    (l_are_apart : K.lookup f_are_apart = some ⟨oc_are_apart, od_are_apart, .func (PySem.W.fnOf "are_apart" "are_apart" (defArgs s_are_apart) (defBody s_are_apart) (defScope s_are_apart) .none kV_are_apart dc_are_apart pm_are_apart an_are_apart cd_are_apart ct_are_apart), sl_are_apart⟩)
    (c_c_are_apart : PySem.W.codeIn K cd_are_apart "are_apart" = true)
    (k_are_apart : PySem.W.keepIn K (.ref f_are_apart) = true)
    (a_far_words : PySem.W.nsIn K mainGlobals "far_words" = some (some (.ref f_far_words)))
    (l_far_words : K.lookup f_far_words = some ⟨oc_far_words, od_far_words, .func (PySem.W.fnOf "far_words" "far_words" (defArgs s_far_words) (defBody s_far_words) (defScope s_far_words) .none kV_far_words dc_far_words pm_far_words an_far_words cd_far_words ct_far_words), sl_far_words⟩)
    (c_c_far_words : PySem.W.codeIn K cd_far_words "far_words" = true)
    (k_far_words : PySem.W.keepIn K (.ref f_far_words) = true)
    (a_filled_words : PySem.W.nsIn K mainGlobals "filled_words" = some (some (.ref f_filled_words)))
    (l_filled_words : K.lookup f_filled_words = some ⟨oc_filled_words, od_filled_words, .func (PySem.W.fnOf "filled_words" "filled_words" (defArgs s_filled_words) (defBody s_filled_words) (defScope s_filled_words) .none kV_filled_words dc_filled_words pm_filled_words an_filled_words cd_filled_words ct_filled_words), sl_filled_words⟩)
    (c_c_filled_words : PySem.W.codeIn K cd_filled_words "filled_words" = true)
    (k_filled_words : PySem.W.keepIn K (.ref f_filled_words) = true)
    (a_count_twos : PySem.W.nsIn K mainGlobals "count_twos" = some (some (.ref f_count_twos)))
    (l_count_twos : K.lookup f_count_twos = some ⟨oc_count_twos, od_count_twos, .func (PySem.W.fnOf "count_twos" "count_twos" (defArgs s_count_twos) (defBody s_count_twos) (defScope s_count_twos) .none kV_count_twos dc_count_twos pm_count_twos an_count_twos cd_count_twos ct_count_twos), sl_count_twos⟩)
    (c_c_count_twos : PySem.W.codeIn K cd_count_twos "count_twos" = true)
    (k_count_twos : PySem.W.keepIn K (.ref f_count_twos) = true)
    (a_told_fractions : PySem.W.nsIn K mainGlobals "told_fractions" = some (some (.ref f_told_fractions)))
    (l_told_fractions : K.lookup f_told_fractions = some ⟨oc_told_fractions, od_told_fractions, .func (PySem.W.fnOf "told_fractions" "told_fractions" (defArgs s_told_fractions) (defBody s_told_fractions) (defScope s_told_fractions) .none kV_told_fractions dc_told_fractions pm_told_fractions an_told_fractions cd_told_fractions ct_told_fractions), sl_told_fractions⟩)
    (c_c_told_fractions : PySem.W.codeIn K cd_told_fractions "told_fractions" = true)
    (k_told_fractions : PySem.W.keepIn K (.ref f_told_fractions) = true)
    (a_counted : PySem.W.nsIn K mainGlobals "counted" = some (some (.ref f_counted)))
    (l_counted : K.lookup f_counted = some ⟨oc_counted, od_counted, .func (PySem.W.fnOf "counted" "counted" (defArgs s_counted) (defBody s_counted) (defScope s_counted) .none kV_counted dc_counted pm_counted an_counted cd_counted ct_counted), sl_counted⟩)
    (c_c_counted : PySem.W.codeIn K cd_counted "counted" = true)
    (k_counted : PySem.W.keepIn K (.ref f_counted) = true)
    (a_Desk_best_proof : PySem.W.findIn K (.ref C) "best_proof" = some (some (.ref f_Desk_best_proof)))
    (i_Desk_best_proof : PySem.W.isFn K (.ref f_Desk_best_proof) = true)
    (l_Desk_best_proof : K.lookup f_Desk_best_proof = some ⟨oc_Desk_best_proof, od_Desk_best_proof, .func (PySem.W.fnOf "best_proof" "Desk.best_proof" (defArgs s_Desk_best_proof) (defBody s_Desk_best_proof) (defScope s_Desk_best_proof) .none kV_Desk_best_proof dc_Desk_best_proof pm_Desk_best_proof an_Desk_best_proof cd_Desk_best_proof ct_Desk_best_proof), sl_Desk_best_proof⟩)
    (c_c_Desk_best_proof : PySem.W.codeIn K cd_Desk_best_proof "Desk.best_proof" = true)
    (k_Desk_best_proof : PySem.W.keepIn K (.ref f_Desk_best_proof) = true)
    (a_Desk_spread : PySem.W.findIn K (.ref C) "spread" = some (some (.ref f_Desk_spread)))
    (i_Desk_spread : PySem.W.isFn K (.ref f_Desk_spread) = true)
    (l_Desk_spread : K.lookup f_Desk_spread = some ⟨oc_Desk_spread, od_Desk_spread, .func (PySem.W.fnOf "spread" "Desk.spread" (defArgs s_Desk_spread) (defBody s_Desk_spread) (defScope s_Desk_spread) .none kV_Desk_spread dc_Desk_spread pm_Desk_spread an_Desk_spread cd_Desk_spread ct_Desk_spread), sl_Desk_spread⟩)
    (c_c_Desk_spread : PySem.W.codeIn K cd_Desk_spread "Desk.spread" = true)
    (k_Desk_spread : PySem.W.keepIn K (.ref f_Desk_spread) = true)
    (a_Desk_taken : PySem.W.findIn K (.ref C) "taken" = some (some (.ref f_Desk_taken)))
    (i_Desk_taken : PySem.W.isFn K (.ref f_Desk_taken) = true)
    (l_Desk_taken : K.lookup f_Desk_taken = some ⟨oc_Desk_taken, od_Desk_taken, .func (PySem.W.fnOf "taken" "Desk.taken" (defArgs s_Desk_taken) (defBody s_Desk_taken) (defScope s_Desk_taken) .none kV_Desk_taken dc_Desk_taken pm_Desk_taken an_Desk_taken cd_Desk_taken ct_Desk_taken), sl_Desk_taken⟩)
    (c_c_Desk_taken : PySem.W.codeIn K cd_Desk_taken "Desk.taken" = true)
    (k_Desk_taken : PySem.W.keepIn K (.ref f_Desk_taken) = true)
    (a_Desk_apart : PySem.W.findIn K (.ref C) "apart" = some (some (.ref f_Desk_apart)))
    (i_Desk_apart : PySem.W.isFn K (.ref f_Desk_apart) = true)
    (l_Desk_apart : K.lookup f_Desk_apart = some ⟨oc_Desk_apart, od_Desk_apart, .func (PySem.W.fnOf "apart" "Desk.apart" (defArgs s_Desk_apart) (defBody s_Desk_apart) (defScope s_Desk_apart) .none kV_Desk_apart dc_Desk_apart pm_Desk_apart an_Desk_apart cd_Desk_apart ct_Desk_apart), sl_Desk_apart⟩)
    (c_c_Desk_apart : PySem.W.codeIn K cd_Desk_apart "Desk.apart" = true)
    (k_Desk_apart : PySem.W.keepIn K (.ref f_Desk_apart) = true)
    (a_Desk_more : PySem.W.findIn K (.ref C) "more" = some (some (.ref f_Desk_more)))
    (i_Desk_more : PySem.W.isFn K (.ref f_Desk_more) = true)
    (l_Desk_more : K.lookup f_Desk_more = some ⟨oc_Desk_more, od_Desk_more, .func (PySem.W.fnOf "more" "Desk.more" (defArgs s_Desk_more) (defBody s_Desk_more) (defScope s_Desk_more) .none kV_Desk_more dc_Desk_more pm_Desk_more an_Desk_more cd_Desk_more ct_Desk_more), sl_Desk_more⟩)
    (c_c_Desk_more : PySem.W.codeIn K cd_Desk_more "Desk.more" = true)
    (k_Desk_more : PySem.W.keepIn K (.ref f_Desk_more) = true)
    (a_Desk_fill : PySem.W.findIn K (.ref C) "fill" = some (some (.ref f_Desk_fill)))
    (i_Desk_fill : PySem.W.isFn K (.ref f_Desk_fill) = true)
    (l_Desk_fill : K.lookup f_Desk_fill = some ⟨oc_Desk_fill, od_Desk_fill, .func (PySem.W.fnOf "fill" "Desk.fill" (defArgs s_Desk_fill) (defBody s_Desk_fill) (defScope s_Desk_fill) .none kV_Desk_fill dc_Desk_fill pm_Desk_fill an_Desk_fill cd_Desk_fill ct_Desk_fill), sl_Desk_fill⟩)
    (c_c_Desk_fill : PySem.W.codeIn K cd_Desk_fill "Desk.fill" = true)
    (k_Desk_fill : PySem.W.keepIn K (.ref f_Desk_fill) = true)
    (a_Desk_held : PySem.W.findIn K (.ref C) "held" = some (some (.ref f_Desk_held)))
    (i_Desk_held : PySem.W.isFn K (.ref f_Desk_held) = true)
    (l_Desk_held : K.lookup f_Desk_held = some ⟨oc_Desk_held, od_Desk_held, .func (PySem.W.fnOf "held" "Desk.held" (defArgs s_Desk_held) (defBody s_Desk_held) (defScope s_Desk_held) .none kV_Desk_held dc_Desk_held pm_Desk_held an_Desk_held cd_Desk_held ct_Desk_held), sl_Desk_held⟩)
    (c_c_Desk_held : PySem.W.codeIn K cd_Desk_held "Desk.held" = true)
    (k_Desk_held : PySem.W.keepIn K (.ref f_Desk_held) = true)
    (a_Desk_told : PySem.W.findIn K (.ref C) "told" = some (some (.ref f_Desk_told)))
    (i_Desk_told : PySem.W.isFn K (.ref f_Desk_told) = true)
    (l_Desk_told : K.lookup f_Desk_told = some ⟨oc_Desk_told, od_Desk_told, .func (PySem.W.fnOf "told" "Desk.told" (defArgs s_Desk_told) (defBody s_Desk_told) (defScope s_Desk_told) .none kV_Desk_told dc_Desk_told pm_Desk_told an_Desk_told cd_Desk_told ct_Desk_told), sl_Desk_told⟩)
    (c_c_Desk_told : PySem.W.codeIn K cd_Desk_told "Desk.told" = true)
    (k_Desk_told : PySem.W.keepIn K (.ref f_Desk_told) = true)
    (a_split_calls : PySem.W.nsIn K mainGlobals "split_calls" = some (some (.ref f_split_calls)))
    (l_split_calls : K.lookup f_split_calls = some ⟨oc_split_calls, od_split_calls, .func (PySem.W.fnOf "split_calls" "split_calls" (defArgs s_split_calls) (defBody s_split_calls) (defScope s_split_calls) .none kV_split_calls dc_split_calls pm_split_calls an_split_calls cd_split_calls ct_split_calls), sl_split_calls⟩)
    (c_c_split_calls : PySem.W.codeIn K cd_split_calls "split_calls" = true)
    (k_split_calls : PySem.W.keepIn K (.ref f_split_calls) = true)
    (a_answer_alone : PySem.W.nsIn K mainGlobals "answer_alone" = some (some (.ref f_answer_alone)))
    (l_answer_alone : K.lookup f_answer_alone = some ⟨oc_answer_alone, od_answer_alone, .func (PySem.W.fnOf "answer_alone" "answer_alone" (defArgs s_answer_alone) (defBody s_answer_alone) (defScope s_answer_alone) .none kV_answer_alone dc_answer_alone pm_answer_alone an_answer_alone cd_answer_alone ct_answer_alone), sl_answer_alone⟩)
    (c_c_answer_alone : PySem.W.codeIn K cd_answer_alone "answer_alone" = true)
    (k_answer_alone : PySem.W.keepIn K (.ref f_answer_alone) = true)
    (a_answer_begun : PySem.W.nsIn K mainGlobals "answer_begun" = some (some (.ref f_answer_begun)))
    (l_answer_begun : K.lookup f_answer_begun = some ⟨oc_answer_begun, od_answer_begun, .func (PySem.W.fnOf "answer_begun" "answer_begun" (defArgs s_answer_begun) (defBody s_answer_begun) (defScope s_answer_begun) .none kV_answer_begun dc_answer_begun pm_answer_begun an_answer_begun cd_answer_begun ct_answer_begun), sl_answer_begun⟩)
    (c_c_answer_begun : PySem.W.codeIn K cd_answer_begun "answer_begun" = true)
    (k_answer_begun : PySem.W.keepIn K (.ref f_answer_begun) = true)
    (a_answer_call : PySem.W.nsIn K mainGlobals "answer_call" = some (some (.ref f_answer_call)))
    (l_answer_call : K.lookup f_answer_call = some ⟨oc_answer_call, od_answer_call, .func (PySem.W.fnOf "answer_call" "answer_call" (defArgs s_answer_call) (defBody s_answer_call) (defScope s_answer_call) .none kV_answer_call dc_answer_call pm_answer_call an_answer_call cd_answer_call ct_answer_call), sl_answer_call⟩)
    (c_c_answer_call : PySem.W.codeIn K cd_answer_call "answer_call" = true)
    (k_answer_call : PySem.W.keepIn K (.ref f_answer_call) = true)
    (a_answers : PySem.W.nsIn K mainGlobals "answers" = some (some (.ref f_answers)))
    (l_answers : K.lookup f_answers = some ⟨oc_answers, od_answers, .func (PySem.W.fnOf "answers" "answers" (defArgs s_answers) (defBody s_answers) (defScope s_answers) .none kV_answers dc_answers pm_answers an_answers cd_answers ct_answers), sl_answers⟩)
    (c_c_answers : PySem.W.codeIn K cd_answers "answers" = true)
    (k_answers : PySem.W.keepIn K (.ref f_answers) = true) :
    ∃ fd : FuncData, (∀ (s : Shared) (us : List Value), us.length = (["calls"] : List Str).length → BindsTo s fd ⟨us, []⟩ ((["calls"] : List Str).zip us)) ∧ ∀ base : Heap, K.In base → base.Ns mainGlobals mg → FnOk P w K mg base CX0 9 fa fd ["calls"] (spAns K) := by
  have e := hfa.symm.trans (PySem.W.mg_of X G a_answers)
  cases e
  have b_range := PySem.W.mg_none_of X G zb_range
  have b_min := PySem.W.mg_none_of X G zb_min
  have g_LARGEST_NUMBER : GInt mg "LARGEST_NUMBER" (1000) := ⟨_, PySem.W.mg_of X G zg_LARGEST_NUMBER, ⟨_, rfl⟩⟩
  have b_len := PySem.W.mg_none_of X G zb_len
  have g_NOT_SO : GInt mg "NOT_SO" (-33) := ⟨_, PySem.W.mg_of X G zg_NOT_SO, ⟨_, rfl⟩⟩
  have g_MOST_BITS : GInt mg "MOST_BITS" (6) := ⟨_, PySem.W.mg_of X G zg_MOST_BITS, ⟨_, rfl⟩⟩
  have g_NOT_RIGHT : GInt mg "NOT_RIGHT" (-22) := ⟨_, PySem.W.mg_of X G zg_NOT_RIGHT, ⟨_, rfl⟩⟩
  have b_enumerate := PySem.W.mg_none_of X G zb_enumerate
  have b_list := PySem.W.mg_none_of X G zb_list
  have b_sum := PySem.W.mg_none_of X G zb_sum
  have g_NO_WORDS : GInt mg "NO_WORDS" (-6) := ⟨_, PySem.W.mg_of X G zg_NO_WORDS, ⟨_, rfl⟩⟩
  have g_ROWS := PySem.W.mg_of X G zg_ROWS
  have q_ROWS : ∀ H, SqT K H a_ROWS (lst_ROWS.map V.int) := fun H => Or.inr ⟨_, _, _, lg_ROWS, tg_ROWS, rfl, sg_ROWS, vg_ROWS⟩
  have g_WHOLES := PySem.W.mg_of X G zg_WHOLES
  have q_WHOLES : ∀ H, SqT K H a_WHOLES (lst_WHOLES.map V.int) := fun H => Or.inr ⟨_, _, _, lg_WHOLES, tg_WHOLES, rfl, sg_WHOLES, vg_WHOLES⟩
  have g_TAKEN : GInt mg "TAKEN" (11) := ⟨_, PySem.W.mg_of X G zg_TAKEN, ⟨_, rfl⟩⟩
  have g_SPREAD : GInt mg "SPREAD" (10) := ⟨_, PySem.W.mg_of X G zg_SPREAD, ⟨_, rfl⟩⟩
  have g_BEST_PROOF : GInt mg "BEST_PROOF" (9) := ⟨_, PySem.W.mg_of X G zg_BEST_PROOF, ⟨_, rfl⟩⟩
  have g_LEAST : GInt mg "LEAST" (6) := ⟨_, PySem.W.mg_of X G zg_LEAST, ⟨_, rfl⟩⟩
  have g_BY_EVEN : GInt mg "BY_EVEN" (5) := ⟨_, PySem.W.mg_of X G zg_BY_EVEN, ⟨_, rfl⟩⟩
  have g_BY_MEAN : GInt mg "BY_MEAN" (4) := ⟨_, PySem.W.mg_of X G zg_BY_MEAN, ⟨_, rfl⟩⟩
  have g_BY_CUT : GInt mg "BY_CUT" (3) := ⟨_, PySem.W.mg_of X G zg_BY_CUT, ⟨_, rfl⟩⟩
  have g_BY_BALLS : GInt mg "BY_BALLS" (2) := ⟨_, PySem.W.mg_of X G zg_BY_BALLS, ⟨_, rfl⟩⟩
  have g_HELD : GInt mg "HELD" (15) := ⟨_, PySem.W.mg_of X G zg_HELD, ⟨_, rfl⟩⟩
  have g_FILL : GInt mg "FILL" (14) := ⟨_, PySem.W.mg_of X G zg_FILL, ⟨_, rfl⟩⟩
  have g_MORE : GInt mg "MORE" (13) := ⟨_, PySem.W.mg_of X G zg_MORE, ⟨_, rfl⟩⟩
  have g_APART : GInt mg "APART" (12) := ⟨_, PySem.W.mg_of X G zg_APART, ⟨_, rfl⟩⟩
  have g_AT : GInt mg "AT" (8) := ⟨_, PySem.W.mg_of X G zg_AT, ⟨_, rfl⟩⟩
  have g_PROVES : GInt mg "PROVES" (7) := ⟨_, PySem.W.mg_of X G zg_PROVES, ⟨_, rfl⟩⟩
  have g_GOAL : GInt mg "GOAL" (1) := ⟨_, PySem.W.mg_of X G zg_GOAL, ⟨_, rfl⟩⟩
  have g_NOT_BEGUN : GInt mg "NOT_BEGUN" (-61) := ⟨_, PySem.W.mg_of X G zg_NOT_BEGUN, ⟨_, rfl⟩⟩
  have g_BEGIN : GInt mg "BEGIN" (0) := ⟨_, PySem.W.mg_of X G zg_BEGIN, ⟨_, rfl⟩⟩
  have T : DeskT K C := ⟨⟨pgC, hdC, poC, saC⟩, n_bits, n_distance⟩
  have F_power_of_two := fun_mk (st := s_power_of_two) l_power_of_two c_c_power_of_two k_power_of_two
  have b_power_of_two_ := F_power_of_two.binds (ps := ["exponent"]) fun _ _ _ _ _ _ us hl => match us, hl with | [_], _ => rfl
  have F_choose := fun_mk (st := s_choose) l_choose c_c_choose k_choose
  have b_choose_ := F_choose.binds (ps := ["total", "size"]) fun _ _ _ _ _ _ us hl => match us, hl with | [_, _], _ => rfl
  have F_sign_sum := fun_mk (st := s_sign_sum) l_sign_sum c_c_sign_sum k_sign_sum
  have b_sign_sum_ := F_sign_sum.binds (ps := ["bits", "k", "i"]) fun _ _ _ _ _ _ us hl => match us, hl with | [_, _, _], _ => rfl
  have F_comes_to := fun_mk (st := s_comes_to) l_comes_to c_c_comes_to k_comes_to
  have b_comes_to_ := F_comes_to.binds (ps := ["bits", "numbers", "i"]) fun _ _ _ _ _ _ us hl => match us, hl with | [_, _, _], _ => rfl
  have F_common_part := fun_mk (st := s_common_part) l_common_part c_c_common_part k_common_part
  have b_common_part_ := F_common_part.binds (ps := ["first", "second"]) fun _ _ _ _ _ _ us hl => match us, hl with | [_, _], _ => rfl
  have F_lowest_terms := fun_mk (st := s_lowest_terms) l_lowest_terms c_c_lowest_terms k_lowest_terms
  have b_lowest_terms_ := F_lowest_terms.binds (ps := ["above", "below"]) fun _ _ _ _ _ _ us hl => match us, hl with | [_, _], _ => rfl
  have F_by_balls := fun_mk (st := s_by_balls) l_by_balls c_c_by_balls k_by_balls
  have b_by_balls_ := F_by_balls.binds (ps := ["bits", "distance"]) fun _ _ _ _ _ _ us hl => match us, hl with | [_, _], _ => rfl
  have F_by_cut := fun_mk (st := s_by_cut) l_by_cut c_c_by_cut k_by_cut
  have b_by_cut_ := F_by_cut.binds (ps := ["bits", "distance"]) fun _ _ _ _ _ _ us hl => match us, hl with | [_, _], _ => rfl
  have F_by_mean := fun_mk (st := s_by_mean) l_by_mean c_c_by_mean k_by_mean
  have b_by_mean_ := F_by_mean.binds (ps := ["bits", "distance"]) fun _ _ _ _ _ _ us hl => match us, hl with | [_, _], _ => rfl
  have F_by_even := fun_mk (st := s_by_even) l_by_even c_c_by_even k_by_even
  have b_by_even_ := F_by_even.binds (ps := ["bits", "distance"]) fun _ _ _ _ _ _ us hl => match us, hl with | [_, _], _ => rfl
  have F_least_bound := fun_mk (st := s_least_bound) l_least_bound c_c_least_bound k_least_bound
  have b_least_bound_ := F_least_bound.binds (ps := ["bits", "distance"]) fun _ _ _ _ _ _ us hl => match us, hl with | [_, _], _ => rfl
  have F_is_right_row := fun_mk (st := s_is_right_row) l_is_right_row c_c_is_right_row k_is_right_row
  have b_is_right_row_ := F_is_right_row.binds (ps := ["bits", "numbers"]) fun _ _ _ _ _ _ us hl => match us, hl with | [_, _], _ => rfl
  have F_is_proof := fun_mk (st := s_is_proof) l_is_proof c_c_is_proof k_is_proof
  have b_is_proof_ := F_is_proof.binds (ps := ["bits", "distance", "numbers"]) fun _ _ _ _ _ _ us hl => match us, hl with | [_, _, _], _ => rfl
  have F_bound_or_refusal := fun_mk (st := s_bound_or_refusal) l_bound_or_refusal c_c_bound_or_refusal k_bound_or_refusal
  have b_bound_or_refusal_ := F_bound_or_refusal.binds (ps := ["bound"]) fun _ _ _ _ _ _ us hl => match us, hl with | [_], _ => rfl
  have F_Desk___init__ := fun_mk (st := s_Desk___init__) l_Desk___init__ c_c_Desk___init__ k_Desk___init__
  have b_Desk___init___ := F_Desk___init__.binds (ps := ["self"]) fun _ _ _ _ _ _ us hl => match us, hl with | [_], _ => rfl
  have F_Desk_is_begun := fun_mk (st := s_Desk_is_begun) l_Desk_is_begun c_c_Desk_is_begun k_Desk_is_begun
  have b_Desk_is_begun_ := F_Desk_is_begun.binds (ps := ["self"]) fun _ _ _ _ _ _ us hl => match us, hl with | [_], _ => rfl
  have F_Desk_begin := fun_mk (st := s_Desk_begin) l_Desk_begin c_c_Desk_begin k_Desk_begin
  have b_Desk_begin_ := F_Desk_begin.binds (ps := ["self", "bits", "distance"]) fun _ _ _ _ _ _ us hl => match us, hl with | [_, _, _], _ => rfl
  have F_Desk_goal := fun_mk (st := s_Desk_goal) l_Desk_goal c_c_Desk_goal k_Desk_goal
  have b_Desk_goal_ := F_Desk_goal.binds (ps := ["self", "distance"]) fun _ _ _ _ _ _ us hl => match us, hl with | [_, _], _ => rfl
  have F_Desk_balls := fun_mk (st := s_Desk_balls) l_Desk_balls c_c_Desk_balls k_Desk_balls
  have b_Desk_balls_ := F_Desk_balls.binds (ps := ["self"]) fun _ _ _ _ _ _ us hl => match us, hl with | [_], _ => rfl
  have F_Desk_cut := fun_mk (st := s_Desk_cut) l_Desk_cut c_c_Desk_cut k_Desk_cut
  have b_Desk_cut_ := F_Desk_cut.binds (ps := ["self"]) fun _ _ _ _ _ _ us hl => match us, hl with | [_], _ => rfl
  have F_Desk_mean := fun_mk (st := s_Desk_mean) l_Desk_mean c_c_Desk_mean k_Desk_mean
  have b_Desk_mean_ := F_Desk_mean.binds (ps := ["self"]) fun _ _ _ _ _ _ us hl => match us, hl with | [_], _ => rfl
  have F_Desk_even := fun_mk (st := s_Desk_even) l_Desk_even c_c_Desk_even k_Desk_even
  have b_Desk_even_ := F_Desk_even.binds (ps := ["self"]) fun _ _ _ _ _ _ us hl => match us, hl with | [_], _ => rfl
  have F_Desk_least := fun_mk (st := s_Desk_least) l_Desk_least c_c_Desk_least k_Desk_least
  have b_Desk_least_ := F_Desk_least.binds (ps := ["self"]) fun _ _ _ _ _ _ us hl => match us, hl with | [_], _ => rfl
  have F_Desk_proves := fun_mk (st := s_Desk_proves) l_Desk_proves c_c_Desk_proves k_Desk_proves
  have b_Desk_proves_ := F_Desk_proves.binds (ps := ["self", "numbers"]) fun _ _ _ _ _ _ us hl => match us, hl with | [_, _], _ => rfl
  have F_Desk_at := fun_mk (st := s_Desk_at) l_Desk_at c_c_Desk_at k_Desk_at
  have b_Desk_at_ := F_Desk_at.binds (ps := ["self", "i", "numbers"]) fun _ _ _ _ _ _ us hl => match us, hl with | [_, _, _], _ => rfl
  have F_first_table := fun_mk (st := s_first_table) l_first_table c_c_first_table k_first_table
  have b_first_table_ := F_first_table.binds (ps := ["rows"]) fun _ _ _ _ _ _ us hl => match us, hl with | [_], _ => rfl
  have F_first_broken := fun_mk (st := s_first_broken) l_first_broken c_c_first_broken k_first_broken
  have b_first_broken_ := F_first_broken.binds (ps := ["table"]) fun _ _ _ _ _ _ us hl => match us, hl with | [_], _ => rfl
  have F_is_lesser_column := fun_mk (st := s_is_lesser_column) l_is_lesser_column c_c_is_lesser_column k_is_lesser_column
  have b_is_lesser_column_ := F_is_lesser_column.binds (ps := ["table", "broken", "column", "other"]) fun _ _ _ _ _ _ us hl => match us, hl with | [_, _, _, _], _ => rfl
  have F_column_to_change := fun_mk (st := s_column_to_change) l_column_to_change c_c_column_to_change k_column_to_change
  have b_column_to_change_ := F_column_to_change.binds (ps := ["table", "broken"]) fun _ _ _ _ _ _ us hl => match us, hl with | [_, _], _ => rfl
  have F_changed_row := fun_mk (st := s_changed_row) l_changed_row c_c_changed_row k_changed_row
  have b_changed_row_ := F_changed_row.binds (ps := ["row", "broken", "column", "below"]) fun _ _ _ _ _ _ us hl => match us, hl with | [_, _, _, _], _ => rfl
  have F_least_point := fun_mk (st := s_least_point) l_least_point c_c_least_point k_least_point
  have b_least_point_ := F_least_point.binds (ps := ["rows"]) fun _ _ _ _ _ _ us hl => match us, hl with | [_], _ => rfl
  have F_best_proof_point := fun_mk (st := s_best_proof_point) l_best_proof_point c_c_best_proof_point k_best_proof_point
  have b_best_proof_point_ := F_best_proof_point.binds (ps := ["bits", "distance"]) fun _ _ _ _ _ _ us hl => match us, hl with | [_, _], _ => rfl
  have F_greatest_spread_point := fun_mk (st := s_greatest_spread_point) l_greatest_spread_point c_c_greatest_spread_point k_greatest_spread_point
  have b_greatest_spread_point_ := F_greatest_spread_point.binds (ps := ["bits", "distance"]) fun _ _ _ _ _ _ us hl => match us, hl with | [_, _], _ => rfl
  have F_are_right_words := fun_mk (st := s_are_right_words) l_are_right_words c_c_are_right_words k_are_right_words
  have b_are_right_words_ := F_are_right_words.binds (ps := ["bits", "words"]) fun _ _ _ _ _ _ us hl => match us, hl with | [_, _], _ => rfl
  have F_weight := fun_mk (st := s_weight) l_weight c_c_weight k_weight
  have b_weight_ := F_weight.binds (ps := ["word"]) fun _ _ _ _ _ _ us hl => match us, hl with | [_], _ => rfl
  have F_is_far := fun_mk (st := s_is_far) l_is_far c_c_is_far k_is_far
  have b_is_far_ := F_is_far.binds (ps := ["word", "words", "distance"]) fun _ _ _ _ _ _ us hl => match us, hl with | [_, _, _], _ => rfl
  have F_are_apart := fun_mk (st := s_are_apart) l_are_apart c_c_are_apart k_are_apart
  have b_are_apart_ := F_are_apart.binds (ps := ["words", "distance"]) fun _ _ _ _ _ _ us hl => match us, hl with | [_, _], _ => rfl
  have F_far_words := fun_mk (st := s_far_words) l_far_words c_c_far_words k_far_words
  have b_far_words_ := F_far_words.binds (ps := ["bits", "words", "distance"]) fun _ _ _ _ _ _ us hl => match us, hl with | [_, _, _], _ => rfl
  have F_filled_words := fun_mk (st := s_filled_words) l_filled_words c_c_filled_words k_filled_words
  have b_filled_words_ := F_filled_words.binds (ps := ["bits", "words", "distance"]) fun _ _ _ _ _ _ us hl => match us, hl with | [_, _, _], _ => rfl
  have F_count_twos := fun_mk (st := s_count_twos) l_count_twos c_c_count_twos k_count_twos
  have b_count_twos_ := F_count_twos.binds (ps := ["bits", "words"]) fun _ _ _ _ _ _ us hl => match us, hl with | [_, _], _ => rfl
  have F_told_fractions := fun_mk (st := s_told_fractions) l_told_fractions c_c_told_fractions k_told_fractions
  have b_told_fractions_ := F_told_fractions.binds (ps := ["aboves", "below"]) fun _ _ _ _ _ _ us hl => match us, hl with | [_, _], _ => rfl
  have F_counted := fun_mk (st := s_counted) l_counted c_c_counted k_counted
  have b_counted_ := F_counted.binds (ps := ["words"]) fun _ _ _ _ _ _ us hl => match us, hl with | [_], _ => rfl
  have F_Desk_best_proof := fun_mk (st := s_Desk_best_proof) l_Desk_best_proof c_c_Desk_best_proof k_Desk_best_proof
  have b_Desk_best_proof_ := F_Desk_best_proof.binds (ps := ["self"]) fun _ _ _ _ _ _ us hl => match us, hl with | [_], _ => rfl
  have F_Desk_spread := fun_mk (st := s_Desk_spread) l_Desk_spread c_c_Desk_spread k_Desk_spread
  have b_Desk_spread_ := F_Desk_spread.binds (ps := ["self"]) fun _ _ _ _ _ _ us hl => match us, hl with | [_], _ => rfl
  have F_Desk_taken := fun_mk (st := s_Desk_taken) l_Desk_taken c_c_Desk_taken k_Desk_taken
  have b_Desk_taken_ := F_Desk_taken.binds (ps := ["self"]) fun _ _ _ _ _ _ us hl => match us, hl with | [_], _ => rfl
  have F_Desk_apart := fun_mk (st := s_Desk_apart) l_Desk_apart c_c_Desk_apart k_Desk_apart
  have b_Desk_apart_ := F_Desk_apart.binds (ps := ["self", "words"]) fun _ _ _ _ _ _ us hl => match us, hl with | [_, _], _ => rfl
  have F_Desk_more := fun_mk (st := s_Desk_more) l_Desk_more c_c_Desk_more k_Desk_more
  have b_Desk_more_ := F_Desk_more.binds (ps := ["self", "words"]) fun _ _ _ _ _ _ us hl => match us, hl with | [_, _], _ => rfl
  have F_Desk_fill := fun_mk (st := s_Desk_fill) l_Desk_fill c_c_Desk_fill k_Desk_fill
  have b_Desk_fill_ := F_Desk_fill.binds (ps := ["self", "words"]) fun _ _ _ _ _ _ us hl => match us, hl with | [_, _], _ => rfl
  have F_Desk_held := fun_mk (st := s_Desk_held) l_Desk_held c_c_Desk_held k_Desk_held
  have b_Desk_held_ := F_Desk_held.binds (ps := ["self", "words"]) fun _ _ _ _ _ _ us hl => match us, hl with | [_, _], _ => rfl
  have F_Desk_told := fun_mk (st := s_Desk_told) l_Desk_told c_c_Desk_told k_Desk_told
  have b_Desk_told_ := F_Desk_told.binds (ps := ["self"]) fun _ _ _ _ _ _ us hl => match us, hl with | [_], _ => rfl
  have F_split_calls := fun_mk (st := s_split_calls) l_split_calls c_c_split_calls k_split_calls
  have b_split_calls_ := F_split_calls.binds (ps := ["calls"]) fun _ _ _ _ _ _ us hl => match us, hl with | [_], _ => rfl
  have F_answer_alone := fun_mk (st := s_answer_alone) l_answer_alone c_c_answer_alone k_answer_alone
  have b_answer_alone_ := F_answer_alone.binds (ps := ["desk", "call"]) fun _ _ _ _ _ _ us hl => match us, hl with | [_, _], _ => rfl
  have F_answer_begun := fun_mk (st := s_answer_begun) l_answer_begun c_c_answer_begun k_answer_begun
  have b_answer_begun_ := F_answer_begun.binds (ps := ["desk", "call", "wholes", "row"]) fun _ _ _ _ _ _ us hl => match us, hl with | [_, _, _, _], _ => rfl
  have F_answer_call := fun_mk (st := s_answer_call) l_answer_call c_c_answer_call k_answer_call
  have b_answer_call_ := F_answer_call.binds (ps := ["desk", "call", "wholes", "row"]) fun _ _ _ _ _ _ us hl => match us, hl with | [_, _, _, _], _ => rfl
  have F_answers := fun_mk (st := s_answers) l_answers c_c_answers k_answers
  have b_answers_ := F_answers.binds (ps := ["calls"]) fun _ _ _ _ _ _ us hl => match us, hl with | [_], _ => rfl
  refine ⟨PySem.W.fnOf "answers" "answers" (defArgs s_answers) (defBody s_answers) (defScope s_answers) .none kV_answers dc_answers pm_answers an_answers cd_answers ct_answers, fun s us hu => match us, hu with | [_], _ => .of_eq rfl, fun base _ _ => ?_⟩
  have c_power_of_two : Cal P w K mg base "power_of_two" 1 ["exponent"] spPow := ⟨_, _, PySem.W.mg_of X G a_power_of_two, k_power_of_two, b_power_of_two_, ok_power_of_two F_power_of_two (b_range := b_range) ⟩
  have c_choose : Cal P w K mg base "choose" 1 ["total", "size"] spChoose := ⟨_, _, PySem.W.mg_of X G a_choose, k_choose, b_choose_, ok_choose F_choose (b_range := b_range) ⟩
  have c_sign_sum : Cal P w K mg base "sign_sum" 2 ["bits", "k", "i"] spSign := ⟨_, _, PySem.W.mg_of X G a_sign_sum, k_sign_sum, b_sign_sum_, ok_sign_sum F_sign_sum (b_range := b_range) (c_choose := c_choose) ⟩
  have c_comes_to : Cal P w K mg base "comes_to" 3 ["bits", "numbers", "i"] (spComes K) := ⟨_, _, PySem.W.mg_of X G a_comes_to, k_comes_to, b_comes_to_, ok_comes_to F_comes_to (b_range := b_range) (c_sign_sum := c_sign_sum) ⟩
  have c_common_part : Cal P w K mg base "common_part" 1 ["first", "second"] spCommon := ⟨_, _, PySem.W.mg_of X G a_common_part, k_common_part, b_common_part_, ok_common_part F_common_part  ⟩
  have c_lowest_terms : Cal P w K mg base "lowest_terms" 2 ["above", "below"] spLowest := ⟨_, _, PySem.W.mg_of X G a_lowest_terms, k_lowest_terms, b_lowest_terms_, ok_lowest_terms F_lowest_terms (c_common_part := c_common_part) ⟩
  have c_by_balls : Cal P w K mg base "by_balls" 2 ["bits", "distance"] spBalls := ⟨_, _, PySem.W.mg_of X G a_by_balls, k_by_balls, b_by_balls_, ok_by_balls F_by_balls (c_power_of_two := c_power_of_two) (b_range := b_range) (c_choose := c_choose) ⟩
  have c_by_cut : Cal P w K mg base "by_cut" 2 ["bits", "distance"] spCut := ⟨_, _, PySem.W.mg_of X G a_by_cut, k_by_cut, b_by_cut_, ok_by_cut F_by_cut (c_power_of_two := c_power_of_two) ⟩
  have c_by_mean : Cal P w K mg base "by_mean" 1 ["bits", "distance"] spMean := ⟨_, _, PySem.W.mg_of X G a_by_mean, k_by_mean, b_by_mean_, ok_by_mean F_by_mean  ⟩
  have c_by_even : Cal P w K mg base "by_even" 2 ["bits", "distance"] spEven := ⟨_, _, PySem.W.mg_of X G a_by_even, k_by_even, b_by_even_, ok_by_even F_by_even (c_by_mean := c_by_mean) ⟩
  have c_least_bound : Cal P w K mg base "least_bound" 3 ["bits", "distance"] spLeastB := ⟨_, _, PySem.W.mg_of X G a_least_bound, k_least_bound, b_least_bound_, ok_least_bound F_least_bound (b_min := b_min) (c_by_even := c_by_even) (c_by_mean := c_by_mean) (c_by_cut := c_by_cut) (c_by_balls := c_by_balls) ⟩
  have c_is_right_row : Cal P w K mg base "is_right_row" 1 ["bits", "numbers"] (spRow K) := ⟨_, _, PySem.W.mg_of X G a_is_right_row, k_is_right_row, b_is_right_row_, ok_is_right_row F_is_right_row (g_LARGEST_NUMBER := g_LARGEST_NUMBER) (b_len := b_len) ⟩
  have c_is_proof : Cal P w K mg base "is_proof" 4 ["bits", "distance", "numbers"] (spProof K) := ⟨_, _, PySem.W.mg_of X G a_is_proof, k_is_proof, b_is_proof_, ok_is_proof F_is_proof (b_range := b_range) (c_comes_to := c_comes_to) ⟩
  have c_bound_or_refusal : Cal P w K mg base "bound_or_refusal" 1 ["bound"] spBoR := ⟨_, _, PySem.W.mg_of X G a_bound_or_refusal, k_bound_or_refusal, b_bound_or_refusal_, ok_bound_or_refusal F_bound_or_refusal (g_NOT_SO := g_NOT_SO) ⟩
  have mk_Desk : Mkc P w K mg base "Desk" C 1 ["self"] (spInit C) := ⟨PySem.W.mg_of X G aC, _, _, ⟨mkC, a_Desk___init__, i_Desk___init__, kcC⟩, b_Desk___init___, ok_Desk___init__ F_Desk___init__  (T := T)⟩
  have m_is_begun : Met P w K mg base C "is_begun" 1 ["self"] (spIsB C) := ⟨T.cl, _, _, ⟨a_Desk_is_begun, i_Desk_is_begun, k_Desk_is_begun⟩, b_Desk_is_begun_, ok_Desk_is_begun F_Desk_is_begun  (T := T)⟩
  have m_begin : Met P w K mg base C "begin" 1 ["self", "bits", "distance"] (spBegin C) := ⟨T.cl, _, _, ⟨a_Desk_begin, i_Desk_begin, k_Desk_begin⟩, b_Desk_begin_, ok_Desk_begin F_Desk_begin (g_MOST_BITS := g_MOST_BITS) (g_NOT_RIGHT := g_NOT_RIGHT) (T := T)⟩
  have m_goal : Met P w K mg base C "goal" 1 ["self", "distance"] (spGoal C) := ⟨T.cl, _, _, ⟨a_Desk_goal, i_Desk_goal, k_Desk_goal⟩, b_Desk_goal_, ok_Desk_goal F_Desk_goal (g_NOT_RIGHT := g_NOT_RIGHT) (T := T)⟩
  have m_balls : Met P w K mg base C "balls" 3 ["self"] (sp_balls C) := ⟨T.cl, _, _, ⟨a_Desk_balls, i_Desk_balls, k_Desk_balls⟩, b_Desk_balls_, ok_Desk_balls F_Desk_balls (c_by_balls := c_by_balls) (T := T)⟩
  have m_cut : Met P w K mg base C "cut" 3 ["self"] (sp_cut C) := ⟨T.cl, _, _, ⟨a_Desk_cut, i_Desk_cut, k_Desk_cut⟩, b_Desk_cut_, ok_Desk_cut F_Desk_cut (c_by_cut := c_by_cut) (T := T)⟩
  have m_mean : Met P w K mg base C "mean" 3 ["self"] (sp_mean C) := ⟨T.cl, _, _, ⟨a_Desk_mean, i_Desk_mean, k_Desk_mean⟩, b_Desk_mean_, ok_Desk_mean F_Desk_mean (c_bound_or_refusal := c_bound_or_refusal) (c_by_mean := c_by_mean) (T := T)⟩
  have m_even : Met P w K mg base C "even" 3 ["self"] (sp_even C) := ⟨T.cl, _, _, ⟨a_Desk_even, i_Desk_even, k_Desk_even⟩, b_Desk_even_, ok_Desk_even F_Desk_even (c_bound_or_refusal := c_bound_or_refusal) (c_by_even := c_by_even) (T := T)⟩
  have m_least : Met P w K mg base C "least" 4 ["self"] (sp_least C) := ⟨T.cl, _, _, ⟨a_Desk_least, i_Desk_least, k_Desk_least⟩, b_Desk_least_, ok_Desk_least F_Desk_least (c_least_bound := c_least_bound) (T := T)⟩
  have m_proves : Met P w K mg base C "proves" 5 ["self", "numbers"] (spProves K C) := ⟨T.cl, _, _, ⟨a_Desk_proves, i_Desk_proves, k_Desk_proves⟩, b_Desk_proves_, ok_Desk_proves F_Desk_proves (c_lowest_terms := c_lowest_terms) (c_comes_to := c_comes_to) (c_is_proof := c_is_proof) (g_NOT_SO := g_NOT_SO) (c_is_right_row := c_is_right_row) (g_NOT_RIGHT := g_NOT_RIGHT) (T := T)⟩
  have m_at : Met P w K mg base C "at" 4 ["self", "i", "numbers"] (spAt K C) := ⟨T.cl, _, _, ⟨a_Desk_at, i_Desk_at, k_Desk_at⟩, b_Desk_at_, ok_Desk_at F_Desk_at (c_comes_to := c_comes_to) (c_is_right_row := c_is_right_row) (g_NOT_RIGHT := g_NOT_RIGHT) (T := T)⟩
  have c_first_table : Cal P w K mg base "first_table" 1 ["rows"] spFirstT := ⟨_, _, PySem.W.mg_of X G a_first_table, k_first_table, b_first_table_, ok_first_table F_first_table (b_range := b_range) (b_len := b_len) ⟩
  have c_first_broken : Cal P w K mg base "first_broken" 1 ["table"] spBroken := ⟨_, _, PySem.W.mg_of X G a_first_broken, k_first_broken, b_first_broken_, ok_first_broken F_first_broken  ⟩
  have c_is_lesser_column : Cal P w K mg base "is_lesser_column" 1 ["table", "broken", "column", "other"] spLesser := ⟨_, _, PySem.W.mg_of X G a_is_lesser_column, k_is_lesser_column, b_is_lesser_column_, ok_is_lesser_column F_is_lesser_column  ⟩
  have c_column_to_change : Cal P w K mg base "column_to_change" 2 ["table", "broken"] spPick := ⟨_, _, PySem.W.mg_of X G a_column_to_change, k_column_to_change, b_column_to_change_, ok_column_to_change F_column_to_change (b_range := b_range) (b_len := b_len) (c_is_lesser_column := c_is_lesser_column) ⟩
  have c_changed_row : Cal P w K mg base "changed_row" 1 ["row", "broken", "column", "below"] spChanged := ⟨_, _, PySem.W.mg_of X G a_changed_row, k_changed_row, b_changed_row_, ok_changed_row F_changed_row (b_range := b_range) (b_len := b_len) ⟩
  have c_least_point : Cal P w K mg base "least_point" 3 ["rows"] spLeast := ⟨_, _, PySem.W.mg_of X G a_least_point, k_least_point, b_least_point_, ok_least_point F_least_point (b_len := b_len) (c_first_broken := c_first_broken) (c_changed_row := c_changed_row) (c_column_to_change := c_column_to_change) (c_first_table := c_first_table) ⟩
  have c_best_proof_point : Cal P w K mg base "best_proof_point" 4 ["bits", "distance"] spBestP := ⟨_, _, PySem.W.mg_of X G a_best_proof_point, k_best_proof_point, b_best_proof_point_, ok_best_proof_point F_best_proof_point (c_least_point := c_least_point) (b_range := b_range) (c_sign_sum := c_sign_sum) ⟩
  have c_greatest_spread_point : Cal P w K mg base "greatest_spread_point" 4 ["bits", "distance"] spGreatP := ⟨_, _, PySem.W.mg_of X G a_greatest_spread_point, k_greatest_spread_point, b_greatest_spread_point_, ok_greatest_spread_point F_greatest_spread_point (c_least_point := c_least_point) (b_range := b_range) (c_sign_sum := c_sign_sum) (c_power_of_two := c_power_of_two) ⟩
  have c_are_right_words : Cal P w K mg base "are_right_words" 2 ["bits", "words"] (spRightW K) := ⟨_, _, PySem.W.mg_of X G a_are_right_words, k_are_right_words, b_are_right_words_, ok_are_right_words F_are_right_words (c_power_of_two := c_power_of_two) ⟩
  have c_weight : Cal P w K mg base "weight" 1 ["word"] spWeight := ⟨_, _, PySem.W.mg_of X G a_weight, k_weight, b_weight_, ok_weight F_weight  ⟩
  have c_is_far : Cal P w K mg base "is_far" 2 ["word", "words", "distance"] (spFar K) := ⟨_, _, PySem.W.mg_of X G a_is_far, k_is_far, b_is_far_, ok_is_far F_is_far (c_weight := c_weight) ⟩
  have c_are_apart : Cal P w K mg base "are_apart" 3 ["words", "distance"] (spApartB K) := ⟨_, _, PySem.W.mg_of X G a_are_apart, k_are_apart, b_are_apart_, ok_are_apart F_are_apart (b_enumerate := b_enumerate) (c_is_far := c_is_far) ⟩
  have c_far_words : Cal P w K mg base "far_words" 3 ["bits", "words", "distance"] (spFarW K) := ⟨_, _, PySem.W.mg_of X G a_far_words, k_far_words, b_far_words_, ok_far_words F_far_words (c_is_far := c_is_far) (b_range := b_range) (c_power_of_two := c_power_of_two) ⟩
  have c_filled_words : Cal P w K mg base "filled_words" 3 ["bits", "words", "distance"] (spFilled K) := ⟨_, _, PySem.W.mg_of X G a_filled_words, k_filled_words, b_filled_words_, ok_filled_words F_filled_words (b_range := b_range) (c_power_of_two := c_power_of_two) (c_is_far := c_is_far) (b_list := b_list) ⟩
  have c_count_twos : Cal P w K mg base "count_twos" 2 ["bits", "words"] (spTwos K) := ⟨_, _, PySem.W.mg_of X G a_count_twos, k_count_twos, b_count_twos_, ok_count_twos F_count_twos (c_weight := c_weight) (b_range := b_range) ⟩
  have c_told_fractions : Cal P w K mg base "told_fractions" 3 ["aboves", "below"] (spTold K) := ⟨_, _, PySem.W.mg_of X G a_told_fractions, k_told_fractions, b_told_fractions_, ok_told_fractions F_told_fractions (c_lowest_terms := c_lowest_terms) ⟩
  have c_counted : Cal P w K mg base "counted" 1 ["words"] spCounted := ⟨_, _, PySem.W.mg_of X G a_counted, k_counted, b_counted_, ok_counted F_counted (b_len := b_len) ⟩
  have m_best_proof : Met P w K mg base C "best_proof" 5 ["self"] (spMBest C) := ⟨T.cl, _, _, ⟨a_Desk_best_proof, i_Desk_best_proof, k_Desk_best_proof⟩, b_Desk_best_proof_, ok_Desk_best_proof F_Desk_best_proof (c_told_fractions := c_told_fractions) (c_best_proof_point := c_best_proof_point) (T := T)⟩
  have m_spread : Met P w K mg base C "spread" 5 ["self"] (spMSpread C) := ⟨T.cl, _, _, ⟨a_Desk_spread, i_Desk_spread, k_Desk_spread⟩, b_Desk_spread_, ok_Desk_spread F_Desk_spread (b_len := b_len) (c_told_fractions := c_told_fractions) (b_sum := b_sum) (c_greatest_spread_point := c_greatest_spread_point) (T := T)⟩
  have m_taken : Met P w K mg base C "taken" 4 ["self"] (spMTaken C) := ⟨T.cl, _, _, ⟨a_Desk_taken, i_Desk_taken, k_Desk_taken⟩, b_Desk_taken_, ok_Desk_taken F_Desk_taken (c_counted := c_counted) (c_filled_words := c_filled_words) (T := T)⟩
  have m_apart : Met P w K mg base C "apart" 4 ["self", "words"] (spMApart K C) := ⟨T.cl, _, _, ⟨a_Desk_apart, i_Desk_apart, k_Desk_apart⟩, b_Desk_apart_, ok_Desk_apart F_Desk_apart (c_are_apart := c_are_apart) (c_are_right_words := c_are_right_words) (g_NOT_RIGHT := g_NOT_RIGHT) (T := T)⟩
  have m_more : Met P w K mg base C "more" 4 ["self", "words"] (spMMore K C) := ⟨T.cl, _, _, ⟨a_Desk_more, i_Desk_more, k_Desk_more⟩, b_Desk_more_, ok_Desk_more F_Desk_more (c_counted := c_counted) (c_far_words := c_far_words) (c_are_right_words := c_are_right_words) (g_NOT_RIGHT := g_NOT_RIGHT) (T := T)⟩
  have m_fill : Met P w K mg base C "fill" 4 ["self", "words"] (spMFill K C) := ⟨T.cl, _, _, ⟨a_Desk_fill, i_Desk_fill, k_Desk_fill⟩, b_Desk_fill_, ok_Desk_fill F_Desk_fill (c_counted := c_counted) (c_filled_words := c_filled_words) (c_are_apart := c_are_apart) (g_NOT_SO := g_NOT_SO) (c_are_right_words := c_are_right_words) (g_NOT_RIGHT := g_NOT_RIGHT) (T := T)⟩
  have m_held : Met P w K mg base C "held" 4 ["self", "words"] (spMHeld K C) := ⟨T.cl, _, _, ⟨a_Desk_held, i_Desk_held, k_Desk_held⟩, b_Desk_held_, ok_Desk_held F_Desk_held (b_len := b_len) (c_told_fractions := c_told_fractions) (c_count_twos := c_count_twos) (g_NO_WORDS := g_NO_WORDS) (c_are_right_words := c_are_right_words) (g_NOT_RIGHT := g_NOT_RIGHT) (T := T)⟩
  have m_told : Met P w K mg base C "told" 1 ["self"] (spMTold C) := ⟨T.cl, _, _, ⟨a_Desk_told, i_Desk_told, k_Desk_told⟩, b_Desk_told_, ok_Desk_told F_Desk_told  (T := T)⟩
  have c_split_calls : Cal P w K mg base "split_calls" 1 ["calls"] (spSplit K) := ⟨_, _, PySem.W.mg_of X G a_split_calls, k_split_calls, b_split_calls_, ok_split_calls F_split_calls (b_len := b_len) (g_ROWS := g_ROWS) (q_ROWS := q_ROWS) (g_WHOLES := g_WHOLES) (q_WHOLES := q_WHOLES) ⟩
  have c_answer_alone : Cal P w K mg base "answer_alone" 6 ["desk", "call"] (spAlone C) := ⟨_, _, PySem.W.mg_of X G a_answer_alone, k_answer_alone, b_answer_alone_, ok_answer_alone F_answer_alone (m_told := m_told) (g_TAKEN := g_TAKEN) (m_taken := m_taken) (g_SPREAD := g_SPREAD) (m_spread := m_spread) (g_BEST_PROOF := g_BEST_PROOF) (m_best_proof := m_best_proof) (g_LEAST := g_LEAST) (m_least := m_least) (g_BY_EVEN := g_BY_EVEN) (m_even := m_even) (g_BY_MEAN := g_BY_MEAN) (m_mean := m_mean) (g_BY_CUT := g_BY_CUT) (m_cut := m_cut) (g_BY_BALLS := g_BY_BALLS) (m_balls := m_balls) (T := T)⟩
  have c_answer_begun : Cal P w K mg base "answer_begun" 7 ["desk", "call", "wholes", "row"] (spBegun C) := ⟨_, _, PySem.W.mg_of X G a_answer_begun, k_answer_begun, b_answer_begun_, ok_answer_begun F_answer_begun (c_answer_alone := c_answer_alone) (g_HELD := g_HELD) (m_held := m_held) (g_FILL := g_FILL) (m_fill := m_fill) (g_MORE := g_MORE) (m_more := m_more) (g_APART := g_APART) (m_apart := m_apart) (g_AT := g_AT) (m_at := m_at) (g_PROVES := g_PROVES) (m_proves := m_proves) (g_GOAL := g_GOAL) (m_goal := m_goal) (T := T)⟩
  have c_answer_call : Cal P w K mg base "answer_call" 8 ["desk", "call", "wholes", "row"] (spCall C) := ⟨_, _, PySem.W.mg_of X G a_answer_call, k_answer_call, b_answer_call_, ok_answer_call F_answer_call (c_answer_begun := c_answer_begun) (m_is_begun := m_is_begun) (g_NOT_BEGUN := g_NOT_BEGUN) (g_BEGIN := g_BEGIN) (m_begin := m_begin) (T := T)⟩
  exact ok_answers F_answers (c_split_calls := c_split_calls) (b_len := b_len) (c_answer_call := c_answer_call) (mk_Desk := mk_Desk) (T := T)

theorem whole_id (c : List (List Int)) : PyKh408.whole c = c := by
  unfold PyKh408.whole
  split <;> rfl
theorem asked_gives {l : List Int} (h : PyKh408.answers_asked l = true) : ∃ raw, l = PyFlat.put raw ∧ (∀ c ∈ raw, PyFlat.okCall PyKh408.shape c) ∧ raw.length ≤ 60 ∧ PyKh408.answers l = due raw ∧ (due raw).length ≤ 10000000 := by
  unfold PyKh408.answers_asked at h
  cases e : PyFlat.calls PyKh408.shape l.length l with
  | none =>
    rw [e] at h
    cases h
  | some raw =>
    rw [e] at h
    have h' : (!raw.isEmpty && PyFlat.atMost 60 raw && PyInside.calls PyKh408.bound raw && Kh408Neutral.asked (raw.map PyKh408.whole) && PyFlat.short 10000000 (PyKh408.answers l)) = true := h
    simp only [Bool.and_eq_true] at h'
    obtain ⟨⟨⟨⟨_, h1⟩, _⟩, _⟩, h2⟩ := h'
    obtain ⟨e1, ok⟩ := PyFlat.put_calls _ _ _ e
    have ew : raw.map PyKh408.whole = raw := by
      have : PyKh408.whole = id := funext whole_id
      rw [this, List.map_id]
    have e2 : PyKh408.answers l = due raw := by
      unfold PyKh408.answers PyKh408.calls
      rw [e]
      show PyFlat.told (PyFlat.played Kh408Neutral.step Kh408Neutral.start (raw.map PyKh408.whole)) = _
      rw [ew]
      rfl
    refine ⟨raw, e1, ok, of_decide_eq_true h1, e2, ?_⟩
    rw [← e2]
    exact of_decide_eq_true h2
theorem mem_putRows : ∀ {xs : List (List Int)} {l : List Int} {x : Int}, l ∈ xs → x ∈ l → x ∈ PyFlat.putRows xs
  | [], _, _, h, _ => by cases h
  | y :: r, l, x, h, hx => by
    show x ∈ ((y.length : Int) :: y) ++ PyFlat.putRows r
    rw [List.mem_append]
    rcases List.mem_cons.mp h with h | h
    · subst h
      exact .inl (List.mem_cons_of_mem _ hx)
    · exact .inr (mem_putRows h hx)
theorem mem_put1 : ∀ {c : List (List Int)} {l : List Int} {x : Int}, l ∈ c → x ∈ l → x ∈ PyFlat.put1 c
  | [], _, _, h, _ => by cases h
  | hd :: xs, l, x, h, hx => by
    show x ∈ hd ++ PyFlat.putRows xs
    rw [List.mem_append]
    rcases List.mem_cons.mp h with h | h
    · subst h
      exact .inl hx
    · exact .inr (mem_putRows h hx)
theorem mem_put : ∀ {cs : List (List (List Int))} {c : List (List Int)} {x : Int}, c ∈ cs → x ∈ PyFlat.put1 c → x ∈ PyFlat.put cs
  | [], _, _, h, _ => by cases h
  | d :: cs, c, x, h, hx => by
    show x ∈ PyFlat.put1 d ++ PyFlat.put cs
    rw [List.mem_append]
    rcases List.mem_cons.mp h with h | h
    · subst h
      exact .inl hx
    · exact .inr (mem_put h hx)
theorem okC_of {raw : List (List (List Int))} (h : ∀ c ∈ raw, PyFlat.okCall PyKh408.shape c) (pos : ∀ x ∈ PyFlat.put raw, 0 ≤ x) {c : List (List Int)} (hc : c ∈ raw) : OkC c ∧ headOf c < 17 := by
  refine ⟨⟨h c hc, fun l hl x hx => pos x (mem_put hc (mem_put1 hl hx))⟩, ?_⟩
  obtain ⟨p, a, xs, rfl, hs⟩ := h c hc
  exact (shape_in hs).2
end Fw
open PySem PySem.W PyProof.Rows
set_option maxRecDepth 100000 in
set_option maxHeartbeats 8000000 in
theorem PySem.Challenge.cw_farwordsdesk_s01_answers_holds : PySem.Challenge.rw_farwordsdesk_s01_answers.Holds := by
  w_on; k_headS; (case hw => exact ⟨[.list [.int 2]], by decide +kernel, by decide +kernel⟩)
  k_fillS
  refine L2.walk_specK (r := PySem.Challenge.rw_farwordsdesk_s01_answers) (k := 9) (CX := L2.CX0) (ps := ["calls"]) (sp := Fw.spAns) (by decide +kernel) rfl rfl ⟨rfl, by decide, by decide⟩ (fun w h Y => PySem.W.kIn_of Y) ?F ?S (fun _ _ _ _ z => z)
  case F =>
    intro w mg fa h Y KX G hmg
    refine' Fw.all_mk KX G hmg ?aC ?pgC ?hdC ?poC ?saC ?mkC ?kcC ?n_bits ?n_distance ?zb_range ?zb_min ?zg_LARGEST_NUMBER ?zb_len ?zg_NOT_SO ?zg_MOST_BITS ?zg_NOT_RIGHT ?zb_enumerate ?zb_list ?zb_sum ?zg_NO_WORDS ?zg_ROWS ?lg_ROWS ?tg_ROWS ?sg_ROWS ?vg_ROWS ?zg_WHOLES ?lg_WHOLES ?tg_WHOLES ?sg_WHOLES ?vg_WHOLES ?zg_TAKEN ?zg_SPREAD ?zg_BEST_PROOF ?zg_LEAST ?zg_BY_EVEN ?zg_BY_MEAN ?zg_BY_CUT ?zg_BY_BALLS ?zg_HELD ?zg_FILL ?zg_MORE ?zg_APART ?zg_AT ?zg_PROVES ?zg_GOAL ?zg_NOT_BEGUN ?zg_BEGIN ?a_power_of_two ?l_power_of_two ?c_c_power_of_two ?k_power_of_two ?a_choose ?l_choose ?c_c_choose ?k_choose ?a_sign_sum ?l_sign_sum ?c_c_sign_sum ?k_sign_sum ?a_comes_to ?l_comes_to ?c_c_comes_to ?k_comes_to ?a_common_part ?l_common_part ?c_c_common_part ?k_common_part ?a_lowest_terms ?l_lowest_terms ?c_c_lowest_terms ?k_lowest_terms ?a_by_balls ?l_by_balls ?c_c_by_balls ?k_by_balls ?a_by_cut ?l_by_cut ?c_c_by_cut ?k_by_cut ?a_by_mean ?l_by_mean ?c_c_by_mean ?k_by_mean ?a_by_even ?l_by_even ?c_c_by_even ?k_by_even ?a_least_bound ?l_least_bound ?c_c_least_bound ?k_least_bound ?a_is_right_row ?l_is_right_row ?c_c_is_right_row ?k_is_right_row ?a_is_proof ?l_is_proof ?c_c_is_proof ?k_is_proof ?a_bound_or_refusal ?l_bound_or_refusal ?c_c_bound_or_refusal ?k_bound_or_refusal ?a_Desk___init__ ?i_Desk___init__ ?l_Desk___init__ ?c_c_Desk___init__ ?k_Desk___init__ ?a_Desk_is_begun ?i_Desk_is_begun ?l_Desk_is_begun ?c_c_Desk_is_begun ?k_Desk_is_begun ?a_Desk_begin ?i_Desk_begin ?l_Desk_begin ?c_c_Desk_begin ?k_Desk_begin ?a_Desk_goal ?i_Desk_goal ?l_Desk_goal ?c_c_Desk_goal ?k_Desk_goal ?a_Desk_balls ?i_Desk_balls ?l_Desk_balls ?c_c_Desk_balls ?k_Desk_balls ?a_Desk_cut ?i_Desk_cut ?l_Desk_cut ?c_c_Desk_cut ?k_Desk_cut ?a_Desk_mean ?i_Desk_mean ?l_Desk_mean ?c_c_Desk_mean ?k_Desk_mean ?a_Desk_even ?i_Desk_even ?l_Desk_even ?c_c_Desk_even ?k_Desk_even ?a_Desk_least ?i_Desk_least ?l_Desk_least ?c_c_Desk_least ?k_Desk_least ?a_Desk_proves ?i_Desk_proves ?l_Desk_proves ?c_c_Desk_proves ?k_Desk_proves ?a_Desk_at ?i_Desk_at ?l_Desk_at ?c_c_Desk_at ?k_Desk_at ?a_first_table ?l_first_table ?c_c_first_table ?k_first_table ?a_first_broken ?l_first_broken ?c_c_first_broken ?k_first_broken ?a_is_lesser_column ?l_is_lesser_column ?c_c_is_lesser_column ?k_is_lesser_column ?a_column_to_change ?l_column_to_change ?c_c_column_to_change ?k_column_to_change ?a_changed_row ?l_changed_row ?c_c_changed_row ?k_changed_row ?a_least_point ?l_least_point ?c_c_least_point ?k_least_point ?a_best_proof_point ?l_best_proof_point ?c_c_best_proof_point ?k_best_proof_point ?a_greatest_spread_point ?l_greatest_spread_point ?c_c_greatest_spread_point ?k_greatest_spread_point ?a_are_right_words ?l_are_right_words ?c_c_are_right_words ?k_are_right_words ?a_weight ?l_weight ?c_c_weight ?k_weight ?a_is_far ?l_is_far ?c_c_is_far ?k_is_far ?a_are_apart ?l_are_apart ?c_c_are_apart ?k_are_apart ?a_far_words ?l_far_words ?c_c_far_words ?k_far_words ?a_filled_words ?l_filled_words ?c_c_filled_words ?k_filled_words ?a_count_twos ?l_count_twos ?c_c_count_twos ?k_count_twos ?a_told_fractions ?l_told_fractions ?c_c_told_fractions ?k_told_fractions ?a_counted ?l_counted ?c_c_counted ?k_counted ?a_Desk_best_proof ?i_Desk_best_proof ?l_Desk_best_proof ?c_c_Desk_best_proof ?k_Desk_best_proof ?a_Desk_spread ?i_Desk_spread ?l_Desk_spread ?c_c_Desk_spread ?k_Desk_spread ?a_Desk_taken ?i_Desk_taken ?l_Desk_taken ?c_c_Desk_taken ?k_Desk_taken ?a_Desk_apart ?i_Desk_apart ?l_Desk_apart ?c_c_Desk_apart ?k_Desk_apart ?a_Desk_more ?i_Desk_more ?l_Desk_more ?c_c_Desk_more ?k_Desk_more ?a_Desk_fill ?i_Desk_fill ?l_Desk_fill ?c_c_Desk_fill ?k_Desk_fill ?a_Desk_held ?i_Desk_held ?l_Desk_held ?c_c_Desk_held ?k_Desk_held ?a_Desk_told ?i_Desk_told ?l_Desk_told ?c_c_Desk_told ?k_Desk_told ?a_split_calls ?l_split_calls ?c_c_split_calls ?k_split_calls ?a_answer_alone ?l_answer_alone ?c_c_answer_alone ?k_answer_alone ?a_answer_begun ?l_answer_begun ?c_c_answer_begun ?k_answer_begun ?a_answer_call ?l_answer_call ?c_c_answer_call ?k_answer_call ?a_answers ?l_answers ?c_c_answers ?k_answers
    (case aC => k_is)
    (case pgC => k_is)
    (case hdC => k_is)
    (case poC => k_is)
    (case saC => k_is)
    (case mkC => k_is)
    (case kcC => k_is)
    (case n_bits => k_is)
    (case n_distance => k_is)
    (case zb_range => k_is)
    (case zb_min => k_is)
    (case zg_LARGEST_NUMBER => k_is)
    (case zb_len => k_is)
    (case zg_NOT_SO => k_is)
    (case zg_MOST_BITS => k_is)
    (case zg_NOT_RIGHT => k_is)
    (case zb_enumerate => k_is)
    (case zb_list => k_is)
    (case zb_sum => k_is)
    (case zg_NO_WORDS => k_is)
    (case zg_ROWS => k_is)
    (case lg_ROWS => k_is)
    (case tg_ROWS => rfl)
    (case sg_ROWS => (first | decide +kernel | k_is))
    (case vg_ROWS => (repeat (first | exact .nil | refine .cons ⟨_, rfl⟩ ?_)))
    (case zg_WHOLES => k_is)
    (case lg_WHOLES => k_is)
    (case tg_WHOLES => rfl)
    (case sg_WHOLES => (first | decide +kernel | k_is))
    (case vg_WHOLES => (repeat (first | exact .nil | refine .cons ⟨_, rfl⟩ ?_)))
    (case zg_TAKEN => k_is)
    (case zg_SPREAD => k_is)
    (case zg_BEST_PROOF => k_is)
    (case zg_LEAST => k_is)
    (case zg_BY_EVEN => k_is)
    (case zg_BY_MEAN => k_is)
    (case zg_BY_CUT => k_is)
    (case zg_BY_BALLS => k_is)
    (case zg_HELD => k_is)
    (case zg_FILL => k_is)
    (case zg_MORE => k_is)
    (case zg_APART => k_is)
    (case zg_AT => k_is)
    (case zg_PROVES => k_is)
    (case zg_GOAL => k_is)
    (case zg_NOT_BEGUN => k_is)
    (case zg_BEGIN => k_is)
    (case a_power_of_two => k_is)
    (case l_power_of_two => k_is)
    (case c_c_power_of_two => k_is)
    (case k_power_of_two => k_is)
    (case a_choose => k_is)
    (case l_choose => k_is)
    (case c_c_choose => k_is)
    (case k_choose => k_is)
    (case a_sign_sum => k_is)
    (case l_sign_sum => k_is)
    (case c_c_sign_sum => k_is)
    (case k_sign_sum => k_is)
    (case a_comes_to => k_is)
    (case l_comes_to => k_is)
    (case c_c_comes_to => k_is)
    (case k_comes_to => k_is)
    (case a_common_part => k_is)
    (case l_common_part => k_is)
    (case c_c_common_part => k_is)
    (case k_common_part => k_is)
    (case a_lowest_terms => k_is)
    (case l_lowest_terms => k_is)
    (case c_c_lowest_terms => k_is)
    (case k_lowest_terms => k_is)
    (case a_by_balls => k_is)
    (case l_by_balls => k_is)
    (case c_c_by_balls => k_is)
    (case k_by_balls => k_is)
    (case a_by_cut => k_is)
    (case l_by_cut => k_is)
    (case c_c_by_cut => k_is)
    (case k_by_cut => k_is)
    (case a_by_mean => k_is)
    (case l_by_mean => k_is)
    (case c_c_by_mean => k_is)
    (case k_by_mean => k_is)
    (case a_by_even => k_is)
    (case l_by_even => k_is)
    (case c_c_by_even => k_is)
    (case k_by_even => k_is)
    (case a_least_bound => k_is)
    (case l_least_bound => k_is)
    (case c_c_least_bound => k_is)
    (case k_least_bound => k_is)
    (case a_is_right_row => k_is)
    (case l_is_right_row => k_is)
    (case c_c_is_right_row => k_is)
    (case k_is_right_row => k_is)
    (case a_is_proof => k_is)
    (case l_is_proof => k_is)
    (case c_c_is_proof => k_is)
    (case k_is_proof => k_is)
    (case a_bound_or_refusal => k_is)
    (case l_bound_or_refusal => k_is)
    (case c_c_bound_or_refusal => k_is)
    (case k_bound_or_refusal => k_is)
    (case a_Desk___init__ => k_is)
    (case i_Desk___init__ => k_is)
    (case l_Desk___init__ => k_is)
    (case c_c_Desk___init__ => k_is)
    (case k_Desk___init__ => k_is)
    (case a_Desk_is_begun => k_is)
    (case i_Desk_is_begun => k_is)
    (case l_Desk_is_begun => k_is)
    (case c_c_Desk_is_begun => k_is)
    (case k_Desk_is_begun => k_is)
    (case a_Desk_begin => k_is)
    (case i_Desk_begin => k_is)
    (case l_Desk_begin => k_is)
    (case c_c_Desk_begin => k_is)
    (case k_Desk_begin => k_is)
    (case a_Desk_goal => k_is)
    (case i_Desk_goal => k_is)
    (case l_Desk_goal => k_is)
    (case c_c_Desk_goal => k_is)
    (case k_Desk_goal => k_is)
    (case a_Desk_balls => k_is)
    (case i_Desk_balls => k_is)
    (case l_Desk_balls => k_is)
    (case c_c_Desk_balls => k_is)
    (case k_Desk_balls => k_is)
    (case a_Desk_cut => k_is)
    (case i_Desk_cut => k_is)
    (case l_Desk_cut => k_is)
    (case c_c_Desk_cut => k_is)
    (case k_Desk_cut => k_is)
    (case a_Desk_mean => k_is)
    (case i_Desk_mean => k_is)
    (case l_Desk_mean => k_is)
    (case c_c_Desk_mean => k_is)
    (case k_Desk_mean => k_is)
    (case a_Desk_even => k_is)
    (case i_Desk_even => k_is)
    (case l_Desk_even => k_is)
    (case c_c_Desk_even => k_is)
    (case k_Desk_even => k_is)
    (case a_Desk_least => k_is)
    (case i_Desk_least => k_is)
    (case l_Desk_least => k_is)
    (case c_c_Desk_least => k_is)
    (case k_Desk_least => k_is)
    (case a_Desk_proves => k_is)
    (case i_Desk_proves => k_is)
    (case l_Desk_proves => k_is)
    (case c_c_Desk_proves => k_is)
    (case k_Desk_proves => k_is)
    (case a_Desk_at => k_is)
    (case i_Desk_at => k_is)
    (case l_Desk_at => k_is)
    (case c_c_Desk_at => k_is)
    (case k_Desk_at => k_is)
    (case a_first_table => k_is)
    (case l_first_table => k_is)
    (case c_c_first_table => k_is)
    (case k_first_table => k_is)
    (case a_first_broken => k_is)
    (case l_first_broken => k_is)
    (case c_c_first_broken => k_is)
    (case k_first_broken => k_is)
    (case a_is_lesser_column => k_is)
    (case l_is_lesser_column => k_is)
    (case c_c_is_lesser_column => k_is)
    (case k_is_lesser_column => k_is)
    (case a_column_to_change => k_is)
    (case l_column_to_change => k_is)
    (case c_c_column_to_change => k_is)
    (case k_column_to_change => k_is)
    (case a_changed_row => k_is)
    (case l_changed_row => k_is)
    (case c_c_changed_row => k_is)
    (case k_changed_row => k_is)
    (case a_least_point => k_is)
    (case l_least_point => k_is)
    (case c_c_least_point => k_is)
    (case k_least_point => k_is)
    (case a_best_proof_point => k_is)
    (case l_best_proof_point => k_is)
    (case c_c_best_proof_point => k_is)
    (case k_best_proof_point => k_is)
    (case a_greatest_spread_point => k_is)
    (case l_greatest_spread_point => k_is)
    (case c_c_greatest_spread_point => k_is)
    (case k_greatest_spread_point => k_is)
    (case a_are_right_words => k_is)
    (case l_are_right_words => k_is)
    (case c_c_are_right_words => k_is)
    (case k_are_right_words => k_is)
    (case a_weight => k_is)
    (case l_weight => k_is)
    (case c_c_weight => k_is)
    (case k_weight => k_is)
    (case a_is_far => k_is)
    (case l_is_far => k_is)
    (case c_c_is_far => k_is)
    (case k_is_far => k_is)
    (case a_are_apart => k_is)
    (case l_are_apart => k_is)
    (case c_c_are_apart => k_is)
    (case k_are_apart => k_is)
    (case a_far_words => k_is)
    (case l_far_words => k_is)
    (case c_c_far_words => k_is)
    (case k_far_words => k_is)
    (case a_filled_words => k_is)
    (case l_filled_words => k_is)
    (case c_c_filled_words => k_is)
    (case k_filled_words => k_is)
    (case a_count_twos => k_is)
    (case l_count_twos => k_is)
    (case c_c_count_twos => k_is)
    (case k_count_twos => k_is)
    (case a_told_fractions => k_is)
    (case l_told_fractions => k_is)
    (case c_c_told_fractions => k_is)
    (case k_told_fractions => k_is)
    (case a_counted => k_is)
    (case l_counted => k_is)
    (case c_c_counted => k_is)
    (case k_counted => k_is)
    (case a_Desk_best_proof => k_is)
    (case i_Desk_best_proof => k_is)
    (case l_Desk_best_proof => k_is)
    (case c_c_Desk_best_proof => k_is)
    (case k_Desk_best_proof => k_is)
    (case a_Desk_spread => k_is)
    (case i_Desk_spread => k_is)
    (case l_Desk_spread => k_is)
    (case c_c_Desk_spread => k_is)
    (case k_Desk_spread => k_is)
    (case a_Desk_taken => k_is)
    (case i_Desk_taken => k_is)
    (case l_Desk_taken => k_is)
    (case c_c_Desk_taken => k_is)
    (case k_Desk_taken => k_is)
    (case a_Desk_apart => k_is)
    (case i_Desk_apart => k_is)
    (case l_Desk_apart => k_is)
    (case c_c_Desk_apart => k_is)
    (case k_Desk_apart => k_is)
    (case a_Desk_more => k_is)
    (case i_Desk_more => k_is)
    (case l_Desk_more => k_is)
    (case c_c_Desk_more => k_is)
    (case k_Desk_more => k_is)
    (case a_Desk_fill => k_is)
    (case i_Desk_fill => k_is)
    (case l_Desk_fill => k_is)
    (case c_c_Desk_fill => k_is)
    (case k_Desk_fill => k_is)
    (case a_Desk_held => k_is)
    (case i_Desk_held => k_is)
    (case l_Desk_held => k_is)
    (case c_c_Desk_held => k_is)
    (case k_Desk_held => k_is)
    (case a_Desk_told => k_is)
    (case i_Desk_told => k_is)
    (case l_Desk_told => k_is)
    (case c_c_Desk_told => k_is)
    (case k_Desk_told => k_is)
    (case a_split_calls => k_is)
    (case l_split_calls => k_is)
    (case c_c_split_calls => k_is)
    (case k_split_calls => k_is)
    (case a_answer_alone => k_is)
    (case l_answer_alone => k_is)
    (case c_c_answer_alone => k_is)
    (case k_answer_alone => k_is)
    (case a_answer_begun => k_is)
    (case l_answer_begun => k_is)
    (case c_c_answer_begun => k_is)
    (case k_answer_begun => k_is)
    (case a_answer_call => k_is)
    (case l_answer_call => k_is)
    (case c_c_answer_call => k_is)
    (case k_answer_call => k_is)
    (case a_answers => k_is)
    (case l_answers => k_is)
    (case c_c_answers => k_is)
    (case k_answers => k_is)
  case S =>
    intro K H xs a hO hwi hask hx
    cases hx with
    | cons h1 h2 =>
      cases h2
      cases h1 with
      | lst hs ha =>
        have e := L2.ints_dw a.1 _ ha
        subst e
        have q : ((Codec.inLen 0 5000 a.1 && a.1.all (Codec.inInt 0 2147483647)) && true) = true := hwi
        rw [Bool.and_eq_true, Bool.and_eq_true] at q
        have ask : PyKh408.answers_asked a.1 = true := hask
        obtain ⟨raw, e1, h3, h4, h5, h6⟩ := Fw.asked_gives ask
        have pos := fun x hx => (Codec.inInt_iff.mp (List.all_eq_true.mp q.1.2 x hx)).1
        have hs' := hs
        rw [e1] at hs'
        refine ⟨_, raw, rfl, hs', fun c hc => Fw.okC_of h3 (by rw [← e1]; exact pos) hc, Nat.le_trans h4 (by decide), h6, fun H' p hp => ?_⟩
        have hp' : H' p = some (.lst ((PyKh408.answers a.1).map L2.V.int)) := by rw [h5]; exact hp
        exact .lst (L2.SqL.of hp') (L2.dw_ints _)
#print axioms PySem.Challenge.cw_farwordsdesk_s01_answers_holds

