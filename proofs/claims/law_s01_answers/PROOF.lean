import PyProof.Rows.All
import Wide.All
import OpenK.AllK
import Wide.FinOn
import Open.SpecLaws
import KE.OsGo
import HandS.ForSpec
import HandS.Comp
import HandS.Iter
import HandS.Rev
import HandS.Walk
import HandS.WordsDict
import PySem.Challenge.RW_namedinturn_s01_answers
set_option Elab.async false
namespace Nt
/-! ### A. made -/
inductive Mk (l : List Nat) : Nat → Prop
  | zero : Mk l 0
  | add {a n : Nat} : a ∈ l → Mk l n → Mk l (n + a)
theorem Mk.plus {l : List Nat} {m n : Nat} (h : Mk l m) (k : Mk l n) : Mk l (m + n) := by
  induction k with
  | zero => exact h
  | add ha _ ih => rw [← Nat.add_assoc]; exact .add ha ih
theorem Mk.mem {l : List Nat} {a : Nat} (h : a ∈ l) : Mk l a := by
  have := Mk.add h Mk.zero
  simpa using this
theorem Mk.times {l : List Nat} {n : Nat} (h : Mk l n) : ∀ k, Mk l (k * n)
  | 0 => by rw [Nat.zero_mul]; exact .zero
  | k + 1 => by rw [Nat.succ_mul]; exact (h.times k).plus h
def md (l : List Nat) (n : Nat) : Bool := (Uw60.tableDown l n).headD false
theorem td_get (l : List Nat) : ∀ n i, i ≤ n → (Uw60.tableDown l n).getD i false = md l (n - i)
  | 0, i, h => by
    have : i = 0 := by omega
    subst this; rfl
  | n + 1, 0, _ => rfl
  | n + 1, i + 1, h => by
    show (Uw60.tableDown l n).getD i false = _
    rw [td_get l n i (by omega)]; congr 1; omega
theorem td_len (l : List Nat) : ∀ n, (Uw60.tableDown l n).length = n + 1
  | 0 => rfl
  | n + 1 => by show (Uw60.tableDown l n).length + 1 = _; rw [td_len l n]
theorem md_zero (l : List Nat) : md l 0 = true := rfl
theorem md_succ (l : List Nat) (n : Nat) : md l (n + 1) = l.any fun a => decide (1 ≤ a ∧ a ≤ n + 1) && md l (n + 1 - a) := by
  show (l.any fun a => decide (1 ≤ a ∧ a ≤ n + 1) && (Uw60.tableDown l n).getD (a - 1) false) = _
  congr 1
  funext a
  by_cases h : 1 ≤ a ∧ a ≤ n + 1
  · rw [td_get l n (a - 1) (by omega)]
    have : n - (a - 1) = n + 1 - a := by omega
    rw [this]
  · rw [decide_eq_false h]; rfl
theorem table_get (l : List Nat) (n i : Nat) (h : i ≤ n) : (Uw60.table l n).getD i false = md l i := by
  unfold Uw60.table
  have hl := td_len l n
  rw [List.getD_eq_getElem?_getD, List.getElem?_reverse (by omega), ← List.getD_eq_getElem?_getD, td_get l n _ (by omega)]
  congr 1; omega
theorem table_len (l : List Nat) (n : Nat) : (Uw60.table l n).length = n + 1 := by
  unfold Uw60.table; rw [List.length_reverse, td_len]
theorem table_map (l : List Nat) (n : Nat) : Uw60.table l n = (List.range (n + 1)).map (md l) := by
  apply List.ext_getElem
  · rw [table_len, List.length_map, List.length_range]
  · intro i h1 h2
    rw [table_len] at h1
    have := table_get l n i (by omega)
    rw [List.getD_eq_getElem?_getD, List.getElem?_eq_getElem (by rw [table_len]; omega)] at this
    simpa using this
theorem made_md (l : List Nat) (n : Nat) : Uw60.made l n = md l n := table_get l n n (Nat.le_refl _)
theorem md_iff (l : List Nat) (n : Nat) : md l n = true ↔ Mk l n := by
  constructor
  · induction n using Nat.strongRecOn with
    | ind n ih =>
      intro h
      match n, ih, h with
      | 0, _, _ => exact .zero
      | n + 1, ih, h =>
        rw [md_succ, List.any_eq_true] at h
        obtain ⟨a, ha, h⟩ := h
        rw [Bool.and_eq_true, decide_eq_true_iff] at h
        have := Mk.add ha (ih (n + 1 - a) (by omega) h.2)
        rwa [Nat.sub_add_cancel h.1.2] at this
  · intro h
    induction h with
    | zero => rfl
    | @add a n ha _ ih =>
      match a, ha with
      | 0, _ => exact ih
      | a + 1, ha =>
        show md l (n + a + 1) = true
        rw [md_succ, List.any_eq_true]
        refine ⟨a + 1, ha, ?_⟩
        rw [Bool.and_eq_true, decide_eq_true_iff]
        refine ⟨by omega, ?_⟩
        have : n + a + 1 - (a + 1) = n := by omega
        rw [this]; exact ih
def gp (l : List Nat) (n : Nat) : List Nat := (List.range n).filter fun i => decide (2 ≤ i) && !md l i
theorem zip_filter (f : Nat → Bool) (q : Bool × Nat → Bool) : ∀ n k, ((((List.range' k n).map f).zipIdx k).filter q).map (fun z => z.2) = (List.range' k n).filter fun i => q (f i, i)
  | 0, _ => rfl
  | n + 1, k => by
    rw [List.range'_succ, List.map_cons, List.zipIdx_cons, List.filter_cons, List.filter_cons]
    have ih := zip_filter f q n (k + 1)
    split <;> rename_i h
    · rw [List.map_cons, ih]
    · exact ih
theorem gaps_gp (l : List Nat) : Uw60.gaps l = gp l 1601 := by
  unfold Uw60.gaps gp
  rw [table_map, List.range_eq_range', List.range_eq_range', show Uw60.MOST * Uw60.MOST + 1 = 1601 from rfl]
  generalize 1601 = N
  exact zip_filter (md l) (fun z => decide (2 ≤ z.2) && !z.1) N 0
theorem gp_succ (l : List Nat) (n : Nat) : gp l (n + 1) = gp l n ++ if 2 ≤ n ∧ md l n = false then [n] else [] := by
  unfold gp
  rw [List.range_succ, List.filter_append]
  congr 1
  rw [List.filter_cons]
  by_cases h : 2 ≤ n <;> cases e : md l n <;> simp [h]
end Nt
set_option Elab.async false
namespace Nt
/-! ### B. numbers without a common divisor make all from 1560 on -/
/-- up to what a makes, it is made -/
def Rs (l : List Nat) (a x : Nat) : Prop := ∃ m, Mk l m ∧ m % a = x % a
theorem Rs.plus {l : List Nat} {a x y : Nat} (h : Rs l a x) (k : Rs l a y) : Rs l a (x + y) := by
  obtain ⟨m, h, e⟩ := h
  obtain ⟨n, k, f⟩ := k
  exact ⟨m + n, h.plus k, by rw [Nat.add_mod, e, f, ← Nat.add_mod]⟩
theorem Rs.times {l : List Nat} {a x : Nat} (h : Rs l a x) (k : Nat) : Rs l a (k * x) := by
  obtain ⟨m, h, e⟩ := h
  exact ⟨k * m, h.times k, by rw [Nat.mul_mod, e, ← Nat.mul_mod]⟩
theorem Rs.congr {l : List Nat} {a x y : Nat} (h : Rs l a x) (e : x % a = y % a) : Rs l a y := by
  obtain ⟨m, h, f⟩ := h
  exact ⟨m, h, f.trans e⟩
theorem Rs.mod {l : List Nat} {a x y : Nat} (ha : 1 ≤ a) (h : Rs l a x) (k : Rs l a y) : Rs l a (x % y) := by
  have z := h.plus (k.times ((a - 1) * (x / y)))
  refine z.congr ?_
  have e : x + (a - 1) * (x / y) * y = x % y + a * (x / y * y) := by
    have d := Nat.mod_add_div x y
    obtain ⟨b, rfl⟩ : ∃ b, a = b + 1 := ⟨a - 1, by omega⟩
    have d2 : x % y + x / y * y = x := by rw [Nat.mul_comm]; exact d
    rw [Nat.add_sub_cancel, Nat.mul_assoc, Nat.succ_mul]
    omega
  rw [e, Nat.add_mul_mod_self_left]
theorem Rs.gcd {l : List Nat} {a : Nat} (ha : 1 ≤ a) : ∀ (x y : Nat), Rs l a x → Rs l a y → Rs l a (Nat.gcd x y) := by
  intro x y
  induction x, y using Nat.gcd.induction with
  | H0 n => intro _ h; rwa [Nat.gcd_zero_left]
  | H1 m n _ ih =>
    intro h k
    rw [Nat.gcd_rec]
    exact ih (k.mod ha h) h
theorem Rs.fold {l : List Nat} {a : Nat} (ha : 1 ≤ a) : ∀ (r : List Nat) (d : Nat), (∀ x ∈ r, x ∈ l) → Rs l a d → Rs l a (r.foldl Nat.gcd d)
  | [], _, _, h => h
  | x :: r, d, s, h => Rs.fold ha r _ (fun y hy => s y (List.mem_cons_of_mem _ hy)) (Rs.gcd ha d x h ⟨x, Mk.mem (s x List.mem_cons_self), rfl⟩)
theorem Rs.all {l : List Nat} {a : Nat} (ha : 1 ≤ a) (h : Uw60.common l = 1) (x : Nat) : Rs l a x := by
  have z : Rs l a 1 := by
    rw [← h]
    exact Rs.fold ha l 0 (fun _ q => q) ⟨0, .zero, rfl⟩
  have := z.times x
  rwa [Nat.mul_one] at this
/-- made in a window of a, from n on -/
def cn (l : List Nat) (a n : Nat) : Nat := (List.range' n a).countP (md l)
theorem cn_step (l : List Nat) (a n : Nat) : cn l a (n + 1) + (if md l n = true then 1 else 0) = cn l a n + (if md l (n + a) = true then 1 else 0) := by
  have e1 : (List.range' n (a + 1)).countP (md l) = cn l a (n + 1) + (if md l n = true then 1 else 0) := by
    rw [List.range'_succ, List.countP_cons]; rfl
  have e2 : (List.range' n (a + 1)).countP (md l) = cn l a n + (if md l (n + a) = true then 1 else 0) := by
    rw [List.range'_concat, List.countP_append, List.countP_cons, List.countP_nil, Nat.one_mul]
    show _ = cn l a n + _
    unfold cn
    omega
  rw [← e1, e2]
theorem md_plus {l : List Nat} {a : Nat} (ha : a ∈ l) {n : Nat} (h : md l n = true) : md l (n + a) = true := (md_iff _ _).2 (.add ha ((md_iff _ _).1 h))
theorem cn_mono {l : List Nat} {a : Nat} (ha : a ∈ l) (n : Nat) : cn l a n ≤ cn l a (n + 1) := by
  have := cn_step l a n
  cases h : md l n
  · rw [h] at this; simp at this; omega
  · rw [h, md_plus ha h] at this; simp at this; omega
theorem cn_mono' {l : List Nat} {a : Nat} (ha : a ∈ l) (n : Nat) : ∀ k, cn l a n ≤ cn l a (n + k)
  | 0 => Nat.le_refl _
  | k + 1 => Nat.le_trans (cn_mono' ha n k) (cn_mono ha (n + k))
theorem cn_same {l : List Nat} {a : Nat} (ha : a ∈ l) (n k : Nat) (h : cn l a (n + k) ≤ cn l a n) (i : Nat) (hi : i < k) (hm : md l (n + i + a) = true) : md l (n + i) = true := by
  cases e : md l (n + i)
  · exfalso
    have s := cn_step l a (n + i)
    rw [e, hm] at s; simp at s
    have m1 := cn_mono' ha n i
    have m2 := cn_mono' ha (n + i + 1) (k - (i + 1))
    have : n + i + 1 + (k - (i + 1)) = n + k := by omega
    rw [this] at m2
    omega
  · rfl
theorem mk_last {l : List Nat} {n : Nat} (h : Mk l n) (h0 : n ≠ 0) : ∃ a, a ∈ l ∧ a ≤ n ∧ Mk l (n - a) := by
  cases h with
  | zero => exact absurd rfl h0
  | @add a n ha hm => exact ⟨a, ha, by omega, by rwa [Nat.add_sub_cancel]⟩
theorem back {l : List Nat} {a n : Nat} (ha : a ∈ l) (hb : ∀ x ∈ l, 1 ≤ x ∧ x ≤ 40) (h : cn l a (n + 40) ≤ cn l a n) (m : Nat) : n ≤ m → md l (m + a) = true → md l m = true := by
  induction m using Nat.strongRecOn with
  | ind m ih =>
    intro hn hm
    by_cases c : m < n + 40
    · have := cn_same ha n 40 h (m - n) (by omega)
      rw [show n + (m - n) = m by omega] at this
      exact this hm
    · obtain ⟨g, hg, hle, hk⟩ := mk_last ((md_iff _ _).1 hm) (by have := (hb a ha).1; omega)
      have b := hb g hg
      have z := ih (m - g) (by omega) (by omega) ((md_iff _ _).2 (by rwa [show m - g + a = m + a - g by omega]))
      have := md_plus hg z
      rwa [show m - g + g = m by omega] at this
theorem back_all {l : List Nat} {a n : Nat} (hc : Uw60.common l = 1) (ha : a ∈ l) (hb : ∀ x ∈ l, 1 ≤ x ∧ x ≤ 40) (h : cn l a (n + 40) ≤ cn l a n) (m : Nat) (hm : n ≤ m) : md l m = true := by
  have a1 := (hb a ha).1
  obtain ⟨x, hx, e⟩ := Rs.all a1 hc m
  -- a number of m's class beyond m and x
  have hk : Mk l (m + a * x) := by
    have w := hx.plus ((Mk.mem ha).times ((m + a * x) / a - x / a))
    have q : x / a ≤ (m + a * x) / a := by
      apply Nat.div_le_div_right
      have : x ≤ a * x := Nat.le_mul_of_pos_left _ (by omega)
      omega
    have d1 := Nat.mod_add_div x a
    have d2 := Nat.mod_add_div (m + a * x) a
    rw [Nat.add_mul_mod_self_left, ← e] at d2
    have e3 : x + ((m + a * x) / a - x / a) * a = m + a * x := by
      rw [Nat.sub_mul]
      have c1 : x / a * a = a * (x / a) := Nat.mul_comm _ _
      have c2 : (m + a * x) / a * a = a * ((m + a * x) / a) := Nat.mul_comm _ _
      have : a * (x / a) ≤ a * ((m + a * x) / a) := Nat.mul_le_mul_left _ q
      omega
    rw [e3] at w
    exact w
  have down : ∀ k, md l (m + a * k) = true → md l m = true := by
    intro k
    induction k with
    | zero => intro h; exact h
    | succ k ih =>
      intro h
      refine ih (back ha hb ‹_› (m + a * k) (by omega) ?_)
      rwa [Nat.mul_succ, ← Nat.add_assoc] at h
  exact down x ((md_iff _ _).2 hk)
theorem frob {l : List Nat} {a : Nat} (hc : Uw60.common l = 1) (ha : a ∈ l) (hb : ∀ x ∈ l, 1 ≤ x ∧ x ≤ 40) (m : Nat) (hm : 1560 ≤ m) : md l m = true := by
  have a1 := hb a ha
  have P : ∀ k, k + 1 ≤ cn l a (40 * k) ∨ ∀ m, 40 * k ≤ m → md l m = true := by
    intro k
    induction k with
    | zero =>
      left
      show 1 ≤ cn l a 0
      unfold cn
      obtain ⟨b, rfl⟩ : ∃ b, a = b + 1 := ⟨a - 1, by omega⟩
      rw [List.range'_succ, List.countP_cons, if_pos (md_zero l)]
      omega
    | succ k ih =>
      rcases ih with ih | ih
      · by_cases c : cn l a (40 * k + 40) ≤ cn l a (40 * k)
        · right
          intro m hm
          exact back_all hc ha hb c m (by omega)
        · left
          show k + 1 + 1 ≤ cn l a (40 * (k + 1))
          rw [Nat.mul_succ]; omega
      · right
        intro m hm
        exact ih m (by omega)
  rcases P (a - 1) with h | h
  · -- the window is full
    have hl : cn l a (40 * (a - 1)) = (List.range' (40 * (a - 1)) a).length := by
      have : cn l a (40 * (a - 1)) ≤ (List.range' (40 * (a - 1)) a).length := List.countP_le_length
      rw [List.length_range'] at *
      omega
    have hall := List.countP_eq_length.1 hl
    have up : ∀ m, 40 * (a - 1) ≤ m → md l m = true := by
      intro m
      induction m using Nat.strongRecOn with
      | ind m ih =>
        intro q
        by_cases c : m < 40 * (a - 1) + a
        · exact hall m (by rw [List.mem_range'_1]; omega)
        · have := md_plus ha (ih (m - a) (by omega) (by omega))
          rwa [show m - a + a = m by omega] at this
    exact up m (by omega)
  · exact h m (by omega)
/-! how many are made in a row, up to n -/
def rn (l : List Nat) : Nat → Nat
  | 0 => 0
  | n + 1 => if md l n = true then rn l n + 1 else 0
theorem rn_le (l : List Nat) : ∀ n, rn l n ≤ n
  | 0 => Nat.le_refl _
  | n + 1 => by
    have := rn_le l n
    show (if md l n = true then rn l n + 1 else 0) ≤ n + 1
    split <;> omega
theorem rn_run (l : List Nat) : ∀ n i, i < rn l n → md l (n - 1 - i) = true
  | 0, i, h => absurd h (Nat.not_lt_zero _)
  | n + 1, i, h => by
    have h' : i < if md l n = true then rn l n + 1 else 0 := h
    split at h' <;> rename_i c
    · match i, h' with
      | 0, _ => exact c
      | i + 1, h' =>
        have := rn_run l n i (by omega)
        rwa [show n + 1 - 1 - (i + 1) = n - 1 - i by omega]
    · omega
theorem rn_up (l : List Nat) {m : Nat} (h : ∀ x, m ≤ x → md l x = true) : ∀ k, k ≤ rn l (m + k)
  | 0 => Nat.zero_le _
  | k + 1 => by
    have := rn_up l h k
    show k + 1 ≤ if md l (m + k) = true then rn l (m + k) + 1 else 0
    rw [if_pos (h (m + k) (by omega))]
    omega
/-- the run is as long as one that is named: all beyond are made -/
theorem run_all {l : List Nat} {a n : Nat} (ha : a ∈ l) (h1 : 1 ≤ a) (h : a ≤ rn l n) (m : Nat) : n - a ≤ m → md l m = true := by
  have hr := rn_le l n
  induction m using Nat.strongRecOn with
  | ind m ih =>
    intro q
    by_cases c : m < n
    · have := rn_run l n (n - 1 - m) (by omega)
      rwa [show n - 1 - (n - 1 - m) = m by omega] at this
    · have := md_plus ha (ih (m - a) (by omega) (by omega))
      rwa [show m - a + a = m by omega] at this
theorem gp_same {l : List Nat} {n : Nat} (h : ∀ m, n ≤ m → md l m = true) : ∀ k, gp l (n + k) = gp l n
  | 0 => rfl
  | k + 1 => by
    show gp l (n + k + 1) = _
    rw [gp_succ, gp_same h k, if_neg, List.append_nil]
    rw [h (n + k) (by omega)]
    intro z; cases z.2
/-- behind a run those left so far are all -/
theorem left_done {l : List Nat} {a n : Nat} (ha : a ∈ l) (h1 : 1 ≤ a) (h : a ≤ rn l n) (hn : n ≤ 1601) : gp l n = Uw60.gaps l := by
  rw [gaps_gp]
  have := gp_same (l := l) (n := n) (fun m hm => run_all ha h1 h m (by omega)) (1601 - n)
  rw [← this]; congr 1; omega
/-- without a run the table isn't long -/
theorem left_more {l : List Nat} {a n : Nat} (hc : Uw60.common l = 1) (ha : a ∈ l) (hb : ∀ x ∈ l, 1 ≤ x ∧ x ≤ 40) (h : rn l n < a) : n < 1600 := by
  have b := hb a ha
  apply Nat.lt_of_not_le
  intro c
  have := rn_up l (m := n - a) (fun x hx => frob hc ha hb x (by omega)) a
  rw [show n - a + a = n by omega] at this
  omega
end Nt
set_option Elab.async false
namespace Nt
/-! ### C. of how few -/
/-- n is a sum of k numbers -/
inductive Rp (l : List Nat) : Nat → Nat → Prop
  | zero : Rp l 0 0
  | add {a n k : Nat} : a ∈ l → Rp l n k → Rp l (n + a) (k + 1)
theorem Rp.bound {l : List Nat} (hb : ∀ x ∈ l, 2 ≤ x) {n k : Nat} (h : Rp l n k) : 2 * k ≤ n := by
  induction h with
  | zero => exact Nat.le_refl _
  | @add a n k ha _ ih => have := hb a ha; omega
theorem Rp.mono {l r : List Nat} (hs : ∀ x ∈ l, x ∈ r) {n k : Nat} (h : Rp l n k) : Rp r n k := by
  induction h with
  | zero => exact .zero
  | add ha _ ih => exact .add (hs _ ha) ih
theorem Rp.more {l : List Nat} {a n k : Nat} (ha : a ∈ l) (h : Rp l n k) : ∀ j, Rp l (n + j * a) (k + j)
  | 0 => by rw [Nat.zero_mul]; exact h
  | j + 1 => by
    rw [Nat.succ_mul, ← Nat.add_assoc]
    exact .add ha (Rp.more ha h j)
/-- the first number's share -/
theorem Rp.split {a : Nat} {l : List Nat} {n k : Nat} (h : Rp (a :: l) n k) : ∃ j, j * a ≤ n ∧ j ≤ k ∧ Rp l (n - j * a) (k - j) := by
  induction h with
  | zero => exact ⟨0, by omega, Nat.le_refl _, by rw [Nat.zero_mul]; exact .zero⟩
  | @add b n k hb _ ih =>
    obtain ⟨j, h1, h2, h3⟩ := ih
    cases hb with
    | head =>
      refine ⟨j + 1, by rw [Nat.succ_mul]; omega, by omega, ?_⟩
      rw [Nat.succ_mul, show n + a - (j * a + a) = n - j * a by omega, show k + 1 - (j + 1) = k - j by omega]
      exact h3
    | tail _ hb =>
      refine ⟨j, by omega, by omega, ?_⟩
      rw [show n + b - j * a = n - j * a + b by omega, show k + 1 - j = k - j + 1 by omega]
      exact .add hb h3
theorem Rp.join {a : Nat} {l : List Nat} {n k j : Nat} (h1 : j * a ≤ n) (h2 : j ≤ k) (h : Rp l (n - j * a) (k - j)) : Rp (a :: l) n k := by
  have := Rp.more (List.mem_cons_self (a := a)) (h.mono fun x hx => List.mem_cons_of_mem a hx) j
  rwa [Nat.sub_add_cancel h1, Nat.sub_add_cancel h2] at this
theorem Rp.cons_iff {a : Nat} {l : List Nat} {n k : Nat} : Rp (a :: l) n k ↔ Rp l n k ∨ (a ≤ n ∧ 1 ≤ k ∧ Rp (a :: l) (n - a) (k - 1)) := by
  constructor
  · intro h
    obtain ⟨j, h1, h2, h3⟩ := h.split
    match j, h1, h2, h3 with
    | 0, _, _, h3 => left; rwa [Nat.zero_mul] at h3
    | j + 1, h1, h2, h3 =>
      rw [Nat.succ_mul] at h1 h3
      refine .inr ⟨by omega, by omega, Rp.join (j := j) (by omega) (by omega) ?_⟩
      rwa [show n - a - j * a = n - (j * a + a) by omega, show k - 1 - j = k - (j + 1) by omega]
  · rintro (h | ⟨h1, h2, h3⟩)
    · exact h.mono fun x hx => List.mem_cons_of_mem a hx
    · have := Rp.add (List.mem_cons_self (a := a) (l := l)) h3
      rwa [Nat.sub_add_cancel h1, Nat.sub_add_cancel h2] at this
theorem Rp.nil_iff {n k : Nat} : Rp [] n k ↔ n = 0 ∧ k = 0 := by
  constructor
  · intro h
    cases h with
    | zero => exact ⟨rfl, rfl⟩
    | add ha _ => cases ha
  · rintro ⟨rfl, rfl⟩; exact .zero
/-- the least number of which something is so -/
structure Least (P : Nat → Prop) (o : Option Nat) : Prop where
  some : ∀ m, o = some m → P m ∧ ∀ k, P k → m ≤ k
  none : o = none → ∀ k, ¬ P k
theorem Least.uniq {P : Nat → Prop} {o q : Option Nat} (h : Least P o) (k : Least P q) : o = q := by
  cases o with
  | none =>
    cases q with
    | none => rfl
    | some m => exact absurd (k.some m rfl).1 (h.none rfl m)
  | some n =>
    cases q with
    | none => exact absurd (h.some n rfl).1 (k.none rfl n)
    | some m =>
      have a := h.some n rfl
      have b := k.some m rfl
      have := a.2 m b.1
      have := b.2 n a.1
      congr 1; omega
/-! the specification's table -/
def fstep (l : List Nat) (n : Nat) (t : Nat → Option Nat) : Option Nat :=
  l.foldl (fun (m : Option Nat) a => if a = 0 ∨ n + 1 < a then m else match t (n + 1 - a) with
    | none => m
    | some k => match m with
      | none => some (k + 1)
      | some j => some (min j (k + 1))) none
theorem ft_len (l : List Nat) : ∀ n, (Uw60.fewTable l n).length = n + 1
  | 0 => rfl
  | n + 1 => by
    show (Uw60.fewTable l n ++ [_]).length = _
    rw [List.length_append, ft_len l n]; rfl
theorem ft_succ (l : List Nat) (n : Nat) : Uw60.fewTable l (n + 1) = Uw60.fewTable l n ++ [fstep l n fun i => (Uw60.fewTable l n).getD i none] := rfl
theorem ft_get (l : List Nat) : ∀ n i, i ≤ n → (Uw60.fewTable l n).getD i none = Uw60.few l i
  | 0, i, h => by
    have : i = 0 := by omega
    subst this; rfl
  | n + 1, i, h => by
    by_cases c : i = n + 1
    · subst c; rfl
    · rw [ft_succ, List.getD_eq_getElem?_getD, List.getElem?_append_left (by rw [ft_len]; omega), ← List.getD_eq_getElem?_getD]
      exact ft_get l n i (by omega)
theorem few_zero (l : List Nat) : Uw60.few l 0 = some 0 := rfl
theorem few_succ (l : List Nat) (n : Nat) : Uw60.few l (n + 1) = fstep l n fun i => (Uw60.fewTable l n).getD i none := by
  show (Uw60.fewTable l (n + 1)).getD (n + 1) none = _
  rw [ft_succ, List.getD_eq_getElem?_getD, List.getElem?_append_right (by rw [ft_len]; omega), ft_len, Nat.sub_self]
  rfl
theorem fold_least {P : Nat → Nat → Prop} {n : Nat} {t : Nat → Option Nat} : ∀ (r : List Nat) (o : Option Nat) (Q : Nat → Prop), Least Q o →
    (∀ a ∈ r, 1 ≤ a → a ≤ n + 1 → Least (P a) (t (n + 1 - a))) →
    Least (fun k => Q k ∨ ∃ a ∈ r, 1 ≤ a ∧ a ≤ n + 1 ∧ 1 ≤ k ∧ P a (k - 1)) (r.foldl (fun (m : Option Nat) a => if a = 0 ∨ n + 1 < a then m else match t (n + 1 - a) with
    | none => m
    | some k => match m with
      | none => some (k + 1)
      | some j => some (min j (k + 1))) o)
  | [], o, Q, h, _ => by
    refine ⟨fun m e => ⟨.inl (h.some m e).1, ?_⟩, fun e k => ?_⟩
    · rintro k (q | ⟨a, ha, _⟩)
      · exact (h.some m e).2 k q
      · cases ha
    · rintro (q | ⟨a, ha, _⟩)
      · exact h.none e k q
      · cases ha
  | a :: r, o, Q, h, hP => by
    rw [List.foldl_cons]
    have hr := fun b (hb : b ∈ r) => hP b (List.mem_cons_of_mem a hb)
    have key : Least (fun k => Q k ∨ (1 ≤ a ∧ a ≤ n + 1 ∧ 1 ≤ k ∧ P a (k - 1))) (if a = 0 ∨ n + 1 < a then o else match (generalizing := false) t (n + 1 - a) with
        | none => o
        | some k => match (generalizing := false) o with
          | none => some (k + 1)
          | some j => some (min j (k + 1))) := by
      by_cases c : a = 0 ∨ n + 1 < a
      · rw [if_pos c]
        refine ⟨fun m e => ⟨.inl (h.some m e).1, ?_⟩, fun e k => ?_⟩
        · rintro k (q | ⟨h1, h2, _⟩)
          · exact (h.some m e).2 k q
          · omega
        · rintro (q | ⟨h1, h2, _⟩)
          · exact h.none e k q
          · omega
      · rw [if_neg c]
        have ha := hP a List.mem_cons_self (by omega) (by omega)
        cases e : t (n + 1 - a) with
        | none =>
          rw [e] at ha
          refine ⟨fun m e => ⟨.inl (h.some m e).1, ?_⟩, fun e k => ?_⟩
          · rintro k (q | ⟨_, _, _, q⟩)
            · exact (h.some m e).2 k q
            · exact absurd q (ha.none rfl _)
          · rintro (q | ⟨_, _, _, q⟩)
            · exact h.none e k q
            · exact absurd q (ha.none rfl _)
        | some j =>
          rw [e] at ha
          have hj := ha.some j rfl
          have w : 1 ≤ a ∧ a ≤ n + 1 := by omega
          cases o with
          | none =>
            refine ⟨fun m e => ?_, fun e => by cases e⟩
            cases e
            refine ⟨.inr ⟨w.1, w.2, by omega, by rw [Nat.add_sub_cancel]; exact hj.1⟩, ?_⟩
            rintro k (q | ⟨_, _, q1, q⟩)
            · exact absurd q (h.none rfl k)
            · have := hj.2 _ q; omega
          | some i =>
            have hi := h.some i rfl
            refine ⟨fun m e => ?_, fun e => by cases e⟩
            cases e
            constructor
            · by_cases z : i ≤ j + 1
              · rw [Nat.min_eq_left z]; exact .inl hi.1
              · rw [Nat.min_eq_right (by omega)]
                exact .inr ⟨w.1, w.2, by omega, by rw [Nat.add_sub_cancel]; exact hj.1⟩
            · rintro k (q | ⟨_, _, q1, q⟩)
              · have := hi.2 _ q; omega
              · have := hj.2 _ q; omega
    have ih := fold_least r _ _ key hr
    refine ⟨fun m e => ?_, fun e k => ?_⟩
    · obtain ⟨h1, h2⟩ := ih.some m e
      constructor
      · rcases h1 with (q | q) | ⟨b, hb, q⟩
        · exact .inl q
        · exact .inr ⟨a, List.mem_cons_self, q⟩
        · exact .inr ⟨b, List.mem_cons_of_mem a hb, q⟩
      · rintro k (q | ⟨b, hb, q⟩)
        · exact h2 k (.inl (.inl q))
        · cases hb with
          | head => exact h2 k (.inl (.inr q))
          | tail _ hb => exact h2 k (.inr ⟨b, hb, q⟩)
    · rintro (q | ⟨b, hb, q⟩)
      · exact ih.none e k (.inl (.inl q))
      · cases hb with
        | head => exact ih.none e k (.inl (.inr q))
        | tail _ hb => exact ih.none e k (.inr ⟨b, hb, q⟩)
theorem few_least {l : List Nat} (hb : ∀ x ∈ l, 1 ≤ x) (n : Nat) : Least (Rp l n) (Uw60.few l n) := by
  induction n using Nat.strongRecOn with
  | ind n ih =>
    match n, ih with
    | 0, _ =>
      rw [few_zero]
      refine ⟨fun m e => ?_, fun e => by cases e⟩
      cases e
      exact ⟨.zero, fun k _ => Nat.zero_le _⟩
    | n + 1, ih =>
      rw [few_succ]
      have h0 : Least (fun _ => False) (none : Option Nat) := ⟨fun m e => (by cases e), fun _ _ q => q⟩
      have := fold_least (n := n) (t := fun i => (Uw60.fewTable l n).getD i none) (P := fun a k => Rp l (n + 1 - a) k) l none _ h0 (fun a ha h1 h2 => by
        show Least _ ((Uw60.fewTable l n).getD (n + 1 - a) none)
        rw [ft_get l n _ (by omega)]
        exact ih _ (by omega))
      have iff : ∀ k, Rp l (n + 1) k ↔ (False ∨ ∃ a ∈ l, 1 ≤ a ∧ a ≤ n + 1 ∧ 1 ≤ k ∧ Rp l (n + 1 - a) (k - 1)) := by
        intro k
        constructor
        · intro h
          right
          generalize e : n + 1 = N at h
          cases h with
          | zero => cases e
          | @add a m k ha h => exact ⟨a, ha, hb a ha, by omega, by omega, by rwa [Nat.add_sub_cancel, Nat.add_sub_cancel]⟩
        · rintro (q | ⟨a, ha, _, h2, h3, h⟩)
          · exact q.elim
          · have := Rp.add ha h
            rwa [Nat.sub_add_cancel h2, Nat.sub_add_cancel h3] at this
      exact ⟨fun m e => ⟨(iff m).2 (this.some m e).1, fun k q => (this.some m e).2 k ((iff k).1 q)⟩, fun e k q => this.none e k ((iff k).1 q)⟩
/-! the number that stands in a table of the program: NEVER where it is not made -/
def fw (l : List Nat) (n : Nat) : Nat := (Uw60.few l n).getD 1000
theorem few_bound {l : List Nat} (hb : ∀ x ∈ l, 2 ≤ x) {n m : Nat} (h : Uw60.few l n = some m) : 2 * m ≤ n :=
  Rp.bound hb ((few_least (fun x hx => Nat.le_of_succ_le (hb x hx)) n).some m h).1
theorem fw_nil (n : Nat) : fw [] n = if n = 0 then 0 else 1000 := by
  have h := few_least (l := []) (fun x hx => by cases hx) n
  unfold fw
  cases e : Uw60.few [] n with
  | none =>
    rw [if_neg]; rfl
    intro z; subst z; cases e
  | some m =>
    have := Rp.nil_iff.1 (h.some m e).1
    rw [if_pos this.1]
    exact this.2
theorem fw_le {l : List Nat} (hb : ∀ x ∈ l, 2 ≤ x) {n : Nat} (hn : n ≤ 300) : fw l n ≤ 1000 := by
  unfold fw
  cases e : Uw60.few l n with
  | none => exact Nat.le_refl _
  | some m => have := few_bound hb e; show m ≤ 1000; omega
theorem fw_some {l : List Nat} {n m : Nat} (hm : m < 1000) : fw l n = m ↔ Uw60.few l n = some m := by
  unfold fw
  cases e : Uw60.few l n with
  | none => constructor; · intro h; have h' : 1000 = m := h; omega
            · intro h; cases h
  | some k => constructor; · intro h; exact congrArg some h
              · intro h; exact Option.some.inj h
theorem fw_none {l : List Nat} (hb : ∀ x ∈ l, 2 ≤ x) {n : Nat} (hn : n ≤ 300) : fw l n = 1000 ↔ Uw60.few l n = none := by
  unfold fw
  cases e : Uw60.few l n with
  | none => exact ⟨fun _ => rfl, fun _ => rfl⟩
  | some k =>
    have := few_bound hb e
    constructor
    · intro h; have h' : k = 1000 := h; omega
    · intro h; cases h
/-- one number more may be taken -/
theorem fw_cons {a : Nat} {l : List Nat} (ha : 2 ≤ a) (hb : ∀ x ∈ l, 2 ≤ x) {n : Nat} (hn : n ≤ 300) : fw (a :: l) n = if n < a then fw l n else min (fw l n) (fw (a :: l) (n - a) + 1) := by
  have hab : ∀ x ∈ a :: l, 2 ≤ x := by
    intro x hx
    cases hx with
    | head => exact ha
    | tail _ hx => exact hb x hx
  have one : ∀ {r : List Nat}, (∀ x ∈ r, 2 ≤ x) → ∀ x ∈ r, 1 ≤ x := fun h x hx => Nat.le_of_succ_le (h x hx)
  have L := few_least (one hab) n
  have L1 := few_least (one hb) n
  have L2 := few_least (one hab) (n - a)
  unfold fw
  by_cases c : n < a
  · rw [if_pos c]
    congr 1
    refine L.uniq ⟨fun m e => ⟨Rp.cons_iff.2 (.inl (L1.some m e).1), fun k q => ?_⟩, fun e k q => ?_⟩
    · rcases Rp.cons_iff.1 q with q | ⟨q, _⟩
      · exact (L1.some m e).2 k q
      · omega
    · rcases Rp.cons_iff.1 q with q | ⟨q, _⟩
      · exact L1.none e k q
      · omega
  · rw [if_neg c]
    have hle : a ≤ n := by omega
    cases e1 : Uw60.few l n with
    | none =>
      cases e2 : Uw60.few (a :: l) (n - a) with
      | none =>
        cases e : Uw60.few (a :: l) n with
        | none => rfl
        | some m =>
          rcases Rp.cons_iff.1 (L.some m e).1 with q | ⟨_, _, q⟩
          · exact absurd q (L1.none e1 m)
          · exact absurd q (L2.none e2 _)
      | some j =>
        have b := few_bound hab e2
        have : Uw60.few (a :: l) n = some (j + 1) := by
          refine L.uniq ⟨fun m e => ?_, fun e => by cases e⟩
          cases e
          refine ⟨Rp.cons_iff.2 (.inr ⟨hle, by omega, by rw [Nat.add_sub_cancel]; exact (L2.some j e2).1⟩), fun k q => ?_⟩
          rcases Rp.cons_iff.1 q with q | ⟨_, q1, q⟩
          · exact absurd q (L1.none e1 k)
          · have := (L2.some j e2).2 _ q; omega
        rw [this]
        show j + 1 = min 1000 (j + 1)
        omega
    | some i =>
      have b1 := few_bound hb e1
      cases e2 : Uw60.few (a :: l) (n - a) with
      | none =>
        have : Uw60.few (a :: l) n = some i := by
          refine L.uniq ⟨fun m e => ?_, fun e => by cases e⟩
          cases e
          refine ⟨Rp.cons_iff.2 (.inl (L1.some i e1).1), fun k q => ?_⟩
          rcases Rp.cons_iff.1 q with q | ⟨_, q1, q⟩
          · exact (L1.some i e1).2 _ q
          · exact absurd q (L2.none e2 _)
        rw [this]
        show i = min i (1000 + 1)
        omega
      | some j =>
        have b := few_bound hab e2
        have : Uw60.few (a :: l) n = some (min i (j + 1)) := by
          refine L.uniq ⟨fun m e => ?_, fun e => by cases e⟩
          cases e
          constructor
          · by_cases z : i ≤ j + 1
            · rw [Nat.min_eq_left z]; exact Rp.cons_iff.2 (.inl (L1.some i e1).1)
            · rw [Nat.min_eq_right (by omega)]
              exact Rp.cons_iff.2 (.inr ⟨hle, by omega, by rw [Nat.add_sub_cancel]; exact (L2.some j e2).1⟩)
          · intro k q
            rcases Rp.cons_iff.1 q with q | ⟨_, q1, q⟩
            · have := (L1.some i e1).2 _ q; omega
            · have := (L2.some j e2).2 _ q; omega
        rw [this]
        rfl
/-! the row -/
/-- how often the first one is taken -/
def share (a : Nat) (l : List Nat) (n m : Nat) : Option Nat := (List.range (m + 1)).find? fun k => decide (k * a ≤ n) && Uw60.few l (n - k * a) == some (m - k)
theorem rowFor_cons (a : Nat) (l : List Nat) (n m : Nat) : Uw60.rowFor (a :: l) n m = match share a l n m with
    | none => []
    | some k => k :: Uw60.rowFor l (n - k * a) (m - k) := rfl
theorem find_range {p : Nat → Bool} {n k : Nat} (h : (List.range n).find? p = some k) : k < n ∧ p k = true ∧ ∀ j, j < k → p j = false := by
  rw [List.find?_range_eq_some] at h
  refine ⟨?_, h.1, fun j hj => ?_⟩
  · simpa using h.2.1
  · simpa using h.2.2 j hj
theorem share_is {a : Nat} {l : List Nat} (ha : 2 ≤ a) (hb : ∀ x ∈ l, 2 ≤ x) {n m : Nat} (h : Uw60.few (a :: l) n = some m) :
    ∃ k, share a l n m = some k ∧ k ≤ m ∧ k * a ≤ n ∧ Uw60.few l (n - k * a) = some (m - k) ∧ ∀ j, j < k → j * a ≤ n ∧ Uw60.few l (n - j * a) ≠ some (m - j) := by
  have hab : ∀ x ∈ a :: l, 1 ≤ x := by
    intro x hx
    cases hx with
    | head => omega
    | tail _ hx => have := hb x hx; omega
  have L := few_least hab n
  obtain ⟨h1, h2⟩ := L.some m h
  obtain ⟨j, q1, q2, q3⟩ := h1.split
  have hj : Uw60.few l (n - j * a) = some (m - j) := by
    refine (few_least (fun x hx => Nat.le_of_succ_le (hb x hx)) _).uniq ⟨fun k e => ?_, fun e => by cases e⟩
    cases e
    refine ⟨q3, fun k q => ?_⟩
    have := h2 (k + j) (Rp.join q1 (by omega) (by rwa [Nat.add_sub_cancel]))
    omega
  have pj : (decide (j * a ≤ n) && Uw60.few l (n - j * a) == some (m - j)) = true := by
    rw [decide_eq_true q1, hj, beq_self_eq_true]; rfl
  cases e : share a l n m with
  | none =>
    unfold share at e
    rw [List.find?_range_eq_none] at e
    have := e j (by omega)
    rw [pj] at this
    cases this
  | some k =>
    obtain ⟨k1, k2, k3⟩ := find_range e
    rw [Bool.and_eq_true, decide_eq_true_iff, beq_iff_eq] at k2
    refine ⟨k, rfl, by omega, k2.1, k2.2, fun i hi => ?_⟩
    have hle : i * a ≤ n := Nat.le_trans (Nat.mul_le_mul_right a (Nat.le_of_lt hi)) k2.1
    refine ⟨hle, fun q => ?_⟩
    have := k3 i hi
    rw [decide_eq_true hle, q, beq_self_eq_true] at this
    cases this
theorem rowFor_sum : ∀ (l : List Nat) (n m : Nat), (∀ x ∈ l, 2 ≤ x) → Uw60.few l n = some m → (Uw60.rowFor l n m).sum = m ∧ (Uw60.rowFor l n m).length = l.length
  | [], n, m, _, h => by
    have := Rp.nil_iff.1 ((few_least (l := []) (fun x hx => by cases hx) n).some m h).1
    exact ⟨this.2.symm, rfl⟩
  | a :: l, n, m, hb, h => by
    have hb' := fun x (hx : x ∈ l) => hb x (List.mem_cons_of_mem a hx)
    obtain ⟨k, e, h1, h2, h3, _⟩ := share_is (hb a List.mem_cons_self) hb' h
    rw [rowFor_cons, e]
    obtain ⟨s, t⟩ := rowFor_sum l _ _ hb' h3
    constructor
    · show (k :: Uw60.rowFor l (n - k * a) (m - k)).sum = m
      rw [List.sum_cons, s]; omega
    · show (k :: Uw60.rowFor l (n - k * a) (m - k)).length = _
      rw [List.length_cons, t]; rfl
end Nt
set_option Elab.async false
namespace Nt
/-! ### D. sets as masks, as rising lists -/
structure SL (T : List Nat) : Prop where
  up : T.Pairwise (· < ·)
  lo : ∀ x ∈ T, 2 ≤ x
  hi : ∀ x ∈ T, x < 64
theorem SL.filter {T : List Nat} (h : SL T) (p : Nat → Bool) : SL (T.filter p) :=
  ⟨h.up.filter _, fun x hx => h.lo x (List.mem_filter.1 hx).1, fun x hx => h.hi x (List.mem_filter.1 hx).1⟩
theorem has_bit (s n : Nat) : Uw60.has s n = s.testBit n := by
  unfold Uw60.has
  rw [Nat.testBit_eq_decide_div_mod_eq]
  by_cases h : s / 2 ^ n % 2 = 1
  · rw [decide_eq_true h, h]; rfl
  · rw [decide_eq_false h, beq_eq_false_iff_ne]; exact h
theorem fold_bit : ∀ (T : List Nat) (s : Nat), T.Pairwise (· < ·) → (∀ x ∈ T, s < 2 ^ x) → ∀ n, (T.foldl (fun s n => s + 2 ^ n) s).testBit n = (s.testBit n || T.contains n)
  | [], s, _, _, n => by simp
  | a :: r, s, hp, hs, n => by
    rw [List.foldl_cons]
    have hp' := List.pairwise_cons.1 hp
    have sa := hs a List.mem_cons_self
    have h2 : s + 2 ^ a < 2 ^ (a + 1) := by rw [Nat.pow_succ]; omega
    rw [fold_bit r (s + 2 ^ a) hp'.2 (fun x hx => Nat.lt_of_lt_of_le h2 (Nat.pow_le_pow_right (by omega) (hp'.1 x hx)))]
    have e : (s + 2 ^ a).testBit n = (s.testBit n || n == a) := by
      rcases Nat.lt_trichotomy n a with h | h | h
      · rw [Nat.add_comm, Nat.testBit_two_pow_add_gt h, beq_eq_false_iff_ne.2 (by omega), Bool.or_false]
      · subst h
        rw [Nat.add_comm, Nat.testBit_two_pow_add_eq, Nat.testBit_lt_two_pow sa, beq_self_eq_true]; rfl
      · rw [Nat.testBit_lt_two_pow (Nat.lt_of_lt_of_le h2 (Nat.pow_le_pow_right (by omega) h)), Nat.testBit_lt_two_pow (Nat.lt_of_lt_of_le sa (Nat.pow_le_pow_right (by omega) (by omega))), beq_eq_false_iff_ne.2 (by omega)]; rfl
    rw [e, List.contains_cons, Bool.or_assoc]
theorem mask_has {T : List Nat} (h : SL T) (n : Nat) : Uw60.has (Uw60.maskOf T) n = T.contains n := by
  rw [has_bit]
  unfold Uw60.maskOf
  rw [fold_bit T 0 h.up (fun x _ => Nat.two_pow_pos x), Nat.zero_testBit, Bool.false_or]
theorem range_filter : ∀ (n k : Nat) (T : List Nat), T.Pairwise (· < ·) → (∀ x ∈ T, k ≤ x ∧ x < k + n) → (List.range' k n).filter (fun x => T.contains x) = T
  | 0, k, T, _, h => by
    match T, h with
    | [], _ => rfl
    | a :: r, h => have := h a List.mem_cons_self; omega
  | n + 1, k, T, hp, h => by
    rw [List.range'_succ, List.filter_cons]
    match T, hp, h with
    | [], _, _ => simp
    | a :: r, hp, h =>
      have hp' := List.pairwise_cons.1 hp
      have ha := h a List.mem_cons_self
      by_cases c : k = a
      · subst c
        rw [if_pos (by simp)]
        congr 1
        have ih := range_filter n (k + 1) r hp'.2 (fun x hx => by have := hp'.1 x hx; have := h x (List.mem_cons_of_mem _ hx); omega)
        rw [show (List.range' (k + 1) n).filter (fun x => (k :: r).contains x) = (List.range' (k + 1) n).filter (fun x => r.contains x) from ?_]
        · exact ih
        · apply List.filter_congr
          intro x hx
          rw [List.mem_range'_1] at hx
          rw [List.contains_cons, beq_eq_false_iff_ne.2 (by omega), Bool.false_or]
      · rw [if_neg]
        · refine range_filter n (k + 1) (a :: r) hp (fun x hx => ?_)
          have := h x hx
          cases hx with
          | head => omega
          | tail _ hx => have := hp'.1 x hx; omega
        · intro z
          rw [List.contains_iff_mem] at z
          cases z with
          | head => exact c rfl
          | tail _ z => have := hp'.1 k z; omega
theorem members_mask {T : List Nat} (h : SL T) : Uw60.membersOf (Uw60.maskOf T) = T := by
  unfold Uw60.membersOf
  have e : Uw60.has (Uw60.maskOf T) = fun x => T.contains x := funext (mask_has h)
  rw [e, List.range_eq_range']
  exact range_filter 64 0 T h.up (fun x hx => ⟨Nat.zero_le _, by have := h.hi x hx; omega⟩)
theorem mask_inj {T U : List Nat} (h : SL T) (k : SL U) (e : Uw60.maskOf T = Uw60.maskOf U) : T = U := by
  rw [← members_mask h, ← members_mask k, e]
/-- what's left of T when g is named -/
def aft (T : List Nat) (g : Nat) : List Nat := T.filter fun h => !(List.range (h / g)).any fun k => decide (h - (k + 1) * g ≠ 1) && !T.contains (h - (k + 1) * g)
theorem after_aft {T : List Nat} (h : SL T) (g : Nat) : Uw60.after (Uw60.maskOf T) g = Uw60.maskOf (aft T g) := by
  unfold Uw60.after aft Uw60.isMade
  rw [members_mask h]
  congr 1
  apply List.filter_congr
  intro x _
  congr 2
  funext k
  rw [mask_has h]
  congr 1
  by_cases c : x - (k + 1) * g = 1
  · rw [c]; rfl
  · rw [decide_eq_true c, bne_iff_ne]; exact c
theorem aft_sl {T : List Nat} (h : SL T) (g : Nat) : SL (aft T g) := h.filter _
theorem aft_lt {T : List Nat} (h : SL T) {g : Nat} (hg : g ∈ T) : (aft T g).length < T.length := by
  unfold aft
  apply List.length_filter_lt_length_iff_exists.2
  refine ⟨g, hg, ?_⟩
  have := h.lo g hg
  rw [Nat.div_self (by omega)]
  simp
  intro z
  have := h.lo 0 z
  omega
/-! a game's worth, by how many are left -/
def mexl (l : List Nat) : Nat := Uw60.mex l
theorem mex_congr {l r : List Nat} (hl : l.length = r.length) (h : ∀ x, x ∈ l ↔ x ∈ r) : Uw60.mex l = Uw60.mex r := by
  unfold Uw60.mex
  rw [hl]
  congr 2
  funext k
  congr 1
  rw [Bool.eq_iff_iff, List.contains_iff_mem, List.contains_iff_mem]
  exact h k
def gr : Nat → List Nat → Nat
  | 0, _ => 0
  | f + 1, T => Uw60.mex (T.map fun g => gr f (aft T g))
theorem gr_fuel : ∀ (f k : Nat) (T : List Nat), SL T → T.length ≤ f → T.length ≤ k → gr f T = gr k T
  | 0, 0, _, _, _, _ => rfl
  | 0, k + 1, T, _, h, _ => by
    have : T = [] := List.eq_nil_of_length_eq_zero (by omega)
    subst this; rfl
  | f + 1, 0, T, _, _, h => by
    have : T = [] := List.eq_nil_of_length_eq_zero (by omega)
    subst this; rfl
  | f + 1, k + 1, T, hT, h1, h2 => by
    show Uw60.mex _ = Uw60.mex _
    congr 1
    apply List.map_congr_left
    intro g hg
    have := aft_lt hT hg
    exact gr_fuel f k (aft T g) (aft_sl hT g) (by omega) (by omega)
/-- the game's worth -/
def G (T : List Nat) : Nat := gr T.length T
theorem G_eq {T : List Nat} (h : SL T) : G T = Uw60.mex (T.map fun g => G (aft T g)) := by
  unfold G
  rw [gr_fuel _ (T.length + 1) T h (Nat.le_refl _) (by omega)]
  show Uw60.mex _ = _
  congr 1
  apply List.map_congr_left
  intro g hg
  have := aft_lt h hg
  exact gr_fuel _ _ _ (aft_sl h g) (by omega) (Nat.le_refl _)
/-! the specification's memo -/
def Good (m : List (Nat × Nat)) : Prop := ∀ z ∈ m, ∃ T, SL T ∧ z.1 = Uw60.maskOf T ∧ z.2 = G T
def wst (f : Nat) (T : List Nat) (u : List Nat × List (Nat × Nat)) (g : Nat) : List Nat × List (Nat × Nat) :=
  let y := Uw60.worth f u.2 (Uw60.after (Uw60.maskOf T) g)
  (y.1 :: u.1, y.2)
theorem worth_fold (f : Nat) (T : List Nat) (hT : SL T) (ih : ∀ (m : List (Nat × Nat)) (U : List Nat), SL U → U.length ≤ f → Good m → (Uw60.worth f m (Uw60.maskOf U)).1 = G U ∧ Good (Uw60.worth f m (Uw60.maskOf U)).2) :
    ∀ (r : List Nat) (u : List Nat × List (Nat × Nat)), (∀ g ∈ r, g ∈ T) → T.length ≤ f + 1 → Good u.2 →
    (r.foldl (wst f T) u).1 = (r.map fun g => G (aft T g)).reverse ++ u.1 ∧ Good (r.foldl (wst f T) u).2
  | [], u, _, _, h => ⟨rfl, h⟩
  | g :: r, u, hs, hf, h => by
    have hg := hs g List.mem_cons_self
    have lt := aft_lt hT hg
    obtain ⟨e1, e2⟩ := ih u.2 (aft T g) (aft_sl hT g) (by omega) h
    have := worth_fold f T hT ih r ((Uw60.worth f u.2 (Uw60.after (Uw60.maskOf T) g)).1 :: u.1, (Uw60.worth f u.2 (Uw60.after (Uw60.maskOf T) g)).2) (fun x hx => hs x (List.mem_cons_of_mem g hx)) hf (by
      show Good (Uw60.worth f u.2 (Uw60.after (Uw60.maskOf T) g)).2
      rw [after_aft hT]; exact e2)
    refine ⟨?_, this.2⟩
    rw [List.foldl_cons]
    refine this.1.trans ?_
    rw [after_aft hT, e1, List.map_cons, List.reverse_cons, List.append_assoc]
    rfl
theorem worth_is : ∀ (f : Nat) (m : List (Nat × Nat)) (T : List Nat), SL T → T.length ≤ f → Good m → (Uw60.worth f m (Uw60.maskOf T)).1 = G T ∧ Good (Uw60.worth f m (Uw60.maskOf T)).2
  | 0, m, T, _, h, hm => by
    have : T = [] := List.eq_nil_of_length_eq_zero (by omega)
    subst this
    exact ⟨rfl, hm⟩
  | f + 1, m, T, hT, h, hm => by
    unfold Uw60.worth
    cases e : m.find? fun z => z.1 == Uw60.maskOf T with
    | some z =>
      obtain ⟨U, hU, e1, e2⟩ := hm z (List.mem_of_find?_eq_some e)
      have := List.find?_some e
      rw [beq_iff_eq] at this
      have : T = U := mask_inj hT hU (this.symm.trans e1)
      subst this
      exact ⟨e2, hm⟩
    | none =>
      have ih := worth_is f
      have := worth_fold f T hT (fun m U hU hl hm => ih m U hU hl hm) T ([], m) (fun _ h => h) h hm
      show Uw60.mex ((Uw60.membersOf (Uw60.maskOf T)).foldl (wst f T) ([], m)).1 = _ ∧ Good ((Uw60.maskOf T, Uw60.mex ((Uw60.membersOf (Uw60.maskOf T)).foldl (wst f T) ([], m)).1) :: ((Uw60.membersOf (Uw60.maskOf T)).foldl (wst f T) ([], m)).2)
      rw [members_mask hT]
      obtain ⟨e1, e2⟩ := this
      have e3 : Uw60.mex (T.foldl (wst f T) ([], m)).1 = G T := by
        rw [e1, G_eq hT, List.append_nil]
        exact mex_congr (by rw [List.length_reverse]) (fun x => List.mem_reverse)
      refine ⟨e3, ?_⟩
      intro z hz
      cases hz with
      | head => exact ⟨T, hT, rfl, e3⟩
      | tail _ hz => exact e2 z hz
theorem sl_len {T : List Nat} (h : SL T) : T.length ≤ 64 := by
  rw [← members_mask h]
  unfold Uw60.membersOf
  exact Nat.le_trans (List.length_filter_le _ _) (by rw [List.length_range]; exact Nat.le_refl _)
theorem valueOf_is {T : List Nat} (h : SL T) : Uw60.valueOf (Uw60.maskOf T) = G T :=
  (worth_is 64 [] T h (sl_len h) (fun z hz => by cases hz)).1
theorem winning_is {T : List Nat} (h : SL T) : Uw60.winning (Uw60.maskOf T) = T.filter fun g => G (aft T g) == 0 := by
  have hm := (worth_is 64 [] T h (sl_len h) (fun z hz => by cases hz)).2
  unfold Uw60.winning
  rw [members_mask h]
  apply List.filter_congr
  intro g _
  rw [after_aft h, (worth_is 64 _ (aft T g) (aft_sl h g) (sl_len (aft_sl h g)) hm).1]
theorem notEnder_is {T : List Nat} (h : SL T) : Uw60.notEnder (Uw60.maskOf T) = T.find? fun g => g != T.getLastD 0 && (aft T g).contains (T.getLastD 0) := by
  unfold Uw60.notEnder
  rw [members_mask h]
  show T.find? _ = _
  congr 1
  funext g
  rw [after_aft h, mask_has (aft_sl h g)]
/-! mex: the least that isn't in -/
theorem range_pigeon : ∀ (n : Nat) (l : List Nat), (∀ k, k < n → k ∈ l) → n ≤ l.length
  | 0, _, _ => Nat.zero_le _
  | n + 1, l, h => by
    have hn := h n (Nat.lt_succ_self n)
    have := range_pigeon n (l.erase n) (fun k hk => (List.mem_erase_of_ne (by omega)).2 (h k (by omega)))
    rw [List.length_erase_of_mem hn] at this
    have : 0 < l.length := List.length_pos_of_mem hn
    omega
theorem mex_is (l : List Nat) : ¬ Uw60.mex l ∈ l ∧ ∀ k, k < Uw60.mex l → k ∈ l := by
  unfold Uw60.mex
  cases e : (List.range (l.length + 1)).find? fun k => !l.contains k with
  | none =>
    rw [List.find?_range_eq_none] at e
    have := range_pigeon (l.length + 1) l (fun k hk => by
      have := e k hk
      simpa using this)
    omega
  | some m =>
    obtain ⟨_, h2, h3⟩ := find_range e
    refine ⟨by simpa using h2, fun k hk => ?_⟩
    have := h3 k hk
    simpa using this
theorem mex_eq {l : List Nat} {m : Nat} (h : ¬ m ∈ l) (k : ∀ j, j < m → j ∈ l) : Uw60.mex l = m := by
  obtain ⟨h1, h2⟩ := mex_is l
  rcases Nat.lt_trichotomy (Uw60.mex l) m with c | c | c
  · exact absurd (k _ c) h1
  · exact c
  · exact absurd (h2 _ c) h
theorem mex_zero (l : List Nat) : Uw60.mex l = 0 ↔ ¬ 0 ∈ l := by
  constructor
  · intro h q
    have := (mex_is l).1
    rw [h] at this
    exact this q
  · intro h
    exact mex_eq h (fun j hj => absurd hj (Nat.not_lt_zero j))
end Nt
set_option Elab.async false
namespace Nt
/-! ### E. one number more is named -/
theorem mk_snoc {l : List Nat} {g n : Nat} : Mk (l ++ [g]) n ↔ ∃ k, k * g ≤ n ∧ Mk l (n - k * g) := by
  constructor
  · intro h
    induction h with
    | zero => exact ⟨0, by omega, by rw [Nat.zero_mul]; exact .zero⟩
    | @add a n ha _ ih =>
      obtain ⟨k, h1, h2⟩ := ih
      rcases List.mem_append.1 ha with ha | ha
      · refine ⟨k, by omega, ?_⟩
        rw [show n + a - k * g = n - k * g + a by omega]
        exact .add ha h2
      · have : a = g := by simpa using ha
        subst this
        refine ⟨k + 1, by rw [Nat.succ_mul]; omega, ?_⟩
        rwa [Nat.succ_mul, show n + a - (k * a + a) = n - k * a by omega]
  · rintro ⟨k, h1, h2⟩
    have m : ∀ {x}, Mk l x → Mk (l ++ [g]) x := by
      intro x h
      induction h with
      | zero => exact .zero
      | add ha _ ih => exact .add (List.mem_append.2 (.inl ha)) ih
    have := (m h2).plus ((Mk.mem (l := l ++ [g]) (a := g) (by simp)).times k)
    rwa [Nat.sub_add_cancel h1] at this
theorem md_one {l : List Nat} (hb : ∀ x ∈ l, 2 ≤ x) : md l 1 = false := by
  cases e : md l 1 with
  | false => rfl
  | true =>
    obtain ⟨a, ha, h1, _⟩ := mk_last ((md_iff _ _).1 e) (by omega)
    have := hb a ha
    omega
theorem mem_gp {l : List Nat} {N x : Nat} : x ∈ gp l N ↔ x < N ∧ 2 ≤ x ∧ md l x = false := by
  unfold gp
  rw [List.mem_filter, List.mem_range, Bool.and_eq_true, decide_eq_true_iff, Bool.not_eq_true']
theorem md_gp {l : List Nat} (hb : ∀ x ∈ l, 2 ≤ x) {N x : Nat} (hx : x < N) : (decide (x ≠ 1) && !(gp l N).contains x) = md l x := by
  rw [Bool.eq_iff_iff, Bool.and_eq_true, decide_eq_true_iff, Bool.not_eq_true', ← Bool.not_eq_true, List.contains_iff_mem, mem_gp]
  match x, hx with
  | 0, _ => simp [md_zero]
  | 1, _ => simp [md_one hb]
  | x + 2, hx =>
    constructor
    · intro h
      cases e : md l (x + 2) with
      | true => rfl
      | false => exact absurd ⟨hx, by omega, e⟩ h.2
    · intro h
      exact ⟨by omega, fun q => by rw [h] at q; cases q.2.2⟩
theorem aft_gp {l : List Nat} (hb : ∀ x ∈ l, 2 ≤ x) {g : Nat} (hg : 2 ≤ g) (N : Nat) : gp (l ++ [g]) N = aft (gp l N) g := by
  unfold aft
  show (List.range N).filter _ = ((List.range N).filter _).filter _
  rw [List.filter_filter]
  apply List.filter_congr
  intro h hh
  rw [List.mem_range] at hh
  rw [Bool.eq_iff_iff]
  simp only [Bool.and_eq_true, decide_eq_true_iff, Bool.not_eq_true', ← Bool.not_eq_true, List.any_eq_true, List.mem_range]
  have key : md (l ++ [g]) h = true ↔ md l h = true ∨ ∃ k, k < h / g ∧ md l (h - (k + 1) * g) = true := by
    rw [md_iff, mk_snoc]
    constructor
    · rintro ⟨k, h1, h2⟩
      match k, h1, h2 with
      | 0, _, h2 => left; rw [Nat.zero_mul] at h2; exact (md_iff _ _).2 h2
      | k + 1, h1, h2 => exact .inr ⟨k, (Nat.le_div_iff_mul_le (by omega)).2 h1, (md_iff _ _).2 h2⟩
    · rintro (q | ⟨k, h1, h2⟩)
      · exact ⟨0, by omega, by rw [Nat.zero_mul]; exact (md_iff _ _).1 q⟩
      · exact ⟨k + 1, (Nat.le_div_iff_mul_le (by omega)).1 h1, (md_iff _ _).1 h2⟩
  constructor
  · rintro ⟨h2, hm⟩
    refine ⟨?_, h2, fun q => hm (key.2 (.inl q))⟩
    rintro ⟨k, hk, q⟩
    refine hm (key.2 (.inr ⟨k, hk, ?_⟩))
    rw [← md_gp hb (N := N) (x := h - (k + 1) * g) (by omega), Bool.and_eq_true, decide_eq_true_iff, Bool.not_eq_true', ← Bool.not_eq_true]
    exact q
  · rintro ⟨hn, h2, hm⟩
    refine ⟨h2, fun q => ?_⟩
    rcases key.1 q with q | ⟨k, hk, q⟩
    · exact hm q
    · refine hn ⟨k, hk, ?_⟩
      rw [← md_gp hb (N := N) (x := h - (k + 1) * g) (by omega), Bool.and_eq_true, decide_eq_true_iff, Bool.not_eq_true', ← Bool.not_eq_true] at q
      exact q
theorem aft_gaps {l : List Nat} (hb : ∀ x ∈ l, 2 ≤ x) {g : Nat} (hg : 2 ≤ g) : Uw60.gaps (l ++ [g]) = aft (Uw60.gaps l) g := by
  rw [gaps_gp, gaps_gp]; exact aft_gp hb hg 1601
/-! few that are left are small -/
theorem count_two {f g : Nat → Bool} : ∀ n, (∀ i, i < n → f i = true ∨ g i = true) → n ≤ (List.range n).countP f + (List.range n).countP g
  | 0, _ => Nat.zero_le _
  | n + 1, h => by
    have ih := count_two n (fun i hi => h i (by omega))
    rw [List.range_succ, List.countP_append, List.countP_append, List.countP_cons, List.countP_cons, List.countP_nil, List.countP_nil]
    rcases h n (by omega) with q | q <;> rw [if_pos q] <;> omega
theorem count_back (f : Nat → Bool) (n : Nat) : (List.range n).countP (fun i => f (n - 1 - i)) = (List.range n).countP f := by
  have e : (List.range n).reverse = (List.range n).map (fun i => n - 1 - i) := by
    have := List.reverse_range' (s := 0) (n := n)
    rw [← List.range_eq_range'] at this
    rw [this]
    congr 1
    funext i
    rw [Nat.zero_add]
  rw [← List.countP_reverse (p := f), e, List.countP_map]
  rfl
theorem gp_len (l : List Nat) : ∀ n, (List.range n).countP (fun i => !md l i) ≤ (gp l n).length + (if 2 ≤ n then 1 else 0)
  | 0 => Nat.zero_le _
  | n + 1 => by
    have ih := gp_len l n
    rw [List.range_succ, List.countP_append, List.countP_cons, List.countP_nil, gp_succ, List.length_append]
    match n, ih with
    | 0, ih => rw [md_zero]; simp
    | 1, ih => simp at ih; split <;> simp <;> omega
    | n + 2, ih =>
      rw [if_pos (show 2 ≤ n + 2 by omega)] at ih
      cases e : md l (n + 2)
      · rw [if_pos (show (!false) = true from rfl), if_pos (show 2 ≤ n + 2 ∧ false = false from ⟨by omega, rfl⟩), if_pos (show 2 ≤ n + 2 + 1 by omega), List.length_singleton]
        omega
      · rw [if_neg (show ¬ (!true) = true by decide), if_neg (show ¬ (2 ≤ n + 2 ∧ true = false) by intro z; cases z.2), if_pos (show 2 ≤ n + 2 + 1 by omega), List.length_nil]
        omega
theorem gp_mono (l : List Nat) (n : Nat) : ∀ k, (gp l n).length ≤ (gp l (n + k)).length
  | 0 => Nat.le_refl _
  | k + 1 => by
    show _ ≤ (gp l (n + k + 1)).length
    rw [gp_succ, List.length_append]
    have := gp_mono l n k
    omega
theorem small {l : List Nat} {N h : Nat} (hh : h ∈ gp l N) : h ≤ 2 * (gp l N).length + 1 := by
  rw [mem_gp] at hh
  have c := count_two (f := fun i => !md l i) (g := fun i => !md l (h + 1 - 1 - i)) (h + 1) (fun i hi => by
    cases e1 : md l i with
    | false => left; rfl
    | true =>
      cases e2 : md l (h + 1 - 1 - i) with
      | false => right; rfl
      | true =>
        have := ((md_iff _ _).1 e1).plus ((md_iff _ _).1 e2)
        rw [show i + (h + 1 - 1 - i) = h by omega, ← md_iff, hh.2.2] at this
        cases this)
  rw [count_back (fun i => !md l i) (h + 1)] at c
  have a := gp_len l (h + 1)
  have b := gp_mono l (h + 1) (N - (h + 1))
  rw [show h + 1 + (N - (h + 1)) = N by omega] at b
  split at a <;> omega
theorem gaps_sl {l : List Nat} (h : (Uw60.gaps l).length ≤ 16) : SL (Uw60.gaps l) := by
  rw [gaps_gp] at *
  refine ⟨List.Pairwise.filter _ List.pairwise_lt_range, fun x hx => (mem_gp.1 hx).2.1, fun x hx => ?_⟩
  have := small hx
  omega
theorem gaps_up (l : List Nat) : (Uw60.gaps l).Pairwise (· < ·) := by
  rw [gaps_gp]; exact List.Pairwise.filter _ List.pairwise_lt_range
theorem common_snoc (l : List Nat) (n : Nat) : Uw60.common (l ++ [n]) = Nat.gcd (Uw60.common l) n := by
  unfold Uw60.common
  rw [List.foldl_append]; rfl
end Nt
set_option Elab.async false
namespace Nt
/-! ### F. the calls out of the flat list -/
inductive Dec : List Int → List (List Int) → Prop
  | nil : Dec [] []
  | one {p : Int} {r : List Int} {cs : List (List Int)} : p = 0 ∨ p = 2 ∨ p = 4 ∨ p = 5 ∨ p = 6 ∨ p = 7 → Dec r cs → Dec (p :: r) ([p] :: cs)
  | two {p n : Int} {r : List Int} {cs : List (List Int)} : p = 1 ∨ p = 3 → Dec r cs → Dec (p :: n :: r) ([p, n] :: cs)
theorem shape_some {p : Int} {n k : Nat} (h : PyUw60.shape p = some (n, k)) : k = 0 ∧ ((n = 0 ∧ (p = 0 ∨ p = 2 ∨ p = 4 ∨ p = 5 ∨ p = 6 ∨ p = 7)) ∨ (n = 1 ∧ (p = 1 ∨ p = 3))) := by
  unfold PyUw60.shape at h
  repeat' (split at h)
  all_goals (first | (cases h; done) | skip)
  all_goals (simp only [Option.some.injEq, Prod.mk.injEq] at h; obtain ⟨rfl, rfl⟩ := h; simp_all)
theorem call_dec {p : Int} {r : List Int} {c : List (List Int)} {t : List Int} (h : PyFlat.call PyUw60.shape (p :: r) = some (c, t)) :
    (c = [[p]] ∧ t = r ∧ (p = 0 ∨ p = 2 ∨ p = 4 ∨ p = 5 ∨ p = 6 ∨ p = 7)) ∨ ∃ n, r = n :: t ∧ c = [[p, n]] ∧ (p = 1 ∨ p = 3) := by
  unfold PyFlat.call at h
  dsimp only at h
  split at h
  · cases h
  · rename_i n k e
    obtain ⟨rfl, ⟨rfl, q⟩ | ⟨rfl, q⟩⟩ := shape_some e
    · rw [if_neg (Nat.not_lt_zero _)] at h
      simp only [PyFlat.rows, List.take_zero, List.drop_zero, Option.some.injEq, Prod.mk.injEq] at h
      exact .inl ⟨h.1.symm, h.2.symm, q⟩
    · match r, h with
      | [], h => simp at h
      | a :: r, h =>
        rw [if_neg (by simp)] at h
        simp only [PyFlat.rows, List.take_succ_cons, List.take_zero, List.drop_succ_cons, List.drop_zero, Option.some.injEq, Prod.mk.injEq] at h
        exact .inr ⟨a, by rw [h.2], h.1.symm, q⟩
theorem calls_dec : ∀ (f : Nat) (l : List Int) (raw : List (List (List Int))), PyFlat.calls PyUw60.shape f l = some raw → ∃ cs, Dec l cs ∧ raw = cs.map fun c => [c]
  | _, [], raw, h => by
    cases ‹Nat› <;> (unfold PyFlat.calls at h; cases h; exact ⟨[], .nil, rfl⟩)
  | 0, _ :: _, _, h => by unfold PyFlat.calls at h; cases h
  | f + 1, p :: r, raw, h => by
    unfold PyFlat.calls at h
    split at h
    · cases h
    · rename_i c t e
      split at h
      · cases h
      · rename_i cs e2
        cases h
        obtain ⟨cs', d, rfl⟩ := calls_dec f t cs e2
        rcases call_dec e with ⟨rfl, rfl, q⟩ | ⟨n, rfl, rfl, q⟩
        · exact ⟨_, .one q d, rfl⟩
        · exact ⟨_, .two q d, rfl⟩
theorem whole_one (c : List Int) (h : (∃ p, c = [p]) ∨ ∃ p n, c = [p, n]) : PyUw60.whole [c] = [c] := by
  rcases h with ⟨p, rfl⟩ | ⟨p, n, rfl⟩ <;> (unfold PyUw60.whole; split <;> simp_all)
theorem dec_form {l : List Int} {cs : List (List Int)} (d : Dec l cs) : ∀ c ∈ cs, (∃ p, c = [p]) ∨ ∃ p n, c = [p, n] := by
  induction d with
  | nil => intro c h; cases h
  | one q d ih =>
    intro c h
    cases h with
    | head => exact .inl ⟨_, rfl⟩
    | tail _ h => exact ih c h
  | two q d ih =>
    intro c h
    cases h with
    | head => exact .inr ⟨_, _, rfl⟩
    | tail _ h => exact ih c h
/-- one call over the game: the game then, the answer -/
def stp (s : Uw60.Game) (c : List Int) : Uw60.Game × List Int := Uw60Neutral.step s c
/-- what is told of the calls, from a game on -/
def tl : Uw60.Game → List (List Int) → List Int
  | _, [] => []
  | s, c :: cs => ((stp s c).2.length : Int) :: (stp s c).2 ++ tl (stp s c).1 cs
theorem played_tl : ∀ (cs : List (List Int)) (s : Uw60.Game), PyFlat.told (PyFlat.played (fun s c => Uw60Neutral.step s (c.headD [])) s (cs.map fun c => [c])) = tl s cs
  | [], _ => rfl
  | c :: cs, s => by
    have ih := played_tl cs (stp s c).1
    unfold PyFlat.told at ih
    rw [List.map_cons, PyFlat.played]
    unfold PyFlat.told
    rw [List.flatMap_cons]
    show _ ++ (PyFlat.played (fun s c => Uw60Neutral.step s (c.headD [])) (stp s c).1 (cs.map fun c => [c])).flatMap _ = _
    rw [ih]; rfl
theorem map_whole {cs : List (List Int)} (h : ∀ c ∈ cs, (∃ p, c = [p]) ∨ ∃ p n, c = [p, n]) : (cs.map fun c => [c]).map PyUw60.whole = cs.map fun c => [c] := by
  rw [List.map_map]
  apply List.map_congr_left
  intro c hc
  exact whole_one c (h c hc)
theorem head_map (cs : List (List Int)) : ((cs.map fun c => [c]).map fun c => c.headD []) = cs := by
  rw [List.map_map]
  conv => rhs; rw [← List.map_id cs]
  apply List.map_congr_left
  intro c _; rfl
structure Asked (l : List Int) (cs : List (List Int)) : Prop where
  dec : Dec l cs
  val : PyUw60.answers l = tl Uw60.init cs
  few : cs.length ≤ 40
  some : ∀ c ∈ cs, (Uw60Neutral.callOf c).isSome = true
  heavy : (cs.filter fun c => decide (c = [4] ∨ c = [5] ∨ c = [6])).length ≤ 8
  short : (PyUw60.answers l).length ≤ 10000000
theorem asked_is {l : List Int} (h : PyUw60.answers_asked l = true) : ∃ cs, Asked l cs := by
  unfold PyUw60.answers_asked at h
  split at h
  · cases h
  · rename_i raw e
    obtain ⟨cs, d, rfl⟩ := calls_dec _ _ _ e
    have hv : PyUw60.answers l = tl Uw60.init cs := by
      unfold PyUw60.answers PyUw60.calls
      rw [e]
      dsimp only
      rw [map_whole (dec_form d)]
      exact played_tl cs Uw60.init
    rw [map_whole (dec_form d), head_map] at h
    simp only [Bool.and_eq_true] at h
    obtain ⟨⟨⟨⟨h1, h2⟩, h3⟩, h4⟩, h5⟩ := h
    unfold Uw60Neutral.asked at h4
    simp only [Bool.and_eq_true, decide_eq_true_iff, List.all_eq_true] at h4
    unfold PyFlat.short at h5
    exact ⟨cs, d, hv, h4.2.2.1, h4.1, h4.2.2.2.1, of_decide_eq_true h5⟩
theorem tl_len (s : Uw60.Game) (c : List Int) (cs : List (List Int)) : (tl s (c :: cs)).length = 1 + (stp s c).2.length + (tl (stp s c).1 cs).length := by
  show (_ :: _ ++ _).length = _
  rw [List.cons_append, List.length_cons, List.length_append]; omega
/-- what stays of a game: its numbers are 2 to 40, at most twelve -/
structure Fine (l : List Nat) : Prop where
  in_ : ∀ x ∈ l, 2 ≤ x ∧ x ≤ 40
  few : l.length ≤ 12
theorem Fine.nil : Fine [] := ⟨fun x h => (by cases h), Nat.zero_le _⟩
theorem Fine.drop {l : List Nat} (h : Fine l) : Fine l.dropLast := ⟨fun x hx => h.in_ x (List.dropLast_subset l hx), by rw [List.length_dropLast]; have := h.few; omega⟩
theorem Fine.snoc {l : List Nat} {n : Nat} (h : Fine l) (h2 : 2 ≤ n) (h40 : n ≤ 40) (hl : l.length < 12) : Fine (l ++ [n]) :=
  ⟨fun x hx => by
    rcases List.mem_append.1 hx with hx | hx
    · exact h.in_ x hx
    · have : x = n := by simpa using hx
      omega, by rw [List.length_append, List.length_singleton]; omega⟩
theorem call_one {p : Int} {x : Option Uw60.Call} (h0 : 0 ≤ p) (h1 : p < 2 ^ 32) (h : Uw60Neutral.callIn [p.toNat] = x) : Uw60Neutral.callOf [p] = x := by
  unfold Uw60Neutral.callOf
  rw [if_neg]
  · exact h
  · simp [Uw60Neutral.nat]; omega
theorem call_two {p n : Int} (h : (Uw60Neutral.callOf [p, n]).isSome = true) : 0 ≤ n ∧ n < 2 ^ 32 := by
  unfold Uw60Neutral.callOf at h
  split at h
  · cases h
  · rename_i q
    simp only [List.all_cons, List.all_nil, Bool.and_true, Bool.not_eq_false, Bool.and_eq_true, Uw60Neutral.nat, decide_eq_true_iff] at q
    exact q.2
/-- what a call answers, what is named then -/
def ansOf (l : List Nat) (k : Uw60.Call) : List Int := Uw60Neutral.out (Uw60.step ⟨l⟩ k).2
def nextOf (l : List Nat) (k : Uw60.Call) : List Nat := (Uw60.step ⟨l⟩ k).1.named
def natZ (l : List Nat) : List Int := l.map fun (n : Nat) => (n : Int)
theorem out_ok (z : Int) : Uw60Neutral.out (Uw60.ok z) = [z] := rfl
def toldZ (l : List Nat) : List Int := Uw60Neutral.out (Uw60.told l)
theorem told_one {l : List Nat} (h : Uw60.common l = 1) : toldZ l = [1, (((Uw60.gaps l).length : Nat) : Int)] := by
  unfold toldZ Uw60.told Uw60Neutral.out
  rw [if_pos h, h]; rfl
theorem told_no {l : List Nat} (h : Uw60.common l ≠ 1) : toldZ l = [((Uw60.common l : Nat) : Int)] := by
  unfold toldZ Uw60.told Uw60Neutral.out
  rw [if_neg h]; rfl
theorem out_mk (v : Int) (r : List Nat) : Uw60Neutral.out ⟨v, r⟩ = v :: natZ r := rfl
theorem whole_no {l : List Nat} {f : List Nat → Uw60.Ans} (h : Uw60.common l ≠ 1) : Uw60.Game.whole ⟨l⟩ f = Uw60.ok (-6) := if_pos h
theorem whole_yes {l : List Nat} {f : List Nat → Uw60.Ans} (h : Uw60.common l = 1) : Uw60.Game.whole ⟨l⟩ f = f (Uw60.gaps l) := if_neg (fun z => z h)
theorem ans_gaps_no {l : List Nat} (h : Uw60.common l ≠ 1) : ansOf l .gaps = [-6] := by
  show Uw60Neutral.out (Uw60.Game.whole ⟨l⟩ fun l => ⟨(l.length : Nat), l⟩) = _
  rw [whole_no h, out_ok]
theorem ans_gaps {l : List Nat} (h : Uw60.common l = 1) : ansOf l .gaps = (((Uw60.gaps l).length : Nat) : Int) :: natZ (Uw60.gaps l) := by
  show Uw60Neutral.out (Uw60.Game.whole ⟨l⟩ fun l => ⟨(l.length : Nat), l⟩) = _
  rw [whole_yes h, out_mk]
theorem ans_makes_far {l : List Nat} {n : Nat} (h : 300 < n) : ansOf l (.makes n) = [-1] := by
  show Uw60Neutral.out (if 300 < n then Uw60.ok (-1) else _) = _
  rw [if_pos h]; rfl
theorem ans_makes_none {l : List Nat} {n : Nat} (h : ¬ 300 < n) (e : Uw60.few l n = none) : ansOf l (.makes n) = [-3] := by
  show Uw60Neutral.out (if 300 < n then Uw60.ok (-1) else match Uw60.few l n with
    | none => Uw60.ok (-3)
    | some m => ⟨(m : Nat), Uw60.rowFor l n m⟩) = _
  rw [if_neg h, e]; rfl
theorem ans_makes {l : List Nat} {n m : Nat} (h : ¬ 300 < n) (e : Uw60.few l n = some m) : ansOf l (.makes n) = ((m : Nat) : Int) :: natZ (Uw60.rowFor l n m) := by
  show Uw60Neutral.out (if 300 < n then Uw60.ok (-1) else match Uw60.few l n with
    | none => Uw60.ok (-3)
    | some m => ⟨(m : Nat), Uw60.rowFor l n m⟩) = _
  rw [if_neg h, e]; rfl
theorem step_out {l : List Nat} {n : Nat} (h : n < 2 ∨ 40 < n) : ansOf l (.names n) = [-1] ∧ nextOf l (.names n) = l := by
  have e : Uw60.step ⟨l⟩ (.names n) = (⟨l⟩, Uw60.ok (-1)) := if_pos h
  unfold ansOf nextOf
  rw [e]; exact ⟨rfl, rfl⟩
theorem step_made {l : List Nat} {n : Nat} (h : ¬ (n < 2 ∨ 40 < n)) (e : md l n = true) : ansOf l (.names n) = [-4] ∧ nextOf l (.names n) = l := by
  have e : Uw60.step ⟨l⟩ (.names n) = (⟨l⟩, Uw60.ok (-4)) := (if_neg h).trans (if_pos (by rw [made_md]; exact e))
  unfold ansOf nextOf
  rw [e]; exact ⟨rfl, rfl⟩
theorem step_full {l : List Nat} {n : Nat} (h : ¬ (n < 2 ∨ 40 < n)) (e : ¬ md l n = true) (f : 12 ≤ l.length) : ansOf l (.names n) = [-5] ∧ nextOf l (.names n) = l := by
  have e : Uw60.step ⟨l⟩ (.names n) = (⟨l⟩, Uw60.ok (-5)) := (if_neg h).trans ((if_neg (by rw [made_md]; exact e)).trans (if_pos f))
  unfold ansOf nextOf
  rw [e]; exact ⟨rfl, rfl⟩
theorem step_names {l : List Nat} {n : Nat} (h : ¬ (n < 2 ∨ 40 < n)) (e : ¬ md l n = true) (f : ¬ 12 ≤ l.length) : ansOf l (.names n) = toldZ (l ++ [n]) ∧ nextOf l (.names n) = l ++ [n] := by
  have e : Uw60.step ⟨l⟩ (.names n) = (⟨l ++ [n]⟩, Uw60.told (l ++ [n])) := (if_neg h).trans ((if_neg (by rw [made_md]; exact e)).trans (if_neg f))
  unfold ansOf nextOf
  rw [e]; exact ⟨rfl, rfl⟩
theorem step_undo_no : ansOf [] .undo = [-9] ∧ nextOf [] .undo = [] := ⟨rfl, rfl⟩
theorem step_undo {l : List Nat} (h : l ≠ []) : ansOf l .undo = toldZ l.dropLast ∧ nextOf l .undo = l.dropLast := by
  have e : Uw60.step ⟨l⟩ .undo = (⟨l.dropLast⟩, Uw60.told l.dropLast) := by
    show (match l.getLast? with
      | none => ((⟨l⟩, Uw60.ok (-9)) : Uw60.Game × Uw60.Ans)
      | some _ => (⟨l.dropLast⟩, Uw60.told l.dropLast)) = _
    rw [List.getLast?_eq_some_getLast h]
  unfold ansOf nextOf
  rw [e]; exact ⟨rfl, rfl⟩
/-- wins, worth, ender: the way through their refusals -/
theorem small_no {l : List Nat} {f : Nat → Uw60.Ans} (h : Uw60.common l ≠ 1) : Uw60.Game.small ⟨l⟩ f = Uw60.ok (-6) := if_pos h
theorem small_many {l : List Nat} {f : Nat → Uw60.Ans} (h : Uw60.common l = 1) (g : 16 < (Uw60.gaps l).length) : Uw60.Game.small ⟨l⟩ f = Uw60.ok (-7) := (if_neg (fun z => z h)).trans (if_pos g)
theorem small_few {l : List Nat} {f : Nat → Uw60.Ans} (h : Uw60.common l = 1) (g : ¬ 16 < (Uw60.gaps l).length) : Uw60.Game.small ⟨l⟩ f = f (Uw60.maskOf (Uw60.gaps l)) := (if_neg (fun z => z h)).trans (if_neg g)
end Nt
set_option Elab.async false
namespace Nt
/-! ### G. what the program makes of a set of numbers left -/
/-- what is left of T behind g, told for one number of T -/
def stl (T : List Nat) (g h : Nat) : Bool := !(List.range (h / g)).any fun k => decide (h - (k + 1) * g ≠ 1) && !T.contains (h - (k + 1) * g)
theorem aft_stl (T : List Nat) (g : Nat) : aft T g = T.filter (stl T g) := rfl
theorem stl_lt {T : List Nat} {g h : Nat} (c : h < g) : stl T g h = true := by
  unfold stl
  rw [Nat.div_eq_of_lt c]; rfl
theorem stl_step {T : List Nat} {g h : Nat} (hg : 2 ≤ g) (c : g ≤ h) : stl T g h = (decide (h - g = 1) || (T.contains (h - g) && stl T g (h - g))) := by
  have hd : h / g = (h - g) / g + 1 := by
    rw [Nat.div_eq h g, if_pos ⟨by omega, c⟩]
  have e : ∀ k, h - (k + 1 + 1) * g = h - g - (k + 1) * g := fun k => by rw [Nat.succ_mul (k + 1)]; omega
  unfold stl
  rw [hd, List.range_succ_eq_map, List.any_cons, List.any_map]
  rw [show ((fun k => decide (h - (k + 1) * g ≠ 1) && !T.contains (h - (k + 1) * g)) ∘ Nat.succ) = fun k => decide (h - g - (k + 1) * g ≠ 1) && !T.contains (h - g - (k + 1) * g) from funext fun k => by show (decide (h - (k + 1 + 1) * g ≠ 1) && !T.contains (h - (k + 1 + 1) * g)) = _; rw [e k]]
  rw [Nat.zero_add, Nat.one_mul]
  by_cases c1 : h - g = 1
  · rw [c1, Nat.div_eq_of_lt (show 1 < g by omega)]; rfl
  · rw [decide_eq_false c1, decide_eq_true (show h - g ≠ 1 from c1)]
    cases T.contains (h - g) <;> simp
theorem up_lt {T : List Nat} (h : T.Pairwise (· < ·)) {i x y : Nat} (hx : T[i]? = some x) (hy : y ∈ T) : y < x ↔ y ∈ T.take i := by
  obtain ⟨j, hj⟩ := List.mem_iff_getElem?.1 hy
  rw [List.pairwise_iff_getElem] at h
  obtain ⟨hi, rfl⟩ := List.getElem?_eq_some_iff.1 hx
  obtain ⟨hjl, rfl⟩ := List.getElem?_eq_some_iff.1 hj
  constructor
  · intro c
    rw [List.mem_take_iff_getElem]
    rcases Nat.lt_trichotomy j i with q | q | q
    · exact ⟨j, by omega, rfl⟩
    · subst q; omega
    · have := h i j hi hjl q; omega
  · intro c
    rw [List.mem_take_iff_getElem] at c
    obtain ⟨m, hm, e⟩ := c
    have := h m i (by omega) hi (by omega)
    omega
/-- the test of the program's loop -/
theorem stl_loop {T : List Nat} (hT : SL T) {g : Nat} (hg : 2 ≤ g) {i x : Nat} (hx : T[i]? = some x) :
    stl T g x = (decide (x < g) || decide (x - g = 1) || decide (g ≤ x ∧ x - g ∈ (T.take i).filter (stl T g))) := by
  by_cases c : x < g
  · rw [stl_lt c, decide_eq_true c]; rfl
  · rw [decide_eq_false c, Bool.false_or, stl_step hg (by omega)]
    congr 1
    rw [Bool.eq_iff_iff, Bool.and_eq_true, List.contains_iff_mem, decide_eq_true_iff, List.mem_filter]
    constructor
    · rintro ⟨h1, h2⟩
      exact ⟨by omega, (up_lt hT.up hx h1).1 (by omega), h2⟩
    · rintro ⟨_, h1, h2⟩
      exact ⟨List.mem_of_mem_take h1, h2⟩
/-! how many sets there are -/
def subs : List Nat → List (List Nat)
  | [] => [[]]
  | a :: r => subs r ++ (subs r).map (a :: ·)
theorem subs_len : ∀ T, (subs T).length = 2 ^ T.length
  | [] => rfl
  | a :: r => by
    unfold subs
    rw [List.length_append, List.length_map, subs_len r, List.length_cons, Nat.pow_succ]; omega
theorem subs_mem {U T : List Nat} (h : U.Sublist T) : U ∈ subs T := by
  induction h with
  | slnil => exact List.mem_singleton.2 rfl
  | cons a _ ih => exact List.mem_append.2 (.inl ih)
  | cons_cons a _ ih => exact List.mem_append.2 (.inr (List.mem_map.2 ⟨_, ih, rfl⟩))
theorem pigeon {α : Type} [DecidableEq α] : ∀ (l m : List α), l.Nodup → (∀ x ∈ l, x ∈ m) → l.length ≤ m.length
  | [], _, _, _ => Nat.zero_le _
  | a :: r, m, hn, hs => by
    have hn' := List.nodup_cons.1 hn
    have ha := hs a List.mem_cons_self
    have := pigeon r (m.erase a) hn'.2 (fun x hx => (List.mem_erase_of_ne (show x ≠ a from fun e => hn'.1 (by rw [← e]; exact hx))).2 (hs x (List.mem_cons_of_mem a hx)))
    rw [List.length_erase_of_mem ha] at this
    have : 0 < m.length := List.length_pos_of_mem ha
    rw [List.length_cons]; omega
theorem sub_few {ls : List (List Nat)} {T : List Nat} (hn : ls.Nodup) (hs : ∀ U ∈ ls, U.Sublist T) : ls.length ≤ 2 ^ T.length := by
  rw [← subs_len]
  exact pigeon ls _ hn (fun U hU => subs_mem (hs U hU))
theorem SL.sub {U T : List Nat} (h : SL T) (s : U.Sublist T) : SL U := ⟨h.up.sublist s, fun x hx => h.lo x (s.mem hx), fun x hx => h.hi x (s.mem hx)⟩
theorem aft_sub (T : List Nat) (g : Nat) : (aft T g).Sublist T := List.filter_sublist
end Nt
set_option Elab.async false
namespace Nt
/-! ### H. what wins, worth, ender answer -/
def small3 (k : Uw60.Call) : Prop := k = .wins ∨ k = .worth ∨ k = .ender
theorem next_small {l : List Nat} {k : Uw60.Call} (h : small3 k) : nextOf l k = l := by
  rcases h with rfl | rfl | rfl <;> rfl
def fW : Nat → Uw60.Ans := fun s => ⟨if (Uw60.winning s).isEmpty = true then 0 else 1, Uw60.winning s⟩
def fO : Nat → Uw60.Ans := fun s => Uw60.ok (Uw60.valueOf s : Nat)
def fE : Nat → Uw60.Ans := fun s => if s = 0 then Uw60.ok (-8) else match Uw60.notEnder s with
    | none => ⟨1, [(Uw60.membersOf s).getLastD 0]⟩
    | some a => ⟨0, [(Uw60.membersOf s).getLastD 0, a]⟩
theorem wins_def (l : List Nat) : ansOf l .wins = Uw60Neutral.out (Uw60.Game.small ⟨l⟩ fW) := rfl
theorem worth_def (l : List Nat) : ansOf l .worth = Uw60Neutral.out (Uw60.Game.small ⟨l⟩ fO) := rfl
theorem ender_def (l : List Nat) : ansOf l .ender = Uw60Neutral.out (Uw60.Game.small ⟨l⟩ fE) := rfl
theorem ans3_no {l : List Nat} {k : Uw60.Call} (q : small3 k) (h : Uw60.common l ≠ 1) : ansOf l k = [-6] := by
  rcases q with rfl | rfl | rfl
  · rw [wins_def, small_no h]; rfl
  · rw [worth_def, small_no h]; rfl
  · rw [ender_def, small_no h]; rfl
theorem ans3_many {l : List Nat} {k : Uw60.Call} (q : small3 k) (h : Uw60.common l = 1) (g : 16 < (Uw60.gaps l).length) : ansOf l k = [-7] := by
  rcases q with rfl | rfl | rfl
  · rw [wins_def, small_many h g]; rfl
  · rw [worth_def, small_many h g]; rfl
  · rw [ender_def, small_many h g]; rfl
/-- the numbers by which one wins -/
def winL (T : List Nat) : List Nat := T.filter fun g => G (aft T g) == 0
theorem ans_wins {l : List Nat} (h : Uw60.common l = 1) (g : ¬ 16 < (Uw60.gaps l).length) : ansOf l .wins = (if (winL (Uw60.gaps l)).isEmpty = true then 0 else 1) :: natZ (winL (Uw60.gaps l)) := by
  rw [wins_def, small_few h g]
  unfold fW winL
  rw [winning_is (gaps_sl (by omega)), out_mk]
theorem ans_worth {l : List Nat} (h : Uw60.common l = 1) (g : ¬ 16 < (Uw60.gaps l).length) : ansOf l .worth = [((G (Uw60.gaps l) : Nat) : Int)] := by
  rw [worth_def, small_few h g]
  unfold fO
  rw [valueOf_is (gaps_sl (by omega)), out_ok]
theorem mask_nil {T : List Nat} (h : SL T) : Uw60.maskOf T = 0 ↔ T = [] := by
  constructor
  · intro e
    exact mask_inj h (SL.mk List.Pairwise.nil (fun x h => (by cases h)) (fun x h => (by cases h))) e
  · intro e; rw [e]; rfl
theorem last_app (l : List Nat) (a : Nat) : (l ++ [a]).getLastD 0 = a := by
  rw [List.getLastD_eq_getLast?, List.getLast?_append]; rfl
/-- the first with which the greatest isn't made -/
def firstNo (l D : List Nat) (a : Nat) : Option Nat := D.find? fun g => !md (l ++ [g]) a
theorem notEnder_first {l D : List Nat} {a : Nat} (hb : ∀ x ∈ l, 2 ≤ x ∧ x ≤ 40) (_ : Uw60.common l = 1) (g : ¬ 16 < (Uw60.gaps l).length) (e : Uw60.gaps l = D ++ [a]) : Uw60.notEnder (Uw60.maskOf (Uw60.gaps l)) = firstNo l D a := by
  have hT := gaps_sl (l := l) (by omega)
  have hup := hT.up
  rw [notEnder_is hT]
  have hlo := hT.lo
  have ha : a ∈ gp l 1601 := by rw [← gaps_gp, e]; simp
  have hmem := mem_gp.1 ha
  have key : ∀ g, 2 ≤ g → (aft (Uw60.gaps l) g).contains a = !md (l ++ [g]) a := by
    intro g hg
    rw [gaps_gp, ← aft_gp (fun x hx => (hb x hx).1) hg, Bool.eq_iff_iff, List.contains_iff_mem, mem_gp, Bool.not_eq_true']
    exact ⟨fun h => h.2.2, fun h => ⟨hmem.1, hmem.2.1, h⟩⟩
  generalize hA : aft (Uw60.gaps l) = A at key
  rw [e] at *
  rw [last_app, List.find?_append]
  unfold firstNo
  rw [List.pairwise_append] at hup
  rw [show (D.find? fun g => g != a && (A g).contains a) = D.find? fun g => !md (l ++ [g]) a from ?_]
  · cases D.find? fun g => !md (l ++ [g]) a with
    | some z => rfl
    | none =>
      rw [List.find?_cons]
      simp
  · have cong : ∀ (X : List Nat), (∀ x ∈ X, x < a ∧ 2 ≤ x) → (X.find? fun g => g != a && (A g).contains a) = X.find? fun g => !md (l ++ [g]) a := by
      intro X
      induction X with
      | nil => intro _; rfl
      | cons x r ih =>
        intro hX
        have hx := hX x List.mem_cons_self
        rw [List.find?_cons, List.find?_cons, ih (fun y hy => hX y (List.mem_cons_of_mem x hy)), key x hx.2]
        rw [show (x != a) = true by rw [bne_iff_ne]; omega, Bool.true_and]
    exact cong D (fun x hx => ⟨hup.2.2 x hx a (by simp), hlo x (by simp [hx])⟩)
theorem ans_ender_nil {l : List Nat} (h : Uw60.common l = 1) (e : Uw60.gaps l = []) : ansOf l .ender = [-8] := by
  rw [ender_def, small_few h (by rw [e]; decide), e]; rfl
theorem ans_ender_yes {l D : List Nat} {a : Nat} (hb : ∀ x ∈ l, 2 ≤ x ∧ x ≤ 40) (h : Uw60.common l = 1) (g : ¬ 16 < (Uw60.gaps l).length) (e : Uw60.gaps l = D ++ [a]) (hn : firstNo l D a = none) : ansOf l .ender = [1, ((a : Nat) : Int)] := by
  have hT := gaps_sl (l := l) (by omega)
  have h0 : ¬ Uw60.maskOf (Uw60.gaps l) = 0 := by rw [mask_nil hT, e]; simp
  rw [ender_def, small_few h g]
  unfold fE
  rw [if_neg h0, notEnder_first hb h g e, hn, members_mask hT]
  show Uw60Neutral.out ⟨1, [(Uw60.gaps l).getLastD 0]⟩ = _
  rw [e, last_app]; rfl
theorem ans_ender_no {l D : List Nat} {a z : Nat} (hb : ∀ x ∈ l, 2 ≤ x ∧ x ≤ 40) (h : Uw60.common l = 1) (g : ¬ 16 < (Uw60.gaps l).length) (e : Uw60.gaps l = D ++ [a]) (hn : firstNo l D a = some z) : ansOf l .ender = [0, ((a : Nat) : Int), ((z : Nat) : Int)] := by
  have hT := gaps_sl (l := l) (by omega)
  have h0 : ¬ Uw60.maskOf (Uw60.gaps l) = 0 := by rw [mask_nil hT, e]; simp
  rw [ender_def, small_few h g]
  unfold fE
  rw [if_neg h0, notEnder_first hb h g e, hn, members_mask hT]
  show Uw60Neutral.out ⟨0, [(Uw60.gaps l).getLastD 0, z]⟩ = _
  rw [e, last_app]; rfl
end Nt
set_option Elab.async false
namespace Nt
/-! ### I. one call of the list -/
theorem stp_some {l : List Nat} {c : List Int} {k : Uw60.Call} (h : Uw60Neutral.callOf c = some k) : stp ⟨l⟩ c = (⟨nextOf l k⟩, ansOf l k) := by
  unfold stp Uw60Neutral.step
  rw [h]; rfl
theorem tl_cons {l : List Nat} {c : List Int} {cs : List (List Int)} {k : Uw60.Call} (h : Uw60Neutral.callOf c = some k) : tl ⟨l⟩ (c :: cs) = ((ansOf l k).length : Int) :: ansOf l k ++ tl ⟨nextOf l k⟩ cs := by
  show (((stp ⟨l⟩ c).2.length : Int) :: (stp ⟨l⟩ c).2 ++ tl (stp ⟨l⟩ c).1 cs) = _
  rw [stp_some h]
theorem fine_next {l : List Nat} (h : Fine l) (k : Uw60.Call) : Fine (nextOf l k) := by
  cases k with
  | begins => exact Fine.nil
  | names n =>
    by_cases z : n < 2 ∨ 40 < n
    · rw [(step_out z).2]; exact h
    · by_cases e : md l n = true
      · rw [(step_made z e).2]; exact h
      · by_cases f : 12 ≤ l.length
        · rw [(step_full z e f).2]; exact h
        · rw [(step_names z e f).2]; exact h.snoc (by omega) (by omega) (by omega)
  | gaps => exact h
  | makes n => exact h
  | wins => exact h
  | worth => exact h
  | ender => exact h
  | undo =>
    by_cases e : l = []
    · subst e; exact Fine.nil
    · rw [(step_undo e).2]; exact h.drop
/-- a call with no number behind -/
inductive One : Int → Uw60.Call → Prop
  | begins : One 0 .begins
  | gaps : One 2 .gaps
  | wins : One 4 .wins
  | worth : One 5 .worth
  | ender : One 6 .ender
  | undo : One 7 .undo
inductive Two : Int → Int → Uw60.Call → Prop
  | names (n : Nat) : Two 1 n (.names n)
  | makes (n : Nat) : Two 3 n (.makes n)
theorem one_of {p : Int} (h : p = 0 ∨ p = 2 ∨ p = 4 ∨ p = 5 ∨ p = 6 ∨ p = 7) : ∃ k, Uw60Neutral.callOf [p] = some k ∧ One p k := by
  rcases h with rfl | rfl | rfl | rfl | rfl | rfl
  · exact ⟨_, call_one (by decide) (by decide) rfl, .begins⟩
  · exact ⟨_, call_one (by decide) (by decide) rfl, .gaps⟩
  · exact ⟨_, call_one (by decide) (by decide) rfl, .wins⟩
  · exact ⟨_, call_one (by decide) (by decide) rfl, .worth⟩
  · exact ⟨_, call_one (by decide) (by decide) rfl, .ender⟩
  · exact ⟨_, call_one (by decide) (by decide) rfl, .undo⟩
theorem two_of {p n : Int} (h : p = 1 ∨ p = 3) (hs : (Uw60Neutral.callOf [p, n]).isSome = true) : ∃ k, Uw60Neutral.callOf [p, n] = some k ∧ Two p n k := by
  obtain ⟨h0, h1⟩ := call_two hs
  obtain ⟨m, rfl⟩ : ∃ m : Nat, n = (m : Int) := ⟨n.toNat, by omega⟩
  have e : Uw60Neutral.callOf [p, (m : Int)] = Uw60Neutral.callIn [p.toNat, m] := by
    unfold Uw60Neutral.callOf
    rw [if_neg]
    · rfl
    · rcases h with rfl | rfl <;> (simp [Uw60Neutral.nat]; omega)
  rcases h with rfl | rfl
  · exact ⟨_, e, .names m⟩
  · exact ⟨_, e, .makes m⟩
theorem dropz_at {ns r : List Int} {i : Nat} {x : Int} (h : ns.drop i = x :: r) : ns[i]? = some x ∧ ns.drop (i + 1) = r ∧ i < ns.length := by
  refine ⟨?_, ?_, ?_⟩
  · have := congrArg (fun l => l[0]?) h
    simpa [List.getElem?_drop] using this
  · have := congrArg (fun l => l.drop 1) h
    simpa [List.drop_drop] using this
  · rcases Nat.lt_or_ge i ns.length with c | c
    · exact c
    · rw [List.drop_eq_nil_of_le c] at h; cases h
theorem dec_at {ns : List Int} {i : Nat} {csr : List (List Int)} (h : Dec (ns.drop i) csr) (hi : i < ns.length) :
    (∃ p cs, csr = [p] :: cs ∧ ns[i]? = some p ∧ (p = 0 ∨ p = 2 ∨ p = 4 ∨ p = 5 ∨ p = 6 ∨ p = 7) ∧ Dec (ns.drop (i + 1)) cs) ∨
    ∃ p n cs, csr = [p, n] :: cs ∧ ns[i]? = some p ∧ ns[i + 1]? = some n ∧ (p = 1 ∨ p = 3) ∧ Dec (ns.drop (i + 2)) cs ∧ i + 2 ≤ ns.length := by
  generalize e : ns.drop i = l at h
  cases h with
  | nil =>
    have := congrArg List.length e
    rw [List.length_drop, List.length_nil] at this
    omega
  | @one p r cs q d =>
    obtain ⟨h1, h2, _⟩ := dropz_at e
    exact .inl ⟨p, cs, rfl, h1, q, by rw [h2]; exact d⟩
  | @two p n r cs q d =>
    obtain ⟨h1, h2, _⟩ := dropz_at e
    obtain ⟨h3, h4, h5⟩ := dropz_at h2
    exact .inr ⟨p, n, cs, rfl, h1, h3, q, by rw [h4]; exact d, by omega⟩
theorem dec_end {csr : List (List Int)} (h : Dec [] csr) : csr = [] := by
  cases h; rfl
end Nt
set_option Elab.async false
set_option linter.all false
set_option maxRecDepth 100000
set_option maxHeartbeats 2000000
namespace Nt
open PySem PySem.Spec PyProof.Rows L2
open PySem.W (Codec)
/-- a list of numbers as it lies in the heap -/
def nums (l : List Nat) : List V := l.map fun (n : Nat) => V.int (n : Int)
def bools (l : List Bool) : List V := l.map V.bl
theorem nums_len (l : List Nat) : (nums l).length = l.length := List.length_map _
theorem nums_get {l : List Nat} {i : Nat} {x : V} (h : (nums l)[i]? = some x) : ∃ n, l[i]? = some n ∧ x = V.int (n : Nat) := by
  unfold nums at h
  rw [List.getElem?_map] at h
  cases e : l[i]? with
  | none => rw [e] at h; cases h
  | some n => rw [e] at h; exact ⟨n, rfl, (Option.some.inj h).symm⟩
theorem take_more {α : Type} {l : List α} {i : Nat} {x : α} (h : l[i]? = some x) : l.take (i + 1) = l.take i ++ [x] := by
  rw [List.take_add_one, h]; rfl
def top (i : Nat) : Stmt := PySem.Challenge.pw_namedinturn_s01_answers.main.body.getD i (.Pass ⟨0, 0, 0, 0⟩)
theorem if_true_of {c : Bool} {A B : Prop} (hc : c = true) (h : A) : if c = true then A else B := by
  rw [if_pos hc]
  exact h
theorem if_false_of {c : Bool} {A B : Prop} (hc : c = false) (h : B) : if c = true then A else B := by
  rw [hc, if_neg Bool.false_ne_true]
  exact h
end Nt
set_option Elab.async false
set_option linter.all false
set_option maxRecDepth 100000
set_option maxHeartbeats 2000000
namespace Nt
open PySem PySem.Spec PyProof.Rows L2
section
variable {P : Program} {w : World} {K : PySem.W.Frag} {mg : Str → Option Value} {base : Heap}
/-! ### divisor_of_two -/
abbrev sDiv : Stmt := top 2
theorem scDiv : FnScope ["one", "other", "rest"] ["one", "other"] (defScope sDiv) := ⟨rfl, rfl, rfl, by decide +kernel, rfl, by decide +kernel, by decide +kernel⟩
def spDiv : Sp := fun vs H Q _ => ∃ (a b : Nat), vs = [.int (a : Nat), .int (b : Nat)] ∧ Q (.int (Nat.gcd a b : Nat)) H
theorem ok_div {f : Addr} {fd : FuncData} (F : Fun K "divisor_of_two" "divisor_of_two" sDiv f fd) : FnOk P w K mg base CX0 1 f fd ["one", "other"] spDiv := by
  refine F.ok scDiv (fun vs H Q E h => ?_) (fun cdv A outer s H vs Q E hr h => ?_)
  · obtain ⟨a, b, rfl, _⟩ := h
    rfl
  · refine ⟨_, pss_cons (ps_while PassesOwn.never (pt_cmpR op_gt (pv 1) pe_int (nomark _))
        (pss_cons (ps_set (i := 2) scDiv.nd rfl (Or.inl rfl) (pe_op op_mod (pv 0) (pv 1)))
        (pss_cons (ps_set (i := 0) scDiv.nd rfl (Or.inl rfl) (pv 1))
        (pss_one (ps_set (i := 1) scDiv.nd rfl (Or.inl rfl) (pv 2))))))
      (pss_one (ps_ret (pv 0))), ?_⟩
    obtain ⟨a, b, rfl, q⟩ := h
    refine while_by (fun σ H' => H' = H ∧ ∃ (x y : Nat) (v : Option V), σ = [some (.int (x : Nat)), some (.int (y : Nat)), v] ∧ Nat.gcd x y = Nat.gcd a b)
      (fun σ _ => match σ with | [_, some (.int y), _] => y.toNat | _ => 0) ⟨rfl, a, b, none, rfl, rfl⟩ ?_
      (fun σ H Q Q' h ⟨v, e, i, j, e1, e2, c, ec, z⟩ => ⟨v, e, i, j, e1, e2, c, ec, h _ _ z⟩)
    rintro σ H' ⟨rfl, x, y, v, rfl, e⟩
    refine ⟨_, rfl, _, _, rfl, rfl, _, rfl, ?_⟩
    by_cases c : 0 < y
    · refine if_true_of (decide_eq_true (by omega)) ?_
      refine ⟨_, rfl, _, rfl, _, _, rfl, rfl, by omega, _, rfl, _, rfl, ⟨rfl, y, x % y, _, rfl, ?_⟩, ?_⟩
      · rw [← e, Nat.gcd_comm x y, Nat.gcd_rec y x, Nat.gcd_comm]
      · show ((x : Int) % (y : Int)).toNat < ((y : Nat) : Int).toNat
        have := Nat.mod_lt x c
        omega
    · refine if_false_of (decide_eq_false (by omega)) ?_
      have : y = 0 := by omega
      subst this
      rw [Nat.gcd_zero_right] at e
      refine ⟨_, rfl, ?_⟩
      rw [e]; exact q
end
end Nt
set_option Elab.async false
set_option linter.all false
set_option maxRecDepth 100000
set_option maxHeartbeats 2000000
namespace Nt
open PySem PySem.Spec PyProof.Rows L2
theorem same_new {H H' : Hp} {p : Addr} {o : HO} (s : L2.Same H H') (h : H p = none) : L2.Same H (upd H' p o) := fun b u e => by
  rw [upd_ne (ne_of_none e h)]; exact s b u e
theorem same_no {H H' : Hp} {p : Addr} (s : L2.Same H H') (h : H' p = none) : H p = none := L2.Same.free s h
/-- the table of what is made, so far -/
def mdl (l : List Nat) (k : Nat) : List Bool := (List.range k).map (md l)
theorem mdl_len (l : List Nat) (k : Nat) : (mdl l k).length = k := by unfold mdl; rw [List.length_map, List.length_range]
theorem bools_len (l : List Bool) : (bools l).length = l.length := List.length_map _
theorem mdl_more (l : List Nat) (k : Nat) : bools (mdl l k) ++ [V.bl (md l k)] = bools (mdl l (k + 1)) := by
  unfold bools mdl
  rw [List.range_succ, List.map_append, List.map_append]; rfl
theorem mdl_get (l : List Nat) {k i : Nat} (h : i < k) : (bools (mdl l k))[i]? = some (V.bl (md l i)) := by
  unfold bools mdl
  rw [List.getElem?_map, List.getElem?_map, List.getElem?_range h]; rfl
theorem any_take {l : List Nat} (f : Nat → Bool) : (l.map f).any id = l.any f := by
  rw [List.any_map]; rfl
section
variable {P : Program} {w : World} {K : PySem.W.Frag} {mg : Str → Option Value} {base : Heap}
/-! ### common_divisor -/
abbrev sCom : Stmt := top 3
theorem scCom : FnScope ["named", "divisor", "number"] ["named"] (defScope sCom) := ⟨rfl, rfl, rfl, by decide +kernel, rfl, by decide +kernel, by decide +kernel⟩
def spCom (K : PySem.W.Frag) : Sp := fun vs H Q _ => ∃ (p : Addr) (l : List Nat), vs = [.ref p] ∧ SqL K H p (nums l) ∧ Q (.int (Uw60.common l : Nat)) H
theorem ok_com {f fD : Addr} {fd fdD : FuncData} (F : Fun K "common_divisor" "common_divisor" sCom f fd) (FD : Fun K "divisor_of_two" "divisor_of_two" sDiv fD fdD) (bD : Binds K fdD ["one", "other"] []) (gD : mg "divisor_of_two" = some (.ref fD)) :
    FnOk P w K mg base CX0 2 f fd ["named"] (spCom K) := by
  have GD : FnOk P w K mg base CX0 1 fD fdD ["one", "other"] spDiv := ok_div FD
  refine F.ok scCom (fun vs H Q E h => ?_) (fun cdv A outer s H vs Q E hr h => ?_)
  · obtain ⟨p, l, rfl, _⟩ := h
    rfl
  · refine ⟨_, pss_cons (ps_set (i := 1) scCom.nd rfl (Or.inl rfl) pe_int)
      (pss_cons (ps_for PassesOwn.never rfl (pi_list (pv 0)) (pg_name (i := 2) scCom.nd rfl (Or.inl rfl))
        (pss_one (ps_set (i := 1) scCom.nd rfl (Or.inl rfl) (pe_call GD hr rfl gD FD.kp bD .nil pass0 (pa_cons (pv 1) (pa_cons (pv 2) pa_nil))))))
      (pss_one (ps_ret (pv 1)))), ?_⟩
    obtain ⟨p, l, rfl, hS, q⟩ := h
    refine ⟨_, rfl, p, rfl, ⟨_, hS⟩, for_list (K := K) (a := p) (xs := nums l) (fun i σ H' => H' = H ∧ ∃ v : Option V, σ = [some (.ref p), some (.int (Uw60.common (l.take i) : Nat)), v])
      ⟨rfl, none, rfl⟩ (fun i σ H' _ ⟨e, _⟩ => by rw [e]; exact hS) ?_ ?_⟩
    · rintro i x σ H' hi ⟨rfl, v, rfl⟩
      obtain ⟨n, hn, rfl⟩ := nums_get hi
      refine ⟨_, rfl, _, rfl, _, n, rfl, rfl, some (.int (n : Nat)), ?_⟩
      rw [take_more hn, common_snoc]; rfl
    · rintro σ H' ⟨rfl, v, rfl⟩
      rw [nums_len, List.take_length]
      exact ⟨_, rfl, q⟩
/-! ### is_next_made -/
abbrev sNext : Stmt := top 4
theorem scNext : FnScope ["made", "named", "number", "part"] ["made", "named"] (defScope sNext) := ⟨rfl, rfl, rfl, by decide +kernel, rfl, by decide +kernel, by decide +kernel⟩
def spNext (K : PySem.W.Frag) : Sp := fun vs H Q _ => ∃ (p r : Addr) (l : List Nat) (k : Nat), vs = [.ref p, .ref r] ∧ SqL K H p (bools (mdl l k)) ∧ SqL K H r (nums l) ∧ 1 ≤ k ∧ (∀ x ∈ l, 1 ≤ x) ∧ l.length ≤ 1000 ∧
  ∀ H', L2.Same H H' → Q (.bl (md l k)) H'
theorem ok_next {f : Addr} {fd : FuncData} (F : Fun K "is_next_made" "is_next_made" sNext f fd) (mL : mg "len" = none) (mA : mg "any" = none) :
    FnOk P w K mg base CX0 1 f fd ["made", "named"] (spNext K) := by
  refine F.ok scNext (fun vs H Q E h => ?_) (fun cdv A outer s H vs Q E hr h => ?_)
  · obtain ⟨p, r, l, k, rfl, _⟩ := h
    rfl
  · refine ⟨_, pss_cons (ps_set (i := 2) scNext.nd rfl (Or.inr rfl) (pe_callB call_len_seq (by rfl) mL PySem.boot_len (pa_cons (pv 0) pa_nil)))
      (pss_one (ps_ret (pe_callB (cr_any rfl) (by rfl) mA boot_any (pa_cons
        (pe_lc (own := [("part", 3)]) (g := gName 3) (tt := tYes) rfl scNext.nd (pi_list (pv 1)) (blkOk_by (N := ["made", "named", "number", "part"]) (sc := defScope sNext) (by decide +kernel))
          (fun _ _ _ _ _ => pg_name (i := 3) scNext.nd rfl (Or.inl rfl)) (fun _ _ _ _ _ => pts_nil)
          (fun _ _ _ _ _ => pe_and (pe_cmpR op_le (pv 3) (pv 2) (nomark _)) (pe_one (pe_ix (r := rIxL K) ix_list (pv 0) (pe_op op_sub (pv 2) (pv 3)) (fun _ _ => rfl))))) pa_nil)))), ?_⟩
    obtain ⟨p, r, l, k, rfl, hM, hN, k1, hb, hl, q⟩ := h
    refine ⟨_, rfl, p, _, rfl, .inl hM, ?_⟩
    rw [bools_len, mdl_len]
    refine ⟨_, rfl, r, rfl, ⟨_, hN⟩, fun D hD => lc_list (K := K) (a := r) (xs := nums l)
      (fun i H' => L2.Same H H' ∧ H' D = some (.lst (bools ((l.take i).map fun a => decide (1 ≤ a ∧ a ≤ k) && md l (k - a)))))
      ⟨same_new (L2.Same.refl H) hD, upd_same⟩ (fun i H' _ ⟨s, _⟩ => s.seq hN) ?_ ?_⟩
    · rintro i x H' hi ⟨s, hL⟩
      obtain ⟨n, hn, rfl⟩ := nums_get hi
      have n1 := hb n (List.mem_of_getElem? hn)
      have le : (l.take i).length ≤ 1000 := by rw [List.length_take]; omega
      have nx : bools ((l.take i).map fun a => decide (1 ≤ a ∧ a ≤ k) && md l (k - a)) ++ [V.bl (decide (1 ≤ n ∧ n ≤ k) && md l (k - n))] = bools ((l.take (i + 1)).map fun a => decide (1 ≤ a ∧ a ≤ k) && md l (k - a)) := by
        unfold bools
        rw [take_more hn, List.map_append, List.map_append]; rfl
      refine ⟨rfl, ?_⟩
      refine ⟨_, rfl, _, rfl, _, _, rfl, rfl, _, rfl, ?_⟩
      by_cases c : n ≤ k
      · refine if_true_of (decide_eq_true (by omega)) ?_
        refine ⟨_, rfl, _, rfl, _, rfl, _, _, rfl, rfl, p, _, _, V.bl (md l (k - n)), rfl, rfl, s.seq hM, ?_, ?_⟩
        · rw [show ((k : Nat) : Int) - (n : Int) = ((k - n : Nat) : Int) by omega]
          exact atI_nat (mdl_get l (by omega))
        · rw [decide_eq_true (show 1 ≤ n ∧ n ≤ k from ⟨n1, c⟩), Bool.true_and] at nx
          refine ⟨_, hL, small1000 (by rw [bools_len, List.length_map]; exact le), same_new s hD, ?_⟩
          rw [nx]; exact upd_same
      · refine if_false_of (decide_eq_false (by omega)) ?_
        rw [decide_eq_false (show ¬ (1 ≤ n ∧ n ≤ k) by omega), Bool.false_and] at nx
        refine ⟨_, hL, small1000 (by rw [bools_len, List.length_map]; exact le), same_new s hD, ?_⟩
        rw [nx]; exact upd_same
    · rintro H' ⟨s, hL⟩
      rw [nums_len, List.take_length] at hL
      refine ⟨D, _, rfl, SqL.of hL, ?_⟩
      rw [any_take]
      obtain ⟨j, rfl⟩ : ∃ j, k = j + 1 := ⟨k - 1, by omega⟩
      rw [← md_succ]
      exact q H' s
end
end Nt
set_option Elab.async false
set_option linter.all false
set_option maxRecDepth 100000
set_option maxHeartbeats 2000000
namespace Nt
open PySem PySem.Spec PyProof.Rows L2
/-- how long the list at p is -/
def lenAt (H : Hp) (p : Addr) : Nat := match H p with
  | some (.lst xs) => xs.length
  | _ => 0
theorem lenAt_of {H : Hp} {p : Addr} {xs : List V} (h : H p = some (.lst xs)) : lenAt H p = xs.length := by unfold lenAt; rw [h]
theorem int_map (l : List Nat) : nums l = (l.map fun (n : Nat) => (n : Int)).map V.int := by
  unfold nums; rw [List.map_map]; rfl
section
variable {P : Program} {w : World} {K : PySem.W.Frag} {mg : Str → Option Value} {base : Heap}
/-! ### is_made -/
abbrev sMade : Stmt := top 5
theorem scMade : FnScope ["number", "named", "made"] ["number", "named"] (defScope sMade) := ⟨rfl, rfl, rfl, by decide +kernel, rfl, by decide +kernel, by decide +kernel⟩
def spMade (K : PySem.W.Frag) : Sp := fun vs H Q _ => ∃ (r : Addr) (l : List Nat) (n : Nat), vs = [.int (n : Nat), .ref r] ∧ SqL K H r (nums l) ∧ n ≤ 1000 ∧ (∀ x ∈ l, 1 ≤ x) ∧ l.length ≤ 1000 ∧
  ∀ H', L2.Same H H' → Q (.bl (md l n)) H'
theorem ok_made {f fN : Addr} {fd fdN : FuncData} (F : Fun K "is_made" "is_made" sMade f fd) (FN : Fun K "is_next_made" "is_next_made" sNext fN fdN) (bN : Binds K fdN ["made", "named"] []) (gN : mg "is_next_made" = some (.ref fN)) (mL : mg "len" = none) (mA : mg "any" = none) :
    FnOk P w K mg base CX0 2 f fd ["number", "named"] (spMade K) := by
  have GN : FnOk P w K mg base CX0 1 fN fdN ["made", "named"] (spNext K) := ok_next FN mL mA
  refine F.ok scMade (fun vs H Q E h => ?_) (fun cdv A outer s H vs Q E hr h => ?_)
  · obtain ⟨r, l, n, rfl, _⟩ := h
    rfl
  · refine ⟨_, pss_cons (ps_set (i := 2) scMade.nd rfl (Or.inl rfl) (pe_lst (pa_cons pe_bl pa_nil)))
      (pss_cons (ps_while PassesOwn.never (pt_cmpR op_le (pe_callB call_len_seq (by rfl) mL PySem.boot_len (pa_cons (pv 2) pa_nil)) (pv 0) (nomark _))
        (pss_one (ps_expr (pe_bm PySem.F.plainAttrs_list PySem.F.slot_list_append PySem.F.type_list_append mt_append (pv 2)
          (pa_cons (pe_call GN hr rfl gN FN.kp bN .nil pass0 (pa_cons (pv 2) (pa_cons (pv 1) pa_nil))) pa_nil)))))
      (pss_one (ps_ret (pe_ix ix_list (pv 2) (pv 0) (fun _ _ => rfl))))), ?_⟩
    obtain ⟨r, l, n, rfl, hN, n1, hb, hl, q⟩ := h
    refine ⟨by show 1 ≤ sizeLine; decide, fun p hp => ?_⟩
    refine while_by (fun σ H' => ∃ k, 1 ≤ k ∧ k ≤ n + 1 ∧ σ = [some (.int (n : Nat)), some (.ref r), some (.ref p)] ∧ L2.Same H H' ∧ H' p = some (.lst (bools (mdl l k))))
      (fun _ H' => n + 1 - lenAt H' p) ⟨1, by omega, by omega, rfl, same_new (L2.Same.refl H) hp, upd_same⟩ ?_
      (fun σ H Q Q' h ⟨v, e, p1, p2, e1, e2, v2, e3, i, j, e4, e5, c, ec, z⟩ => ⟨v, e, p1, p2, e1, e2, v2, e3, i, j, e4, e5, c, ec, h _ _ z⟩)
    rintro σ H' ⟨k, k1, kn, rfl, s, hM⟩
    refine ⟨_, rfl, p, _, rfl, .inl (SqL.of hM), ?_⟩
    rw [bools_len, mdl_len]
    refine ⟨_, rfl, _, _, rfl, rfl, _, rfl, ?_⟩
    by_cases c : k ≤ n
    · refine if_true_of (decide_eq_true (by omega)) ?_
      refine ⟨_, rfl, .inl ⟨rfl, _, SqL.of hM⟩, ?_⟩
      refine ⟨_, rfl, _, rfl, p, r, l, k, rfl, SqL.of hM, s.seq hN, k1, hb, hl, fun H2 s2 => ?_⟩
      have hM2 := s2 _ _ hM
      refine ⟨p, _, _, rfl, rfl, hM2, small1000 (by rw [bools_len, mdl_len]; omega), ?_⟩
      rw [mdl_more]
      refine ⟨⟨k + 1, by omega, by omega, rfl, same_new (s.trans s2) hp, upd_same⟩, ?_⟩
      rw [lenAt_of upd_same, lenAt_of hM, bools_len, bools_len, mdl_len, mdl_len]
      omega
    · refine if_false_of (decide_eq_false (by omega)) ?_
      have : k = n + 1 := by omega
      subst this
      exact ⟨_, rfl, _, rfl, p, _, _, _, rfl, rfl, SqL.of hM, atI_nat (mdl_get l (by omega)), q _ s⟩
/-! ### numbers_left -/
abbrev sLeft : Stmt := top 6
theorem scLeft : FnScope ["named", "least", "made", "left", "in_a_row", "number"] ["named"] (defScope sLeft) := ⟨rfl, rfl, rfl, by decide +kernel, rfl, by decide +kernel, by decide +kernel⟩
def spLeft (K : PySem.W.Frag) : Sp := fun vs H Q _ => ∃ (r : Addr) (l : List Nat), vs = [.ref r] ∧ SqL K H r (nums l) ∧ (∀ x ∈ l, 1 ≤ x ∧ x ≤ 40) ∧ l.length ≤ 1000 ∧ Uw60.common l = 1 ∧
  ∀ (H' : Hp) (p : Addr), L2.Same H H' → H p = none → H' p = some (.lst (nums (Uw60.gaps l))) → Q (.ref p) H'
theorem ok_left {f fN : Addr} {fd fdN : FuncData} (F : Fun K "numbers_left" "numbers_left" sLeft f fd) (FN : Fun K "is_next_made" "is_next_made" sNext fN fdN) (bN : Binds K fdN ["made", "named"] []) (gN : mg "is_next_made" = some (.ref fN)) (mL : mg "len" = none) (mA : mg "any" = none) (mM : mg "min" = none) :
    FnOk P w K mg base CX0 2 f fd ["named"] (spLeft K) := by
  have GN : FnOk P w K mg base CX0 1 fN fdN ["made", "named"] (spNext K) := ok_next FN mL mA
  refine F.ok scLeft (fun vs H Q E h => ?_) (fun cdv A outer s H vs Q E hr h => ?_)
  · obtain ⟨r, l, rfl, _⟩ := h
    rfl
  · refine ⟨_, pss_cons (ps_set (i := 1) scLeft.nd rfl (Or.inl rfl) (pe_callB (cr_min rfl) (by rfl) mM boot_min (pa_cons (pv 0) pa_nil)))
      (pss_cons (ps_set (i := 2) scLeft.nd rfl (Or.inl rfl) (pe_lst (pa_cons pe_bl pa_nil)))
      (pss_cons (ps_set (i := 3) scLeft.nd rfl (Or.inl rfl) (pe_lst pa_nil))
      (pss_cons (ps_set (i := 4) scLeft.nd rfl (Or.inl rfl) pe_int)
      (pss_cons (ps_while PassesOwn.never (pt_cmpR op_lt (pv 4) (pv 1) (nomark _))
        (pss_cons (ps_set (i := 5) scLeft.nd rfl (Or.inl rfl) (pe_callB call_len_seq (by rfl) mL PySem.boot_len (pa_cons (pv 2) pa_nil)))
        (pss_cons (ps_expr (pe_bm PySem.F.plainAttrs_list PySem.F.slot_list_append PySem.F.type_list_append mt_append (pv 2)
          (pa_cons (pe_call GN hr rfl gN FN.kp bN .nil pass0 (pa_cons (pv 2) (pa_cons (pv 0) pa_nil))) pa_nil)))
        (pss_one (ps_if (pt_val (pe_ix ix_list (pv 2) (pv 5) (fun _ _ => rfl)))
          (pss_one (ps_aug (i := 4) scLeft.nd rfl (Or.inl rfl) pe_int ip_add))
          (pss_cons (ps_set (i := 4) scLeft.nd rfl (Or.inl rfl) pe_int)
          (pss_one (ps_if (pt_cmpR op_gt (pv 5) pe_int (nomark _))
            (pss_one (ps_expr (pe_bm PySem.F.plainAttrs_list PySem.F.slot_list_append PySem.F.type_list_append mt_append (pv 3) (pa_cons (pv 5) pa_nil))))
            pss_nil))))))))
      (pss_one (ps_ret (pv 3))))))), ?_⟩
    obtain ⟨r, l, rfl, hN, hb, hl, hc, q⟩ := h
    have hb1 : ∀ x ∈ l, 1 ≤ x := fun x hx => (hb x hx).1
    have hpos : 0 < l.length := by
      cases l with
      | nil => exact absurd (show (0 : Nat) = 1 from hc) (by decide)
      | cons a t => simp
    refine ⟨_, rfl, r, _, rfl, (by rw [int_map] at hN; exact hN), by rw [List.length_map]; exact hpos, fun m hm hmin => ?_⟩
    obtain ⟨a, ha, rfl⟩ := List.mem_map.1 hm
    refine ⟨by show 1 ≤ sizeLine; decide, fun p hp => ?_⟩
    refine ⟨by show 0 ≤ sizeLine; decide, fun t ht => ?_⟩
    have hpt : t ≠ p := fun e => by rw [e, upd_same] at ht; cases ht
    have ht0 : H t = none := by rw [upd_ne hpt] at ht; exact ht
    refine while_by (fun σ H' => ∃ (k : Nat) (v : Option V), 1 ≤ k ∧ k ≤ 1600 ∧ σ = [some (.ref r), some (.int (a : Nat)), some (.ref p), some (.ref t), some (.int (rn l k : Nat)), v] ∧ L2.Same H H' ∧ H' p = some (.lst (bools (mdl l k))) ∧ H' t = some (.lst (nums (gp l k))))
      (fun _ H' => 1601 - lenAt H' p) ⟨1, none, by omega, by omega, rfl, same_new (same_new (L2.Same.refl H) hp) ht0, ?_, upd_same⟩ ?_
      (fun σ H Q Q' h ⟨v, e, v2, e2, i, j, e4, e5, c, ec, z⟩ => ⟨v, e, v2, e2, i, j, e4, e5, c, ec, h _ _ z⟩)
    · rw [upd_ne hpt.symm]; exact upd_same
    rintro σ H' ⟨k, v, k1, kn, rfl, s, hM, hG⟩
    refine ⟨_, rfl, _, rfl, _, _, rfl, rfl, _, rfl, ?_⟩
    have gl : (nums (gp l k)).length ≤ k := by
      rw [nums_len]; unfold gp
      exact Nat.le_trans (List.length_filter_le _ _) (by rw [List.length_range]; exact Nat.le_refl _)
    by_cases c : rn l k < a
    · refine if_true_of (decide_eq_true (by omega)) ?_
      have lt := left_more hc ha hb c
      refine ⟨_, rfl, p, _, rfl, .inl (SqL.of hM), ?_⟩
      rw [bools_len, mdl_len]
      refine ⟨_, rfl, .inl ⟨rfl, _, SqL.of hM⟩, ?_⟩
      refine ⟨_, rfl, _, rfl, p, r, l, k, rfl, SqL.of hM, s.seq hN, k1, hb1, hl, fun H2 s2 => ?_⟩
      have hM2 := s2 _ _ hM
      have hG2 := s2 _ _ hG
      refine ⟨p, _, _, rfl, rfl, hM2, Nat.lt_of_le_of_lt (show _ ≤ 1600 by rw [bools_len, mdl_len]; omega) (by decide), ?_⟩
      rw [mdl_more]
      have hs3 : L2.Same H (upd H2 p (.lst (bools (mdl l (k + 1))))) := same_new (s.trans s2) hp
      refine ⟨_, rfl, _, rfl, p, _, _, _, rfl, rfl, SqL.of upd_same, atI_nat (mdl_get l (Nat.lt_succ_self k)), _, rfl, ?_⟩
      have rs : rn l (k + 1) = if md l k = true then rn l k + 1 else 0 := rfl
      have gs := gp_succ l k
      have hG3 : upd H2 p (.lst (bools (mdl l (k + 1)))) t = some (.lst (nums (gp l k))) := by rw [upd_ne hpt]; exact hG2
      have mu : 1601 - lenAt (upd H2 p (.lst (bools (mdl l (k + 1))))) p < 1601 - lenAt H' p := by
        rw [lenAt_of upd_same, lenAt_of hM, bools_len, bools_len, mdl_len, mdl_len]; omega
      cases e : md l k
      · rw [e] at rs gs
        refine if_false_of rfl ?_
        refine ⟨_, rfl, _, _, rfl, rfl, _, rfl, ?_⟩
        by_cases c2 : 1 < k
        · refine if_true_of (decide_eq_true (by omega)) ?_
          refine ⟨_, rfl, .inl ⟨rfl, _, SqL.of hG3⟩, _, rfl, t, _, _, rfl, rfl, hG3, Nat.lt_of_le_of_lt (Nat.le_trans gl kn) (by decide), ?_⟩
          rw [if_pos ⟨c2, rfl⟩] at gs
          refine ⟨⟨k + 1, some (.int (k : Nat)), by omega, by omega, ?_, same_new hs3 ht0, ?_, ?_⟩, ?_⟩
          · rw [rs]; rfl
          · rw [upd_ne hpt.symm]; exact upd_same
          · rw [gs, upd_same]; unfold nums; rw [List.map_append]; rfl
          · rw [show lenAt (upd (upd H2 p (.lst (bools (mdl l (k + 1))))) t (.lst (nums (gp l k) ++ [V.int (k : Nat)]))) p = lenAt (upd H2 p (.lst (bools (mdl l (k + 1))))) p by unfold lenAt; rw [upd_ne hpt.symm]]
            exact mu
        · refine if_false_of (decide_eq_false (by omega)) ?_
          rw [if_neg (fun z => c2 z.1), List.append_nil] at gs
          refine ⟨⟨k + 1, some (.int (k : Nat)), by omega, by omega, ?_, hs3, upd_same, ?_⟩, mu⟩
          · rw [rs]; rfl
          · rw [gs]; exact hG3
      · rw [e] at rs gs
        refine if_true_of rfl ?_
        rw [if_neg (fun z => by cases z.2), List.append_nil] at gs
        refine ⟨_, rfl, _, _, rfl, rfl, ⟨k + 1, some (.int (k : Nat)), by omega, by omega, ?_, hs3, upd_same, ?_⟩, mu⟩
        · rw [rs]; rfl
        · rw [gs]; exact hG3
    · refine if_false_of (decide_eq_false (by omega)) ?_
      rw [left_done ha (hb a ha).1 (by omega) (by omega)] at hG
      exact ⟨_, rfl, q _ _ s ht0 hG⟩
end
end Nt
set_option Elab.async false
set_option linter.all false
set_option maxRecDepth 100000
set_option maxHeartbeats 2000000
namespace Nt
open PySem PySem.Spec PyProof.Rows L2 RT
/-! ### list(reversed(xs)): a rule of one's own -/
section
variable {prog : Program} {w : World} {A : Around} {E : Value → Shared → Prop} {s : Shared}
theorem extend_rev {it l : Addr} {items : Array Value} {R : Result → Shared → Prop} (hh : A.handled = none) (hit : s.heap.IsRevIter it l ((items.size : Int) - 1)) (hl : s.heap.IsList l items) (hne : l ≠ it) (hn : items.size ≤ sizeLine)
    (S : Addr) (hSi : S ≠ it) (hSl : S ≠ l) (res : Value) (c0 : Nat) (hS : s.heap.get? S = some { cls := .type "list", data := .seq #[] c0 })
    (hR : ∀ h' tk acc' c', (∀ b o, b ≠ S → b ≠ it → s.heap.get? b = some o → h'.get? b = some o) → h'.get? S = some { cls := .type "list", dict := none, data := .seq acc' c', slots := #[] } →
      ItemsOf (fun i v => items[items.size - 1 - i]? = some v) acc' items.size → R (.ok (.ret res)) { s with heap := h', toks := tk }) :
    wpAny (model prog w) A.in1 (Builtin.List.listExtendWith (.ref S) (.ref it) res)
      (fun fin s' => match fin with | .done f => R (.ok f) s' | .again c' => c'.quiet = true ∧ codeAny (model prog w) A c' R s') (fun e s' => R (.error e) s') s := by
  have W := (Walks.listRev (prog := prog) (w := w) (A := A.in1) hh it l hne items).toS
  have hSf : S ∉ [it, l] := by simp only [List.mem_cons, List.not_mem_nil, or_false, not_or]; exact ⟨hSi, hSl⟩
  have hT : s.TypeIs (.ref it) "list_reverseiterator" := Heap.IsRevIter.typeIs hit
  have h1 : Builtin.List.listSameRef (.ref S) (.ref it) = false := by simp [Builtin.List.listSameRef, hSi]
  unfold Builtin.List.listExtendWith
  refine wpAny_bind (wpAny_typeOf hT ?_)
  rw [if_neg (by rw [h1]; decide)]
  refine wpAny_bind (wpAny_pyIter_revIter hit ?_)
  refine wpAny_bind (wpAny_holding ?_)
  unfold Builtin.List.listLengthHint
  refine wpAny_bind (wpAny_specialOf hT nolen_lri ?_)
  show wpAny _ A.in1 (specialOf (Value.ref it) (Str.ofString "__length_hint__") >>= _) _ _ _
  refine wpAny_bind (wpAny_specialOf hT hint_lri ?_)
  generalize hid : ("list_reverseiterator.__length_hint__" : String) = id0
  wp_delta
  rw [show splitId id0 = some ("list_reverseiterator", "__length_hint__") from by subst hid; decide +kernel]
  subst hid
  refine wpAny_bind (wpAny_isInstance (b := true) hT (by rw [isSubtype_type]; kernel_rfl) ?_)
  refine wpAny_pure ?_
  rw [if_neg (by decide)]
  have e0 : ((items.size : Nat) : Int) - 1 - ((0 : Nat) : Int) = (items.size : Int) - 1 := by omega
  refine wpAny_pure ⟨plainId_quiet F.plain_extend_loop _, codeAny_extend_loopS W hn _ hSf _ items.size 0 _ _ _ rfl (Nat.zero_le _) ⟨Nat.zero_le _, by rw [e0]; exact hit, hl⟩ hS (ItemsOf.nil _) fun s' acc' c' hm hS' hacc => ?_⟩
  rw [Moved.eq_with hm]
  refine hR s'.heap s'.toks acc' c' (fun b o hb hb2 e => hm.heap b o (fun hmem => ?_) e) hS' hacc
  rcases List.mem_cons.mp hmem with e' | hmem
  · exact hb e'
  · exact hb2 (List.mem_singleton.mp hmem)
theorem call_list_rev {it l : Addr} {items : Array Value} {Q : Value → Shared → Prop} (hh : A.handled = none) (hit : s.heap.IsRevIter it l ((items.size : Int) - 1)) (hl : s.heap.IsList l items) (hne : l ≠ it) (hn : items.size ≤ sizeLine)
    (hQ : ∀ h' tk acc' c', (∀ b o, b ≠ it → s.heap.get? b = some o → h'.get? b = some o) →
      h'.get? s.heap.objs.size = some { cls := .type "list", dict := none, data := .seq acc' c', slots := #[] } → ItemsOf (fun i v => items[items.size - 1 - i]? = some v) acc' items.size → Q (.ref s.heap.objs.size) { s with heap := h', toks := tk }) :
    wpAny (model prog w) A (call (.type "list") [.ref it]) Q E s := by
  refine callType_codes (Q₁ := fun obj s₁ => obj = .ref s.heap.objs.size ∧ s₁ = { s with heap := s.heap.push { cls := .type "list", data := .seq #[] } }) F.called_list (F.typeCall_list_1 _) F.entry_list_init
    (code_list_new _ ⟨rfl, rfl⟩) fun obj s₁ h₁ => ?_
  obtain ⟨rfl, rfl⟩ := h₁
  have hS : (s.heap.push { cls := .type "list", data := .seq #[] }).get? s.heap.objs.size = some { cls := .type "list", data := .seq #[] } := Heap.get?_push_size _ rfl
  obtain ⟨oi, hoi, _⟩ := id hit
  obtain ⟨ol, hol, _⟩ := id hl
  have hSi : s.heap.objs.size ≠ it := Nat.ne_of_gt (Heap.lt_size hoi)
  have hSl : s.heap.objs.size ≠ l := Nat.ne_of_gt (Heap.lt_size hol)
  refine ⟨⟨_, hS, rfl⟩, F.args_list_init_2 _ _, ?_⟩
  show wpAny _ _ (do let old ← Builtin.List.listItems (.ref s.heap.objs.size); Builtin.List.listUpdate (.ref s.heap.objs.size) (fun _ => #[]); letGo old.toList.reverse; Builtin.List.listExtendWith (.ref s.heap.objs.size) (.ref it) .none) _ _ _
  refine wpAny_bind ?_
  unfold Builtin.List.listItems
  refine wpAny_bind (wpAny_seqItems hS rfl (wpAny_pure ?_))
  show wpAny _ _ (updateSeq s.heap.objs.size (fun _ => #[]) >>= fun _ => letGo (#[] : Array Value).toList.reverse >>= fun _ => Builtin.List.listExtendWith (.ref s.heap.objs.size) (.ref it) .none) _ _ _
  refine wpAny_bind (wpAny_updateSeq hS rfl ?_)
  have hS₂ := Heap.get?_update_self (Obj.mapSeq (fun _ => (#[] : Array Value))) hS rfl
  have oth : ∀ b o, s.heap.get? b = some o → ((s.heap.push { cls := .type "list", data := .seq #[] }).update s.heap.objs.size (Obj.mapSeq (fun _ => (#[] : Array Value)))).get? b = some o :=
    fun b o e => (Heap.get?_update_other _ _ (Nat.ne_of_gt (Heap.lt_size e))).trans (Heap.get?_push_of_some _ e)
  refine wpAny_bind (wpAny_letGo ?_)
  refine extend_rev (A := A.in1) hh (hit.at fun o e => oth _ _ e) ?_ hne hn _ hSi hSl .none _ hS₂ fun h' tk acc' c' hk hS' hacc => ?_
  · exact ⟨ol, oth _ _ hol, ‹_›⟩
  · exact ⟨rfl, hQ h' tk acc' c' (fun b o hb e => hk b o (Nat.ne_of_lt (Heap.lt_size e)) hb (oth b o e)) hS' hacc⟩
end
/-- list(reversed(x)), x a list: a new list -/
def tLstRev (K : PySem.W.Frag) (te : TE) : TE := fun σ H Q => te σ H fun v H1 => ∃ (a : Addr) (xs : List V), v = .ref a ∧ SqL K H1 a xs ∧ ∀ q, H1 q = none → Q (.ref q) (upd H1 q (.lst xs.reverse))
section
variable {X : Cx}
theorem pe_lstRev {e : Expr} {te : TE} {p p2 pos pos2 : Pos} (hc : X.calm = true) (hg : Gl X "list") (hm : X.mg "list" = none) (hg2 : Gl X "reversed") (hm2 : X.mg "reversed" = none) (he : PE X e te)
    (hs : starEach [e] X.env = (false, eval e X.env) :: starEach [] X.env := by rfl)
    (hs2 : starEach [.Call (.Name "reversed" p2) [e] [] pos2] X.env = (false, eval (.Call (.Name "reversed" p2) [e] [] pos2) X.env) :: starEach [] X.env := by rfl) :
    PE X (.Call (.Name "list" p) [.Call (.Name "reversed" p2) [e] [] pos2] [] pos) (tLstRev X.K te) := by
  refine ⟨fun pins s σ H Q I h => ?_⟩
  refine Call_ (ld_blt I hg hm PyProof.Rows.boot_list (PyProof.Rows.callWith_type1 (args_cons (Call_ (ld_blt I hg2 hm2 PyProof.Rows.boot_reversed (PyProof.Rows.callWith_type1 (args_cons (thn (he.run pins s σ H _ I h) fun u s1 ⟨v, H1, I1, r1, q1⟩ => args_nil ?_) hs) hs rfl))) hs2) hs2 rfl))
  obtain ⟨a, xs, ev, hq, q⟩ := q1
  subst ev
  obtain rfl : u = Value.ref a := r1
  obtain ⟨its, rv, p', hz⟩ := I1.list hq
  refine call_reversed_list p'.isList (args_nil ?_)
  have k0 : ∀ b o, s1.heap.get? b = some o → (s1.heap.push (revObj a ((its.toArray.size : Int) - 1))).get? b = some o := fun b o e => Heap.get?_push_of_some _ e
  have I2 : Inv X pins σ H1 { s1 with heap := s1.heap.push (revObj a ((its.toArray.size : Int) - 1)) } := I1.kept (t' := s1.toks) k0
  have hl := p'.isList
  obtain ⟨ol, hol, _⟩ := id hl
  have hne : a ≠ s1.heap.objs.size := Nat.ne_of_lt (Heap.lt_size hol)
  have hn : its.toArray.size ≤ sizeLine := by rw [List.size_toArray, ← rv.length]; exact hz
  refine call_list_rev (s := { s1 with heap := s1.heap.push (revObj a ((its.toArray.size : Int) - 1)) }) (I1.ok.hd hc) ⟨_, Heap.get?_push_size _ rfl, rfl, rfl⟩ (hl.push _) hne hn fun h' tk acc c hk hS hi => ?_
  have kk : ∀ b o, s1.heap.get? b = some o → h'.get? b = some o := fun b o e => hk b o (Nat.ne_of_lt (Heap.lt_size e)) (k0 b o e)
  have sz : s1.heap.objs.size ≤ (s1.heap.push (revObj a ((its.toArray.size : Int) - 1))).objs.size := by rw [Heap.size_push]; exact Nat.le_succ _
  refine ⟨.ref _, upd H1 _ (.lst xs.reverse), I1.laid (t' := tk) kk sz (show ObjOk X.prog X.w _ _ _ (.lst xs.reverse) from ⟨by rw [List.length_reverse]; exact hz, acc.toList, c, vals_rev rv hi, ?_⟩), rfl, q _ (I1.hok.fresh sz)⟩
  rw [Array.toArray_toList]
  exact hS
end
end Nt
set_option Elab.async false
set_option linter.all false
set_option maxRecDepth 100000
set_option maxHeartbeats 2000000
namespace Nt
open PySem PySem.Spec PyProof.Rows L2
/-- a table up to n -/
def tb (f : Nat → Nat) (n : Nat) : List V := nums ((List.range (n + 1)).map f)
theorem tb_len (f : Nat → Nat) (n : Nat) : (tb f n).length = n + 1 := by
  unfold tb; rw [nums_len, List.length_map, List.length_range]
theorem tb_get (f : Nat → Nat) {n i : Nat} (h : i ≤ n) : (tb f n)[i]? = some (V.int (f i : Nat)) := by
  unfold tb nums
  rw [List.getElem?_map, List.getElem?_map, List.getElem?_range (by omega)]; rfl
theorem tb_congr {f g : Nat → Nat} {n : Nat} (h : ∀ i, i ≤ n → f i = g i) : tb f n = tb g n := by
  unfold tb
  congr 1
  apply List.map_congr_left
  intro i hi
  rw [List.mem_range] at hi
  exact h i (by omega)
theorem tb_set (f : Nat → Nat) {n i : Nat} (h : i ≤ n) (y : Nat) : (tb f n).set i (V.int (y : Nat)) = tb (fun j => if j = i then y else f j) n := by
  apply List.ext_getElem?
  intro j
  by_cases hj : j ≤ n
  · rw [List.getElem?_set, tb_get _ hj, tb_get _ hj]
    by_cases e : i = j
    · subst e
      rw [if_pos rfl, if_pos (by rw [tb_len]; omega), if_pos rfl]
    · rw [if_neg e, if_neg (fun z => e z.symm)]
  · rw [List.getElem?_eq_none (by rw [List.length_set, tb_len]; omega), List.getElem?_eq_none (by rw [tb_len]; omega)]
section
variable {P : Program} {w : World} {K : PySem.W.Frag} {mg : Str → Option Value} {base : Heap}
/-! ### fewest_with -/
abbrev sWith : Stmt := top 7
theorem scWith : FnScope ["fewest", "part", "better", "number"] ["fewest", "part"] (defScope sWith) := ⟨rfl, rfl, rfl, by decide +kernel, rfl, by decide +kernel, by decide +kernel⟩
def spWith (K : PySem.W.Frag) : Sp := fun vs H Q _ => ∃ (p : Addr) (a n : Nat) (l : List Nat), vs = [.ref p, .int (a : Nat)] ∧ SqL K H p (tb (fw l) n) ∧ n ≤ 300 ∧ 2 ≤ a ∧ a ≤ 1000 ∧ (∀ x ∈ l, 2 ≤ x) ∧
  ∀ (H' : Hp) (q : Addr), L2.Same H H' → H q = none → H' q = some (.lst (tb (fw (a :: l)) n)) → Q (.ref q) H'
theorem ok_with {f : Addr} {fd : FuncData} (F : Fun K "fewest_with" "fewest_with" sWith f fd) (mL : mg "len" = none) (mI : mg "list" = none) (mR : mg "range" = none) (mM : mg "min" = none) :
    FnOk P w K mg base CX0 1 f fd ["fewest", "part"] (spWith K) := by
  refine F.ok scWith (fun vs H Q E h => ?_) (fun cdv A outer s H vs Q E hr h => ?_)
  · obtain ⟨p, a, n, l, rfl, _⟩ := h
    rfl
  · refine ⟨_, pss_cons (ps_set (i := 2) scWith.nd rfl (Or.inl rfl) (pe_callTy call_list_of (by rfl) mI PyProof.Rows.boot_list (pa_cons (pv 0) pa_nil)))
      (pss_cons (ps_for PassesOwn.never rfl (pi_range2 (by rfl) mR (pa_cons (pv 1) (pa_cons (pe_callB call_len_seq (by rfl) mL PySem.boot_len (pa_cons (pv 2) pa_nil)) pa_nil))) (pg_name (i := 3) scWith.nd rfl (Or.inl rfl))
        (pss_one (ps_asg (pe_callB (call_min2 rfl) (by rfl) mM boot_min (pa_cons (pe_ix ix_list (pv 2) (pv 3) (fun _ _ => rfl))
            (pa_cons (pe_op op_add (pe_ix ix_list (pv 2) (pe_op op_sub (pv 3) (pv 1)) (fun _ _ => rfl)) pe_int) pa_nil)))
          (pg_sub (pv 2) (pv 3) set_list))))
      (pss_one (ps_ret (pv 2)))), ?_⟩
    obtain ⟨p, a, n, l, rfl, hS, hn, ha, ha2, hb, q⟩ := h
    refine ⟨_, rfl, p, _, rfl, .inl hS, fun b hb0 => ?_⟩
    refine ⟨_, rfl, _, rfl, b, _, rfl, .inl (SqL.of upd_same), _, _, rfl, ⟨by omega, by omega, by rw [tb_len]; omega, by rw [tb_len]; omega⟩, ?_⟩
    rw [tb_len]
    refine for_range (lo := (a : Int)) (n := (((n + 1 : Nat) : Int) - (a : Int)).toNat)
      (fun i σ H' => L2.Same H H' ∧ (∃ v : Option V, σ = [some (.ref p), some (.int (a : Nat)), some (.ref b), v]) ∧ H' b = some (.lst (tb (fun x => if x < a + i then fw (a :: l) x else fw l x) n)))
      ⟨same_new (L2.Same.refl H) hb0, ⟨none, rfl⟩, ?_⟩ ?_ ?_
    · rw [upd_same]
      congr 2
      refine tb_congr fun i hi => ?_
      by_cases c : i < a + 0
      · rw [if_pos c, fw_cons ha hb (by omega), if_pos (by omega)]
      · rw [if_neg c]
    · rintro i σ H' hi ⟨s, ⟨v, rfl⟩, hB⟩
      have hin : a + i ≤ n := by omega
      have e1 : (a : Int) + (i : Nat) = ((a + i : Nat) : Int) := by omega
      rw [e1]
      have g1 := tb_get (fun x => if x < a + i then fw (a :: l) x else fw l x) hin
      have g2 := tb_get (fun x => if x < a + i then fw (a :: l) x else fw l x) (show i ≤ n by omega)
      rw [if_neg (Nat.lt_irrefl _)] at g1
      rw [if_pos (by omega)] at g2
      have g3 := at_of (z := ((a + i : Nat) : Int) - (a : Int)) (by omega) g2
      refine ⟨_, rfl, _, rfl, b, _, _, _, rfl, rfl, SqL.of hB, atI_nat g1, ?_⟩
      refine ⟨_, rfl, _, rfl, _, rfl, _, _, rfl, rfl, b, _, _, _, rfl, rfl, SqL.of hB, g3, _, _, rfl, rfl, _, _, rfl, ?_⟩
      have e2 : (if ((fw (a :: l) i : Nat) : Int) + 1 < ((fw l (a + i) : Nat) : Int) then ((fw (a :: l) i : Nat) : Int) + 1 else ((fw l (a + i) : Nat) : Int)) = ((fw (a :: l) (a + i) : Nat) : Int) := by
        rw [fw_cons ha hb (show a + i ≤ 300 by omega), if_neg (show ¬ a + i < a by omega), show a + i - a = i by omega]
        split <;> omega
      rw [e2]
      refine ⟨_, rfl, _, rfl, b, _, _, a + i, rfl, rfl, hB, ?_, same_new s hb0, ⟨_, rfl⟩, ?_⟩
      · rw [tb_len]
        unfold ixN
        rw [if_pos (by omega), if_pos (by omega)]; rfl
      · rw [upd_same, tb_set _ hin]
        congr 2
        refine tb_congr fun j hj => ?_
        by_cases c : j = a + i
        · subst c; rw [if_pos rfl, if_pos (by omega)]
        · rw [if_neg c]
          by_cases d : j < a + i
          · rw [if_pos d, if_pos (by omega)]
          · rw [if_neg d, if_neg (by omega)]
    · rintro σ H' ⟨s, ⟨v, rfl⟩, hB⟩
      refine ⟨_, rfl, q _ _ s hb0 ?_⟩
      rw [hB]
      congr 2
      refine tb_congr fun j hj => ?_
      by_cases c : j < a + (((n + 1 : Nat) : Int) - (a : Int)).toNat
      · rw [if_pos c]
      · omega
end
end Nt
set_option Elab.async false
set_option linter.all false
set_option maxRecDepth 100000
set_option maxHeartbeats 2000000
namespace Nt
open PySem PySem.Spec PyProof.Rows L2
theorem at_last {xs : List V} {n : Nat} {v : V} (hl : xs.length = n + 1) (h : xs[n]? = some v) : atI xs (-1) = some v := by
  unfold atI ixN
  rw [hl, if_neg (by omega), if_pos (by omega)]
  show xs[((-1 : Int) + ((n + 1 : Nat) : Int)).toNat]? = _
  rw [show ((-1 : Int) + ((n + 1 : Nat) : Int)).toNat = n by omega]
  exact h
theorem tb_nil (n : Nat) : V.int 0 :: List.replicate n (V.int 1000) = tb (fw []) n := by
  apply List.ext_getElem?
  intro i
  by_cases hi : i ≤ n
  · rw [tb_get _ hi, fw_nil]
    match i, hi with
    | 0, _ => rfl
    | i + 1, hi => rw [List.getElem?_cons_succ, List.getElem?_replicate, if_pos (by omega), if_neg (by omega)]; rfl
  · rw [List.getElem?_eq_none (by rw [List.length_cons, List.length_replicate]; omega), List.getElem?_eq_none (by rw [tb_len]; omega)]
theorem rep_one (x : V) : ∀ n, (List.replicate n [x]).flatten = List.replicate n x
  | 0 => rfl
  | n + 1 => by rw [List.replicate_succ, List.flatten_cons, rep_one x n]; rfl
theorem drop_at {l : List Nat} {i a : Nat} (h : l[i]? = some a) : l.drop i = a :: l.drop (i + 1) := by
  obtain ⟨hi, e⟩ := List.getElem?_eq_some_iff.mp h
  rw [List.drop_eq_getElem_cons hi, e]
section
variable {P : Program} {w : World} {K : PySem.W.Frag} {mg : Str → Option Value} {base : Heap}
/-! ### fewest_from_each -/
abbrev sEach : Stmt := top 8
theorem scEach : FnScope ["number", "named", "tables", "part"] ["number", "named"] (defScope sEach) := ⟨rfl, rfl, rfl, by decide +kernel, rfl, by decide +kernel, by decide +kernel⟩
/-- at q a list of tables: the j-th is for the numbers from the j-th on -/
structure Tabs (H : Hp) (q : Addr) (l : List Nat) (n : Nat) (rs : List Addr) : Prop where
  at_ : H q = some (.lst (rs.map V.ref))
  len : rs.length = l.length + 1
  tab : ∀ j, j ≤ l.length → ∃ p, rs[j]? = some p ∧ H p = some (.lst (tb (fw (l.drop j)) n))
def spEach (K : PySem.W.Frag) : Sp := fun vs H Q _ => ∃ (r : Addr) (n : Nat) (l : List Nat), vs = [.int (n : Nat), .ref r] ∧ SqL K H r (nums l) ∧ n ≤ 300 ∧ (∀ x ∈ l, 2 ≤ x ∧ x ≤ 40) ∧ l.length ≤ 1000 ∧
  ∀ (H' : Hp) (q : Addr) (rs : List Addr), L2.Same H H' → H q = none → Tabs H' q l n rs → Q (.ref q) H'
theorem ok_each {f fW : Addr} {fd fdW : FuncData} {t0 : Tok} (F : Fun K "fewest_from_each" "fewest_from_each" sEach f fd) (FW : Fun K "fewest_with" "fewest_with" sWith fW fdW) (bW : Binds K fdW ["fewest", "part"] []) (gW : mg "fewest_with" = some (.ref fW))
    (gN : mg "NEVER" = some (.int 1000 t0)) (mL : mg "len" = none) (mI : mg "list" = none) (mR : mg "range" = none) (mM : mg "min" = none) (mV : mg "reversed" = none) :
    FnOk P w K mg base CX0 2 f fd ["number", "named"] (spEach K) := by
  have GW : FnOk P w K mg base CX0 1 fW fdW ["fewest", "part"] (spWith K) := ok_with FW mL mI mR mM
  refine F.ok scEach (fun vs H Q E h => ?_) (fun cdv A outer s H vs Q E hr h => ?_)
  · obtain ⟨r, n, l, rfl, _⟩ := h
    rfl
  · refine ⟨_, pss_cons (ps_set (i := 2) scEach.nd rfl (Or.inl rfl) (pe_lst (pa_cons (pe_op op_cat (pe_lst (pa_cons pe_int pa_nil)) (pe_op op_rep (pe_lst (pa_cons (pe_glob (v := .int 1000) rfl gN ⟨_, rfl⟩) pa_nil)) (pv 0))) pa_nil)))
      (pss_cons (ps_for PassesOwn.never rfl (pi_reversed (by rfl) mV (pa_cons (pv 1) pa_nil)) (pg_name (i := 3) scEach.nd rfl (Or.inl rfl))
        (pss_one (ps_expr (pe_bm PySem.F.plainAttrs_list PySem.F.slot_list_append PySem.F.type_list_append mt_append (pv 2)
          (pa_cons (pe_call GW hr rfl gW FW.kp bW .nil pass0 (pa_cons (pe_ix ix_list (pv 2) (pe_un un_neg pe_int) (fun _ _ => rfl)) (pa_cons (pv 3) pa_nil))) pa_nil)))))
      (pss_one (ps_ret (pe_lstRev rfl (by rfl) mI (by rfl) mV (pv 2))))), ?_⟩
    obtain ⟨r, n, l, rfl, hN, hn, hb, hl, q⟩ := h
    have hb2 : ∀ x ∈ l, 2 ≤ x := fun x hx => (hb x hx).1
    refine ⟨by show 1 ≤ sizeLine; decide, fun p1 h1 => ?_⟩
    refine ⟨by show 1 ≤ sizeLine; decide, fun p2 h2 => ?_⟩
    have n21 : p2 ≠ p1 := fun e => by rw [e, upd_same] at h2; cases h2
    refine ⟨_, rfl, p2, (n : Nat), _, rfl, rfl, upd_same, by omega, by omega, ?_, fun p3 h3 => ?_⟩
    · show 1 * ((n : Nat) : Int).toNat ≤ sizeLine
      exact Nat.le_trans (show 1 * ((n : Nat) : Int).toNat ≤ 1000 by omega) (by decide)
    have n32 : p3 ≠ p2 := fun e => by rw [e, upd_same] at h3; cases h3
    rw [upd_ne n32] at h3
    have n31 : p3 ≠ p1 := fun e => by rw [e, upd_same] at h3; cases h3
    refine ⟨p1, p3, [V.int 0], _, rfl, rfl, ?_, upd_same, ?_, fun p4 h4 => ?_⟩
    · rw [upd_ne n31.symm, upd_ne n21.symm]; exact upd_same
    · rw [rep_one, List.length_replicate]
      exact Nat.le_trans (show 1 + ((n : Nat) : Int).toNat ≤ 1000 by omega) (by decide)
    rw [rep_one]
    have n43 : p4 ≠ p3 := fun e => by rw [e, upd_same] at h4; cases h4
    rw [upd_ne n43] at h4
    have n42 : p4 ≠ p2 := fun e => by rw [e, upd_same] at h4; cases h4
    rw [upd_ne n42] at h4
    have n41 : p4 ≠ p1 := fun e => by rw [e, upd_same] at h4; cases h4
    rw [upd_ne n41] at h4
    rw [upd_ne n31] at h3
    rw [upd_ne n21] at h2
    refine ⟨by show 1 ≤ sizeLine; decide, fun t ht => ?_⟩
    have nt4 : t ≠ p4 := fun e => by rw [e, upd_same] at ht; cases ht
    rw [upd_ne nt4] at ht
    have nt3 : t ≠ p3 := fun e => by rw [e, upd_same] at ht; cases ht
    rw [upd_ne nt3] at ht
    have nt2 : t ≠ p2 := fun e => by rw [e, upd_same] at ht; cases ht
    rw [upd_ne nt2] at ht
    have nt1 : t ≠ p1 := fun e => by rw [e, upd_same] at ht; cases ht
    rw [upd_ne nt1] at ht
    refine ⟨_, rfl, r, nums l, rfl, (same_new (same_new (same_new (same_new (same_new (L2.Same.refl H) h1) h2) h3) h4) ht).seq hN, for_it walk_rev
      (fun i σ H' => L2.Same H H' ∧ (∃ v : Option V, σ = [some (.int (n : Nat)), some (.ref r), some (.ref t), v]) ∧ ∃ ps : List Addr, ps.length = i + 1 ∧ H' t = some (.lst (ps.map V.ref)) ∧
        ∀ j, j ≤ i → ∃ p, ps[j]? = some p ∧ p ≠ t ∧ H' p = some (.lst (tb (fw (l.drop (l.length - j))) n)))
      ⟨same_new (same_new (same_new (same_new (same_new (L2.Same.refl H) h1) h2) h3) h4) ht, ⟨none, rfl⟩, [p4], rfl, upd_same, fun j hj => ⟨p4, ?_, nt4.symm, ?_⟩⟩ (fun i σ H' _ ⟨s, _⟩ => s.seq hN) ?_ ?_⟩
    · have : j = 0 := by omega
      subst this; rfl
    · rw [upd_ne nt4.symm, upd_same, show l.length - j = l.length by omega, List.drop_length, ← tb_nil]
      rfl
    · rintro i x σ H1 H' hi ⟨s, ⟨v, rfl⟩, ps, hps, hT, hP⟩ ⟨rfl, hx⟩
      rw [nums_len] at hi hx
      obtain ⟨a, ha, rfl⟩ := nums_get hx
      obtain ⟨p, hp, hpt, hpp⟩ := hP i (Nat.le_refl _)
      have hm := hb a (List.mem_of_getElem? ha)
      refine ⟨_, rfl, .inl ⟨rfl, _, SqL.of hT⟩, ?_⟩
      refine ⟨_, rfl, _, rfl, t, _, _, V.ref p, rfl, rfl, SqL.of hT, at_last (n := i) (by rw [List.length_map, hps]) (by rw [List.getElem?_map, hp]; rfl), ?_⟩
      refine ⟨_, rfl, p, a, n, l.drop (l.length - i), rfl, SqL.of hpp, hn, hm.1, by omega, fun x hx => hb2 x (List.mem_of_mem_drop hx), fun H2 u s2 hu hU => ?_⟩
      have hT2 := s2 _ _ hT
      refine ⟨t, _, _, rfl, rfl, hT2, ?_, same_new (s.trans s2) ht, ⟨_, rfl⟩, ps ++ [u], by rw [List.length_append, hps]; rfl, ?_, fun j hj => ?_⟩
      · rw [List.length_map, hps]
        exact Nat.lt_of_le_of_lt (show i + 1 ≤ 1000 by omega) (by decide)
      · rw [upd_same, List.map_append]; rfl
      · have hut : u ≠ t := (ne_of_none hT hu).symm
        by_cases c : j ≤ i
        · obtain ⟨p', a1, a2, a3⟩ := hP j c
          exact ⟨p', by rw [List.getElem?_append_left (by omega)]; exact a1, a2, by rw [upd_ne a2]; exact s2 _ _ a3⟩
        · have : j = i + 1 := by omega
          subst this
          refine ⟨u, by rw [List.getElem?_append_right (by omega), hps, Nat.sub_self]; rfl, hut, ?_⟩
          rw [upd_ne hut, hU]
          have e := drop_at ha
          rw [show l.length - 1 - i + 1 = l.length - i by omega] at e
          rw [show l.length - (i + 1) = l.length - 1 - i by omega, e]
    · rintro σ H' ⟨s, ⟨v, rfl⟩, ps, hps, hT, hP⟩
      rw [nums_len] at hps hP
      refine ⟨_, rfl, t, _, rfl, SqL.of hT, fun u hu => q _ u ps.reverse (same_new s (same_no s hu)) (same_no s hu) ⟨?_, ?_, fun j hj => ?_⟩⟩
      · rw [upd_same, List.map_reverse]
      · rw [List.length_reverse, hps]
      · obtain ⟨p, a1, a2, a3⟩ := hP (l.length - j) (by omega)
        rw [show l.length - (l.length - j) = j by omega] at a3
        refine ⟨p, ?_, by rw [upd_ne (ne_of_none a3 hu)]; exact a3⟩
        rw [List.getElem?_reverse (by omega), hps, show l.length + 1 - 1 - j = l.length - j by omega]
        exact a1
end
end Nt
set_option Elab.async false
set_option linter.all false
set_option maxRecDepth 100000
set_option maxHeartbeats 2000000
namespace Nt
open PySem PySem.Spec PyProof.Rows L2
theorem Tabs.same {H H' : Hp} {q : Addr} {l : List Nat} {n : Nat} {rs : List Addr} (s : L2.Same H H') (t : Tabs H q l n rs) : Tabs H' q l n rs :=
  ⟨s _ _ t.at_, t.len, fun j hj => by
    obtain ⟨p, a1, a2⟩ := t.tab j hj
    exact ⟨p, a1, s _ _ a2⟩⟩
section
variable {P : Program} {w : World} {K : PySem.W.Frag} {mg : Str → Option Value} {base : Heap}
/-! ### fewest_row -/
abbrev sRow : Stmt := top 9
theorem scRow : FnScope ["number", "named", "tables", "few", "rest", "row", "place", "part", "times"] ["number", "named"] (defScope sRow) := ⟨rfl, rfl, rfl, by decide +kernel, rfl, by decide +kernel, by decide +kernel⟩
def spRow (K : PySem.W.Frag) : Sp := fun vs H Q _ => ∃ (r : Addr) (n : Nat) (l : List Nat), vs = [.int (n : Nat), .ref r] ∧ SqL K H r (nums l) ∧ n ≤ 300 ∧ (∀ x ∈ l, 2 ≤ x ∧ x ≤ 40) ∧ l.length ≤ 1000 ∧
  (Uw60.few l n = none → ∀ H', L2.Same H H' → Q .non H') ∧
  ∀ m, Uw60.few l n = some m → ∀ (H' : Hp) (q : Addr), L2.Same H H' → H q = none → H' q = some (.lst (nums (Uw60.rowFor l n m))) → Q (.ref q) H'
theorem ok_row {f fW fE : Addr} {fd fdW fdE : FuncData} {t0 : Tok} (F : Fun K "fewest_row" "fewest_row" sRow f fd) (FW : Fun K "fewest_with" "fewest_with" sWith fW fdW) (bW : Binds K fdW ["fewest", "part"] []) (gW : mg "fewest_with" = some (.ref fW))
    (FE : Fun K "fewest_from_each" "fewest_from_each" sEach fE fdE) (bE : Binds K fdE ["number", "named"] []) (gE : mg "fewest_from_each" = some (.ref fE))
    (gN : mg "NEVER" = some (.int 1000 t0)) (mL : mg "len" = none) (mI : mg "list" = none) (mR : mg "range" = none) (mM : mg "min" = none) (mV : mg "reversed" = none) (mE : mg "enumerate" = none) :
    FnOk P w K mg base CX0 3 f fd ["number", "named"] (spRow K) := by
  have GE : FnOk P w K mg base CX0 2 fE fdE ["number", "named"] (spEach K) := ok_each FE FW bW gW gN mL mI mR mM mV
  refine F.ok scRow (fun vs H Q E h => ?_) (fun cdv A outer s H vs Q E hr h => ?_)
  · obtain ⟨r, n, l, rfl, _⟩ := h
    rfl
  · refine ⟨_, pss_cons (ps_set (i := 2) scRow.nd rfl (Or.inl rfl) (pe_call GE hr rfl gE FE.kp bE .nil pass0 (pa_cons (pv 0) (pa_cons (pv 1) pa_nil))))
      (pss_cons (ps_set (i := 3) scRow.nd rfl (Or.inl rfl) (pe_ix ix_list (pe_ix ix_list (pv 2) pe_int (fun _ _ => rfl)) (pv 0) (fun _ _ => rfl)))
      (pss_cons (ps_if (pt_cmpR op_eq (pv 3) (pe_glob (v := .int 1000) rfl gN ⟨_, rfl⟩) (nomark _)) (pss_one (ps_ret pe_non)) pss_nil)
      (pss_cons (ps_set (i := 4) scRow.nd rfl (Or.inl rfl) (pv 0))
      (pss_cons (ps_set (i := 5) scRow.nd rfl (Or.inl rfl) (pe_lst pa_nil))
      (pss_cons (ps_for PassesOwn.never rfl (pi_enum (by rfl) mE (pa_cons (pv 1) pa_nil)) (pg_tup rfl (pgs_cons (pg_name (i := 6) scRow.nd rfl (Or.inl rfl)) (pgs_cons (pg_name (i := 7) scRow.nd rfl (Or.inl rfl)) pgs_nil)))
        (pss_cons (ps_set (i := 8) scRow.nd rfl (Or.inl rfl) pe_int)
        (pss_cons (ps_while PassesOwn.never (pt_cmpR op_ne (pe_ix ix_list (pe_ix ix_list (pv 2) (pe_op op_add (pv 6) pe_int) (fun _ _ => rfl)) (pv 4) (fun _ _ => rfl)) (pv 3) (nomark _))
          (pss_cons (ps_aug (i := 8) scRow.nd rfl (Or.inl rfl) pe_int ip_add)
          (pss_cons (ps_aug (i := 4) scRow.nd rfl (Or.inl rfl) (pv 7) ip_sub)
          (pss_one (ps_aug (i := 3) scRow.nd rfl (Or.inl rfl) pe_int ip_sub)))))
        (pss_one (ps_expr (pe_bm PySem.F.plainAttrs_list PySem.F.slot_list_append PySem.F.type_list_append mt_append (pv 5) (pa_cons (pv 8) pa_nil)))))))
      (pss_one (ps_ret (pv 5)))))))), ?_⟩
    obtain ⟨r, n, l, rfl, hN, hn, hb, hl, qn, qs⟩ := h
    have hb2 : ∀ x ∈ l, 2 ≤ x := fun x hx => (hb x hx).1
    refine ⟨_, rfl, _, rfl, r, n, l, rfl, hN, hn, hb, hl, fun H1 q rs s1 hq T => ?_⟩
    obtain ⟨p0, a0, t0⟩ := T.tab 0 (Nat.zero_le _)
    rw [List.drop_zero] at t0
    refine ⟨_, rfl, q, _, (0 : Nat), V.ref p0, rfl, rfl, SqL.of T.at_, atI_nat (by rw [List.getElem?_map, a0]; rfl), _, rfl, p0, _, _, _, rfl, rfl, SqL.of t0, atI_nat (tb_get _ (Nat.le_refl n)), ?_⟩
    refine ⟨_, rfl, rfl, _, rfl, ?_⟩
    by_cases c : fw l n = 1000
    · refine if_true_of (decide_eq_true (by rw [c]; rfl)) ?_
      exact qn ((fw_none hb2 hn).1 c) H1 s1
    · refine if_false_of (decide_eq_false (fun z => c (by have := V.int.inj z; omega))) ?_
      obtain ⟨m, hm⟩ : ∃ m, Uw60.few l n = some m := by
        cases e : Uw60.few l n with
        | none => exact absurd ((fw_none hb2 hn).2 e) c
        | some m => exact ⟨m, rfl⟩
      have hmb := few_bound hb2 hm
      rw [(fw_some (by omega)).2 hm]
      refine ⟨_, rfl, by show 0 ≤ sizeLine; decide, fun u hu => ?_⟩
      have hu0 : H u = none := same_no s1 hu
      refine ⟨_, rfl, r, nums l, rfl, (same_new s1 hu0).seq hN, for_it walk_enum
        (fun i σ H' => L2.Same H1 H' ∧ ∃ (ph re : Nat) (dn : List Nat) (v1 v2 v3 : Option V), σ = [some (.int (n : Nat)), some (.ref r), some (.ref q), some (.int (ph : Nat)), some (.int (re : Nat)), some (.ref u), v1, v2, v3] ∧
          re ≤ n ∧ Uw60.few (l.drop i) re = some ph ∧ dn.length = i ∧ Uw60.rowFor l n m = dn ++ Uw60.rowFor (l.drop i) re ph ∧ H' u = some (.lst (nums dn)))
        ⟨same_new (L2.Same.refl H1) hu, m, n, [], none, none, none, rfl, Nat.le_refl _, hm, rfl, rfl, upd_same⟩ (fun i σ H' _ ⟨s, _⟩ => (s1.trans s).seq hN) ?_ ?_⟩
      · rintro i x σ H2 H3 hi ⟨s2, ph, re, dn, v1, v2, v3, rfl, hre, hph, hdn, hrow, hU⟩ ⟨Z, x1, x2, rfl, hZ, rfl, e1, e2⟩
        rw [nums_len] at hi
        have e1' := Option.some.inj e1
        subst e1'
        obtain ⟨a, ha, rfl⟩ := nums_get e2
        have hm2 := hb a (List.mem_of_getElem? ha)
        have s3 : L2.Same H1 (upd H2 Z (.tup [V.int (i : Nat), V.int (a : Nat)])) := same_new s2 (same_no s2 hZ)
        have T3 := Tabs.same s3 T
        have hU3 : upd H2 Z (.tup [V.int (i : Nat), V.int (a : Nat)]) u = some (.lst (nums dn)) := by rw [upd_ne (ne_of_none hU hZ)]; exact hU
        refine ⟨Z, _, rfl, SqT.of upd_same, rfl, _, _, rfl, _, _, rfl, rfl, ?_⟩
        have ed := drop_at ha
        rw [ed] at hph hrow
        have hbd : ∀ x ∈ l.drop (i + 1), 2 ≤ x := fun x hx => hb2 x (List.mem_of_mem_drop hx)
        obtain ⟨k, hk, k1, k2, k3, k4⟩ := share_is hm2.1 hbd hph
        rw [rowFor_cons, hk] at hrow
        have hphb := few_bound (l := a :: l.drop (i + 1)) (fun x hx => by
          cases hx with
          | head => exact hm2.1
          | tail _ hx => exact hbd x hx) hph
        obtain ⟨p, b1, b2⟩ := T3.tab (i + 1) (by omega)
        refine while_by (fun σ H' => H' = upd H2 Z (.tup [V.int (i : Nat), V.int (a : Nat)]) ∧ ∃ t : Nat, t ≤ k ∧ σ = [some (.int (n : Nat)), some (.ref r), some (.ref q), some (.int ((ph - t : Nat) : Nat)), some (.int ((re - t * a : Nat) : Nat)), some (.ref u), some (.int (i : Nat)), some (.int (a : Nat)), some (.int (t : Nat))])
          (fun σ _ => match σ with | [_, _, _, _, _, _, _, _, some (.int t)] => k - t.toNat | _ => 0) ⟨rfl, 0, Nat.zero_le _, ?_⟩ ?_
          (fun σ H Q Q' h ⟨v1, f1, v2, f2, i1, i2, g1, p1, p2, p3, p4, g2, g3, g4, g5, v3, f3, w1, w2, w3, w4, g6, g7, g8, g9, v4, f4, g10, c0, g11, z0, z⟩ =>
            ⟨v1, f1, v2, f2, i1, i2, g1, p1, p2, p3, p4, g2, g3, g4, g5, v3, f3, w1, w2, w3, w4, g6, g7, g8, g9, v4, f4, g10, c0, g11, z0, h _ _ z⟩)
        · rw [Nat.zero_mul, Nat.sub_zero, Nat.sub_zero]; rfl
        rintro σ H' ⟨rfl, t, htk, rfl⟩
        have hta : t * a ≤ k * a := Nat.mul_le_mul_right a htk
        refine ⟨_, rfl, _, rfl, _, _, rfl, rfl, q, _, ((i + 1 : Nat) : Int), V.ref p, rfl, rfl, SqL.of T3.at_, atI_nat (by rw [List.getElem?_map, b1]; rfl), _, rfl, p, _, _, _, rfl, rfl, SqL.of b2, atI_nat (tb_get _ (show re - t * a ≤ n by omega)), _, rfl, rfl, _, rfl, ?_⟩
        by_cases c2 : fw (l.drop (i + 1)) (re - t * a) = ph - t
        · -- found
          have tk : t = k := by
            rcases Nat.lt_or_ge t k with z | z
            · exact absurd ((fw_some (by omega)).1 c2) (k4 t z).2
            · omega
          subst tk
          refine if_false_of (by rw [c2]; exact congrArg Bool.not (decide_eq_true rfl)) ?_
          refine ⟨_, rfl, .inl ⟨rfl, _, SqL.of hU3⟩, _, rfl, u, _, _, rfl, rfl, hU3, ?_, ?_⟩
          · rw [nums_len, hdn]
            exact Nat.lt_of_le_of_lt (show i ≤ 1000 by omega) (by decide)
          · refine ⟨fun b o hbo => ?_, ph - t, re - t * a, dn ++ [t], _, _, _, rfl, by omega, k3, by rw [List.length_append, hdn]; rfl, by rw [hrow, List.append_assoc]; rfl, ?_⟩
            · rw [upd_ne (ne_of_none hbo hu)]; exact s3 b o hbo
            · rw [upd_same]; unfold nums; rw [List.map_append]; rfl
        · have tk : t < k := by
            rcases Nat.lt_or_ge t k with z | z
            · exact z
            · have : t = k := by omega
              subst this
              exact absurd ((fw_some (by omega)).2 k3) c2
          have hta2 : (t + 1) * a ≤ k * a := Nat.mul_le_mul_right a tk
          rw [Nat.succ_mul] at hta2
          refine if_true_of (congrArg Bool.not (decide_eq_false (fun z => c2 (by have := V.int.inj z; omega)))) ?_
          refine ⟨_, rfl, _, _, rfl, rfl, _, rfl, _, rfl, _, _, rfl, rfl, _, rfl, _, _, rfl, rfl, ⟨rfl, t + 1, tk, ?_⟩, ?_⟩
          · have x1 : ((ph - t : Nat) : Int) - 1 = ((ph - (t + 1) : Nat) : Int) := by omega
            have x2 : ((re - t * a : Nat) : Int) - (a : Int) = ((re - (t + 1) * a : Nat) : Int) := by rw [Nat.succ_mul]; omega
            have x3 : ((t : Nat) : Int) + 1 = ((t + 1 : Nat) : Int) := by omega
            rw [← x1, ← x2, ← x3]; rfl
          · show k - (((t : Nat) : Int) + 1).toNat < k - ((t : Nat) : Int).toNat
            omega
      · rintro σ H' ⟨s2, ph, re, dn, v1, v2, v3, rfl, hre, hph, hdn, hrow, hU⟩
        rw [nums_len, List.drop_length] at hrow
        rw [show Uw60.rowFor [] re ph = [] from rfl, List.append_nil] at hrow
        refine ⟨_, rfl, qs m hm H' u (s1.trans s2) hu0 ?_⟩
        rw [hrow]; exact hU
end
end Nt
set_option Elab.async false
set_option linter.all false
set_option maxRecDepth 100000
set_option maxHeartbeats 2000000
namespace Nt
open PySem PySem.Spec PyProof.Rows L2
theorem lk_here {k : Str} {v : V} {r : List (Str × V)} : List.lookup k ((k, v) :: r) = some v := by
  have e : (k == k) = true := beq_self_eq_true k
  simp only [List.lookup, e]
theorem lk_past {k g : Str} {v : V} {r : List (Str × V)} (h : (k == g) = false) : List.lookup k ((g, v) :: r) = List.lookup k r := by
  simp only [List.lookup, h]
theorem put_here {f : Str} {v x : V} {r : List (Str × V)} : putF f v ((f, x) :: r) = (f, v) :: r := if_pos rfl
/-- the game at g, its dict at dx, its list of those named at p -/
structure Own (C : Addr) (H : Hp) (g dx p : Addr) (l : List Nat) : Prop where
  ins : H g = some (.ins C dx [("named", .ref p)])
  lst : H p = some (.lst (nums l))
theorem Own.same {C : Addr} {H H' : Hp} {g dx p : Addr} {l : List Nat} (s : L2.Same H H') (o : Own C H g dx p l) : Own C H' g dx p l := ⟨s _ _ o.ins, s _ _ o.lst⟩
theorem Own.ne {C : Addr} {H : Hp} {g dx p : Addr} {l : List Nat} (o : Own C H g dx p l) : p ≠ g := ne_of o.lst o.ins (by intro z; cases z)
/-- whole numbers as they lie in a list -/
def zsV (l : List Int) : List V := l.map V.int
/-- behind a call: the game as it is then, the answer at q; all else stands -/
structure Out (C : Addr) (H : Hp) (g dx p : Addr) (H' : Hp) (l' : List Nat) (q : Addr) (ans : List Int) : Prop where
  own : ∃ p', (p' = p ∨ H p' = none) ∧ Own C H' g dx p' l'
  ans : H' q = some (.lst (zsV ans))
  new : H q = none
  keep : ∀ b o, H b = some o → b ≠ g → b ≠ p → H' b = some o
theorem upd_none {H : Hp} {p u : Addr} {o : HO} (h : upd H p o u = none) : H u = none := by
  have : u ≠ p := fun e => by rw [e, upd_same] at h; cases h
  rwa [upd_ne this] at h
theorem Out.of_same {C : Addr} {H H' : Hp} {g dx p q : Addr} {l : List Nat} {ans : List Int} (o : Own C H g dx p l) (s : L2.Same H H') (n : H q = none) (e : H' q = some (.lst (zsV ans))) : Out C H g dx p H' l q ans :=
  ⟨⟨p, .inl rfl, o.same s⟩, e, n, fun b u h _ _ => s b u h⟩
def spM (C : Addr) (k : Uw60.Call) (rest : List V) : Sp := fun vs H Q _ => ∃ (g dx p : Addr) (l : List Nat), vs = .ref g :: rest ∧ Own C H g dx p l ∧ Fine l ∧
  ∀ (H' : Hp) (q : Addr), Out C H g dx p H' (nextOf l k) q (ansOf l k) → Q (.ref q) H'
theorem Fine.one {l : List Nat} (h : Fine l) : ∀ x ∈ l, 1 ≤ x := fun x hx => by have := h.in_ x hx; omega
theorem Fine.len {l : List Nat} (h : Fine l) : l.length ≤ 1000 := Nat.le_trans h.few (by decide)
/-- what the top has written of the class and the numbers -/
structure Txt (K : PySem.W.Frag) (mg : Str → Option Value) (C : Addr) : Prop where
  cl : Cls K C
  nN : NoAttr K C "named"
theorem lk_named {v : V} : List.lookup ("named" : Str) [("named", v)] = some v := lk_here
section
variable {P : Program} {w : World} {K : PySem.W.Frag} {mg : Str → Option Value} {base : Heap} {C : Addr}
/-! ### refused -/
abbrev sRef : Stmt := top 37
theorem scRef : FnScope ["refusal"] ["refusal"] (defScope sRef) := ⟨rfl, rfl, rfl, by decide +kernel, rfl, by decide +kernel, by decide +kernel⟩
def spRef : Sp := fun vs H Q _ => ∃ r : Int, vs = [.int r] ∧ ∀ q, H q = none → Q (.ref q) (upd H q (.lst (zsV [-r])))
theorem ok_ref {f : Addr} {fd : FuncData} (F : Fun K "refused" "refused" sRef f fd) : FnOk P w K mg base CX0 1 f fd ["refusal"] spRef := by
  refine F.ok scRef (fun vs H Q E h => ?_) (fun cdv A outer s H vs Q E hr h => ?_)
  · obtain ⟨r, rfl, _⟩ := h
    rfl
  · refine ⟨_, pss_one (ps_ret (pe_lst (pa_cons (pe_un un_neg (pv 0)) pa_nil))), ?_⟩
    obtain ⟨r, rfl, q⟩ := h
    exact ⟨_, rfl, _, rfl, by show 1 ≤ sizeLine; decide, fun p hp => q p hp⟩
/-! ### __init__ -/
abbrev sInit : Stmt := inClass (top 40) 0
theorem scInit : FnScope ["self"] ["self"] (defScope sInit) := ⟨rfl, rfl, rfl, by decide +kernel, rfl, by decide +kernel, by decide +kernel⟩
def spInit (C : Addr) : Sp := fun vs H Q _ => ∃ (g dx : Addr), vs = [.ref g] ∧ H g = some (.ins C dx []) ∧
  ∀ (H' : Hp) (p : Addr), H p = none → Own C H' g dx p [] → (∀ b o, H b = some o → b ≠ g → H' b = some o) → Q .non H'
theorem ok_init {f : Addr} {fd : FuncData} (F : Fun K "__init__" "Game.__init__" sInit f fd) (T : Txt K mg C) : FnOk P w K mg base CX0 1 f fd ["self"] (spInit C) := by
  refine F.ok scInit (fun vs H Q E h => ?_) (fun cdv A outer s H vs Q E hr h => ?_)
  · obtain ⟨g, dx, rfl, _⟩ := h
    rfl
  · refine ⟨_, pss_one (ps_fld (pv 0) (pe_lst pa_nil) rfl), ?_⟩
    obtain ⟨g, dx, rfl, hg, q⟩ := h
    refine ⟨by show 0 ≤ sizeLine; decide, fun p hp => ?_⟩
    have ne : g ≠ p := ne_of_none hg hp
    refine ⟨_, rfl, g, C, dx, [], rfl, by rw [upd_ne ne]; exact hg, T.cl, T.nN, (by show 0 < 1000; decide), ?_⟩
    refine q _ p hp ⟨upd_same, ?_⟩ fun b o hb hbg => ?_
    · rw [upd_ne ne.symm]; exact upd_same
    · rw [upd_ne hbg, upd_ne (ne_of_none hb hp)]; exact hb
/-! ### begins -/
abbrev sBeg : Stmt := inClass (top 40) 1
theorem scBeg : FnScope ["self"] ["self"] (defScope sBeg) := ⟨rfl, rfl, rfl, by decide +kernel, rfl, by decide +kernel, by decide +kernel⟩
theorem ok_beg {f : Addr} {fd : FuncData} (F : Fun K "begins" "Game.begins" sBeg f fd) (T : Txt K mg C) : FnOk P w K mg base CX0 1 f fd ["self"] (spM C .begins []) := by
  refine F.ok scBeg (fun vs H Q E h => ?_) (fun cdv A outer s H vs Q E hr h => ?_)
  · obtain ⟨g, dx, p, l, rfl, _⟩ := h
    rfl
  · refine ⟨_, pss_cons (ps_fld (pv 0) (pe_lst pa_nil) rfl) (pss_one (ps_ret (pe_lst (pa_cons pe_int pa_nil)))), ?_⟩
    obtain ⟨g, dx, p, l, rfl, o, hf, q⟩ := h
    refine ⟨by show 0 ≤ sizeLine; decide, fun p' hp => ?_⟩
    have ne : g ≠ p' := ne_of_none o.ins hp
    refine ⟨_, rfl, g, C, dx, _, rfl, by rw [upd_ne ne]; exact o.ins, T.cl, T.nN, (by show 1 < 1000; decide), ?_⟩
    refine ⟨by show 1 ≤ sizeLine; decide, fun u hu => q _ u ⟨⟨p', .inr hp, ?_, ?_⟩, ?_, upd_none (upd_none hu), fun b o hb hbg hbp => ?_⟩⟩
    · have nu : g ≠ u := fun e => by rw [← e, upd_same] at hu; cases hu
      rw [upd_ne nu, upd_same, put_here]
    · have nu : p' ≠ u := fun e => by rw [← e, upd_ne ne.symm, upd_same] at hu; cases hu
      rw [upd_ne nu, upd_ne ne.symm, upd_same]; rfl
    · rw [upd_same]; rfl
    · have hb2 : upd (upd H p' (.lst [])) g (.ins C dx (putF "named" (V.ref p') [("named", V.ref p)])) b = some o := by
        rw [upd_ne hbg, upd_ne (ne_of_none hb hp)]; exact hb
      rw [upd_ne (ne_of_none hb2 hu)]; exact hb2
/-! ### standing -/
abbrev sSta : Stmt := inClass (top 40) 3
theorem scSta : FnScope ["self", "divisor"] ["self"] (defScope sSta) := ⟨rfl, rfl, rfl, by decide +kernel, rfl, by decide +kernel, by decide +kernel⟩
def spSta (C : Addr) : Sp := fun vs H Q _ => ∃ (g dx p : Addr) (l : List Nat), vs = [.ref g] ∧ Own C H g dx p l ∧ Fine l ∧
  ∀ (H' : Hp) (q : Addr), L2.Same H H' → H q = none → H' q = some (.lst (zsV (toldZ l))) → Q (.ref q) H'
theorem ok_sta {f fC fL : Addr} {fd fdC fdL : FuncData} (F : Fun K "standing" "Game.standing" sSta f fd) (T : Txt K mg C)
    (FC : Fun K "common_divisor" "common_divisor" sCom fC fdC) (bC : Binds K fdC ["named"] []) (gC : mg "common_divisor" = some (.ref fC)) (GC : ∀ base, FnOk P w K mg base CX0 2 fC fdC ["named"] (spCom K))
    (FL : Fun K "numbers_left" "numbers_left" sLeft fL fdL) (bL : Binds K fdL ["named"] []) (gL : mg "numbers_left" = some (.ref fL)) (GL : ∀ base, FnOk P w K mg base CX0 2 fL fdL ["named"] (spLeft K)) (mL : mg "len" = none) :
    FnOk P w K mg base CX0 3 f fd ["self"] (spSta C) := by
  refine F.ok scSta (fun vs H Q E h => ?_) (fun cdv A outer s H vs Q E hr h => ?_)
  · obtain ⟨g, dx, p, l, rfl, _⟩ := h
    rfl
  · refine ⟨_, pss_cons (ps_set (i := 1) scSta.nd rfl (Or.inl rfl) (pe_call (GC _) hr rfl gC FC.kp bC .nil pass0 (pa_cons (pe_fld (pv 0) rfl) pa_nil)))
      (pss_cons (ps_if (pt_cmpR op_ne (pv 1) pe_int (nomark _)) (pss_one (ps_ret (pe_lst (pa_cons (pv 1) pa_nil)))) pss_nil)
      (pss_one (ps_ret (pe_lst (pa_cons (pv 1) (pa_cons (pe_callB call_len_seq (by rfl) mL PySem.boot_len (pa_cons (pe_call (GL _) hr rfl gL FL.kp bL .nil pass0 (pa_cons (pe_fld (pv 0) rfl) pa_nil)) pa_nil)) pa_nil)))))), ?_⟩
    obtain ⟨g, dx, p, l, rfl, o, hf, q⟩ := h
    refine ⟨_, rfl, g, C, dx, _, _, rfl, o.ins, T.cl, T.nN, lk_named, p, l, rfl, SqL.of o.lst, ?_⟩
    refine ⟨_, rfl, rfl, _, rfl, ?_⟩
    by_cases c : Uw60.common l = 1
    · refine if_false_of (by rw [c]; exact congrArg Bool.not (decide_eq_true rfl)) ?_
      refine ⟨_, rfl, _, rfl, g, C, dx, _, _, rfl, o.ins, T.cl, T.nN, lk_named, p, l, rfl, SqL.of o.lst, fun x hx => ⟨by have := hf.in_ x hx; omega, (hf.in_ x hx).2⟩, hf.len, c, fun H1 r s1 hr1 hR => ?_⟩
      refine ⟨r, _, rfl, .inl (SqL.of hR), by show 2 ≤ sizeLine; decide, fun u hu => q _ u (same_new s1 (same_no s1 hu)) (same_no s1 hu) ?_⟩
      rw [upd_same, nums_len, told_one c, c]; rfl
    · refine if_true_of (congrArg Bool.not (decide_eq_false (fun z => c (by have := V.int.inj z; omega)))) ?_
      refine ⟨_, rfl, by show 1 ≤ sizeLine; decide, fun u hu => q _ u (same_new (L2.Same.refl H) hu) hu ?_⟩
      rw [upd_same, told_no c]; rfl
end
end Nt
set_option Elab.async false
set_option linter.all false
set_option maxRecDepth 100000
set_option maxHeartbeats 2000000
namespace Nt
open PySem PySem.Spec PyProof.Rows L2
/-- a def of the top: where it stands, how it binds, what its name holds -/
structure Ft (K : PySem.W.Frag) (mg : Str → Option Value) (x : Str) (st : Stmt) (ps : List Str) (f : Addr) (fd : FuncData) : Prop where
  F : Fun K x x st f fd
  b : Binds K fd ps []
  g : mg x = some (.ref f)
/-- a method of the class -/
structure Mt (K : PySem.W.Frag) (C : Addr) (x qual : Str) (st : Stmt) (ps : List Str) (f : Addr) (fd : FuncData) : Prop where
  F : Fun K x qual st f fd
  b : Binds K fd ps []
  m : Meth K C x f
theorem gap_len (l : List Nat) : (Uw60.gaps l).length ≤ 1601 := by
  rw [gaps_gp]; unfold gp
  exact Nat.le_trans (List.length_filter_le _ _) (by rw [List.length_range]; exact Nat.le_refl _)
theorem row_len : ∀ (l : List Nat) (n m : Nat), (Uw60.rowFor l n m).length ≤ l.length
  | [], _, _ => Nat.le_refl _
  | a :: l, n, m => by
    rw [rowFor_cons]
    split
    · exact Nat.zero_le _
    · have := row_len l
      exact Nat.succ_le_succ (this _ _)
theorem small_line {n : Nat} (h : n ≤ 4000) : n ≤ sizeLine := Nat.le_trans h (by decide)
theorem zsV_nums (l : List Nat) : zsV (l.map fun (n : Nat) => (n : Int)) = nums l := by
  unfold zsV nums; rw [List.map_map]; rfl
section
variable {P : Program} {w : World} {K : PySem.W.Frag} {mg : Str → Option Value} {base : Heap} {C : Addr}
/-! ### gaps -/
abbrev sGap : Stmt := inClass (top 40) 4
theorem scGap : FnScope ["self", "left"] ["self"] (defScope sGap) := ⟨rfl, rfl, rfl, by decide +kernel, rfl, by decide +kernel, by decide +kernel⟩
theorem ok_gap {f fC fL fR : Addr} {fd fdC fdL fdR : FuncData} {t6 : Tok} (F : Fun K "gaps" "Game.gaps" sGap f fd) (T : Txt K mg C)
    (C2 : Ft K mg "common_divisor" sCom ["named"] fC fdC) (GC : ∀ base, FnOk P w K mg base CX0 2 fC fdC ["named"] (spCom K))
    (L : Ft K mg "numbers_left" sLeft ["named"] fL fdL) (GL : ∀ base, FnOk P w K mg base CX0 2 fL fdL ["named"] (spLeft K))
    (R : Ft K mg "refused" sRef ["refusal"] fR fdR) (g6 : mg "DIVISOR_NOT_ONE" = some (.int 6 t6)) (mL : mg "len" = none) :
    FnOk P w K mg base CX0 3 f fd ["self"] (spM C .gaps []) := by
  have GR : ∀ base, FnOk P w K mg base CX0 1 fR fdR ["refusal"] spRef := fun _ => ok_ref R.F
  refine F.ok scGap (fun vs H Q E h => ?_) (fun cdv A outer s H vs Q E hr h => ?_)
  · obtain ⟨g, dx, p, l, rfl, _⟩ := h
    rfl
  · have hr1 : Room 1 _ := hr.mono (by decide)
    refine ⟨_, pss_cons (ps_if (pt_cmpR op_ne (pe_call (GC _) hr rfl C2.g C2.F.kp C2.b .nil pass0 (pa_cons (pe_fld (pv 0) rfl) pa_nil)) pe_int (nomark _))
        (pss_one (ps_ret (pe_call (GR _) hr1 rfl R.g R.F.kp R.b .nil pass0 (pa_cons (pe_glob (v := .int 6) rfl g6 ⟨_, rfl⟩) pa_nil)))) pss_nil)
      (pss_cons (ps_set (i := 1) scGap.nd rfl (Or.inl rfl) (pe_call (GL _) hr rfl L.g L.F.kp L.b .nil pass0 (pa_cons (pe_fld (pv 0) rfl) pa_nil)))
      (pss_one (ps_ret (pe_op op_cat (pe_lst (pa_cons (pe_callB call_len_seq (by rfl) mL PySem.boot_len (pa_cons (pv 1) pa_nil)) pa_nil)) (pv 1))))), ?_⟩
    obtain ⟨g, dx, p, l, rfl, o, hf, q⟩ := h
    refine ⟨_, rfl, g, C, dx, _, _, rfl, o.ins, T.cl, T.nN, lk_named, p, l, rfl, SqL.of o.lst, ?_⟩
    refine ⟨rfl, _, rfl, ?_⟩
    by_cases c : Uw60.common l = 1
    · refine if_false_of (by rw [c]; exact congrArg Bool.not (decide_eq_true rfl)) ?_
      refine ⟨_, rfl, g, C, dx, _, _, rfl, o.ins, T.cl, T.nN, lk_named, p, l, rfl, SqL.of o.lst, fun x hx => ⟨by have := hf.in_ x hx; omega, (hf.in_ x hx).2⟩, hf.len, c, fun H1 r s1 hr1 hR => ?_⟩
      refine ⟨_, rfl, r, _, rfl, .inl (SqL.of hR), by show 1 ≤ sizeLine; decide, fun u hu => ?_⟩
      refine ⟨_, rfl, u, r, _, _, rfl, rfl, upd_same, by rw [upd_ne (ne_of_none hR hu)]; exact hR, ?_, fun v hv => ?_⟩
      · rw [nums_len]
        have := gap_len l
        exact small_line (show 1 + (Uw60.gaps l).length ≤ 4000 by omega)
      · have hv1 : H1 v = none := by
          have : v ≠ u := fun e => by rw [e, upd_same] at hv; cases hv
          rw [upd_ne this] at hv; exact hv
        refine q _ v (Out.of_same o (same_new (same_new s1 (same_no s1 hu)) (same_no s1 hv1)) (same_no s1 hv1) ?_)
        rw [upd_same, nums_len, ans_gaps c]
        generalize Uw60.gaps l = G
        rw [← zsV_nums]; rfl
    · refine if_true_of (congrArg Bool.not (decide_eq_false (fun z => c (by have := V.int.inj z; omega)))) ?_
      refine ⟨_, rfl, fun u hu => q _ u (Out.of_same o (same_new (L2.Same.refl H) hu) hu ?_)⟩
      rw [upd_same, ans_gaps_no c]
/-! ### makes -/
abbrev sMak : Stmt := inClass (top 40) 5
theorem scMak : FnScope ["self", "number", "row"] ["self", "number"] (defScope sMak) := ⟨rfl, rfl, rfl, by decide +kernel, rfl, by decide +kernel, by decide +kernel⟩
def spMakes (C : Addr) : Sp := fun vs H Q E => ∃ n : Nat, spM C (.makes n) [.int (n : Nat)] vs H Q E
theorem ok_mak {f fW fR : Addr} {fd fdW fdR : FuncData} {t1 t2 t3 : Tok} (F : Fun K "makes" "Game.makes" sMak f fd) (T : Txt K mg C)
    (W : Ft K mg "fewest_row" sRow ["number", "named"] fW fdW) (GW : ∀ base, FnOk P w K mg base CX0 3 fW fdW ["number", "named"] (spRow K))
    (R : Ft K mg "refused" sRef ["refusal"] fR fdR) (g1 : mg "OUT_OF_BOUNDS" = some (.int 1 t1)) (g2 : mg "GREATEST_MADE" = some (.int 300 t2)) (g3 : mg "NOT_MADE" = some (.int 3 t3)) (mS : mg "sum" = none) :
    FnOk P w K mg base CX0 4 f fd ["self", "number"] (spMakes C) := by
  have GR : ∀ base, FnOk P w K mg base CX0 1 fR fdR ["refusal"] spRef := fun _ => ok_ref R.F
  refine F.ok scMak (fun vs H Q E h => ?_) (fun cdv A outer s H vs Q E hr h => ?_)
  · obtain ⟨n, g, dx, p, l, rfl, _⟩ := h
    rfl
  · have hr1 : Room 1 _ := hr.mono (by decide)
    refine ⟨_, pss_cons (ps_if (pt_cmpR op_gt (pv 1) (pe_glob (v := .int 300) rfl g2 ⟨_, rfl⟩) (nomark _))
        (pss_one (ps_ret (pe_call (GR _) hr1 rfl R.g R.F.kp R.b .nil pass0 (pa_cons (pe_glob (v := .int 1) rfl g1 ⟨_, rfl⟩) pa_nil)))) pss_nil)
      (pss_cons (ps_set (i := 2) scMak.nd rfl (Or.inl rfl) (pe_call (GW _) hr rfl W.g W.F.kp W.b .nil pass0 (pa_cons (pv 1) (pa_cons (pe_fld (pv 0) rfl) pa_nil))))
      (pss_cons (ps_if (pt_cmpR op_isN (pv 2) pe_non (nomark _))
        (pss_one (ps_ret (pe_call (GR _) hr1 rfl R.g R.F.kp R.b .nil pass0 (pa_cons (pe_glob (v := .int 3) rfl g3 ⟨_, rfl⟩) pa_nil)))) pss_nil)
      (pss_one (ps_ret (pe_op op_cat (pe_lst (pa_cons (pe_callB (cr_sum rfl) (by rfl) mS boot_sum (pa_cons (pv 2) pa_nil)) pa_nil)) (pv 2)))))), ?_⟩
    obtain ⟨n, g, dx, p, l, rfl, o, hf, q⟩ := h
    refine ⟨_, rfl, _, _, rfl, rfl, _, rfl, ?_⟩
    by_cases c : 300 < n
    · refine if_true_of (decide_eq_true (by omega)) ?_
      refine ⟨_, rfl, fun u hu => q _ u (Out.of_same o (same_new (L2.Same.refl H) hu) hu ?_)⟩
      rw [upd_same, ans_makes_far c]
    · refine if_false_of (decide_eq_false (by omega)) ?_
      refine ⟨_, rfl, _, rfl, g, C, dx, _, _, rfl, o.ins, T.cl, T.nN, lk_named, p, n, l, rfl, SqL.of o.lst, by omega, hf.in_, hf.len, fun e H1 s1 => ?_, fun m e H1 r s1 hr0 hR => ?_⟩
      · refine ⟨_, rfl, rfl, _, rfl, ?_⟩
        refine if_true_of rfl ?_
        refine ⟨_, rfl, fun u hu => q _ u (Out.of_same o (same_new s1 (same_no s1 hu)) (same_no s1 hu) ?_)⟩
        rw [upd_same, ans_makes_none c e]
      · refine ⟨_, rfl, rfl, _, rfl, ?_⟩
        refine if_false_of rfl ?_
        refine ⟨_, rfl, r, _, rfl, (by rw [int_map] at hR; exact SqL.of hR), by show 1 ≤ sizeLine; decide, fun u hu => ?_⟩
        refine ⟨_, rfl, u, r, _, _, rfl, rfl, upd_same, by rw [upd_ne (ne_of_none hR hu)]; exact hR, ?_, fun v hv => ?_⟩
        · rw [nums_len]
          have := row_len l n m
          have := hf.few
          exact small_line (show 1 + (Uw60.rowFor l n m).length ≤ 4000 by omega)
        · have hv1 : H1 v = none := by
            have : v ≠ u := fun e => by rw [e, upd_same] at hv; cases hv
            rw [upd_ne this] at hv; exact hv
          refine q _ v (Out.of_same o (same_new (same_new s1 (same_no s1 hu)) (same_no s1 hv1)) (same_no s1 hv1) ?_)
          have hs := (rowFor_sum l n m (fun x hx => (hf.in_ x hx).1) e).1
          have hs2 : ((Uw60.rowFor l n m).map fun (n : Nat) => (n : Int)).sum = ((Uw60.rowFor l n m).sum : Nat) := by
            generalize Uw60.rowFor l n m = r
            induction r with
            | nil => rfl
            | cons a r ih => rw [List.map_cons, List.sum_cons, List.sum_cons, ih]; omega
          rw [upd_same, hs2, hs, ans_makes c e]
          generalize Uw60.rowFor l n m = G
          rw [← zsV_nums]; rfl
/-! ### names -/
abbrev sNam : Stmt := inClass (top 40) 2
theorem scNam : FnScope ["self", "number"] ["self", "number"] (defScope sNam) := ⟨rfl, rfl, rfl, by decide +kernel, rfl, by decide +kernel, by decide +kernel⟩
def spNames (C : Addr) : Sp := fun vs H Q E => ∃ n : Nat, spM C (.names n) [.int (n : Nat)] vs H Q E
theorem ok_nam {f fM fR fS : Addr} {fd fdM fdR fdS : FuncData} {t1 t2 t3 t4 t5 t6 : Tok} (F : Fun K "names" "Game.names" sNam f fd) (T : Txt K mg C)
    (M : Ft K mg "is_made" sMade ["number", "named"] fM fdM) (GM : ∀ base, FnOk P w K mg base CX0 2 fM fdM ["number", "named"] (spMade K))
    (S : Mt K C "standing" "Game.standing" sSta ["self"] fS fdS) (GS : ∀ base, FnOk P w K mg base CX0 3 fS fdS ["self"] (spSta C))
    (R : Ft K mg "refused" sRef ["refusal"] fR fdR) (g1 : mg "OUT_OF_BOUNDS" = some (.int 1 t1)) (g2 : mg "LEAST_NAMED" = some (.int 2 t2)) (g3 : mg "GREATEST_NAMED" = some (.int 40 t3))
    (g4 : mg "MADE_ALREADY" = some (.int 4 t4)) (g5 : mg "ALL_NAMED" = some (.int 5 t5)) (g6 : mg "MOST_NAMED" = some (.int 12 t6)) (mL : mg "len" = none) :
    FnOk P w K mg base CX0 4 f fd ["self", "number"] (spNames C) := by
  have GR : ∀ base, FnOk P w K mg base CX0 1 fR fdR ["refusal"] spRef := fun _ => ok_ref R.F
  refine F.ok scNam (fun vs H Q E h => ?_) (fun cdv A outer s H vs Q E hr h => ?_)
  · obtain ⟨n, g, dx, p, l, rfl, _⟩ := h
    rfl
  · have hr1 : Room 1 _ := hr.mono (by decide)
    have hr2 : Room 2 _ := hr.mono (by decide)
    refine ⟨_, pss_cons (ps_if (PW.pt (pw_or (pt_cmpR op_lt (pv 1) (pe_glob (v := .int 2) rfl g2 ⟨_, rfl⟩) (nomark _)) (pw_or1 (pt_cmpR op_gt (pv 1) (pe_glob (v := .int 40) rfl g3 ⟨_, rfl⟩) (nomark _)))))
        (pss_one (ps_ret (pe_call (GR _) hr1 rfl R.g R.F.kp R.b .nil pass0 (pa_cons (pe_glob (v := .int 1) rfl g1 ⟨_, rfl⟩) pa_nil)))) pss_nil)
      (pss_cons (ps_if (pt_val (pe_call (GM _) hr2 rfl M.g M.F.kp M.b .nil pass0 (pa_cons (pv 1) (pa_cons (pe_fld (pv 0) rfl) pa_nil))))
        (pss_one (ps_ret (pe_call (GR _) hr1 rfl R.g R.F.kp R.b .nil pass0 (pa_cons (pe_glob (v := .int 4) rfl g4 ⟨_, rfl⟩) pa_nil)))) pss_nil)
      (pss_cons (ps_if (pt_cmpR op_eq (pe_callB call_len_seq (by rfl) mL PySem.boot_len (pa_cons (pe_fld (pv 0) rfl) pa_nil)) (pe_glob (v := .int 12) rfl g6 ⟨_, rfl⟩) (nomark _))
        (pss_one (ps_ret (pe_call (GR _) hr1 rfl R.g R.F.kp R.b .nil pass0 (pa_cons (pe_glob (v := .int 5) rfl g5 ⟨_, rfl⟩) pa_nil)))) pss_nil)
      (pss_cons (ps_expr (pe_bm PySem.F.plainAttrs_list PySem.F.slot_list_append PySem.F.type_list_append mt_append (pe_fld (pv 0) rfl) (pa_cons (pv 1) pa_nil)))
      (pss_one (ps_ret (pe_meth0 (pv 0) T.cl S.m (GS _) hr S.b .nil pass0)))))), ?_⟩
    obtain ⟨n, g, dx, p, l, rfl, o, hf, q⟩ := h
    refine ⟨_, rfl, _, _, rfl, rfl, _, rfl, ?_⟩
    have out : n < 2 ∨ 40 < n → ∀ (H' : Hp) (u : Addr), L2.Same H H' → H u = none → H' u = some (.lst (zsV [-1])) → Q (.ref u) H' := fun z H' u s n e => by
      refine q _ u ?_
      rw [(step_out z).1, (step_out z).2]
      exact Out.of_same o s n e
    by_cases c : n < 2
    · refine if_true_of (decide_eq_true (by omega)) ?_
      refine if_true_of rfl ?_
      exact ⟨_, rfl, fun u hu => out (.inl c) _ u (same_new (L2.Same.refl H) hu) hu upd_same⟩
    · refine if_false_of (decide_eq_false (by omega)) ?_
      refine ⟨_, rfl, _, _, rfl, rfl, _, rfl, ?_⟩
      by_cases c2 : 40 < n
      · refine if_true_of (decide_eq_true (by omega)) ?_
        exact ⟨_, rfl, fun u hu => out (.inr c2) _ u (same_new (L2.Same.refl H) hu) hu upd_same⟩
      · refine if_false_of (decide_eq_false (by omega)) ?_
        have z : ¬ (n < 2 ∨ 40 < n) := by omega
        refine ⟨_, rfl, _, rfl, g, C, dx, _, _, rfl, o.ins, T.cl, T.nN, lk_named, p, l, n, rfl, SqL.of o.lst, by omega, hf.one, hf.len, fun H1 s1 => ?_⟩
        have o1 := o.same s1
        refine ⟨_, rfl, ?_⟩
        by_cases e : md l n = true
        · refine if_true_of e ?_
          refine ⟨_, rfl, fun u hu => q _ u ?_⟩
          rw [(step_made z e).1, (step_made z e).2]
          exact Out.of_same o (same_new s1 (same_no s1 hu)) (same_no s1 hu) upd_same
        · refine if_false_of (by simpa using e) ?_
          refine ⟨_, rfl, g, C, dx, _, _, rfl, o1.ins, T.cl, T.nN, lk_named, p, _, rfl, .inl (SqL.of o1.lst), ?_⟩
          rw [nums_len]
          refine ⟨rfl, _, rfl, ?_⟩
          by_cases d : l.length = 12
          · refine if_true_of (decide_eq_true (by rw [d]; rfl)) ?_
            refine ⟨_, rfl, fun u hu => q _ u ?_⟩
            rw [(step_full z e (by omega)).1, (step_full z e (by omega)).2]
            exact Out.of_same o (same_new s1 (same_no s1 hu)) (same_no s1 hu) upd_same
          · refine if_false_of (decide_eq_false (fun q => d (by have := V.int.inj q; omega))) ?_
            have hl := hf.few
            refine ⟨_, rfl, g, C, dx, _, _, rfl, o1.ins, T.cl, T.nN, lk_named, .inl ⟨rfl, _, SqL.of o1.lst⟩, ?_⟩
            refine ⟨_, rfl, p, _, _, rfl, rfl, o1.lst, ?_, ?_⟩
            · rw [nums_len]; exact Nat.lt_of_le_of_lt (show l.length ≤ 12 from hl) (by decide)
            have hne := o1.ne
            have o2 : Own C (upd H1 p (.lst (nums l ++ [V.int (n : Nat)]))) g dx p (l ++ [n]) := ⟨by rw [upd_ne hne.symm]; exact o1.ins, by rw [upd_same]; unfold nums; rw [List.map_append]; rfl⟩
            refine ⟨_, rfl, g, dx, _, rfl, o2.ins, ?_, g, dx, p, l ++ [n], rfl, o2, hf.snoc (by omega) (by omega) (by omega), fun H' u s2 hu hU => q H' u ?_⟩
            · exact lk_past (by decide +kernel)
            · rw [(step_names z e (by omega)).1, (step_names z e (by omega)).2]
              exact ⟨⟨p, .inl rfl, o2.same s2⟩, hU, same_no s1 (upd_none hu), fun b u hb hbg hbp => s2 _ _ (by rw [upd_ne hbp]; exact s1 _ _ hb)⟩
end
end Nt
set_option Elab.async false
set_option linter.all false
set_option maxRecDepth 100000
set_option maxHeartbeats 2000000
namespace Nt
open PySem PySem.Spec PyProof.Rows L2
theorem nums_flat (l : List Nat) : (nums l).all flatV = true := by
  unfold nums
  rw [List.all_map, List.all_eq_true]
  intro x _; rfl
theorem inV_nums (z : Int) (l : List Nat) : inV (.int z) (nums l) = decide (0 ≤ z ∧ z.toNat ∈ l) := by
  unfold inV nums
  rw [List.any_map, Bool.eq_iff_iff, List.any_eq_true, decide_eq_true_iff]
  constructor
  · rintro ⟨x, hx, e⟩
    have e : ((x : Int) == z) = true := e
    rw [beq_iff_eq] at e
    subst e
    exact ⟨by omega, by rw [Int.toNat_natCast]; exact hx⟩
  · rintro ⟨h0, hm⟩
    refine ⟨_, hm, ?_⟩
    show ((z.toNat : Int) == z) = true
    rw [beq_iff_eq]; omega
theorem nums_snoc (l : List Nat) (n : Nat) : nums l ++ [V.int (n : Nat)] = nums (l ++ [n]) := by
  unfold nums; rw [List.map_append]; rfl
theorem filt_more {T : List Nat} {i n : Nat} (h : T[i]? = some n) (p : Nat → Bool) : (T.take (i + 1)).filter p = (T.take i).filter p ++ (if p n = true then [n] else []) := by
  rw [take_more h, List.filter_append, List.filter_cons, List.filter_nil]
section
variable {P : Program} {w : World} {K : PySem.W.Frag} {mg : Str → Option Value} {base : Heap}
/-! ### left_after -/
abbrev sAft : Stmt := top 11
theorem scAft : FnScope ["left", "named_now", "still", "number", "rest"] ["left", "named_now"] (defScope sAft) := ⟨rfl, rfl, rfl, by decide +kernel, rfl, by decide +kernel, by decide +kernel⟩
def spAft (K : PySem.W.Frag) : Sp := fun vs H Q _ => ∃ (r : Addr) (T : List Nat) (g : Nat), vs = [.ref r, .int (g : Nat)] ∧ H r = some (.lst (nums T)) ∧ SL T ∧ 2 ≤ g ∧
  ∀ (H' : Hp) (p : Addr), L2.Same H H' → H p = none → H' p = some (.lst (nums (aft T g))) → Q (.ref p) H'
theorem ok_aft {f : Addr} {fd : FuncData} (F : Fun K "left_after" "left_after" sAft f fd) : FnOk P w K mg base CX0 1 f fd ["left", "named_now"] (spAft K) := by
  refine F.ok scAft (fun vs H Q E h => ?_) (fun cdv A outer s H vs Q E hr h => ?_)
  · obtain ⟨r, T, g, rfl, _⟩ := h
    rfl
  · refine ⟨_, pss_cons (ps_set (i := 2) scAft.nd rfl (Or.inl rfl) (pe_lst pa_nil))
      (pss_cons (ps_for PassesOwn.never rfl (pi_list (pv 0)) (pg_name (i := 3) scAft.nd rfl (Or.inl rfl))
        (pss_cons (ps_set (i := 4) scAft.nd rfl (Or.inl rfl) (pe_op op_sub (pv 3) (pv 1)))
        (pss_one (ps_if (PW.pt (pw_or (pt_cmpR op_lt (pv 4) pe_int (nomark _)) (pw_or (pt_cmpR op_eq (pv 4) pe_int (nomark _)) (pw_or1 (pt_cmpR op_in_seq (pv 4) (pv 2) (by rfl))))))
          (pss_one (ps_expr (pe_bm PySem.F.plainAttrs_list PySem.F.slot_list_append PySem.F.type_list_append mt_append (pv 2) (pa_cons (pv 3) pa_nil))))
          pss_nil))))
      (pss_one (ps_ret (pv 2)))), ?_⟩
    obtain ⟨r, T, g, rfl, hN, hT, hg, q⟩ := h
    refine ⟨by show 0 ≤ sizeLine; decide, fun p hp => ?_⟩
    have hl := sl_len hT
    refine ⟨_, rfl, r, rfl, ⟨_, (same_new (L2.Same.refl H) hp).seq (SqL.of hN)⟩, for_list (K := K) (a := r) (xs := nums T)
      (fun i σ H' => ∃ v u : Option V, σ = [some (.ref r), some (.int (g : Nat)), some (.ref p), v, u] ∧ L2.Same H H' ∧ H' p = some (.lst (nums ((T.take i).filter (stl T g)))))
      ⟨none, none, rfl, same_new (L2.Same.refl H) hp, upd_same⟩ (fun i σ H' _ ⟨_, _, _, s, _⟩ => s.seq (SqL.of hN)) ?_ ?_⟩
    · rintro i x σ H' hi ⟨v, u, rfl, s, hS⟩
      obtain ⟨n, hn, rfl⟩ := nums_get hi
      have lp := stl_loop hT hg hn
      have fm := filt_more hn (stl T g)
      have le : (nums ((T.take i).filter (stl T g))).length < sizeLine := by
        rw [nums_len]
        have := List.length_filter_le (stl T g) (T.take i)
        rw [List.length_take] at this
        exact Nat.lt_of_le_of_lt (show _ ≤ 64 by omega) (by decide)
      have yes : stl T g n = true → ∃ v u : Option V, [some (.ref r), some (.int (g : Nat)), some (.ref p), some (.int (n : Nat)), some (.int ((n : Int) - (g : Int)))] = [some (.ref r), some (.int (g : Nat)), some (.ref p), v, u] ∧ L2.Same H (upd H' p (.lst (nums ((T.take i).filter (stl T g)) ++ [V.int (n : Nat)]))) ∧ upd H' p (.lst (nums ((T.take i).filter (stl T g)) ++ [V.int (n : Nat)])) p = some (.lst (nums ((T.take (i + 1)).filter (stl T g)))) := fun e => by
        refine ⟨_, _, rfl, same_new s hp, ?_⟩
        rw [upd_same, fm, if_pos e, nums_snoc]
      refine ⟨_, rfl, _, rfl, _, _, rfl, rfl, ?_⟩
      refine ⟨_, rfl, _, _, rfl, rfl, _, rfl, ?_⟩
      by_cases c1 : n < g
      · rw [decide_eq_true c1] at lp
        refine if_true_of (decide_eq_true (by omega)) ?_
        refine if_true_of rfl ?_
        exact ⟨_, rfl, .inl ⟨rfl, _, SqL.of hS⟩, _, rfl, p, _, _, rfl, rfl, hS, le, yes lp⟩
      · rw [decide_eq_false c1, Bool.false_or] at lp
        refine if_false_of (decide_eq_false (by omega)) ?_
        refine ⟨_, rfl, rfl, _, rfl, ?_⟩
        by_cases c2 : n - g = 1
        · rw [decide_eq_true c2] at lp
          refine if_true_of (decide_eq_true (congrArg V.int (show (n : Int) - (g : Int) = 1 by omega))) ?_
          refine if_true_of rfl ?_
          exact ⟨_, rfl, .inl ⟨rfl, _, SqL.of hS⟩, _, rfl, p, _, _, rfl, rfl, hS, le, yes lp⟩
        · rw [decide_eq_false c2, Bool.false_or] at lp
          refine if_false_of (decide_eq_false (fun z => c2 (by have := V.int.inj z; omega))) ?_
          refine ⟨_, rfl, _, rfl, p, _, rfl, .inl (SqL.of hS), rfl, nums_flat _, _, rfl, ?_⟩
          rw [inV_nums, show decide ((0 : Int) ≤ (n : Int) - (g : Int) ∧ ((n : Int) - (g : Int)).toNat ∈ (T.take i).filter (stl T g)) = stl T g n from ?_]
          · cases e : stl T g n
            · refine if_false_of rfl ?_
              refine ⟨_, _, rfl, s, ?_⟩
              rw [fm, if_neg (by rw [e]; exact Bool.false_ne_true), List.append_nil]
              exact hS
            · refine if_true_of rfl ?_
              exact ⟨_, rfl, .inl ⟨rfl, _, SqL.of hS⟩, _, rfl, p, _, _, rfl, rfl, hS, le, yes e⟩
          · rw [lp]
            rw [show ((n : Int) - (g : Int)).toNat = n - g by omega]
            congr 1
            rw [show ((0 : Int) ≤ (n : Int) - (g : Int)) = (g ≤ n) from propext ⟨fun _ => by omega, fun _ => by omega⟩]
    · rintro σ H' ⟨v, u, rfl, s, hS⟩
      rw [nums_len, List.take_length, ← aft_stl] at hS
      exact ⟨_, rfl, q _ _ s hp hS⟩
end
end Nt
set_option Elab.async false
set_option linter.all false
set_option maxRecDepth 100000
set_option maxHeartbeats 2000000
namespace Nt
open PySem PySem.Spec PyProof.Rows L2
/-- the tuple of numbers as a dict's key -/
def keyOf (T : List Nat) : List L2.Key := T.map fun (n : Nat) => Sum.inl (n : Int)
theorem keyOf_map (T : List Nat) : (keyOf T).map kV = nums T := by
  unfold keyOf nums; rw [List.map_map]; rfl
theorem keyOf_inj {T U : List Nat} (h : keyOf T = keyOf U) : T = U := by
  unfold keyOf at h
  induction T generalizing U with
  | nil => cases U with
    | nil => rfl
    | cons a r => cases h
  | cons a r ih => cases U with
    | nil => cases h
    | cons b t =>
      rw [List.map_cons, List.map_cons, List.cons.injEq] at h
      rw [ih h.2, show a = b by have := Sum.inl.inj h.1; omega]
/-- what the dict of worths holds -/
structure Kn (T0 : List Nat) (kvs : List (List L2.Key × V)) : Prop where
  nd : (kvs.map (·.1)).Nodup
  all : ∀ e ∈ kvs, ∃ U, U.Sublist T0 ∧ e.1 = keyOf U ∧ e.2 = V.int (G U : Nat)
theorem Kn.nil (T0 : List Nat) : Kn T0 [] := ⟨List.nodup_nil, fun e h => by cases h⟩
theorem Kn.len {T0 : List Nat} {kvs : List (List L2.Key × V)} (h : Kn T0 kvs) (h0 : T0.length ≤ 16) : kvs.length < sizeLine := by
  have := pigeon (kvs.map (·.1)) ((subs T0).map keyOf) h.nd (fun x hx => by
    obtain ⟨e, he, rfl⟩ := List.mem_map.1 hx
    obtain ⟨U, hU, e1, _⟩ := h.all e he
    rw [e1]
    exact List.mem_map.2 ⟨U, subs_mem hU, rfl⟩)
  rw [List.length_map, List.length_map, subs_len] at this
  have q : 2 ^ T0.length ≤ 2 ^ 16 := Nat.pow_le_pow_right (by omega) h0
  exact Nat.lt_of_le_of_lt (Nat.le_trans this q) (by decide)
theorem Kn.get {T0 : List Nat} {kvs : List (List L2.Key × V)} (h : Kn T0 kvs) {T : List Nat} {v : V} (e : valV kvs (keyOf T) = some v) : v = V.int (G T : Nat) := by
  unfold valV at e
  rw [Option.map_eq_some_iff] at e
  obtain ⟨z, hz, rfl⟩ := e
  obtain ⟨U, _, e1, e2⟩ := h.all z (List.mem_of_find?_eq_some hz)
  have := List.find?_some hz
  rw [decide_eq_true_iff] at this
  have : T = U := keyOf_inj (this.symm.trans e1)
  subst this
  exact e2
theorem Kn.put {T0 : List Nat} {kvs : List (List L2.Key × V)} (h : Kn T0 kvs) {T : List Nat} (s : T.Sublist T0) : Kn T0 (putK kvs (keyOf T) (V.int (G T : Nat))) := by
  cases e : valV kvs (keyOf T) with
  | none =>
    rw [putK_new _ e]
    refine ⟨?_, fun z hz => ?_⟩
    · rw [← putK_new (V.int (G T : Nat)) e]
      exact nd_putK _ h.nd e
    · rcases List.mem_append.1 hz with hz | hz
      · exact h.all z hz
      · rw [List.mem_singleton] at hz
        subst hz
        exact ⟨T, s, rfl, rfl⟩
  | some v =>
    have hv := h.get e
    have any : (kvs.any fun kv => decide (kv.1 = keyOf T)) = true := by rw [valV_any, e]; rfl
    unfold putK
    rw [if_pos any]
    refine ⟨?_, fun z hz => ?_⟩
    · have : (kvs.map fun kv => if kv.1 = keyOf T then (kv.1, V.int (G T : Nat)) else kv).map (·.1) = kvs.map (·.1) := by
        rw [List.map_map]
        apply List.map_congr_left
        intro a _
        show (if a.1 = keyOf T then (a.1, V.int (G T : Nat)) else a).1 = a.1
        split <;> rfl
      rw [this]; exact h.nd
    · obtain ⟨y, hy, rfl⟩ := List.mem_map.1 hz
      by_cases c : y.1 = keyOf T
      · rw [if_pos c]
        exact ⟨T, s, c, rfl⟩
      · rw [if_neg c]
        exact h.all y hy
section
variable {P : Program} {w : World} {K : PySem.W.Frag} {mg : Str → Option Value} {base : Heap}
/-! ### worth_with -/
abbrev sWw : Stmt := top 12
theorem scWw : FnScope ["left", "known", "position", "met", "worth", "number"] ["left", "known"] (defScope sWw) := ⟨rfl, rfl, rfl, by decide +kernel, rfl, by decide +kernel, by decide +kernel⟩
def spWw (n : Nat) : Sp := fun vs H Q _ => ∃ (r d : Addr) (T T0 : List Nat) (kvs : List (List L2.Key × V)), vs = [.ref r, .ref d] ∧ H r = some (.lst (nums T)) ∧ SL T0 ∧ T0.length ≤ 16 ∧ T.Sublist T0 ∧ T.length < n ∧
  H d = some (.dT kvs) ∧ Kn T0 kvs ∧
  ∀ (H' : Hp) (kvs' : List (List L2.Key × V)), (∀ b o, H b = some o → b ≠ d → H' b = some o) → H' d = some (.dT kvs') → Kn T0 kvs' → Q (.int (G T : Nat)) H'
theorem ok_ww {f fA : Addr} {fd fdA : FuncData} (F : Fun K "worth_with" "worth_with" sWw f fd) (b : Binds K fd ["left", "known"] []) (g : mg "worth_with" = some (.ref f))
    (A : Ft K mg "left_after" sAft ["left", "named_now"] fA fdA) (mT : mg "tuple" = none) :
    ∀ n base, FnOk P w K mg base CX0 (n + 1) f fd ["left", "known"] (spWw n)
  | 0, base => ⟨fun vs H Q E ⟨_, _, _, _, _, _, _, _, _, _, h, _⟩ => absurd h (Nat.not_lt_zero _), fun _ _ _ _ _ _ _ _ _ _ _ _ _ ⟨_, _, _, _, _, _, _, _, _, _, h, _⟩ => absurd h (Nat.not_lt_zero _)⟩
  | n + 1, base => by
    have GA : ∀ base, FnOk P w K mg base CX0 1 fA fdA ["left", "named_now"] (spAft K) := fun _ => ok_aft A.F
    have GW : ∀ base, FnOk P w K mg base CX0 (n + 1) f fd ["left", "known"] (spWw n) := ok_ww F b g A mT n
    refine F.ok scWw (fun vs H Q E h => ?_) (fun cdv B outer s H vs Q E hr h => ?_)
    · obtain ⟨r, d, T, T0, kvs, rfl, _⟩ := h
      rfl
    · have hr1 : Room 1 _ := hr.mono (by omega)
      refine ⟨_, pss_cons (ps_set (i := 2) scWw.nd rfl (Or.inl rfl) (pe_callTy call_tuple_of (by rfl) mT (by decide +kernel) (pa_cons (pv 0) pa_nil)))
        (pss_cons (ps_if (pt_cmp (pc_din (hu_of hr) (pv 2) (pv 1))) (pss_one (ps_ret (pe_dget (hu_of hr) (pv 1) (pv 2) (fun _ _ => rfl)))) pss_nil)
        (pss_cons (ps_setLc (i := 3) (own := [("number", 5)]) (g := gName 5) (tt := tYes) rfl scWw.nd rfl rfl (sw_true rfl rfl rfl (by decide +kernel)) (pi_list (pv 0)) (blkOk_by (N := ["left", "known", "position", "met", "worth", "number"]) (sc := defScope sWw) (by decide +kernel))
          (fun _ _ _ _ _ => pg_name (i := 5) scWw.nd rfl (Or.inl rfl)) (fun _ _ _ _ _ => pts_nil)
          (fun _ _ _ _ _ => pe_call (GW _) hr rfl g F.kp b .nil pass0 (pa_cons (pe_call (GA _) hr1 rfl A.g A.F.kp A.b .nil pass0 (pa_cons (pv 0) (pa_cons (pv 5) pa_nil))) (pa_cons (pv 1) pa_nil))))
        (pss_cons (ps_set (i := 4) scWw.nd rfl (Or.inl rfl) pe_int)
        (pss_cons (ps_while PassesOwn.never (pt_cmpR op_in_seq (pv 4) (pv 3) (by rfl))
          (pss_one (ps_aug (i := 4) scWw.nd rfl (Or.inl rfl) pe_int ip_add)))
        (pss_cons (ps_dput (hu_of hr) (pv 1) (pv 2) (pv 4) rfl)
        (pss_one (ps_ret (pv 4)))))))), ?_⟩
      obtain ⟨r, d, T, T0, kvs, rfl, hN, hT0, h16, hs, hlt, hd, hK, q⟩ := h
      have hT := hT0.sub hs
      have hrd : r ≠ d := ne_of hN hd (by intro z; cases z)
      have l64 := sl_len hT
      refine ⟨_, rfl, r, _, rfl, .inl ⟨SqL.of hN, fun t ht => ?_⟩⟩
      have s1 : L2.Same H (upd H t (.tup (nums T))) := same_new (L2.Same.refl H) ht
      have hd1 := s1 _ _ hd
      have hN1 := s1 _ _ hN
      have ht1 : upd H t (.tup (nums T)) t = some (.tup ((keyOf T).map kV)) := by rw [keyOf_map]; exact upd_same
      have htd : t ≠ d := (ne_of_none hd ht).symm
      generalize upd H t (.tup (nums T)) = H1 at *
      refine ⟨_, rfl, _, rfl, d, _, rfl, DGet.t hd1 ht1, _, rfl, ?_⟩
      cases e : valV kvs (keyOf T) with
      | some v =>
        have hv := hK.get e
        subst hv
        refine if_true_of rfl ?_
        refine ⟨_, rfl, _, rfl, d, _, rfl, ?_, q _ kvs (fun b o hb _ => s1 b o hb) hd1 hK⟩
        rw [← e]; exact DGet.t hd1 ht1
      | none =>
        refine if_false_of rfl ?_
        refine ⟨_, rfl, r, rfl, ⟨_, SqL.of hN1⟩, fun D hD => lc_list (K := K) (a := r) (xs := nums T)
          (fun i H' => ∃ kvs', (∀ b o, H1 b = some o → b ≠ d → H' b = some o) ∧ H' d = some (.dT kvs') ∧ Kn T0 kvs' ∧ H' D = some (.lst (nums ((T.take i).map fun g => G (aft T g)))))
          ⟨kvs, fun b o hb _ => by rw [upd_ne (ne_of_none hb hD)]; exact hb, by rw [upd_ne (ne_of_none hd1 hD)]; exact hd1, hK, upd_same⟩
          (fun i H' _ ⟨_, k, _⟩ => SqL.of (k _ _ hN1 hrd)) ?_ ?_⟩
        · rintro i x H' hi ⟨kvs', k, hd', hK', hL⟩
          obtain ⟨a, ha, rfl⟩ := nums_get hi
          have am := List.mem_of_getElem? ha
          have al := aft_lt hT am
          have hDd : D ≠ d := (ne_of_none hd1 hD).symm
          refine ⟨rfl, ?_⟩
          refine ⟨_, rfl, _, rfl, r, T, a, rfl, k _ _ hN1 hrd, hT, hT.lo a am, fun H2 p s2 hp hP => ?_⟩
          refine ⟨_, rfl, p, d, aft T a, T0, kvs', rfl, hP, hT0, h16, (aft_sub T a).trans hs, by omega, s2 _ _ hd', hK', fun H3 kvs3 k3 hd3 hK3 => ?_⟩
          refine ⟨_, k3 _ _ (s2 _ _ hL) hDd, ?_, kvs3, fun b o hb hbd => ?_, ?_, hK3, ?_⟩
          · rw [nums_len, List.length_map, List.length_take]
            exact Nat.lt_of_le_of_lt (show _ ≤ 64 by omega) (by decide)
          · rw [upd_ne (ne_of_none hb hD)]
            exact k3 _ _ (s2 _ _ (k _ _ hb hbd)) hbd
          · rw [upd_ne hDd.symm]; exact hd3
          · rw [upd_same, nums_snoc, take_more ha, List.map_append]; rfl
        · rintro H' ⟨kvs', k, hd', hK', hL⟩
          rw [nums_len, List.take_length] at hL
          have hG := G_eq hT
          generalize (T.map fun g => G (aft T g)) = L at hL hG
          have ht' := k _ _ ht1 htd
          obtain ⟨m1, m2⟩ := mex_is L
          refine while_by (fun σ Hx => Hx = H' ∧ ∃ m : Nat, m ≤ Uw60.mex L ∧ σ = [some (.ref r), some (.ref d), some (.ref t), some (.ref D), some (.int (m : Nat)), none])
            (fun σ _ => match σ with | [_, _, _, _, some (.int m), _] => Uw60.mex L - m.toNat | _ => 0) ⟨rfl, 0, Nat.zero_le _, rfl⟩ ?_
            (fun σ H Q Q' h ⟨v, e, v2, e2, p, xs, e3, hs, fl, al, c, ec, z⟩ => ⟨v, e, v2, e2, p, xs, e3, hs, fl, al, c, ec, h _ _ z⟩)
          rintro σ Hx ⟨rfl, m, hm, rfl⟩
          refine ⟨_, rfl, _, rfl, D, _, rfl, .inl (SqL.of hL), rfl, nums_flat _, _, rfl, ?_⟩
          rw [inV_nums]
          by_cases c : m ∈ L
          · refine if_true_of (decide_eq_true ⟨by omega, by rw [Int.toNat_natCast]; exact c⟩) ?_
            have : m ≠ Uw60.mex L := fun e => m1 (by rw [← e]; exact c)
            refine ⟨_, rfl, _, _, rfl, rfl, ⟨rfl, m + 1, by omega, rfl⟩, ?_⟩
            show Uw60.mex L - ((m : Int) + 1).toNat < Uw60.mex L - (m : Int).toNat
            omega
          · refine if_false_of (decide_eq_false (fun z => c (by have := z.2; rw [Int.toNat_natCast] at this; exact this))) ?_
            have hmx : m = Uw60.mex L := by
              rcases Nat.lt_or_ge m (Uw60.mex L) with z | z
              · exact absurd (m2 m z) c
              · omega
            rw [← hmx] at hG
            rw [← hG] at *
            refine ⟨_, rfl, _, rfl, _, rfl, d, _, rfl, DPut.t hd' ht' (hK'.len h16), ?_⟩
            refine ⟨_, rfl, q _ _ (fun b o hb hbd => ?_) upd_same (hK'.put hs)⟩
            rw [upd_ne hbd]
            exact k _ _ (s1 _ _ hb) hbd
end
end Nt
set_option Elab.async false
set_option linter.all false
set_option maxRecDepth 100000
set_option maxHeartbeats 2000000
namespace Nt
open PySem PySem.Spec PyProof.Rows L2
theorem natZ_nums (l : List Nat) : zsV (natZ l) = nums l := zsV_nums l
section
variable {P : Program} {w : World} {K : PySem.W.Frag} {mg : Str → Option Value} {base : Heap}
/-! ### worth_of -/
abbrev sWo : Stmt := top 13
theorem scWo : FnScope ["left"] ["left"] (defScope sWo) := ⟨rfl, rfl, rfl, by decide +kernel, rfl, by decide +kernel, by decide +kernel⟩
def spWo : Sp := fun vs H Q _ => ∃ (r : Addr) (T : List Nat), vs = [.ref r] ∧ H r = some (.lst (nums T)) ∧ SL T ∧ T.length ≤ 16 ∧ ∀ H' : Hp, L2.Same H H' → Q (.int (G T : Nat)) H'
theorem ok_wo {f fW : Addr} {fd fdW : FuncData} (F : Fun K "worth_of" "worth_of" sWo f fd)
    (W : Ft K mg "worth_with" sWw ["left", "known"] fW fdW) (GW : ∀ base, FnOk P w K mg base CX0 18 fW fdW ["left", "known"] (spWw 17)) : FnOk P w K mg base CX0 19 f fd ["left"] spWo := by
  refine F.ok scWo (fun vs H Q E h => ?_) (fun cdv B outer s H vs Q E hr h => ?_)
  · obtain ⟨r, T, rfl, _⟩ := h
    rfl
  · refine ⟨_, pss_one (ps_ret (pe_call (GW _) hr rfl W.g W.F.kp W.b .nil pass0 (pa_cons (pv 0) (pa_cons pe_dnewT pa_nil)))), ?_⟩
    obtain ⟨r, T, rfl, hN, hT, h16, q⟩ := h
    refine ⟨_, rfl, fun d hd => ?_⟩
    refine ⟨r, d, T, T, [], rfl, by rw [upd_ne (ne_of_none hN hd)]; exact hN, hT, h16, List.Sublist.refl T, by omega, upd_same, Kn.nil T, fun H' kvs' k _ _ => q H' fun b o hb => ?_⟩
    have hbd := ne_of_none hb hd
    exact k b o (by rw [upd_ne hbd]; exact hb) hbd
/-! ### winning_numbers -/
abbrev sWn : Stmt := top 14
theorem scWn : FnScope ["left", "known", "number"] ["left"] (defScope sWn) := ⟨rfl, rfl, rfl, by decide +kernel, rfl, by decide +kernel, by decide +kernel⟩
def spWn : Sp := fun vs H Q _ => ∃ (r : Addr) (T : List Nat), vs = [.ref r] ∧ H r = some (.lst (nums T)) ∧ SL T ∧ T.length ≤ 16 ∧
  ∀ (H' : Hp) (p : Addr), L2.Same H H' → H p = none → H' p = some (.lst (nums (winL T))) → Q (.ref p) H'
theorem ok_wn {f fA fW : Addr} {fd fdA fdW : FuncData} (F : Fun K "winning_numbers" "winning_numbers" sWn f fd) (A : Ft K mg "left_after" sAft ["left", "named_now"] fA fdA)
    (W : Ft K mg "worth_with" sWw ["left", "known"] fW fdW) (GW : ∀ base, FnOk P w K mg base CX0 18 fW fdW ["left", "known"] (spWw 17)) : FnOk P w K mg base CX0 19 f fd ["left"] spWn := by
  have GA : ∀ base, FnOk P w K mg base CX0 1 fA fdA ["left", "named_now"] (spAft K) := fun _ => ok_aft A.F
  refine F.ok scWn (fun vs H Q E h => ?_) (fun cdv B outer s H vs Q E hr h => ?_)
  · obtain ⟨r, T, rfl, _⟩ := h
    rfl
  · have hr1 : Room 1 _ := hr.mono (by decide)
    refine ⟨_, pss_cons (ps_set (i := 1) scWn.nd rfl (Or.inr rfl) pe_dnewT)
      (pss_one (ps_ret (pe_lc (own := [("number", 2)]) (g := gName 2) rfl scWn.nd (pi_list (pv 0)) (blkOk_by (N := ["left", "known", "number"]) (sc := defScope sWn) (by decide +kernel))
        (fun _ _ _ _ _ => pg_name (i := 2) scWn.nd rfl (Or.inl rfl))
        (fun _ _ _ _ _ => pts_one (pt_cmpR op_eq (pe_call (GW _) hr rfl W.g W.F.kp W.b .nil pass0 (pa_cons (pe_call (GA _) hr1 rfl A.g A.F.kp A.b .nil pass0 (pa_cons (pv 0) (pa_cons (pv 2) pa_nil))) (pa_cons (pv 1) pa_nil))) pe_int (nomark _)))
        (fun _ _ _ _ _ => pv 2)))), ?_⟩
    obtain ⟨r, T, rfl, hN, hT, h16, q⟩ := h
    intro d hd
    have hrd : r ≠ d := ne_of_none hN hd
    have k1 : ∀ b o, H b = some o → upd H d (.dT []) b = some o := fun b o hb => by rw [upd_ne (ne_of_none hb hd)]; exact hb
    have hN1 := k1 _ _ hN
    have hd1 : upd H d (.dT []) d = some (.dT []) := upd_same
    generalize upd H d (.dT []) = H1 at *
    refine ⟨_, rfl, r, rfl, ⟨_, SqL.of hN1⟩, fun D hD => lc_list (K := K) (a := r) (xs := nums T)
      (fun i H' => ∃ kvs', (∀ b o, H1 b = some o → b ≠ d → H' b = some o) ∧ H' d = some (.dT kvs') ∧ Kn T kvs' ∧ H' D = some (.lst (nums ((T.take i).filter fun g => G (aft T g) == 0))))
      ⟨[], fun b o hb _ => by rw [upd_ne (ne_of_none hb hD)]; exact hb, by rw [upd_ne (ne_of_none hd1 hD)]; exact hd1, Kn.nil T, upd_same⟩
      (fun i H' _ ⟨_, k, _⟩ => SqL.of (k _ _ hN1 hrd)) ?_ ?_⟩
    · rintro i x H' hi ⟨kvs', k, hd', hK', hL⟩
      obtain ⟨a, ha, rfl⟩ := nums_get hi
      have am := List.mem_of_getElem? ha
      have al := aft_lt hT am
      have hDd : D ≠ d := (ne_of_none hd1 hD).symm
      have fm := filt_more ha (fun g => G (aft T g) == 0)
      refine ⟨rfl, ?_⟩
      refine ⟨_, rfl, _, rfl, r, T, a, rfl, k _ _ hN1 hrd, hT, hT.lo a am, fun H2 p s2 hp hP => ?_⟩
      refine ⟨_, rfl, p, d, aft T a, T, kvs', rfl, hP, hT, h16, aft_sub T a, by omega, s2 _ _ hd', hK', fun H3 kvs3 k3 hd3 hK3 => ?_⟩
      have hL3 := k3 _ _ (s2 _ _ hL) hDd
      have kk : ∀ b o, H1 b = some o → b ≠ d → H3 b = some o := fun b o hb hbd => k3 _ _ (s2 _ _ (k _ _ hb hbd)) hbd
      refine ⟨rfl, _, rfl, ?_⟩
      by_cases c : G (aft T a) = 0
      · refine if_true_of (decide_eq_true (by rw [c]; rfl)) ?_
        rw [if_pos (by rw [c]; rfl)] at fm
        refine ⟨_, rfl, _, hL3, ?_, kvs3, fun b o hb hbd => ?_, ?_, hK3, ?_⟩
        · rw [nums_len]
          have := List.length_filter_le (fun g => G (aft T g) == 0) (T.take i)
          rw [List.length_take] at this
          exact Nat.lt_of_le_of_lt (show _ ≤ 16 by omega) (by decide)
        · rw [upd_ne (ne_of_none hb hD)]
          exact kk b o hb hbd
        · rw [upd_ne hDd.symm]; exact hd3
        · rw [upd_same, nums_snoc, fm]
      · refine if_false_of (decide_eq_false (fun z => c (by have := V.int.inj z; omega))) ?_
        rw [if_neg (by simpa using c), List.append_nil] at fm
        exact ⟨kvs3, kk, hd3, hK3, by rw [fm]; exact hL3⟩
    · rintro H' ⟨kvs', k, hd', hK', hL⟩
      rw [nums_len, List.take_length] at hL
      refine q _ D (fun b o hb => k b o (k1 b o hb) (ne_of_none hb hd)) ?_ hL
      cases e : H D with
      | none => rfl
      | some o => rw [k1 _ _ e] at hD; cases hD
/-! ### wins -/
abbrev sWi : Stmt := top 38
theorem scWi : FnScope ["left", "winning"] ["left"] (defScope sWi) := ⟨rfl, rfl, rfl, by decide +kernel, rfl, by decide +kernel, by decide +kernel⟩
def spWi : Sp := fun vs H Q _ => ∃ (r : Addr) (T : List Nat), vs = [.ref r] ∧ H r = some (.lst (nums T)) ∧ SL T ∧ T.length ≤ 16 ∧
  ∀ (H' : Hp) (p : Addr), L2.Same H H' → H p = none → H' p = some (.lst (zsV ((if (winL T).isEmpty = true then 0 else 1) :: natZ (winL T)))) → Q (.ref p) H'
theorem ok_wi {f fN : Addr} {fd fdN : FuncData} (F : Fun K "wins" "wins" sWi f fd) (N : Ft K mg "winning_numbers" sWn ["left"] fN fdN) (GN : ∀ base, FnOk P w K mg base CX0 19 fN fdN ["left"] spWn) (mL : mg "len" = none) :
    FnOk P w K mg base CX0 20 f fd ["left"] spWi := by
  refine F.ok scWi (fun vs H Q E h => ?_) (fun cdv B outer s H vs Q E hr h => ?_)
  · obtain ⟨r, T, rfl, _⟩ := h
    rfl
  · refine ⟨_, pss_cons (ps_set (i := 1) scWi.nd rfl (Or.inl rfl) (pe_call (GN _) hr rfl N.g N.F.kp N.b .nil pass0 (pa_cons (pv 0) pa_nil)))
      (pss_cons (ps_if (pt_cmpR op_eq (pe_callB call_len_seq (by rfl) mL PySem.boot_len (pa_cons (pv 1) pa_nil)) pe_int (nomark _)) (pss_one (ps_ret (pe_lst (pa_cons pe_int pa_nil)))) pss_nil)
      (pss_one (ps_ret (pe_op op_cat (pe_lst (pa_cons pe_int pa_nil)) (pv 1))))), ?_⟩
    obtain ⟨r, T, rfl, hN, hT, h16, q⟩ := h
    refine ⟨_, rfl, r, T, rfl, hN, hT, h16, fun H1 p s1 hp hP => ?_⟩
    have le : (winL T).length ≤ 16 := Nat.le_trans (List.length_filter_le _ _) h16
    generalize winL T = L at *
    refine ⟨_, rfl, p, _, rfl, .inl (SqL.of hP), ?_⟩
    rw [nums_len]
    refine ⟨rfl, _, rfl, ?_⟩
    cases L with
    | nil =>
      refine if_true_of (decide_eq_true rfl) ?_
      exact ⟨by show 1 ≤ sizeLine; decide, fun u hu => q _ u (same_new s1 (same_no s1 hu)) (same_no s1 hu) upd_same⟩
    | cons a L =>
      refine if_false_of (decide_eq_false (fun z => by have := V.int.inj z; rw [List.length_cons] at this; omega)) ?_
      refine ⟨by show 1 ≤ sizeLine; decide, fun u hu => ?_⟩
      refine ⟨_, rfl, u, p, _, _, rfl, rfl, upd_same, by rw [upd_ne (ne_of_none hP hu)]; exact hP, ?_, fun v hv => ?_⟩
      · rw [nums_len]
        exact small_line (show 1 + (a :: L).length ≤ 4000 by omega)
      · have hv1 : H1 v = none := by
          have : v ≠ u := fun e => by rw [e, upd_same] at hv; cases hv
          rw [upd_ne this] at hv; exact hv
        refine q _ v (same_new (same_new s1 (same_no s1 hu)) (same_no s1 hv1)) (same_no s1 hv1) ?_
        rw [upd_same, ← natZ_nums]; rfl
end
end Nt
set_option Elab.async false
set_option linter.all false
set_option maxRecDepth 100000
set_option maxHeartbeats 2000000
namespace Nt
open PySem PySem.Spec PyProof.Rows L2
theorem cut_last (xs : List V) (v : V) : cutV (xs ++ [v]) none (some (-1)) = xs := by
  show List.take ((if (-1 : Int) < 0 then ((-1 : Int) + ((xs ++ [v]).length : Nat)).toNat else min (-1 : Int).toNat (xs ++ [v]).length) - 0) (List.drop 0 (xs ++ [v])) = xs
  rw [if_pos (by decide), List.length_append, List.length_singleton, List.drop_zero, show (-1 + ((xs.length + 1 : Nat) : Int)).toNat - 0 = xs.length by omega]
  rw [List.take_append_of_le_length (Nat.le_refl _), List.take_length]
theorem find_at {p : Nat → Bool} {n : Nat} : ∀ {D : List Nat} {i : Nat}, D[i]? = some n → (∀ x ∈ D.take i, p x = false) → p n = true → D.find? p = some n
  | [], i, h, _, _ => by simp at h
  | a :: D, 0, h, _, hn => by
    have e : a = n := Option.some.inj h
    subst e
    rw [List.find?_cons, hn]
  | a :: D, i + 1, h, k, hn => by
    rw [List.find?_cons, k a (by simp)]
    exact find_at (i := i) h (fun x hx => k x (by rw [List.take_succ_cons]; exact List.mem_cons_of_mem a hx)) hn
section
variable {P : Program} {w : World} {K : PySem.W.Frag} {mg : Str → Option Value} {base : Heap} {C : Addr}
/-! ### ender -/
abbrev sEn : Stmt := top 39
theorem scEn : FnScope ["left", "named", "greatest", "number"] ["left", "named"] (defScope sEn) := ⟨rfl, rfl, rfl, by decide +kernel, rfl, by decide +kernel, by decide +kernel⟩
def spEn : Sp := fun vs H Q _ => ∃ (r t : Addr) (l : List Nat), vs = [.ref r, .ref t] ∧ H r = some (.lst (nums (Uw60.gaps l))) ∧ H t = some (.lst (nums l)) ∧ Fine l ∧ Uw60.common l = 1 ∧ ¬ 16 < (Uw60.gaps l).length ∧
  ∀ (H' : Hp) (p : Addr), L2.Same H H' → H p = none → H' p = some (.lst (zsV (ansOf l .ender))) → Q (.ref p) H'
theorem ok_en {f fM fR : Addr} {fd fdM fdR : FuncData} {t8 : Tok} (F : Fun K "ender" "ender" sEn f fd)
    (M : Ft K mg "is_made" sMade ["number", "named"] fM fdM) (GM : ∀ base, FnOk P w K mg base CX0 2 fM fdM ["number", "named"] (spMade K))
    (R : Ft K mg "refused" sRef ["refusal"] fR fdR) (g8 : mg "NONE_LEFT" = some (.int 8 t8)) (mL : mg "len" = none) :
    FnOk P w K mg base CX0 3 f fd ["left", "named"] spEn := by
  have GR : ∀ base, FnOk P w K mg base CX0 1 fR fdR ["refusal"] spRef := fun _ => ok_ref R.F
  refine F.ok scEn (fun vs H Q E h => ?_) (fun cdv B outer s H vs Q E hr h => ?_)
  · obtain ⟨r, t, l, rfl, _⟩ := h
    rfl
  · have hr1 : Room 1 _ := hr.mono (by decide)
    refine ⟨_, pss_cons (ps_if (pt_cmpR op_eq (pe_callB call_len_seq (by rfl) mL PySem.boot_len (pa_cons (pv 0) pa_nil)) pe_int (nomark _))
        (pss_one (ps_ret (pe_call (GR _) hr1 rfl R.g R.F.kp R.b .nil pass0 (pa_cons (pe_glob (v := .int 8) rfl g8 ⟨_, rfl⟩) pa_nil)))) pss_nil)
      (pss_cons (ps_set (i := 2) scEn.nd rfl (Or.inl rfl) (pe_ix ix_list (pv 0) (pe_un un_neg pe_int) (fun _ _ => rfl)))
      (pss_cons (ps_for PassesOwn.never rfl (pi_list (pe_slice sl_list (pv 0) po_none (po_some (pe_un un_neg pe_int)))) (pg_name (i := 3) scEn.nd rfl (Or.inl rfl))
        (pss_one (ps_if (pt_not (pt_val (pe_call (GM _) hr rfl M.g M.F.kp M.b .nil pass0 (pa_cons (pv 2) (pa_cons (pe_op op_cat (pv 1) (pe_lst (pa_cons (pv 3) pa_nil))) pa_nil)))))
          (pss_one (ps_ret (pe_lst (pa_cons pe_int (pa_cons (pv 2) (pa_cons (pv 3) pa_nil)))))) pss_nil)))
      (pss_one (ps_ret (pe_lst (pa_cons pe_int (pa_cons (pv 2) pa_nil))))))), ?_⟩
    obtain ⟨r, t, l, rfl, hN, ht, hf, hc, h16, q⟩ := h
    rcases List.eq_nil_or_concat (Uw60.gaps l) with e | ⟨D, a, e⟩
    · have an := ans_ender_nil hc e
      rw [e] at hN
      refine ⟨_, rfl, r, _, rfl, .inl (SqL.of hN), rfl, _, rfl, ?_⟩
      refine if_true_of (decide_eq_true rfl) ?_
      refine ⟨_, rfl, fun u hu => q _ u (same_new (L2.Same.refl H) hu) hu ?_⟩
      rw [upd_same, an]
    · rw [List.concat_eq_append] at e
      have hsl := gaps_sl (l := l) (by omega)
      have a64 : a < 64 := hsl.hi a (by rw [e]; simp)
      have yes : firstNo l D a = none → ansOf l .ender = [1, ((a : Nat) : Int)] := ans_ender_yes hf.in_ hc h16 e
      have no : ∀ z, firstNo l D a = some z → ansOf l .ender = [0, ((a : Nat) : Int), ((z : Nat) : Int)] := fun z => ans_ender_no hf.in_ hc h16 e
      have hl := hf.few
      rw [e, ← nums_snoc] at hN
      have dl : D.length ≤ 16 := by rw [e, List.length_append] at h16; omega
      have dlo : ∀ x ∈ D, 1 ≤ x := fun x hx => by
        have := hsl.lo x (by rw [e]; simp [hx])
        omega
      clear e hsl h16 hc
      refine ⟨_, rfl, r, _, rfl, .inl (SqL.of hN), ?_⟩
      rw [List.length_append, nums_len, List.length_singleton]
      refine ⟨rfl, _, rfl, ?_⟩
      refine if_false_of (decide_eq_false (fun z => by have := V.int.inj z; omega)) ?_
      refine ⟨_, rfl, _, rfl, r, _, _, _, rfl, rfl, SqL.of hN, atI_last _ _, ?_⟩
      refine ⟨_, rfl, _, rfl, _, rfl, r, _, rfl, SqL.of hN, fun u hu => ?_⟩
      rw [cut_last]
      have s1 : L2.Same H (upd H u (.lst (nums D))) := same_new (L2.Same.refl H) hu
      have hu1 : upd H u (.lst (nums D)) u = some (.lst (nums D)) := upd_same
      generalize upd H u (.lst (nums D)) = H1 at *
      refine ⟨u, rfl, ⟨_, SqL.of hu1⟩, for_list (K := K) (a := u) (xs := nums D)
        (fun i σ H' => ∃ v : Option V, σ = [some (.ref r), some (.ref t), some (.int (a : Nat)), v] ∧ L2.Same H1 H' ∧ ∀ x ∈ D.take i, md (l ++ [x]) a = true)
        ⟨none, rfl, L2.Same.refl H1, fun x hx => by simp at hx⟩ (fun i σ H' _ ⟨_, _, s, _⟩ => s.seq (SqL.of hu1)) ?_ ?_⟩
      · rintro i x σ H' hi ⟨v, rfl, s2, hm⟩
        obtain ⟨n, hn, rfl⟩ := nums_get hi
        have ht2 := s2 _ _ (s1 _ _ ht)
        refine ⟨_, rfl, _, rfl, _, rfl, by show 1 ≤ sizeLine; decide, fun y hy => ?_⟩
        refine ⟨t, y, _, _, rfl, rfl, by rw [upd_ne (ne_of_none ht2 hy)]; exact ht2, upd_same, ?_, fun z hz => ?_⟩
        · rw [nums_len]
          exact small_line (show l.length + 1 ≤ 4000 by omega)
        refine ⟨z, l ++ [n], a, rfl, SqL.of (by rw [upd_same]; exact congrArg (fun q => some (HO.lst q)) (nums_snoc l n)), by omega, ?_, ?_, fun H3 s3 => ?_⟩
        · intro x hx
          rcases List.mem_append.1 hx with hx | hx
          · exact hf.one x hx
          · rw [List.mem_singleton] at hx; subst hx
            exact dlo x (List.mem_of_getElem? hn)
        · rw [List.length_append, List.length_singleton]; omega
        have hz1 : H' z = none := by
          have : z ≠ y := fun e => by rw [e, upd_same] at hz; cases hz
          rw [upd_ne this] at hz; exact hz
        have s4 : L2.Same H1 H3 := (same_new (same_new s2 (same_no s2 hy)) (same_no s2 hz1)).trans s3
        refine ⟨_, rfl, ?_⟩
        by_cases c : md (l ++ [n]) a = true
        · rw [c]
          refine if_false_of rfl ?_
          refine ⟨_, rfl, s4, fun x hx => ?_⟩
          rw [take_more hn] at hx
          rcases List.mem_append.1 hx with hx | hx
          · exact hm x hx
          · rw [List.mem_singleton] at hx; subst hx; exact c
        · rw [Bool.not_eq_true] at c
          rw [c]
          refine if_true_of rfl ?_
          have an := no n (find_at hn (fun x hx => by rw [hm x hx]; rfl) (by rw [c]; rfl))
          refine ⟨_, rfl, _, rfl, by show 3 ≤ sizeLine; decide, fun p hp => q _ p (s1.trans (same_new s4 (same_no s4 hp))) (same_no s1 (same_no s4 hp)) ?_⟩
          rw [upd_same, an]; rfl
      · rintro σ H' ⟨v, rfl, s2, hm⟩
        rw [nums_len, List.take_length] at hm
        have an := yes (by
          unfold firstNo
          rw [List.find?_eq_none]
          intro x hx
          rw [hm x hx]; decide)
        refine ⟨_, rfl, by show 2 ≤ sizeLine; decide, fun p hp => q _ p (s1.trans (same_new s2 (same_no s2 hp))) (same_no s1 (same_no s2 hp)) ?_⟩
        rw [upd_same, an]; rfl
/-! ### looks_ahead -/
abbrev sLook : Stmt := inClass (top 40) 6
theorem scLook : FnScope ["self", "call", "left"] ["self", "call"] (defScope sLook) := ⟨rfl, rfl, rfl, by decide +kernel, rfl, by decide +kernel, by decide +kernel⟩
def spLook (C : Addr) : Sp := fun vs H Q E => ∃ (k : Uw60.Call) (c : Int), (k = .wins ∧ c = 4 ∨ k = .worth ∧ c = 5 ∨ k = .ender ∧ c = 6) ∧ spM C k [.int c] vs H Q E
theorem ok_look {f fC fL fR fI fO fE : Addr} {fd fdC fdL fdR fdI fdO fdE : FuncData} {t4 t5 t6 t7 t16 : Tok} (F : Fun K "looks_ahead" "Game.looks_ahead" sLook f fd) (T : Txt K mg C)
    (C2 : Ft K mg "common_divisor" sCom ["named"] fC fdC) (GC : ∀ base, FnOk P w K mg base CX0 2 fC fdC ["named"] (spCom K))
    (L : Ft K mg "numbers_left" sLeft ["named"] fL fdL) (GL : ∀ base, FnOk P w K mg base CX0 2 fL fdL ["named"] (spLeft K))
    (R : Ft K mg "refused" sRef ["refusal"] fR fdR)
    (I : Ft K mg "wins" sWi ["left"] fI fdI) (GI : ∀ base, FnOk P w K mg base CX0 20 fI fdI ["left"] spWi)
    (O : Ft K mg "worth_of" sWo ["left"] fO fdO) (GO : ∀ base, FnOk P w K mg base CX0 19 fO fdO ["left"] spWo)
    (N : Ft K mg "ender" sEn ["left", "named"] fE fdE) (GE : ∀ base, FnOk P w K mg base CX0 3 fE fdE ["left", "named"] spEn)
    (g6 : mg "DIVISOR_NOT_ONE" = some (.int 6 t6)) (g7 : mg "TOO_MANY_LEFT" = some (.int 7 t7)) (g16 : mg "MOST_LEFT" = some (.int 16 t16)) (g4 : mg "WINS" = some (.int 4 t4)) (g5 : mg "WORTH" = some (.int 5 t5)) (mL : mg "len" = none) :
    FnOk P w K mg base CX0 21 f fd ["self", "call"] (spLook C) := by
  have GR : ∀ base, FnOk P w K mg base CX0 1 fR fdR ["refusal"] spRef := fun _ => ok_ref R.F
  refine F.ok scLook (fun vs H Q E h => ?_) (fun cdv A outer s H vs Q E hr h => ?_)
  · obtain ⟨k, c, _, g, dx, p, l, rfl, _⟩ := h
    rfl
  · have hr1 : Room 1 _ := hr.mono (by decide)
    have hr2 : Room 2 _ := hr.mono (by decide)
    have hr3 : Room 3 _ := hr.mono (by decide)
    have hr19 : Room 19 _ := hr.mono (by decide)
    refine ⟨_, pss_cons (ps_if (pt_cmpR op_ne (pe_call (GC _) hr2 rfl C2.g C2.F.kp C2.b .nil pass0 (pa_cons (pe_fld (pv 0) rfl) pa_nil)) pe_int (nomark _))
        (pss_one (ps_ret (pe_call (GR _) hr1 rfl R.g R.F.kp R.b .nil pass0 (pa_cons (pe_glob (v := .int 6) rfl g6 ⟨_, rfl⟩) pa_nil)))) pss_nil)
      (pss_cons (ps_set (i := 2) scLook.nd rfl (Or.inl rfl) (pe_call (GL _) hr2 rfl L.g L.F.kp L.b .nil pass0 (pa_cons (pe_fld (pv 0) rfl) pa_nil)))
      (pss_cons (ps_if (pt_cmpR op_gt (pe_callB call_len_seq (by rfl) mL PySem.boot_len (pa_cons (pv 2) pa_nil)) (pe_glob (v := .int 16) rfl g16 ⟨_, rfl⟩) (nomark _))
        (pss_one (ps_ret (pe_call (GR _) hr1 rfl R.g R.F.kp R.b .nil pass0 (pa_cons (pe_glob (v := .int 7) rfl g7 ⟨_, rfl⟩) pa_nil)))) pss_nil)
      (pss_cons (ps_if (pt_cmpR op_eq (pv 1) (pe_glob (v := .int 4) rfl g4 ⟨_, rfl⟩) (nomark _))
        (pss_one (ps_ret (pe_call (GI _) hr rfl I.g I.F.kp I.b .nil pass0 (pa_cons (pv 2) pa_nil)))) pss_nil)
      (pss_cons (ps_if (pt_cmpR op_eq (pv 1) (pe_glob (v := .int 5) rfl g5 ⟨_, rfl⟩) (nomark _))
        (pss_one (ps_ret (pe_lst (pa_cons (pe_call (GO _) hr19 rfl O.g O.F.kp O.b .nil pass0 (pa_cons (pv 2) pa_nil)) pa_nil)))) pss_nil)
      (pss_one (ps_ret (pe_call (GE _) hr3 rfl N.g N.F.kp N.b .nil pass0 (pa_cons (pv 2) (pa_cons (pe_fld (pv 0) rfl) pa_nil))))))))), ?_⟩
    obtain ⟨k, c, kc, g, dx, p, l, rfl, o, hf, q⟩ := h
    have k3 : small3 k := by
      rcases kc with ⟨h, _⟩ | ⟨h, _⟩ | ⟨h, _⟩
      · exact .inl h
      · exact .inr (.inl h)
      · exact .inr (.inr h)
    rw [next_small k3] at q
    refine ⟨_, rfl, g, C, dx, _, _, rfl, o.ins, T.cl, T.nN, lk_named, p, l, rfl, SqL.of o.lst, ?_⟩
    refine ⟨rfl, _, rfl, ?_⟩
    by_cases cc : Uw60.common l = 1
    · refine if_false_of (by rw [cc]; exact congrArg Bool.not (decide_eq_true rfl)) ?_
      refine ⟨_, rfl, g, C, dx, _, _, rfl, o.ins, T.cl, T.nN, lk_named, p, l, rfl, SqL.of o.lst, fun x hx => ⟨by have := hf.in_ x hx; omega, (hf.in_ x hx).2⟩, hf.len, cc, fun H1 r s1 hr1 hR => ?_⟩
      have o1 := o.same s1
      have hR0 := hR
      have aW := ans_wins (l := l) cc
      have aO := ans_worth (l := l) cc
      have aM := ans3_many (l := l) k3 cc
      have gS := gaps_sl (l := l)
      have hE := fun (m : ¬ 16 < (Uw60.gaps l).length) (H2 : Hp) (u : Addr) (s2 : L2.Same H1 H2) (nu : H1 u = none) (hU : H2 u = some (.lst (zsV (ansOf l .ender)))) => Out.of_same (ans := ansOf l .ender) o (s1.trans s2) (same_no s1 nu) hU
      have gE : ∃ T, T = Uw60.gaps l := ⟨_, rfl⟩
      obtain ⟨T2, eT⟩ := gE
      rw [← eT] at hR aW aO aM gS
      refine ⟨_, rfl, r, _, rfl, .inl (SqL.of hR), ?_⟩
      rw [nums_len]
      refine ⟨_, _, rfl, rfl, _, rfl, ?_⟩
      by_cases m : 16 < T2.length
      · have an := aM m
        refine if_true_of (decide_eq_true (by omega)) ?_
        refine ⟨_, rfl, fun u hu => q _ u (Out.of_same o (same_new s1 (same_no s1 hu)) (same_no s1 hu) ?_)⟩
        rw [upd_same, an]
      · have hT := gS (by omega)
        refine if_false_of (decide_eq_false (by omega)) ?_
        refine ⟨_, rfl, rfl, _, rfl, ?_⟩
        rcases kc with ⟨rfl, rfl⟩ | ⟨rfl, rfl⟩ | ⟨rfl, rfl⟩
        · have an := aW m
          refine if_true_of (decide_eq_true rfl) ?_
          refine ⟨_, rfl, r, T2, rfl, hR, hT, by omega, fun H2 u s2 nu hU => q _ u (Out.of_same o (s1.trans s2) (same_no s1 nu) ?_)⟩
          rw [an]; exact hU
        · have an := aO m
          refine if_false_of (decide_eq_false (fun z => by have := V.int.inj z; omega)) ?_
          refine ⟨_, rfl, rfl, _, rfl, ?_⟩
          refine if_true_of (decide_eq_true rfl) ?_
          refine ⟨_, rfl, r, T2, rfl, hR, hT, by omega, fun H2 s2 => ?_⟩
          refine ⟨by show 1 ≤ sizeLine; decide, fun u hu => q _ u (Out.of_same o (same_new (s1.trans s2) (same_no (s1.trans s2) hu)) (same_no (s1.trans s2) hu) ?_)⟩
          rw [upd_same, an]; rfl
        · refine if_false_of (decide_eq_false (fun z => by have := V.int.inj z; omega)) ?_
          refine ⟨_, rfl, rfl, _, rfl, ?_⟩
          refine if_false_of (decide_eq_false (fun z => by have := V.int.inj z; omega)) ?_
          rw [eT] at m
          refine ⟨_, rfl, _, rfl, g, C, dx, _, _, rfl, o1.ins, T.cl, T.nN, lk_named, r, p, l, rfl, hR0, o1.lst, hf, cc, m, fun H2 u s2 nu hU => q _ u (hE m H2 u s2 nu hU)⟩
    · have an := ans3_no k3 cc
      refine if_true_of (congrArg Bool.not (decide_eq_false (fun z => cc (by have := V.int.inj z; omega)))) ?_
      refine ⟨_, rfl, fun u hu => q _ u (Out.of_same o (same_new (L2.Same.refl H) hu) hu ?_)⟩
      rw [upd_same, an]
/-! ### undo -/
abbrev sUnd : Stmt := inClass (top 40) 7
theorem scUnd : FnScope ["self"] ["self"] (defScope sUnd) := ⟨rfl, rfl, rfl, by decide +kernel, rfl, by decide +kernel, by decide +kernel⟩
theorem ok_und {f fR fS : Addr} {fd fdR fdS : FuncData} {t9 : Tok} (F : Fun K "undo" "Game.undo" sUnd f fd) (T : Txt K mg C)
    (S : Mt K C "standing" "Game.standing" sSta ["self"] fS fdS) (GS : ∀ base, FnOk P w K mg base CX0 3 fS fdS ["self"] (spSta C))
    (R : Ft K mg "refused" sRef ["refusal"] fR fdR) (g9 : mg "NONE_NAMED" = some (.int 9 t9)) (mL : mg "len" = none) :
    FnOk P w K mg base CX0 4 f fd ["self"] (spM C .undo []) := by
  have GR : ∀ base, FnOk P w K mg base CX0 1 fR fdR ["refusal"] spRef := fun _ => ok_ref R.F
  refine F.ok scUnd (fun vs H Q E h => ?_) (fun cdv A outer s H vs Q E hr h => ?_)
  · obtain ⟨g, dx, p, l, rfl, _⟩ := h
    rfl
  · have hr1 : Room 1 _ := hr.mono (by decide)
    refine ⟨_, pss_cons (ps_if (pt_cmpR op_eq (pe_callB call_len_seq (by rfl) mL PySem.boot_len (pa_cons (pe_fld (pv 0) rfl) pa_nil)) pe_int (nomark _))
        (pss_one (ps_ret (pe_call (GR _) hr1 rfl R.g R.F.kp R.b .nil pass0 (pa_cons (pe_glob (v := .int 9) rfl g9 ⟨_, rfl⟩) pa_nil)))) pss_nil)
      (pss_cons (ps_expr (pe_bm0 PySem.F.plainAttrs_list PySem.F.slot_list_pop PySem.F.type_list_pop mt_pop (pe_fld (pv 0) rfl)))
      (pss_one (ps_ret (pe_meth0 (pv 0) T.cl S.m (GS _) hr S.b .nil pass0)))), ?_⟩
    obtain ⟨g, dx, p, l, rfl, o, hf, q⟩ := h
    refine ⟨_, rfl, g, C, dx, _, _, rfl, o.ins, T.cl, T.nN, lk_named, p, _, rfl, .inl (SqL.of o.lst), ?_⟩
    rw [nums_len]
    refine ⟨rfl, _, rfl, ?_⟩
    rcases List.eq_nil_or_concat l with rfl | ⟨D, a, rfl⟩
    · refine if_true_of (decide_eq_true rfl) ?_
      refine ⟨_, rfl, fun u hu => q _ u ?_⟩
      rw [step_undo_no.1, step_undo_no.2]
      exact Out.of_same o (same_new (L2.Same.refl H) hu) hu upd_same
    · rw [List.concat_eq_append] at *
      have su := step_undo (l := D ++ [a]) (by simp)
      rw [List.dropLast_concat] at su
      rw [su.1, su.2] at q
      have hD := hf.drop
      rw [List.dropLast_concat] at hD
      have oL := o.lst
      rw [← nums_snoc] at oL
      rw [List.length_append, List.length_singleton]
      refine if_false_of (decide_eq_false (fun z => by have := V.int.inj z; omega)) ?_
      refine ⟨_, rfl, g, C, dx, _, _, rfl, o.ins, T.cl, T.nN, lk_named, .inl ⟨rfl, _, SqL.of oL⟩, p, _, V.int (a : Nat), rfl, rfl, oL, ?_, ?_⟩
      · rw [List.length_append, List.length_singleton, Nat.add_sub_cancel, List.getElem?_append_right (Nat.le_refl _), Nat.sub_self]; rfl
      rw [List.dropLast_concat]
      have hne := o.ne
      have o2 : Own C (upd H p (.lst (nums D))) g dx p D := ⟨by rw [upd_ne hne.symm]; exact o.ins, upd_same⟩
      refine ⟨_, rfl, g, dx, _, rfl, o2.ins, ?_, g, dx, p, D, rfl, o2, hD, fun H' u s2 hu hU => q H' u ?_⟩
      · exact lk_past (by decide +kernel)
      · exact ⟨⟨p, .inl rfl, o2.same s2⟩, hU, upd_none hu, fun b u hb hbg hbp => s2 _ _ (by rw [upd_ne hbp]; exact hb)⟩
end
end Nt
set_option Elab.async false
set_option linter.all false
set_option maxRecDepth 100000
set_option maxHeartbeats 2000000
namespace Nt
open PySem PySem.Spec PyProof.Rows L2
/-- a call's number, what is handed in behind it -/
inductive Kc : Int → V → Uw60.Call → Prop
  | one {p : Int} {k : Uw60.Call} : One p k → Kc p .non k
  | two {p n : Int} {k : Uw60.Call} : Two p n k → Kc p (.int n) k
theorem ne_int {a b : Int} (h : a ≠ b) : decide (V.int a = V.int b) = false := decide_eq_false (fun z => h (V.int.inj z))
section
variable {P : Program} {w : World} {K : PySem.W.Frag} {mg : Str → Option Value} {base : Heap} {C : Addr}
/-! ### answer -/
abbrev sDo : Stmt := inClass (top 40) 8
theorem scDo : FnScope ["self", "call", "number"] ["self", "call", "number"] (defScope sDo) := ⟨rfl, rfl, rfl, by decide +kernel, rfl, by decide +kernel, by decide +kernel⟩
def spDo (C : Addr) : Sp := fun vs H Q E => ∃ (k : Uw60.Call) (p : Int) (v : V), Kc p v k ∧ spM C k [.int p, v] vs H Q E
theorem ok_do {f fB fN fG fM fL fU : Addr} {fd fdB fdN fdG fdM fdL fdU : FuncData} {t0 t1 t2 t3 t4 t5 t6 t7 : Tok} (F : Fun K "answer" "Game.answer" sDo f fd) (T : Txt K mg C)
    (B : Mt K C "begins" "Game.begins" sBeg ["self"] fB fdB) (GB : ∀ base, FnOk P w K mg base CX0 1 fB fdB ["self"] (spM C .begins []))
    (N : Mt K C "names" "Game.names" sNam ["self", "number"] fN fdN) (GN : ∀ base, FnOk P w K mg base CX0 4 fN fdN ["self", "number"] (spNames C))
    (G : Mt K C "gaps" "Game.gaps" sGap ["self"] fG fdG) (GG : ∀ base, FnOk P w K mg base CX0 3 fG fdG ["self"] (spM C .gaps []))
    (M : Mt K C "makes" "Game.makes" sMak ["self", "number"] fM fdM) (GM : ∀ base, FnOk P w K mg base CX0 4 fM fdM ["self", "number"] (spMakes C))
    (L : Mt K C "looks_ahead" "Game.looks_ahead" sLook ["self", "call"] fL fdL) (GL : ∀ base, FnOk P w K mg base CX0 21 fL fdL ["self", "call"] (spLook C))
    (U : Mt K C "undo" "Game.undo" sUnd ["self"] fU fdU) (GU : ∀ base, FnOk P w K mg base CX0 4 fU fdU ["self"] (spM C .undo []))
    (g0 : mg "BEGINS" = some (.int 0 t0)) (g1 : mg "NAMES" = some (.int 1 t1)) (g2 : mg "GAPS" = some (.int 2 t2)) (g3 : mg "MAKES" = some (.int 3 t3))
    (g4 : mg "WINS" = some (.int 4 t4)) (g5 : mg "WORTH" = some (.int 5 t5)) (g6 : mg "ENDER" = some (.int 6 t6)) (g7 : mg "UNDO" = some (.int 7 t7)) :
    FnOk P w K mg base CX0 22 f fd ["self", "call", "number"] (spDo C) := by
  refine F.ok scDo (fun vs H Q E h => ?_) (fun cdv A outer s H vs Q E hr h => ?_)
  · obtain ⟨k, p, v, _, g, dx, q, l, rfl, _⟩ := h
    rfl
  · have hr1 : Room 1 _ := hr.mono (by decide)
    have hr3 : Room 3 _ := hr.mono (by decide)
    have hr4 : Room 4 _ := hr.mono (by decide)
    refine ⟨_, pss_cons (ps_if (pt_cmpR op_eq (pv 1) (pe_glob (v := .int 0) rfl g0 ⟨_, rfl⟩) (nomark _)) (pss_one (ps_ret (pe_meth0 (pv 0) T.cl B.m (GB _) hr1 B.b .nil pass0))) pss_nil)
      (pss_cons (ps_if (pt_cmpR op_eq (pv 1) (pe_glob (v := .int 1) rfl g1 ⟨_, rfl⟩) (nomark _)) (pss_one (ps_ret (pe_meth (pv 0) T.cl N.m (GN _) hr4 N.b .nil pass0 (pa_cons (pv 2) pa_nil)))) pss_nil)
      (pss_cons (ps_if (pt_cmpR op_eq (pv 1) (pe_glob (v := .int 2) rfl g2 ⟨_, rfl⟩) (nomark _)) (pss_one (ps_ret (pe_meth0 (pv 0) T.cl G.m (GG _) hr3 G.b .nil pass0))) pss_nil)
      (pss_cons (ps_if (pt_cmpR op_eq (pv 1) (pe_glob (v := .int 3) rfl g3 ⟨_, rfl⟩) (nomark _)) (pss_one (ps_ret (pe_meth (pv 0) T.cl M.m (GM _) hr4 M.b .nil pass0 (pa_cons (pv 2) pa_nil)))) pss_nil)
      (pss_cons (ps_if (PW.pt (pw_or (pt_cmpR op_eq (pv 1) (pe_glob (v := .int 4) rfl g4 ⟨_, rfl⟩) (nomark _)) (pw_or (pt_cmpR op_eq (pv 1) (pe_glob (v := .int 5) rfl g5 ⟨_, rfl⟩) (nomark _)) (pw_or1 (pt_cmpR op_eq (pv 1) (pe_glob (v := .int 6) rfl g6 ⟨_, rfl⟩) (nomark _)))))) (pss_one (ps_ret (pe_meth (pv 0) T.cl L.m (GL _) hr L.b .nil pass0 (pa_cons (pv 1) pa_nil)))) pss_nil)
      (pss_cons (ps_if (pt_cmpR op_eq (pv 1) (pe_glob (v := .int 7) rfl g7 ⟨_, rfl⟩) (nomark _)) (pss_one (ps_ret (pe_meth0 (pv 0) T.cl U.m (GU _) hr4 U.b .nil pass0))) pss_nil)
      (pss_one ps_never)))))), ?_⟩
    obtain ⟨k, c, v, kc, g, dx, p, l, rfl, o, hf, q⟩ := h
    have nb : ∀ m : Str, (m == ("named" : Str)) = false → List.lookup m [("named", V.ref p)] = none := fun m e => lk_past e
    cases kc with
    | one h =>
     cases h with
     | begins =>
      refine ⟨_, rfl, rfl, _, rfl, if_true_of (decide_eq_true rfl) ?_⟩
      exact ⟨_, rfl, g, dx, _, rfl, o.ins, nb _ (by decide +kernel), g, dx, p, l, rfl, o, hf, q⟩
     | gaps =>
      refine ⟨_, rfl, rfl, _, rfl, if_false_of (ne_int (by decide)) ?_⟩
      refine ⟨_, rfl, rfl, _, rfl, if_false_of (ne_int (by decide)) ?_⟩
      refine ⟨_, rfl, rfl, _, rfl, if_true_of (decide_eq_true rfl) ?_⟩
      exact ⟨_, rfl, g, dx, _, rfl, o.ins, nb _ (by decide +kernel), g, dx, p, l, rfl, o, hf, q⟩
     | wins =>
      refine ⟨_, rfl, rfl, _, rfl, if_false_of (ne_int (by decide)) ?_⟩
      refine ⟨_, rfl, rfl, _, rfl, if_false_of (ne_int (by decide)) ?_⟩
      refine ⟨_, rfl, rfl, _, rfl, if_false_of (ne_int (by decide)) ?_⟩
      refine ⟨_, rfl, rfl, _, rfl, if_false_of (ne_int (by decide)) ?_⟩
      refine ⟨_, rfl, rfl, _, rfl, if_true_of (decide_eq_true rfl) ?_⟩
      refine if_true_of rfl ?_
      exact ⟨_, rfl, g, dx, _, rfl, o.ins, nb _ (by decide +kernel), _, rfl, .wins, 4, .inl ⟨rfl, rfl⟩, g, dx, p, l, rfl, o, hf, q⟩
     | worth =>
      refine ⟨_, rfl, rfl, _, rfl, if_false_of (ne_int (by decide)) ?_⟩
      refine ⟨_, rfl, rfl, _, rfl, if_false_of (ne_int (by decide)) ?_⟩
      refine ⟨_, rfl, rfl, _, rfl, if_false_of (ne_int (by decide)) ?_⟩
      refine ⟨_, rfl, rfl, _, rfl, if_false_of (ne_int (by decide)) ?_⟩
      refine ⟨_, rfl, rfl, _, rfl, if_false_of (ne_int (by decide)) ?_⟩
      refine ⟨_, rfl, rfl, _, rfl, if_true_of (decide_eq_true rfl) ?_⟩
      refine if_true_of rfl ?_
      exact ⟨_, rfl, g, dx, _, rfl, o.ins, nb _ (by decide +kernel), _, rfl, .worth, 5, .inr (.inl ⟨rfl, rfl⟩), g, dx, p, l, rfl, o, hf, q⟩
     | ender =>
      refine ⟨_, rfl, rfl, _, rfl, if_false_of (ne_int (by decide)) ?_⟩
      refine ⟨_, rfl, rfl, _, rfl, if_false_of (ne_int (by decide)) ?_⟩
      refine ⟨_, rfl, rfl, _, rfl, if_false_of (ne_int (by decide)) ?_⟩
      refine ⟨_, rfl, rfl, _, rfl, if_false_of (ne_int (by decide)) ?_⟩
      refine ⟨_, rfl, rfl, _, rfl, if_false_of (ne_int (by decide)) ?_⟩
      refine ⟨_, rfl, rfl, _, rfl, if_false_of (ne_int (by decide)) ?_⟩
      refine ⟨_, rfl, rfl, _, rfl, if_true_of (decide_eq_true rfl) ?_⟩
      exact ⟨_, rfl, g, dx, _, rfl, o.ins, nb _ (by decide +kernel), _, rfl, .ender, 6, .inr (.inr ⟨rfl, rfl⟩), g, dx, p, l, rfl, o, hf, q⟩
     | undo =>
      refine ⟨_, rfl, rfl, _, rfl, if_false_of (ne_int (by decide)) ?_⟩
      refine ⟨_, rfl, rfl, _, rfl, if_false_of (ne_int (by decide)) ?_⟩
      refine ⟨_, rfl, rfl, _, rfl, if_false_of (ne_int (by decide)) ?_⟩
      refine ⟨_, rfl, rfl, _, rfl, if_false_of (ne_int (by decide)) ?_⟩
      refine ⟨_, rfl, rfl, _, rfl, if_false_of (ne_int (by decide)) ?_⟩
      refine ⟨_, rfl, rfl, _, rfl, if_false_of (ne_int (by decide)) ?_⟩
      refine ⟨_, rfl, rfl, _, rfl, if_false_of (ne_int (by decide)) ?_⟩
      refine ⟨_, rfl, rfl, _, rfl, if_true_of (decide_eq_true rfl) ?_⟩
      exact ⟨_, rfl, g, dx, _, rfl, o.ins, nb _ (by decide +kernel), g, dx, p, l, rfl, o, hf, q⟩
    | two h =>
     cases h with
     | names n =>
      refine ⟨_, rfl, rfl, _, rfl, if_false_of (ne_int (by decide)) ?_⟩
      refine ⟨_, rfl, rfl, _, rfl, if_true_of (decide_eq_true rfl) ?_⟩
      exact ⟨_, rfl, g, dx, _, rfl, o.ins, nb _ (by decide +kernel), _, rfl, n, g, dx, p, l, rfl, o, hf, q⟩
     | makes n =>
      refine ⟨_, rfl, rfl, _, rfl, if_false_of (ne_int (by decide)) ?_⟩
      refine ⟨_, rfl, rfl, _, rfl, if_false_of (ne_int (by decide)) ?_⟩
      refine ⟨_, rfl, rfl, _, rfl, if_false_of (ne_int (by decide)) ?_⟩
      refine ⟨_, rfl, rfl, _, rfl, if_true_of (decide_eq_true rfl) ?_⟩
      exact ⟨_, rfl, g, dx, _, rfl, o.ins, nb _ (by decide +kernel), _, rfl, n, g, dx, p, l, rfl, o, hf, q⟩
end
end Nt
set_option Elab.async false
set_option linter.all false
set_option maxRecDepth 100000
set_option maxHeartbeats 2000000
namespace Nt
open PySem PySem.Spec PyProof.Rows L2
theorem zsV_get {ns : List Int} {i : Nat} {p : Int} (h : ns[i]? = some p) : (zsV ns)[i]? = some (V.int p) := by
  unfold zsV
  rw [List.getElem?_map, h]; rfl
theorem zsV_len (ns : List Int) : (zsV ns).length = ns.length := List.length_map _
theorem zsV_more (acc ans : List Int) (n : Nat) : zsV acc ++ [V.int (n : Nat)] ++ zsV ans = zsV (acc ++ ((n : Int) :: ans)) := by
  unfold zsV
  rw [List.map_append, List.append_assoc]; rfl
section
variable {P : Program} {w : World} {K : PySem.W.Frag} {mg : Str → Option Value} {base : Heap} {C : Addr}
/-- all that stands between two calls -/
structure Mid (C : Addr) (H0 : Hp) (g dx t : Addr) (ns R : List Int) (i : Nat) (l : List Nat) (csr : List (List Int)) (p : Addr) (acc : List Int) (H : Hp) : Prop where
  le : i ≤ ns.length
  dec : Dec (ns.drop i) csr
  calls : ∀ c ∈ csr, (Uw60Neutral.callOf c).isSome = true
  own : Own C H g dx p l
  fine : Fine l
  told : H t = some (.lst (zsV acc))
  sum : acc ++ tl ⟨l⟩ csr = R
  same : L2.Same H0 H
  np : H0 p = none
  tp : t ≠ p
/-- behind one call more -/
theorem Mid.next {H0 H H2 : Hp} {g dx t p q : Addr} {ns R acc : List Int} {i j : Nat} {l : List Nat} {c : List Int} {cs : List (List Int)} {k : Uw60.Call}
    (m : Mid C H0 g dx t ns R i l (c :: cs) p acc H) (hg : H0 g = none) (ht : H0 t = none) (hk : Uw60Neutral.callOf c = some k) (hj : j ≤ ns.length) (hd : Dec (ns.drop j) cs)
    (o : Out C H g dx p H2 (nextOf l k) q (ansOf l k)) :
    H2 t = some (.lst (zsV acc)) ∧ upd H2 t (.lst (zsV acc ++ [V.int ((ansOf l k).length : Nat)])) q = some (.lst (zsV (ansOf l k))) ∧ acc.length + 1 + (ansOf l k).length ≤ R.length ∧
    ∃ p', Mid C H0 g dx t ns R j (nextOf l k) cs p' (acc ++ (((ansOf l k).length : Int) :: ansOf l k)) (upd (upd H2 t (.lst (zsV acc ++ [V.int ((ansOf l k).length : Nat)]))) t (.lst (zsV acc ++ [V.int ((ansOf l k).length : Nat)] ++ zsV (ansOf l k)))) := by
  have tg : t ≠ g := ne_of m.told m.own.ins (by intro z; cases z)
  have hT2 := o.keep _ _ m.told tg m.tp
  have tq : t ≠ q := ne_of_none m.told o.new
  have sm := m.sum
  rw [tl_cons hk] at sm
  obtain ⟨p', hp', own'⟩ := o.own
  have tp' : t ≠ p' := by
    rcases hp' with e | e
    · rw [e]; exact m.tp
    · exact ne_of_none m.told e
  refine ⟨hT2, by rw [upd_ne tq.symm]; exact o.ans, ?_, p', hj, hd, fun c hc => m.calls c (List.mem_cons_of_mem _ hc), ⟨?_, ?_⟩, fine_next m.fine k, ?_, ?_, fun b u hb => ?_, ?_, tp'⟩
  · rw [← sm, List.length_append, List.length_append, List.length_cons]; omega
  · rw [upd_ne tg.symm, upd_ne tg.symm]; exact own'.ins
  · rw [upd_ne tp'.symm, upd_ne tp'.symm]; exact own'.lst
  · rw [upd_same, zsV_more]
  · rw [← sm, List.append_assoc]
  · have bt : b ≠ t := ne_of_none hb ht
    have bg : b ≠ g := ne_of_none hb hg
    have bp : b ≠ p := ne_of_none hb m.np
    rw [upd_ne bt, upd_ne bt]
    exact o.keep _ _ (m.same _ _ hb) bg bp
  · rcases hp' with e | e
    · rw [e]; exact m.np
    · exact same_no m.same e
/-! ### answers -/
abbrev sAns : Stmt := top 41
theorem scAns : FnScope ["calls", "game", "told", "place", "call", "number", "answer"] ["calls"] (defScope sAns) := ⟨rfl, rfl, rfl, by decide +kernel, rfl, by decide +kernel, by decide +kernel⟩
def spAns (K : PySem.W.Frag) : Sp := fun vs H Q _ => ∃ (a : Addr) (ns : List Int) (cs : List (List Int)), vs = [.ref a] ∧ SqL K H a (zsV ns) ∧ Dec ns cs ∧ (∀ c ∈ cs, (Uw60Neutral.callOf c).isSome = true) ∧ (tl Uw60.init cs).length ≤ 10000000 ∧
  ∀ (H' : Hp) (p : Addr), H' p = some (.lst (zsV (tl Uw60.init cs))) → Q (.ref p) H'
theorem ok_ans {f fI fD : Addr} {fd fdI fdD : FuncData} {t1 t3 : Tok} (F : Fun K "answers" "answers" sAns f fd) (T : Txt K mg C) (gC : mg "Game" = some (.ref C)) (Z : L2.Mk K C fI)
    (FI : Fun K "__init__" "Game.__init__" sInit fI fdI) (bI : Binds K fdI ["self"] [])
    (D : Mt K C "answer" "Game.answer" sDo ["self", "call", "number"] fD fdD) (GD : ∀ base, FnOk P w K mg base CX0 22 fD fdD ["self", "call", "number"] (spDo C))
    (g1 : mg "NAMES" = some (.int 1 t1)) (g3 : mg "MAKES" = some (.int 3 t3)) (mL : mg "len" = none) :
    FnOk P w K mg base CX0 23 f fd ["calls"] (spAns K) := by
  have GI : ∀ base, FnOk P w K mg base CX0 1 fI fdI ["self"] (spInit C) := fun _ => ok_init FI T
  refine F.ok scAns (fun vs H Q E h => ?_) (fun cdv A outer s H vs Q E hr h => ?_)
  · obtain ⟨a, ns, cs, rfl, _⟩ := h
    rfl
  · have hr2 : Room 2 _ := hr.mono (by decide)
    refine ⟨_, pss_cons (ps_set (i := 1) scAns.nd rfl (Or.inl rfl) (pe_make0 Z (GI _) hr2 rfl gC bI .nil pass0))
      (pss_cons (ps_set (i := 2) scAns.nd rfl (Or.inl rfl) (pe_lst pa_nil))
      (pss_cons (ps_set (i := 3) scAns.nd rfl (Or.inl rfl) pe_int)
      (pss_cons (ps_while PassesOwn.never (pt_cmpR op_lt (pv 3) (pe_callB call_len_seq (by rfl) mL PySem.boot_len (pa_cons (pv 0) pa_nil)) (nomark _))
        (pss_cons (ps_set (i := 4) scAns.nd rfl (Or.inl rfl) (pe_ix ix_list (pv 0) (pv 3) (fun _ _ => rfl)))
        (pss_cons (ps_aug (i := 3) scAns.nd rfl (Or.inl rfl) pe_int ip_add)
        (pss_cons (ps_set (i := 5) scAns.nd rfl (Or.inl rfl) pe_non)
        (pss_cons (ps_if (PW.pt (pw_or (pt_cmpR op_eq (pv 4) (pe_glob (v := .int 1) rfl g1 ⟨_, rfl⟩) (nomark _)) (pw_or1 (pt_cmpR op_eq (pv 4) (pe_glob (v := .int 3) rfl g3 ⟨_, rfl⟩) (nomark _)))))
          (pss_cons (ps_set (i := 5) scAns.nd rfl (Or.inl rfl) (pe_ix ix_list (pv 0) (pv 3) (fun _ _ => rfl)))
          (pss_one (ps_aug (i := 3) scAns.nd rfl (Or.inl rfl) pe_int ip_add))) pss_nil)
        (pss_cons (ps_set (i := 6) scAns.nd rfl (Or.inl rfl) (pe_meth (pv 1) T.cl D.m (GD _) hr D.b .nil pass0 (pa_cons (pv 4) (pa_cons (pv 5) pa_nil))))
        (pss_cons (ps_expr (pe_bm PySem.F.plainAttrs_list PySem.F.slot_list_append PySem.F.type_list_append mt_append (pv 2) (pa_cons (pe_callB call_len_seq (by rfl) mL PySem.boot_len (pa_cons (pv 6) pa_nil)) pa_nil)))
        (pss_one (ps_expr (pe_bm PySem.F.plainAttrs_list PySem.F.slot_list_extend PySem.F.type_list_extend mt_extend (pv 2) (pa_cons (pv 6) pa_nil)))))))))))
      (pss_one (ps_ret (pv 2)))))), ?_⟩
    obtain ⟨a, ns, cs, rfl, hS, hd, hcs, hlen, q⟩ := h
    intro g dx ng nd ne
    refine ⟨g, dx, rfl, upd_same, fun H1 p hp own kp => ⟨rfl, ?_⟩⟩
    have s1 : L2.Same H H1 := L2.Same.made ng nd kp
    have np : H p = none := upd_none (upd_none hp)
    refine ⟨by show 0 ≤ sizeLine; decide, fun t ht => ?_⟩
    have nt : H t = none := same_no s1 ht
    have line : (10000000 : Nat) < sizeLine := by decide
    have hinit : Uw60.init = ⟨[]⟩ := rfl
    rw [hinit] at hlen q
    obtain ⟨R, eR⟩ : ∃ R, R = tl ⟨[]⟩ cs := ⟨_, rfl⟩
    rw [← eR] at hlen q
    have m0 : Mid C H g dx t ns R 0 [] cs p [] (upd H1 t (.lst [])) := ⟨Nat.zero_le _, hd, hcs, ⟨by rw [upd_ne (ne_of_none own.ins ht)]; exact own.ins, by rw [upd_ne (ne_of_none own.lst ht)]; exact own.lst⟩, Fine.nil, upd_same, by rw [eR]; rfl, same_new s1 nt, np, (ne_of_none own.lst ht).symm⟩
    refine while_by (fun σ H' => ∃ (i : Nat) (l : List Nat) (csr : List (List Int)) (p : Addr) (acc : List Int) (v4 v5 v6 : Option V), σ = [some (.ref a), some (.ref g), some (.ref t), some (.int (i : Nat)), v4, v5, v6] ∧ Mid C H g dx t ns R i l csr p acc H')
      (fun σ _ => match σ with | [_, _, _, some (.int i), _, _, _] => ns.length - i.toNat | _ => 0) ⟨0, [], cs, p, [], none, none, none, rfl, m0⟩ ?_
      (fun σ H Q Q' h ⟨v, e, v2, e2, p, xs, e3, hs, i, j, e4, e5, c, ec, z⟩ => ⟨v, e, v2, e2, p, xs, e3, hs, i, j, e4, e5, c, ec, h _ _ z⟩)
    clear m0 own hp np ht hd hcs eR
    rintro σ H' ⟨i, l, csr, p, acc, v4, v5, v6, rfl, m⟩
    have hS' := m.same.seq hS
    refine ⟨_, rfl, _, rfl, a, _, rfl, .inl hS', ?_⟩
    rw [zsV_len]
    refine ⟨_, _, rfl, rfl, _, rfl, ?_⟩
    by_cases c : i < ns.length
    · refine if_true_of (decide_eq_true (by omega)) ?_
      rcases dec_at m.dec c with ⟨pc, cs, rfl, h1, hp, hd⟩ | ⟨pc, n, cs, rfl, h1, h2, hp, hd, hj⟩
      · obtain ⟨k, hk, ho⟩ := one_of hp
        refine ⟨_, rfl, _, rfl, a, _, _, V.int pc, rfl, rfl, hS', atI_nat (zsV_get h1), ?_⟩
        refine ⟨_, rfl, _, _, rfl, rfl, ?_⟩
        refine ⟨_, rfl, rfl, _, rfl, if_false_of (ne_int (by omega)) ?_⟩
        refine ⟨_, rfl, rfl, _, rfl, if_false_of (ne_int (by omega)) ?_⟩
        refine ⟨_, rfl, g, dx, _, rfl, m.own.ins, lk_past (by decide +kernel), _, rfl, _, rfl, k, pc, V.non, .one ho, g, dx, p, l, rfl, m.own, m.fine, fun H2 q2 o => ?_⟩
        obtain ⟨hT2, hq2, hle, p', m'⟩ := m.next ng nt hk c hd o
        generalize hA : ansOf l k = ans at *
        refine ⟨_, rfl, .inl ⟨rfl, _, SqL.of hT2⟩, _, rfl, q2, _, rfl, .inl (SqL.of o.ans), ?_⟩
        rw [zsV_len]
        refine ⟨t, _, _, rfl, rfl, hT2, ?_, ?_⟩
        · rw [zsV_len]; omega
        refine ⟨_, rfl, .inl ⟨rfl, _, SqL.of upd_same⟩, _, rfl, t, q2, _, _, rfl, rfl, upd_same, hq2, ?_, ?_⟩
        · rw [List.length_append, zsV_len, zsV_len, List.length_singleton]; omega
        refine ⟨⟨_, _, _, p', _, _, _, _, rfl, m'⟩, ?_⟩
        show ns.length - ((i : Int) + 1).toNat < ns.length - ((i : Nat) : Int).toNat
        omega
      · obtain ⟨k, hk, ho⟩ := two_of hp (m.calls _ List.mem_cons_self)
        refine ⟨_, rfl, _, rfl, a, _, _, V.int pc, rfl, rfl, hS', atI_nat (zsV_get h1), ?_⟩
        refine ⟨_, rfl, _, _, rfl, rfl, ?_⟩
        rcases hp with rfl | rfl
        · refine ⟨_, rfl, rfl, _, rfl, if_true_of (decide_eq_true rfl) ?_⟩
          refine if_true_of rfl ?_
          refine ⟨_, rfl, _, rfl, a, _, _, V.int n, rfl, rfl, hS', atI_nat (j := i + 1) (zsV_get h2), ?_⟩
          refine ⟨_, rfl, _, _, rfl, rfl, ?_⟩
          refine ⟨_, rfl, g, dx, _, rfl, m.own.ins, lk_past (by decide +kernel), _, rfl, _, rfl, k, 1, V.int n, .two ho, g, dx, p, l, rfl, m.own, m.fine, fun H2 q2 o => ?_⟩
          obtain ⟨hT2, hq2, hle, p', m'⟩ := m.next ng nt hk hj hd o
          generalize hA : ansOf l k = ans at *
          refine ⟨_, rfl, .inl ⟨rfl, _, SqL.of hT2⟩, _, rfl, q2, _, rfl, .inl (SqL.of o.ans), ?_⟩
          rw [zsV_len]
          refine ⟨t, _, _, rfl, rfl, hT2, ?_, ?_⟩
          · rw [zsV_len]; omega
          refine ⟨_, rfl, .inl ⟨rfl, _, SqL.of upd_same⟩, _, rfl, t, q2, _, _, rfl, rfl, upd_same, hq2, ?_, ?_⟩
          · rw [List.length_append, zsV_len, zsV_len, List.length_singleton]; omega
          refine ⟨⟨_, _, _, p', _, _, _, _, rfl, m'⟩, ?_⟩
          show ns.length - ((i : Int) + 1 + 1).toNat < ns.length - ((i : Nat) : Int).toNat
          omega
        · refine ⟨_, rfl, rfl, _, rfl, if_false_of (ne_int (by omega)) ?_⟩
          refine ⟨_, rfl, rfl, _, rfl, if_true_of (decide_eq_true rfl) ?_⟩
          refine ⟨_, rfl, _, rfl, a, _, _, V.int n, rfl, rfl, hS', atI_nat (j := i + 1) (zsV_get h2), ?_⟩
          refine ⟨_, rfl, _, _, rfl, rfl, ?_⟩
          refine ⟨_, rfl, g, dx, _, rfl, m.own.ins, lk_past (by decide +kernel), _, rfl, _, rfl, k, 3, V.int n, .two ho, g, dx, p, l, rfl, m.own, m.fine, fun H2 q2 o => ?_⟩
          obtain ⟨hT2, hq2, hle, p', m'⟩ := m.next ng nt hk hj hd o
          generalize hA : ansOf l k = ans at *
          refine ⟨_, rfl, .inl ⟨rfl, _, SqL.of hT2⟩, _, rfl, q2, _, rfl, .inl (SqL.of o.ans), ?_⟩
          rw [zsV_len]
          refine ⟨t, _, _, rfl, rfl, hT2, ?_, ?_⟩
          · rw [zsV_len]; omega
          refine ⟨_, rfl, .inl ⟨rfl, _, SqL.of upd_same⟩, _, rfl, t, q2, _, _, rfl, rfl, upd_same, hq2, ?_, ?_⟩
          · rw [List.length_append, zsV_len, zsV_len, List.length_singleton]; omega
          refine ⟨⟨_, _, _, p', _, _, _, _, rfl, m'⟩, ?_⟩
          show ns.length - ((i : Int) + 1 + 1).toNat < ns.length - ((i : Nat) : Int).toNat
          omega
    · refine if_false_of (decide_eq_false (by omega)) ?_
      have hd := m.dec
      rw [List.drop_eq_nil_of_le (by omega)] at hd
      have hs := m.sum
      rw [dec_end hd] at hs
      have hs : acc = R := by rw [← hs]; exact (List.append_nil _).symm
      refine ⟨_, rfl, q _ t ?_⟩
      rw [← hs]; exact m.told
end
end Nt
set_option Elab.async false
set_option linter.all false
set_option maxRecDepth 100000
set_option maxHeartbeats 2000000
namespace Nt
open PySem PySem.Spec PyProof.Rows L2
/-! ### the end: what the top has written -/
theorem all_mk {P : Program} {w : World} {K : PySem.W.Frag} {h : Heap} {mg : Str → Option Value} {fa C f1 f2 f3 f4 f5 f6 f7 f8 f9 f10 f11 f12 f13 f14 f15 f16 f17 f18 f19 f20 f21 f22 f23 f24 f25 : Addr} (X : K.In h) (G : h.Ns mainGlobals mg) (hfa : mg "answers" = some (.ref fa))
    {od1 an1 od2 an2 od3 an3 od4 an4 od5 an5 od6 an6 od7 an7 od8 an8 od9 an9 od10 an10 od11 an11 od12 an12 od13 an13 od14 an14 od15 an15 od16 an16 od17 an17 od18 an18 od19 an19 od20 an20 od21 an21 od22 an22 od23 an23 od24 an24 od25 an25 : Option Addr} {sl1 sl2 sl3 sl4 sl5 sl6 sl7 sl8 sl9 sl10 sl11 sl12 sl13 sl14 sl15 sl16 sl17 sl18 sl19 sl20 sl21 sl22 sl23 sl24 sl25 : Array (Option Value)} {oc1 kV1 dc1 pm1 cd1 ct1 oc2 kV2 dc2 pm2 cd2 ct2 oc3 kV3 dc3 pm3 cd3 ct3 oc4 kV4 dc4 pm4 cd4 ct4 oc5 kV5 dc5 pm5 cd5 ct5 oc6 kV6 dc6 pm6 cd6 ct6 oc7 kV7 dc7 pm7 cd7 ct7 oc8 kV8 dc8 pm8 cd8 ct8 oc9 kV9 dc9 pm9 cd9 ct9 oc10 kV10 dc10 pm10 cd10 ct10 oc11 kV11 dc11 pm11 cd11 ct11 oc12 kV12 dc12 pm12 cd12 ct12 oc13 kV13 dc13 pm13 cd13 ct13 oc14 kV14 dc14 pm14 cd14 ct14 oc15 kV15 dc15 pm15 cd15 ct15 oc16 kV16 dc16 pm16 cd16 ct16 oc17 kV17 dc17 pm17 cd17 ct17 oc18 kV18 dc18 pm18 cd18 ct18 oc19 kV19 dc19 pm19 cd19 ct19 oc20 kV20 dc20 pm20 cd20 ct20 oc21 kV21 dc21 pm21 cd21 ct21 oc22 kV22 dc22 pm22 cd22 ct22 oc23 kV23 dc23 pm23 cd23 ct23 oc24 kV24 dc24 pm24 cd24 ct24 oc25 kV25 dc25 pm25 cd25 ct25 : Value} {t0 t1 t2 t3 t4 t5 t6 t7 t8 t9 t10 t11 t12 t13 t14 t15 t16 t17 t18 t19 t20 t21 : Tok}
    (aC : PySem.W.nsIn K mainGlobals "Game" = some (some (.ref C)))
    (a1 : PySem.W.nsIn K mainGlobals "divisor_of_two" = some (some (.ref f1)))
    (l1 : K.lookup f1 = some ⟨oc1, od1, .func (PySem.W.fnOf "divisor_of_two" "divisor_of_two" (defArgs sDiv) (defBody sDiv) (defScope sDiv) .none kV1 dc1 pm1 an1 cd1 ct1), sl1⟩) (c1 : PySem.W.codeIn K cd1 "divisor_of_two" = true) (k1 : PySem.W.keepIn K (.ref f1) = true)
    (a2 : PySem.W.nsIn K mainGlobals "common_divisor" = some (some (.ref f2)))
    (l2 : K.lookup f2 = some ⟨oc2, od2, .func (PySem.W.fnOf "common_divisor" "common_divisor" (defArgs sCom) (defBody sCom) (defScope sCom) .none kV2 dc2 pm2 an2 cd2 ct2), sl2⟩) (c2 : PySem.W.codeIn K cd2 "common_divisor" = true) (k2 : PySem.W.keepIn K (.ref f2) = true)
    (a3 : PySem.W.nsIn K mainGlobals "is_next_made" = some (some (.ref f3)))
    (l3 : K.lookup f3 = some ⟨oc3, od3, .func (PySem.W.fnOf "is_next_made" "is_next_made" (defArgs sNext) (defBody sNext) (defScope sNext) .none kV3 dc3 pm3 an3 cd3 ct3), sl3⟩) (c3 : PySem.W.codeIn K cd3 "is_next_made" = true) (k3 : PySem.W.keepIn K (.ref f3) = true)
    (a4 : PySem.W.nsIn K mainGlobals "is_made" = some (some (.ref f4)))
    (l4 : K.lookup f4 = some ⟨oc4, od4, .func (PySem.W.fnOf "is_made" "is_made" (defArgs sMade) (defBody sMade) (defScope sMade) .none kV4 dc4 pm4 an4 cd4 ct4), sl4⟩) (c4 : PySem.W.codeIn K cd4 "is_made" = true) (k4 : PySem.W.keepIn K (.ref f4) = true)
    (a5 : PySem.W.nsIn K mainGlobals "numbers_left" = some (some (.ref f5)))
    (l5 : K.lookup f5 = some ⟨oc5, od5, .func (PySem.W.fnOf "numbers_left" "numbers_left" (defArgs sLeft) (defBody sLeft) (defScope sLeft) .none kV5 dc5 pm5 an5 cd5 ct5), sl5⟩) (c5 : PySem.W.codeIn K cd5 "numbers_left" = true) (k5 : PySem.W.keepIn K (.ref f5) = true)
    (a6 : PySem.W.nsIn K mainGlobals "fewest_with" = some (some (.ref f6)))
    (l6 : K.lookup f6 = some ⟨oc6, od6, .func (PySem.W.fnOf "fewest_with" "fewest_with" (defArgs sWith) (defBody sWith) (defScope sWith) .none kV6 dc6 pm6 an6 cd6 ct6), sl6⟩) (c6 : PySem.W.codeIn K cd6 "fewest_with" = true) (k6 : PySem.W.keepIn K (.ref f6) = true)
    (a7 : PySem.W.nsIn K mainGlobals "fewest_from_each" = some (some (.ref f7)))
    (l7 : K.lookup f7 = some ⟨oc7, od7, .func (PySem.W.fnOf "fewest_from_each" "fewest_from_each" (defArgs sEach) (defBody sEach) (defScope sEach) .none kV7 dc7 pm7 an7 cd7 ct7), sl7⟩) (c7 : PySem.W.codeIn K cd7 "fewest_from_each" = true) (k7 : PySem.W.keepIn K (.ref f7) = true)
    (a8 : PySem.W.nsIn K mainGlobals "fewest_row" = some (some (.ref f8)))
    (l8 : K.lookup f8 = some ⟨oc8, od8, .func (PySem.W.fnOf "fewest_row" "fewest_row" (defArgs sRow) (defBody sRow) (defScope sRow) .none kV8 dc8 pm8 an8 cd8 ct8), sl8⟩) (c8 : PySem.W.codeIn K cd8 "fewest_row" = true) (k8 : PySem.W.keepIn K (.ref f8) = true)
    (a9 : PySem.W.nsIn K mainGlobals "left_after" = some (some (.ref f9)))
    (l9 : K.lookup f9 = some ⟨oc9, od9, .func (PySem.W.fnOf "left_after" "left_after" (defArgs sAft) (defBody sAft) (defScope sAft) .none kV9 dc9 pm9 an9 cd9 ct9), sl9⟩) (c9 : PySem.W.codeIn K cd9 "left_after" = true) (k9 : PySem.W.keepIn K (.ref f9) = true)
    (a10 : PySem.W.nsIn K mainGlobals "worth_with" = some (some (.ref f10)))
    (l10 : K.lookup f10 = some ⟨oc10, od10, .func (PySem.W.fnOf "worth_with" "worth_with" (defArgs sWw) (defBody sWw) (defScope sWw) .none kV10 dc10 pm10 an10 cd10 ct10), sl10⟩) (c10 : PySem.W.codeIn K cd10 "worth_with" = true) (k10 : PySem.W.keepIn K (.ref f10) = true)
    (a11 : PySem.W.nsIn K mainGlobals "worth_of" = some (some (.ref f11)))
    (l11 : K.lookup f11 = some ⟨oc11, od11, .func (PySem.W.fnOf "worth_of" "worth_of" (defArgs sWo) (defBody sWo) (defScope sWo) .none kV11 dc11 pm11 an11 cd11 ct11), sl11⟩) (c11 : PySem.W.codeIn K cd11 "worth_of" = true) (k11 : PySem.W.keepIn K (.ref f11) = true)
    (a12 : PySem.W.nsIn K mainGlobals "winning_numbers" = some (some (.ref f12)))
    (l12 : K.lookup f12 = some ⟨oc12, od12, .func (PySem.W.fnOf "winning_numbers" "winning_numbers" (defArgs sWn) (defBody sWn) (defScope sWn) .none kV12 dc12 pm12 an12 cd12 ct12), sl12⟩) (c12 : PySem.W.codeIn K cd12 "winning_numbers" = true) (k12 : PySem.W.keepIn K (.ref f12) = true)
    (a13 : PySem.W.nsIn K mainGlobals "refused" = some (some (.ref f13)))
    (l13 : K.lookup f13 = some ⟨oc13, od13, .func (PySem.W.fnOf "refused" "refused" (defArgs sRef) (defBody sRef) (defScope sRef) .none kV13 dc13 pm13 an13 cd13 ct13), sl13⟩) (c13 : PySem.W.codeIn K cd13 "refused" = true) (k13 : PySem.W.keepIn K (.ref f13) = true)
    (a14 : PySem.W.nsIn K mainGlobals "wins" = some (some (.ref f14)))
    (l14 : K.lookup f14 = some ⟨oc14, od14, .func (PySem.W.fnOf "wins" "wins" (defArgs sWi) (defBody sWi) (defScope sWi) .none kV14 dc14 pm14 an14 cd14 ct14), sl14⟩) (c14 : PySem.W.codeIn K cd14 "wins" = true) (k14 : PySem.W.keepIn K (.ref f14) = true)
    (a15 : PySem.W.nsIn K mainGlobals "ender" = some (some (.ref f15)))
    (l15 : K.lookup f15 = some ⟨oc15, od15, .func (PySem.W.fnOf "ender" "ender" (defArgs sEn) (defBody sEn) (defScope sEn) .none kV15 dc15 pm15 an15 cd15 ct15), sl15⟩) (c15 : PySem.W.codeIn K cd15 "ender" = true) (k15 : PySem.W.keepIn K (.ref f15) = true)
    (a16 : PySem.W.nsIn K mainGlobals "answers" = some (some (.ref f16)))
    (l16 : K.lookup f16 = some ⟨oc16, od16, .func (PySem.W.fnOf "answers" "answers" (defArgs sAns) (defBody sAns) (defScope sAns) .none kV16 dc16 pm16 an16 cd16 ct16), sl16⟩) (c16 : PySem.W.codeIn K cd16 "answers" = true) (k16 : PySem.W.keepIn K (.ref f16) = true)
    (a17 : PySem.W.findIn K (.ref C) "__init__" = some (some (.ref f17))) (i17 : PySem.W.isFn K (.ref f17) = true)
    (l17 : K.lookup f17 = some ⟨oc17, od17, .func (PySem.W.fnOf "__init__" "Game.__init__" (defArgs sInit) (defBody sInit) (defScope sInit) .none kV17 dc17 pm17 an17 cd17 ct17), sl17⟩) (c17 : PySem.W.codeIn K cd17 "Game.__init__" = true) (k17 : PySem.W.keepIn K (.ref f17) = true)
    (a18 : PySem.W.findIn K (.ref C) "begins" = some (some (.ref f18))) (i18 : PySem.W.isFn K (.ref f18) = true)
    (l18 : K.lookup f18 = some ⟨oc18, od18, .func (PySem.W.fnOf "begins" "Game.begins" (defArgs sBeg) (defBody sBeg) (defScope sBeg) .none kV18 dc18 pm18 an18 cd18 ct18), sl18⟩) (c18 : PySem.W.codeIn K cd18 "Game.begins" = true) (k18 : PySem.W.keepIn K (.ref f18) = true)
    (a19 : PySem.W.findIn K (.ref C) "names" = some (some (.ref f19))) (i19 : PySem.W.isFn K (.ref f19) = true)
    (l19 : K.lookup f19 = some ⟨oc19, od19, .func (PySem.W.fnOf "names" "Game.names" (defArgs sNam) (defBody sNam) (defScope sNam) .none kV19 dc19 pm19 an19 cd19 ct19), sl19⟩) (c19 : PySem.W.codeIn K cd19 "Game.names" = true) (k19 : PySem.W.keepIn K (.ref f19) = true)
    (a20 : PySem.W.findIn K (.ref C) "standing" = some (some (.ref f20))) (i20 : PySem.W.isFn K (.ref f20) = true)
    (l20 : K.lookup f20 = some ⟨oc20, od20, .func (PySem.W.fnOf "standing" "Game.standing" (defArgs sSta) (defBody sSta) (defScope sSta) .none kV20 dc20 pm20 an20 cd20 ct20), sl20⟩) (c20 : PySem.W.codeIn K cd20 "Game.standing" = true) (k20 : PySem.W.keepIn K (.ref f20) = true)
    (a21 : PySem.W.findIn K (.ref C) "gaps" = some (some (.ref f21))) (i21 : PySem.W.isFn K (.ref f21) = true)
    (l21 : K.lookup f21 = some ⟨oc21, od21, .func (PySem.W.fnOf "gaps" "Game.gaps" (defArgs sGap) (defBody sGap) (defScope sGap) .none kV21 dc21 pm21 an21 cd21 ct21), sl21⟩) (c21 : PySem.W.codeIn K cd21 "Game.gaps" = true) (k21 : PySem.W.keepIn K (.ref f21) = true)
    (a22 : PySem.W.findIn K (.ref C) "makes" = some (some (.ref f22))) (i22 : PySem.W.isFn K (.ref f22) = true)
    (l22 : K.lookup f22 = some ⟨oc22, od22, .func (PySem.W.fnOf "makes" "Game.makes" (defArgs sMak) (defBody sMak) (defScope sMak) .none kV22 dc22 pm22 an22 cd22 ct22), sl22⟩) (c22 : PySem.W.codeIn K cd22 "Game.makes" = true) (k22 : PySem.W.keepIn K (.ref f22) = true)
    (a23 : PySem.W.findIn K (.ref C) "looks_ahead" = some (some (.ref f23))) (i23 : PySem.W.isFn K (.ref f23) = true)
    (l23 : K.lookup f23 = some ⟨oc23, od23, .func (PySem.W.fnOf "looks_ahead" "Game.looks_ahead" (defArgs sLook) (defBody sLook) (defScope sLook) .none kV23 dc23 pm23 an23 cd23 ct23), sl23⟩) (c23 : PySem.W.codeIn K cd23 "Game.looks_ahead" = true) (k23 : PySem.W.keepIn K (.ref f23) = true)
    (a24 : PySem.W.findIn K (.ref C) "undo" = some (some (.ref f24))) (i24 : PySem.W.isFn K (.ref f24) = true)
    (l24 : K.lookup f24 = some ⟨oc24, od24, .func (PySem.W.fnOf "undo" "Game.undo" (defArgs sUnd) (defBody sUnd) (defScope sUnd) .none kV24 dc24 pm24 an24 cd24 ct24), sl24⟩) (c24 : PySem.W.codeIn K cd24 "Game.undo" = true) (k24 : PySem.W.keepIn K (.ref f24) = true)
    (a25 : PySem.W.findIn K (.ref C) "answer" = some (some (.ref f25))) (i25 : PySem.W.isFn K (.ref f25) = true)
    (l25 : K.lookup f25 = some ⟨oc25, od25, .func (PySem.W.fnOf "answer" "Game.answer" (defArgs sDo) (defBody sDo) (defScope sDo) .none kV25 dc25 pm25 an25 cd25 ct25), sl25⟩) (c25 : PySem.W.codeIn K cd25 "Game.answer" = true) (k25 : PySem.W.keepIn K (.ref f25) = true)
    (pg : PySem.W.plainGet K C Str.empty = true) (hd : PySem.W.hasDictIn K C = true) (po : PySem.W.plainOver K C = true) (sa : PySem.W.findIn K (.ref C) "__setattr__" = some (some (.builtin "object.__setattr__"))) (mk : PySem.W.makesIn K C = true) (kc : PySem.W.keepIn K (.ref C) = true) (nN : PySem.W.findIn K (.ref C) "named" = some none)
    (n0 : PySem.W.nsIn K mainGlobals "NEVER" = some (some (.int 1000 t0)))
    (n1 : PySem.W.nsIn K mainGlobals "BEGINS" = some (some (.int 0 t1)))
    (n2 : PySem.W.nsIn K mainGlobals "NAMES" = some (some (.int 1 t2)))
    (n3 : PySem.W.nsIn K mainGlobals "GAPS" = some (some (.int 2 t3)))
    (n4 : PySem.W.nsIn K mainGlobals "MAKES" = some (some (.int 3 t4)))
    (n5 : PySem.W.nsIn K mainGlobals "WINS" = some (some (.int 4 t5)))
    (n6 : PySem.W.nsIn K mainGlobals "WORTH" = some (some (.int 5 t6)))
    (n7 : PySem.W.nsIn K mainGlobals "ENDER" = some (some (.int 6 t7)))
    (n8 : PySem.W.nsIn K mainGlobals "UNDO" = some (some (.int 7 t8)))
    (n9 : PySem.W.nsIn K mainGlobals "OUT_OF_BOUNDS" = some (some (.int 1 t9)))
    (n10 : PySem.W.nsIn K mainGlobals "NOT_MADE" = some (some (.int 3 t10)))
    (n11 : PySem.W.nsIn K mainGlobals "MADE_ALREADY" = some (some (.int 4 t11)))
    (n12 : PySem.W.nsIn K mainGlobals "ALL_NAMED" = some (some (.int 5 t12)))
    (n13 : PySem.W.nsIn K mainGlobals "DIVISOR_NOT_ONE" = some (some (.int 6 t13)))
    (n14 : PySem.W.nsIn K mainGlobals "TOO_MANY_LEFT" = some (some (.int 7 t14)))
    (n15 : PySem.W.nsIn K mainGlobals "NONE_LEFT" = some (some (.int 8 t15)))
    (n16 : PySem.W.nsIn K mainGlobals "NONE_NAMED" = some (some (.int 9 t16)))
    (n17 : PySem.W.nsIn K mainGlobals "LEAST_NAMED" = some (some (.int 2 t17)))
    (n18 : PySem.W.nsIn K mainGlobals "GREATEST_NAMED" = some (some (.int 40 t18)))
    (n19 : PySem.W.nsIn K mainGlobals "MOST_NAMED" = some (some (.int 12 t19)))
    (n20 : PySem.W.nsIn K mainGlobals "GREATEST_MADE" = some (some (.int 300 t20)))
    (n21 : PySem.W.nsIn K mainGlobals "MOST_LEFT" = some (some (.int 16 t21)))
    (z0 : PySem.W.nsIn K mainGlobals "len" = some none)
    (z1 : PySem.W.nsIn K mainGlobals "any" = some none)
    (z2 : PySem.W.nsIn K mainGlobals "min" = some none)
    (z3 : PySem.W.nsIn K mainGlobals "list" = some none)
    (z4 : PySem.W.nsIn K mainGlobals "range" = some none)
    (z5 : PySem.W.nsIn K mainGlobals "reversed" = some none)
    (z6 : PySem.W.nsIn K mainGlobals "enumerate" = some none)
    (z7 : PySem.W.nsIn K mainGlobals "sum" = some none)
    (z8 : PySem.W.nsIn K mainGlobals "tuple" = some none)
    : ∃ fd : FuncData, (∀ (s : Shared) (us : List Value), us.length = (["calls"] : List Str).length → BindsTo s fd ⟨us, []⟩ ((["calls"] : List Str).zip us)) ∧ ∀ base : Heap, K.In base → base.Ns mainGlobals mg → FnOk P w K mg base CX0 23 fa fd ["calls"] (spAns K) := by
  have e := hfa.symm.trans (PySem.W.mg_of X G a16)
  cases e
  have T : Txt K mg C := ⟨⟨pg, hd, po, sa⟩, nN⟩
  have F1 := fun_mk (st := sDiv) l1 c1 k1
  have b1 := F1.binds (ps := ["one", "other"]) fun _ _ _ _ _ _ us hl => match us, hl with | [_, _], _ => rfl
  have U1 : Ft K mg "divisor_of_two" sDiv ["one", "other"] f1 _ := ⟨F1, b1, PySem.W.mg_of X G a1⟩
  have F2 := fun_mk (st := sCom) l2 c2 k2
  have b2 := F2.binds (ps := ["named"]) fun _ _ _ _ _ _ us hl => match us, hl with | [_], _ => rfl
  have U2 : Ft K mg "common_divisor" sCom ["named"] f2 _ := ⟨F2, b2, PySem.W.mg_of X G a2⟩
  have F3 := fun_mk (st := sNext) l3 c3 k3
  have b3 := F3.binds (ps := ["made", "named"]) fun _ _ _ _ _ _ us hl => match us, hl with | [_, _], _ => rfl
  have U3 : Ft K mg "is_next_made" sNext ["made", "named"] f3 _ := ⟨F3, b3, PySem.W.mg_of X G a3⟩
  have F4 := fun_mk (st := sMade) l4 c4 k4
  have b4 := F4.binds (ps := ["number", "named"]) fun _ _ _ _ _ _ us hl => match us, hl with | [_, _], _ => rfl
  have U4 : Ft K mg "is_made" sMade ["number", "named"] f4 _ := ⟨F4, b4, PySem.W.mg_of X G a4⟩
  have F5 := fun_mk (st := sLeft) l5 c5 k5
  have b5 := F5.binds (ps := ["named"]) fun _ _ _ _ _ _ us hl => match us, hl with | [_], _ => rfl
  have U5 : Ft K mg "numbers_left" sLeft ["named"] f5 _ := ⟨F5, b5, PySem.W.mg_of X G a5⟩
  have F6 := fun_mk (st := sWith) l6 c6 k6
  have b6 := F6.binds (ps := ["fewest", "part"]) fun _ _ _ _ _ _ us hl => match us, hl with | [_, _], _ => rfl
  have U6 : Ft K mg "fewest_with" sWith ["fewest", "part"] f6 _ := ⟨F6, b6, PySem.W.mg_of X G a6⟩
  have F7 := fun_mk (st := sEach) l7 c7 k7
  have b7 := F7.binds (ps := ["number", "named"]) fun _ _ _ _ _ _ us hl => match us, hl with | [_, _], _ => rfl
  have U7 : Ft K mg "fewest_from_each" sEach ["number", "named"] f7 _ := ⟨F7, b7, PySem.W.mg_of X G a7⟩
  have F8 := fun_mk (st := sRow) l8 c8 k8
  have b8 := F8.binds (ps := ["number", "named"]) fun _ _ _ _ _ _ us hl => match us, hl with | [_, _], _ => rfl
  have U8 : Ft K mg "fewest_row" sRow ["number", "named"] f8 _ := ⟨F8, b8, PySem.W.mg_of X G a8⟩
  have F9 := fun_mk (st := sAft) l9 c9 k9
  have b9 := F9.binds (ps := ["left", "named_now"]) fun _ _ _ _ _ _ us hl => match us, hl with | [_, _], _ => rfl
  have U9 : Ft K mg "left_after" sAft ["left", "named_now"] f9 _ := ⟨F9, b9, PySem.W.mg_of X G a9⟩
  have F10 := fun_mk (st := sWw) l10 c10 k10
  have b10 := F10.binds (ps := ["left", "known"]) fun _ _ _ _ _ _ us hl => match us, hl with | [_, _], _ => rfl
  have U10 : Ft K mg "worth_with" sWw ["left", "known"] f10 _ := ⟨F10, b10, PySem.W.mg_of X G a10⟩
  have F11 := fun_mk (st := sWo) l11 c11 k11
  have b11 := F11.binds (ps := ["left"]) fun _ _ _ _ _ _ us hl => match us, hl with | [_], _ => rfl
  have U11 : Ft K mg "worth_of" sWo ["left"] f11 _ := ⟨F11, b11, PySem.W.mg_of X G a11⟩
  have F12 := fun_mk (st := sWn) l12 c12 k12
  have b12 := F12.binds (ps := ["left"]) fun _ _ _ _ _ _ us hl => match us, hl with | [_], _ => rfl
  have U12 : Ft K mg "winning_numbers" sWn ["left"] f12 _ := ⟨F12, b12, PySem.W.mg_of X G a12⟩
  have F13 := fun_mk (st := sRef) l13 c13 k13
  have b13 := F13.binds (ps := ["refusal"]) fun _ _ _ _ _ _ us hl => match us, hl with | [_], _ => rfl
  have U13 : Ft K mg "refused" sRef ["refusal"] f13 _ := ⟨F13, b13, PySem.W.mg_of X G a13⟩
  have F14 := fun_mk (st := sWi) l14 c14 k14
  have b14 := F14.binds (ps := ["left"]) fun _ _ _ _ _ _ us hl => match us, hl with | [_], _ => rfl
  have U14 : Ft K mg "wins" sWi ["left"] f14 _ := ⟨F14, b14, PySem.W.mg_of X G a14⟩
  have F15 := fun_mk (st := sEn) l15 c15 k15
  have b15 := F15.binds (ps := ["left", "named"]) fun _ _ _ _ _ _ us hl => match us, hl with | [_, _], _ => rfl
  have U15 : Ft K mg "ender" sEn ["left", "named"] f15 _ := ⟨F15, b15, PySem.W.mg_of X G a15⟩
  have F16 := fun_mk (st := sAns) l16 c16 k16
  have b16 := F16.binds (ps := ["calls"]) fun _ _ _ _ _ _ us hl => match us, hl with | [_], _ => rfl
  have F17 := fun_mk (st := sInit) l17 c17 k17
  have b17 := F17.binds (ps := ["self"]) fun _ _ _ _ _ _ us hl => match us, hl with | [_], _ => rfl
  have U17 : Mt K C "__init__" "Game.__init__" sInit ["self"] f17 _ := ⟨F17, b17, a17, i17, k17⟩
  have F18 := fun_mk (st := sBeg) l18 c18 k18
  have b18 := F18.binds (ps := ["self"]) fun _ _ _ _ _ _ us hl => match us, hl with | [_], _ => rfl
  have U18 : Mt K C "begins" "Game.begins" sBeg ["self"] f18 _ := ⟨F18, b18, a18, i18, k18⟩
  have F19 := fun_mk (st := sNam) l19 c19 k19
  have b19 := F19.binds (ps := ["self", "number"]) fun _ _ _ _ _ _ us hl => match us, hl with | [_, _], _ => rfl
  have U19 : Mt K C "names" "Game.names" sNam ["self", "number"] f19 _ := ⟨F19, b19, a19, i19, k19⟩
  have F20 := fun_mk (st := sSta) l20 c20 k20
  have b20 := F20.binds (ps := ["self"]) fun _ _ _ _ _ _ us hl => match us, hl with | [_], _ => rfl
  have U20 : Mt K C "standing" "Game.standing" sSta ["self"] f20 _ := ⟨F20, b20, a20, i20, k20⟩
  have F21 := fun_mk (st := sGap) l21 c21 k21
  have b21 := F21.binds (ps := ["self"]) fun _ _ _ _ _ _ us hl => match us, hl with | [_], _ => rfl
  have U21 : Mt K C "gaps" "Game.gaps" sGap ["self"] f21 _ := ⟨F21, b21, a21, i21, k21⟩
  have F22 := fun_mk (st := sMak) l22 c22 k22
  have b22 := F22.binds (ps := ["self", "number"]) fun _ _ _ _ _ _ us hl => match us, hl with | [_, _], _ => rfl
  have U22 : Mt K C "makes" "Game.makes" sMak ["self", "number"] f22 _ := ⟨F22, b22, a22, i22, k22⟩
  have F23 := fun_mk (st := sLook) l23 c23 k23
  have b23 := F23.binds (ps := ["self", "call"]) fun _ _ _ _ _ _ us hl => match us, hl with | [_, _], _ => rfl
  have U23 : Mt K C "looks_ahead" "Game.looks_ahead" sLook ["self", "call"] f23 _ := ⟨F23, b23, a23, i23, k23⟩
  have F24 := fun_mk (st := sUnd) l24 c24 k24
  have b24 := F24.binds (ps := ["self"]) fun _ _ _ _ _ _ us hl => match us, hl with | [_], _ => rfl
  have U24 : Mt K C "undo" "Game.undo" sUnd ["self"] f24 _ := ⟨F24, b24, a24, i24, k24⟩
  have F25 := fun_mk (st := sDo) l25 c25 k25
  have b25 := F25.binds (ps := ["self", "call", "number"]) fun _ _ _ _ _ _ us hl => match us, hl with | [_, _, _], _ => rfl
  have U25 : Mt K C "answer" "Game.answer" sDo ["self", "call", "number"] f25 _ := ⟨F25, b25, a25, i25, k25⟩
  have m0 := PySem.W.mg_of X G n0
  have m1 := PySem.W.mg_of X G n1
  have m2 := PySem.W.mg_of X G n2
  have m3 := PySem.W.mg_of X G n3
  have m4 := PySem.W.mg_of X G n4
  have m5 := PySem.W.mg_of X G n5
  have m6 := PySem.W.mg_of X G n6
  have m7 := PySem.W.mg_of X G n7
  have m8 := PySem.W.mg_of X G n8
  have m9 := PySem.W.mg_of X G n9
  have m10 := PySem.W.mg_of X G n10
  have m11 := PySem.W.mg_of X G n11
  have m12 := PySem.W.mg_of X G n12
  have m13 := PySem.W.mg_of X G n13
  have m14 := PySem.W.mg_of X G n14
  have m15 := PySem.W.mg_of X G n15
  have m16 := PySem.W.mg_of X G n16
  have m17 := PySem.W.mg_of X G n17
  have m18 := PySem.W.mg_of X G n18
  have m19 := PySem.W.mg_of X G n19
  have m20 := PySem.W.mg_of X G n20
  have m21 := PySem.W.mg_of X G n21
  have y0 := PySem.W.mg_none_of X G z0
  have y1 := PySem.W.mg_none_of X G z1
  have y2 := PySem.W.mg_none_of X G z2
  have y3 := PySem.W.mg_none_of X G z3
  have y4 := PySem.W.mg_none_of X G z4
  have y5 := PySem.W.mg_none_of X G z5
  have y6 := PySem.W.mg_none_of X G z6
  have y7 := PySem.W.mg_none_of X G z7
  have y8 := PySem.W.mg_none_of X G z8
  have GC : ∀ base, FnOk P w K mg base CX0 2 f2 _ ["named"] (spCom K) := fun _ => ok_com F2 F1 b1 U1.g
  have GM : ∀ base, FnOk P w K mg base CX0 2 f4 _ ["number", "named"] (spMade K) := fun _ => ok_made F4 F3 b3 U3.g y0 y1
  have GL : ∀ base, FnOk P w K mg base CX0 2 f5 _ ["named"] (spLeft K) := fun _ => ok_left F5 F3 b3 U3.g y0 y1 y2
  have GR : ∀ base, FnOk P w K mg base CX0 3 f8 _ ["number", "named"] (spRow K) := fun _ => ok_row F8 F6 b6 U6.g F7 b7 U7.g m0 y0 y3 y4 y2 y5 y6
  have GW : ∀ base, FnOk P w K mg base CX0 18 f10 _ ["left", "known"] (spWw 17) := ok_ww F10 b10 U10.g U9 y8 17
  have GO : ∀ base, FnOk P w K mg base CX0 19 f11 _ ["left"] spWo := fun _ => ok_wo F11 U10 GW
  have GN : ∀ base, FnOk P w K mg base CX0 19 f12 _ ["left"] spWn := fun _ => ok_wn F12 U9 U10 GW
  have GI : ∀ base, FnOk P w K mg base CX0 20 f14 _ ["left"] spWi := fun _ => ok_wi F14 U12 GN y0
  have GE : ∀ base, FnOk P w K mg base CX0 3 f15 _ ["left", "named"] spEn := fun _ => ok_en F15 U4 GM U13 m15 y0
  have HB : ∀ base, FnOk P w K mg base CX0 1 f18 _ ["self"] (spM C .begins []) := fun _ => ok_beg F18 T
  have HS : ∀ base, FnOk P w K mg base CX0 3 f20 _ ["self"] (spSta C) := fun _ => ok_sta F20 T F2 b2 U2.g GC F5 b5 U5.g GL y0
  have HN : ∀ base, FnOk P w K mg base CX0 4 f19 _ ["self", "number"] (spNames C) := fun _ => ok_nam F19 T U4 GM U20 HS U13 m9 m17 m18 m11 m12 m19 y0
  have HG : ∀ base, FnOk P w K mg base CX0 3 f21 _ ["self"] (spM C .gaps []) := fun _ => ok_gap F21 T U2 GC U5 GL U13 m13 y0
  have HM : ∀ base, FnOk P w K mg base CX0 4 f22 _ ["self", "number"] (spMakes C) := fun _ => ok_mak F22 T U8 GR U13 m9 m20 m10 y7
  have HL : ∀ base, FnOk P w K mg base CX0 21 f23 _ ["self", "call"] (spLook C) := fun _ => ok_look F23 T U2 GC U5 GL U13 U14 GI U11 GO U15 GE m13 m14 m21 m5 m6 y0
  have HU : ∀ base, FnOk P w K mg base CX0 4 f24 _ ["self"] (spM C .undo []) := fun _ => ok_und F24 T U20 HS U13 m16 y0
  have HD : ∀ base, FnOk P w K mg base CX0 22 f25 _ ["self", "call", "number"] (spDo C) := fun _ => ok_do F25 T U18 HB U19 HN U21 HG U22 HM U23 HL U24 HU m1 m2 m3 m4 m5 m6 m7 m8
  exact ⟨PySem.W.fnOf "answers" "answers" (defArgs sAns) (defBody sAns) (defScope sAns) .none kV16 dc16 pm16 an16 cd16 ct16, fun s us hu => match us, hu with | [_], _ => .of_eq rfl, fun base _ _ => ok_ans F16 T (PySem.W.mg_of X G aC) ⟨mk, a17, i17, kc⟩ F17 b17 U25 HD m2 m4 y0⟩
end Nt
set_option Elab.async false
set_option linter.all false
set_option maxRecDepth 100000
set_option maxHeartbeats 2000000
open PySem PySem.W PyProof.Rows
set_option maxRecDepth 100000 in
set_option maxHeartbeats 8000000 in
theorem PySem.Challenge.cw_namedinturn_s01_answers_holds : PySem.Challenge.rw_namedinturn_s01_answers.Holds := by
  w_on; k_headS; (case hw => exact ⟨[.list [.int 0]], by decide +kernel, by decide +kernel⟩)
  k_fillS
  refine L2.walk_specK (r := PySem.Challenge.rw_namedinturn_s01_answers) (k := 23) (CX := L2.CX0) (ps := ["calls"]) (sp := Nt.spAns) (by decide +kernel) rfl rfl ⟨rfl, by decide, by decide⟩ (fun w h Y => PySem.W.kIn_of Y) ?F ?S (fun _ _ _ _ z => z)
  case F =>
    intro w mg fa h Y KX G hmg
    refine' Nt.all_mk KX G hmg ?aC ?a1 ?l1 ?c1 ?k1 ?a2 ?l2 ?c2 ?k2 ?a3 ?l3 ?c3 ?k3 ?a4 ?l4 ?c4 ?k4 ?a5 ?l5 ?c5 ?k5 ?a6 ?l6 ?c6 ?k6 ?a7 ?l7 ?c7 ?k7 ?a8 ?l8 ?c8 ?k8 ?a9 ?l9 ?c9 ?k9 ?a10 ?l10 ?c10 ?k10 ?a11 ?l11 ?c11 ?k11 ?a12 ?l12 ?c12 ?k12 ?a13 ?l13 ?c13 ?k13 ?a14 ?l14 ?c14 ?k14 ?a15 ?l15 ?c15 ?k15 ?a16 ?l16 ?c16 ?k16 ?a17 ?i17 ?l17 ?c17 ?k17 ?a18 ?i18 ?l18 ?c18 ?k18 ?a19 ?i19 ?l19 ?c19 ?k19 ?a20 ?i20 ?l20 ?c20 ?k20 ?a21 ?i21 ?l21 ?c21 ?k21 ?a22 ?i22 ?l22 ?c22 ?k22 ?a23 ?i23 ?l23 ?c23 ?k23 ?a24 ?i24 ?l24 ?c24 ?k24 ?a25 ?i25 ?l25 ?c25 ?k25 ?pg ?hd ?po ?sa ?mk ?kc ?nN ?n0 ?n1 ?n2 ?n3 ?n4 ?n5 ?n6 ?n7 ?n8 ?n9 ?n10 ?n11 ?n12 ?n13 ?n14 ?n15 ?n16 ?n17 ?n18 ?n19 ?n20 ?n21 ?z0 ?z1 ?z2 ?z3 ?z4 ?z5 ?z6 ?z7 ?z8
    (case aC => k_is)
    (case a1 => k_is)
    (case l1 => k_is)
    (case c1 => k_is)
    (case k1 => k_is)
    (case a2 => k_is)
    (case l2 => k_is)
    (case c2 => k_is)
    (case k2 => k_is)
    (case a3 => k_is)
    (case l3 => k_is)
    (case c3 => k_is)
    (case k3 => k_is)
    (case a4 => k_is)
    (case l4 => k_is)
    (case c4 => k_is)
    (case k4 => k_is)
    (case a5 => k_is)
    (case l5 => k_is)
    (case c5 => k_is)
    (case k5 => k_is)
    (case a6 => k_is)
    (case l6 => k_is)
    (case c6 => k_is)
    (case k6 => k_is)
    (case a7 => k_is)
    (case l7 => k_is)
    (case c7 => k_is)
    (case k7 => k_is)
    (case a8 => k_is)
    (case l8 => k_is)
    (case c8 => k_is)
    (case k8 => k_is)
    (case a9 => k_is)
    (case l9 => k_is)
    (case c9 => k_is)
    (case k9 => k_is)
    (case a10 => k_is)
    (case l10 => k_is)
    (case c10 => k_is)
    (case k10 => k_is)
    (case a11 => k_is)
    (case l11 => k_is)
    (case c11 => k_is)
    (case k11 => k_is)
    (case a12 => k_is)
    (case l12 => k_is)
    (case c12 => k_is)
    (case k12 => k_is)
    (case a13 => k_is)
    (case l13 => k_is)
    (case c13 => k_is)
    (case k13 => k_is)
    (case a14 => k_is)
    (case l14 => k_is)
    (case c14 => k_is)
    (case k14 => k_is)
    (case a15 => k_is)
    (case l15 => k_is)
    (case c15 => k_is)
    (case k15 => k_is)
    (case a16 => k_is)
    (case l16 => k_is)
    (case c16 => k_is)
    (case k16 => k_is)
    (case a17 => k_is)
    (case i17 => k_is)
    (case l17 => k_is)
    (case c17 => k_is)
    (case k17 => k_is)
    (case a18 => k_is)
    (case i18 => k_is)
    (case l18 => k_is)
    (case c18 => k_is)
    (case k18 => k_is)
    (case a19 => k_is)
    (case i19 => k_is)
    (case l19 => k_is)
    (case c19 => k_is)
    (case k19 => k_is)
    (case a20 => k_is)
    (case i20 => k_is)
    (case l20 => k_is)
    (case c20 => k_is)
    (case k20 => k_is)
    (case a21 => k_is)
    (case i21 => k_is)
    (case l21 => k_is)
    (case c21 => k_is)
    (case k21 => k_is)
    (case a22 => k_is)
    (case i22 => k_is)
    (case l22 => k_is)
    (case c22 => k_is)
    (case k22 => k_is)
    (case a23 => k_is)
    (case i23 => k_is)
    (case l23 => k_is)
    (case c23 => k_is)
    (case k23 => k_is)
    (case a24 => k_is)
    (case i24 => k_is)
    (case l24 => k_is)
    (case c24 => k_is)
    (case k24 => k_is)
    (case a25 => k_is)
    (case i25 => k_is)
    (case l25 => k_is)
    (case c25 => k_is)
    (case k25 => k_is)
    (case pg => k_is)
    (case hd => k_is)
    (case po => k_is)
    (case sa => k_is)
    (case mk => k_is)
    (case kc => k_is)
    (case nN => k_is)
    (case n0 => k_is)
    (case n1 => k_is)
    (case n2 => k_is)
    (case n3 => k_is)
    (case n4 => k_is)
    (case n5 => k_is)
    (case n6 => k_is)
    (case n7 => k_is)
    (case n8 => k_is)
    (case n9 => k_is)
    (case n10 => k_is)
    (case n11 => k_is)
    (case n12 => k_is)
    (case n13 => k_is)
    (case n14 => k_is)
    (case n15 => k_is)
    (case n16 => k_is)
    (case n17 => k_is)
    (case n18 => k_is)
    (case n19 => k_is)
    (case n20 => k_is)
    (case n21 => k_is)
    (case z0 => k_is)
    (case z1 => k_is)
    (case z2 => k_is)
    (case z3 => k_is)
    (case z4 => k_is)
    (case z5 => k_is)
    (case z6 => k_is)
    (case z7 => k_is)
    (case z8 => k_is)
  case S =>
    intro K H xs a hO hwi hask hx
    cases hx with
    | cons h1 h2 =>
      cases h2
      cases h1 with
      | lst hs ha =>
        have e := L2.ints_dw a.1 _ ha
        subst e
        obtain ⟨cs, A⟩ := Nt.asked_is hask
        have hl := A.short
        rw [A.val] at hl
        refine ⟨_, a.1, cs, rfl, hs, A.dec, A.some, hl, fun H' p hp => ?_⟩
        have hv : PySem.W.Codec.app PySem.Challenge.rw_namedinturn_s01_answers.args PySem.Challenge.rw_namedinturn_s01_answers.f a = PyUw60.answers a.1 := rfl
        rw [hv, A.val]
        exact .lst (L2.SqL.of hp) (L2.dw_ints _)
