import PyProof.Rows.All
import KE.OsGo
import KE.OsEnd
import KE.OsArgs
import PySem.Challenge.RW_forcednodes_s05_fewest
set_option Elab.async false
namespace Fn
open Kyf

/-! ## bits -/
theorem has_bit (s k : Nat) : has s k = s.testBit k := by
  unfold has
  rw [Nat.testBit_eq_decide_div_mod_eq]
  by_cases h : s / 2 ^ k % 2 = 1
  · rw [h]; rfl
  · have e : (s / 2 ^ k % 2 == 1) = false := by simp [h]
    rw [e]; simp [h]
theorem add_or : ∀ (n a b : Nat), a ≤ n → a &&& b = 0 → a + b = a ||| b
  | 0, a, b, hn, h => by
    have z : a = 0 := by omega
    rw [z, Nat.zero_add, Nat.zero_or]
  | n + 1, a, b, hn, h => by
    by_cases z : a = 0
    · rw [z, Nat.zero_add, Nat.zero_or]
    · have h1 : (a &&& b) / 2 = a / 2 &&& b / 2 := Nat.and_div_two
      have h2 : (a ||| b) / 2 = a / 2 ||| b / 2 := Nat.or_div_two
      have h3 := @Nat.and_mod_two_eq_one a b
      have h4 := @Nat.or_mod_two_eq_one a b
      rw [h] at h1 h3
      have ih := add_or n (a / 2) (b / 2) (by omega) (by omega)
      have h5 : a % 2 = 1 ∧ b % 2 = 1 → False := fun q => by have := h3.mpr q; omega
      omega
theorem add_is_or {a b : Nat} (h : a &&& b = 0) : a + b = a ||| b := add_or a a b (Nat.le_refl a) h
theorem and_two_pow_of {s k : Nat} (h : s.testBit k = false) : s &&& 2 ^ k = 0 := by
  apply Nat.eq_of_testBit_eq
  intro i
  rw [Nat.testBit_and, Nat.testBit_two_pow, Nat.zero_testBit]
  by_cases e : k = i
  · rw [← e, h]; rfl
  · simp [e]
theorem with_or (s k : Nat) : with_ s k = s ||| 2 ^ k := by
  unfold with_
  rw [has_bit]
  cases h : s.testBit k with
  | true =>
    rw [if_pos rfl]
    apply Nat.eq_of_testBit_eq
    intro i
    rw [Nat.testBit_or, Nat.testBit_two_pow]
    by_cases e : k = i
    · rw [← e, h]; rfl
    · simp [e]
  | false =>
    rw [if_neg (by decide)]
    exact add_is_or (and_two_pow_of h)
theorem foldl_with (u : Nat) : ∀ (l : List Nat) (s : Nat), (l.foldl with_ s).testBit u = (s.testBit u || decide (u ∈ l))
  | [], s => by simp
  | k :: r, s => by
    rw [List.foldl_cons, foldl_with u r, with_or, Nat.testBit_or, Nat.testBit_two_pow, Bool.or_assoc]
    congr 1
    by_cases e : k = u
    · subst e; simp
    · have e' : ¬ u = k := fun q => e q.symm
      simp [e, e']
theorem mask_bit (u : Nat) (l : List Nat) : (mask l).testBit u = decide (u ∈ l) := by
  have := foldl_with u l 0
  rw [Nat.zero_testBit, Bool.false_or] at this
  exact this
/-- x without c's bits -/
theorem less_bits (x c i : Nat) : (x - (x &&& c)).testBit i = (x.testBit i && !c.testBit i) := by
  have d : (x &&& c) &&& (x ^^^ (x &&& c)) = 0 := by
    apply Nat.eq_of_testBit_eq
    intro j
    simp only [Nat.testBit_and, Nat.testBit_xor, Nat.zero_testBit]
    cases x.testBit j <;> cases c.testBit j <;> rfl
  have e : (x &&& c) ||| (x ^^^ (x &&& c)) = x := by
    apply Nat.eq_of_testBit_eq
    intro j
    simp only [Nat.testBit_and, Nat.testBit_or, Nat.testBit_xor]
    cases x.testBit j <;> cases c.testBit j <;> rfl
  have s := add_is_or d
  rw [e] at s
  have q : x - (x &&& c) = x ^^^ (x &&& c) := by omega
  rw [q]
  simp only [Nat.testBit_and, Nat.testBit_xor]
  cases x.testBit i <;> cases c.testBit i <;> rfl
/-- just one bit -/
def one (b : Nat) : Bool := b != 0 && (b &&& (b - 1)) == 0
theorem one_pow_aux : ∀ (n b : Nat), b ≤ n → b ≠ 0 → b &&& (b - 1) = 0 → ∃ u, b = 2 ^ u
  | 0, b, hn, h0, _ => by omega
  | n + 1, b, hn, h0, h => by
    have h1 : (b &&& (b - 1)) / 2 = b / 2 &&& (b - 1) / 2 := Nat.and_div_two
    rw [h] at h1
    by_cases o : b % 2 = 1
    · have e : (b - 1) / 2 = b / 2 := by omega
      rw [e, Nat.and_self] at h1
      exact ⟨0, by rw [Nat.pow_zero]; omega⟩
    · have e : (b - 1) / 2 = b / 2 - 1 := by omega
      rw [e] at h1
      obtain ⟨u, hu⟩ := one_pow_aux n (b / 2) (by omega) (by omega) (by omega)
      exact ⟨u + 1, by rw [Nat.pow_succ]; omega⟩
theorem one_iff (b : Nat) : one b = true ↔ ∃ u, b = 2 ^ u := by
  unfold one
  rw [Bool.and_eq_true, bne_iff_ne, beq_iff_eq]
  constructor
  · intro h
    exact one_pow_aux b b (Nat.le_refl b) h.1 h.2
  · rintro ⟨u, rfl⟩
    have p : 0 < 2 ^ u := Nat.two_pow_pos u
    refine ⟨by omega, ?_⟩
    rw [Nat.and_two_pow_sub_one_eq_mod, Nat.mod_self]
/-! ## lists of nodes -/
theorem filter_is (u : Nat) : ∀ n, u < n → (List.range n).filter (fun j => j == u) = [u]
  | 0, h => by omega
  | n + 1, h => by
    rw [List.range_succ, List.filter_append]
    by_cases e : u = n
    · subst e
      have z : (List.range u).filter (fun j => j == u) = [] := by
        rw [List.filter_eq_nil_iff]
        intro a ha
        rw [List.mem_range] at ha
        simp; omega
      rw [z]; simp
    · have e' : ¬ n = u := fun q => e q.symm
      rw [filter_is u n (by omega)]
      simp [e']
theorem filter_one {n u : Nat} {p : Nat → Bool} : (List.range n).filter p = [u] ↔ u < n ∧ p u = true ∧ ∀ j, j < n → p j = true → j = u := by
  constructor
  · intro h
    have m : ∀ j, j ∈ (List.range n).filter p ↔ j = u := fun j => by rw [h, List.mem_singleton]
    have mu := (m u).mpr rfl
    rw [List.mem_filter, List.mem_range] at mu
    refine ⟨mu.1, mu.2, fun j hj pj => (m j).mp ?_⟩
    rw [List.mem_filter, List.mem_range]
    exact ⟨hj, pj⟩
  · rintro ⟨hu, pu, all⟩
    rw [← filter_is u n hu]
    apply List.filter_congr
    intro j hj
    rw [List.mem_range] at hj
    by_cases e : j = u
    · subst e; simp [pu]
    · have : p j = false := by
        cases q : p j with
        | false => rfl
        | true => exact absurd (all j hj q) e
      rw [this]; simp [e]
theorem filter_less {p q : Nat → Bool} : ∀ (l : List Nat), (∀ x ∈ l, p x = true → q x = true) → (l.filter p).length ≤ (l.filter q).length
  | [], _ => Nat.le_refl _
  | x :: r, h => by
    have ih := filter_less r (fun y hy => h y (List.mem_cons_of_mem _ hy))
    have hx := h x List.mem_cons_self
    cases px : p x with
    | false =>
      rw [List.filter_cons_of_neg (by simp [px])]
      cases qx : q x with
      | false => rw [List.filter_cons_of_neg (by simp [qx])]; exact ih
      | true => rw [List.filter_cons_of_pos qx, List.length_cons]; omega
    | true =>
      rw [List.filter_cons_of_pos px, List.filter_cons_of_pos (hx px), List.length_cons, List.length_cons]
      omega
theorem filter_fewer {p q : Nat → Bool} : ∀ (l : List Nat), (∀ x ∈ l, p x = true → q x = true) → (∃ x ∈ l, q x = true ∧ p x = false) → (l.filter p).length < (l.filter q).length
  | [], _, ⟨x, hx, _⟩ => by cases hx
  | x :: r, h, ⟨y, hy, qy, py⟩ => by
    have hr := fun y hy => h y (List.mem_cons_of_mem x hy)
    have hx := h x List.mem_cons_self
    cases px : p x with
    | false =>
      rw [List.filter_cons_of_neg (by simp [px])]
      cases qx : q x with
      | false =>
        rw [List.filter_cons_of_neg (by simp [qx])]
        rcases List.mem_cons.mp hy with e | m
        · subst e; rw [qx] at qy; cases qy
        · exact filter_fewer r hr ⟨y, m, qy, py⟩
      | true =>
        rw [List.filter_cons_of_pos qx, List.length_cons]
        have := filter_less r hr
        omega
    | true =>
      rcases List.mem_cons.mp hy with e | m
      · subst e; rw [px] at py; cases py
      · rw [List.filter_cons_of_pos px, List.filter_cons_of_pos (hx px), List.length_cons, List.length_cons]
        have := filter_fewer r hr ⟨y, m, qy, py⟩
        omega
/-! ## forcing -/
structure Good (g : Graph) : Prop where
  near : ∀ k, k < size g → nearTo g k < 2 ^ size g
theorem bare_is {g : Graph} {c k u : Nat} (hg : nearTo g k < 2 ^ size g) : bare g c k = [u] ↔ nearTo g k - (nearTo g k &&& c) = 2 ^ u := by
  unfold bare
  rw [filter_one]
  have hb : ∀ j, (joined g k j && !has c j) = (nearTo g k - (nearTo g k &&& c)).testBit j := fun j => by
    unfold joined
    rw [has_bit, has_bit, less_bits]
  have big : ∀ j, size g ≤ j → (nearTo g k - (nearTo g k &&& c)).testBit j = false := fun j hj => by
    rw [less_bits, Nat.testBit_lt_two_pow (Nat.lt_of_lt_of_le hg (Nat.pow_le_pow_right (by decide) hj))]
    rfl
  constructor
  · rintro ⟨hu, pu, all⟩
    apply Nat.eq_of_testBit_eq
    intro i
    rw [Nat.testBit_two_pow]
    by_cases e : u = i
    · subst e; rw [← hb, pu]; simp
    · have e' : ¬ i = u := fun q => e q.symm
      rw [decide_eq_false e]
      by_cases hi : i < size g
      · cases q : (nearTo g k - (nearTo g k &&& c)).testBit i with
        | false => rfl
        | true => exact absurd (all i hi (by rw [hb, q])) e'
      · exact big i (by omega)
  · intro h
    have t : ∀ j, (joined g k j && !has c j) = decide (u = j) := fun j => by rw [hb, h, Nat.testBit_two_pow]
    refine ⟨?_, by rw [t]; simp, fun j _ hj => by rw [t] at hj; exact (of_decide_eq_true hj).symm⟩
    by_cases hu : u < size g
    · exact hu
    · have := big u (by omega)
      rw [h, Nat.testBit_two_pow] at this
      simp at this
def nextN (g : Graph) (c : Nat) : Nat → Nat
  | 0 => 0
  | k + 1 => if has c k && one (nearTo g k - (nearTo g k &&& c)) then nextN g c k ||| (nearTo g k - (nearTo g k &&& c)) else nextN g c k
theorem nextN_bit {g : Graph} (hg : Good g) (c u : Nat) : ∀ m, m ≤ size g → ((nextN g c m).testBit u = true ↔ ∃ k, k < m ∧ forces g c k u = true)
  | 0, _ => by
    rw [nextN, Nat.zero_testBit]
    constructor
    · intro h; cases h
    · rintro ⟨k, hk, _⟩; omega
  | m + 1, hm => by
    have ih := nextN_bit hg c u m (by omega)
    have hf : forces g c m u = true ↔ has c m = true ∧ nearTo g m - (nearTo g m &&& c) = 2 ^ u := by
      unfold forces
      rw [Bool.and_eq_true, Bool.and_eq_true, decide_eq_true_eq, beq_iff_eq, bare_is (hg.near m (by omega))]
      constructor
      · rintro ⟨⟨_, b⟩, d⟩; exact ⟨b, d⟩
      · rintro ⟨b, d⟩; exact ⟨⟨by omega, b⟩, d⟩
    have split : (∃ k, k < m + 1 ∧ forces g c k u = true) ↔ (∃ k, k < m ∧ forces g c k u = true) ∨ forces g c m u = true := by
      constructor
      · rintro ⟨k, hk, f⟩
        by_cases e : k = m
        · subst e; exact .inr f
        · exact .inl ⟨k, by omega, f⟩
      · rintro (⟨k, hk, f⟩ | f)
        · exact ⟨k, by omega, f⟩
        · exact ⟨m, by omega, f⟩
    rw [split, nextN, hf, ← ih]
    by_cases q : (has c m && one (nearTo g m - (nearTo g m &&& c))) = true
    · rw [if_pos q]
      rw [Bool.and_eq_true] at q
      obtain ⟨v, hv⟩ := (one_iff _).mp q.2
      rw [Nat.testBit_or, hv, Nat.testBit_two_pow, Bool.or_eq_true, decide_eq_true_eq]
      constructor
      · rintro (a | b)
        · exact .inl a
        · exact .inr ⟨q.1, by rw [b]⟩
      · rintro (a | ⟨_, b⟩)
        · exact .inl a
        · exact .inr ((Nat.pow_right_inj (by decide)).mp b)
    · rw [if_neg q]
      constructor
      · exact fun a => .inl a
      · rintro (a | ⟨b, d⟩)
        · exact a
        · exact absurd (by rw [Bool.and_eq_true]; exact ⟨b, (one_iff _).mpr ⟨u, d⟩⟩) q
def next (g : Graph) (c : Nat) : Nat := nextN g c (size g)
theorem next_bit {g : Graph} (hg : Good g) (c u : Nat) : (next g c).testBit u = (forcer g c u).isSome := by
  have h := nextN_bit hg c u (size g) (Nat.le_refl _)
  unfold next
  rw [Bool.eq_iff_iff, h]
  unfold forcer
  rw [List.find?_isSome]
  constructor
  · rintro ⟨k, hk, f⟩; exact ⟨k, List.mem_range.mpr hk, f⟩
  · rintro ⟨k, hk, f⟩; exact ⟨k, List.mem_range.mp hk, f⟩
theorem forces_bare {g : Graph} {c k u : Nat} (h : forces g c k u = true) : u < size g ∧ c.testBit u = false := by
  unfold forces at h
  rw [Bool.and_eq_true, beq_iff_eq] at h
  have := h.2
  unfold bare at this
  rw [filter_one] at this
  refine ⟨this.1, ?_⟩
  have q := this.2.1
  rw [has_bit] at q
  cases t : c.testBit u with
  | false => rfl
  | true => rw [t] at q; simp at q
theorem next_free {g : Graph} (hg : Good g) {c u : Nat} (h : (next g c).testBit u = true) : u < size g ∧ c.testBit u = false := by
  obtain ⟨k, _, f⟩ := (nextN_bit hg c u (size g) (Nat.le_refl _)).mp h
  exact forces_bare f
theorem next_lt {g : Graph} (hg : Good g) (c : Nat) : next g c < 2 ^ size g := by
  apply Nat.lt_pow_two_of_testBit
  intro i hi
  cases t : (next g c).testBit i with
  | false => rfl
  | true => have := (next_free hg t).1; omega
theorem next_and {g : Graph} (hg : Good g) (c : Nat) : c &&& next g c = 0 := by
  apply Nat.eq_of_testBit_eq
  intro i
  rw [Nat.testBit_and, Nat.zero_testBit]
  cases t : (next g c).testBit i with
  | false => simp
  | true => rw [(next_free hg t).2]; rfl
theorem step_bit (g : Graph) (c u : Nat) : (step g c).testBit u = (c.testBit u || (decide (u < size g) && (forcer g c u).isSome)) := by
  unfold step
  rw [foldl_with]
  cases t : c.testBit u with
  | true => simp
  | false =>
    rw [Bool.false_or, Bool.false_or, Bool.eq_iff_iff, decide_eq_true_eq, List.mem_filter, List.mem_range, has_bit, t]
    simp
theorem step_or {g : Graph} (hg : Good g) (c : Nat) : step g c = c ||| next g c := by
  apply Nat.eq_of_testBit_eq
  intro u
  rw [step_bit, Nat.testBit_or, ← next_bit hg]
  cases t : (next g c).testBit u with
  | false => simp
  | true => rw [decide_eq_true (next_free hg t).1]; rfl
theorem step_add {g : Graph} (hg : Good g) (c : Nat) : step g c = c + next g c := by
  rw [step_or hg, add_is_or (next_and hg c)]
theorem step_lt {g : Graph} (hg : Good g) {c : Nat} (h : c < 2 ^ size g) : step g c < 2 ^ size g := by
  rw [step_or hg]
  exact Nat.or_lt_two_pow h (next_lt hg c)
theorem after_succ (g : Graph) : ∀ (n s : Nat), after g (n + 1) s = step g (after g n s)
  | 0, s => rfl
  | n + 1, s => by
    show after g (n + 1) (step g s) = step g (after g n (step g s))
    exact after_succ g n (step g s)
theorem after_lt {g : Graph} (hg : Good g) {s : Nat} (h : s < 2 ^ size g) : ∀ n, after g n s < 2 ^ size g
  | 0 => h
  | n + 1 => by rw [after_succ]; exact step_lt hg (after_lt hg h n)
theorem many_le (g : Graph) (s : Nat) : many g s ≤ size g := by
  unfold many nodes
  have := List.length_filter_le (has s) (List.range (size g))
  rw [List.length_range] at this
  exact this
theorem many_step {g : Graph} (hg : Good g) {c : Nat} (h : step g c ≠ c) : many g c < many g (step g c) := by
  have n0 : next g c ≠ 0 := fun q => h (by rw [step_add hg, q]; rfl)
  obtain ⟨u, hu⟩ := Nat.exists_testBit_of_ne_zero n0
  have f := next_free hg hu
  unfold many nodes
  apply filter_fewer
  · intro x _ px
    rw [has_bit] at px ⊢
    rw [step_or hg, Nat.testBit_or, px]; rfl
  · refine ⟨u, List.mem_range.mpr f.1, ?_, ?_⟩
    · rw [has_bit, step_or hg, Nat.testBit_or, hu]; simp
    · rw [has_bit]; exact f.2
theorem many_after {g : Graph} (hg : Good g) {s : Nat} : ∀ k, (∀ j, j < k → step g (after g j s) ≠ after g j s) → k ≤ many g (after g k s)
  | 0, _ => Nat.zero_le _
  | k + 1, h => by
    have ih := many_after hg k (fun j hj => h j (by omega))
    have := many_step hg (h k (by omega))
    rw [after_succ]
    omega
theorem after_fix {g : Graph} {s k : Nat} (h : step g (after g k s) = after g k s) : ∀ d, after g (k + d) s = after g k s
  | 0 => rfl
  | d + 1 => by
    have ih := after_fix h d
    show after g ((k + d) + 1) s = _
    rw [after_succ, ih, h]
theorem told_end {g : Graph} (hg : Good g) {s k : Nat} (fix : step g (after g k s) = after g k s) (old : ∀ j, j < k → step g (after g j s) ≠ after g j s) :
    forced g s = after g k s ∧ steps g s = k ∧ k ≤ size g := by
  have le : k ≤ size g := Nat.le_trans (many_after hg k old) (many_le g _)
  refine ⟨?_, ?_, le⟩
  · obtain ⟨d, hd⟩ := Nat.exists_eq_add_of_le le
    unfold forced
    rw [hd]
    exact after_fix fix d
  · unfold steps
    by_cases e : k = size g
    · have : (List.range (size g)).find? (fun n => after g n s == after g (n + 1) s) = none := by
        rw [List.find?_eq_none]
        intro j hj
        rw [List.mem_range] at hj
        rw [after_succ, beq_iff_eq]
        exact fun q => old j (by omega) q.symm
      rw [this, e]; rfl
    · have : (List.range (size g)).find? (fun n => after g n s == after g (n + 1) s) = some k := by
        rw [List.find?_range_eq_some]
        refine ⟨by rw [after_succ, beq_iff_eq]; exact fix.symm, List.mem_range.mpr (by omega), fun j hj => ?_⟩
        rw [after_succ, Bool.not_eq_true', beq_eq_false_iff_ne]
        exact fun q => old j hj q.symm
      rw [this]; rfl
/-! ## how many -/
def cnt (x : Nat) : Nat := if h : x = 0 then 0 else x % 2 + cnt (x / 2)
termination_by x
decreasing_by omega
theorem cnt_zero : cnt 0 = 0 := by rw [cnt]; rfl
theorem cnt_half (x : Nat) : cnt x = x % 2 + cnt (x / 2) := by
  by_cases h : x = 0
  · subst h; rw [cnt_zero]
  · rw [cnt, dif_neg h]
theorem cnt_filter : ∀ (n x : Nat), x < 2 ^ n → ((List.range n).filter (has x)).length = cnt x
  | 0, x, h => by
    have z : x = 0 := by rw [Nat.pow_zero] at h; omega
    subst z; rw [cnt_zero]; rfl
  | n + 1, x, h => by
    have ih := cnt_filter n (x / 2) (by rw [Nat.pow_succ] at h; omega)
    rw [List.range_succ_eq_map, cnt_half, ← ih]
    have e : (has x ∘ Nat.succ) = has (x / 2) := by
      funext k
      show has x (k + 1) = _
      rw [has_bit, has_bit, Nat.testBit_add_one]
    have t : ((List.range n).map Nat.succ).filter (has x) = ((List.range n).filter (has (x / 2))).map Nat.succ := by
      rw [List.filter_map, e]
    by_cases o : x % 2 = 1
    · have hp : has x 0 = true := by rw [has_bit, Nat.testBit_zero, o]; rfl
      rw [List.filter_cons_of_pos hp, t, List.length_cons, List.length_map, o]; omega
    · have hp : ¬ has x 0 = true := by rw [has_bit, Nat.testBit_zero]; simpa using o
      rw [List.filter_cons_of_neg hp, t, List.length_map]; omega
theorem many_cnt {g : Graph} {x : Nat} (h : x < 2 ^ size g) : many g x = cnt x := cnt_filter _ _ h
end Fn
namespace Fn
open Kyf
/-! ## rest -/
theorem full_bit (g : Graph) (u : Nat) : (full g).testBit u = decide (u < size g) := by
  unfold full
  exact Nat.testBit_two_pow_sub_one _ _
theorem rest_bit (g : Graph) (s u : Nat) : (rest g s).testBit u = (decide (u < size g) && !(forced g s).testBit u) := by
  unfold rest
  rw [mask_bit, Bool.eq_iff_iff, decide_eq_true_eq, List.mem_filter, List.mem_range, has_bit]
  simp
theorem rest_less (g : Graph) (s : Nat) : rest g s = full g - (full g &&& forced g s) := by
  apply Nat.eq_of_testBit_eq
  intro u
  rw [rest_bit, less_bits, full_bit]
theorem rest_lt (g : Graph) (s : Nat) : rest g s < 2 ^ size g := by
  apply Nat.lt_pow_two_of_testBit
  intro i hi
  rw [rest_bit, decide_eq_false (by omega)]
  rfl
theorem forcesAll_rest {g : Graph} {s : Nat} (h : forced g s < 2 ^ size g) : forcesAll g s = true ↔ rest g s = 0 := by
  unfold forcesAll
  rw [beq_iff_eq]
  constructor
  · intro e
    apply Nat.eq_of_testBit_eq
    intro u
    rw [rest_bit, e, full_bit, Nat.zero_testBit]
    cases decide (u < size g) <;> rfl
  · intro e
    apply Nat.eq_of_testBit_eq
    intro u
    have q := rest_bit g s u
    rw [e, Nat.zero_testBit] at q
    rw [full_bit]
    by_cases hu : u < size g
    · rw [decide_eq_true hu] at q ⊢
      cases t : (forced g s).testBit u with
      | true => rfl
      | false => rw [t] at q; cases q
    · rw [decide_eq_false hu]
      exact Nat.testBit_lt_two_pow (Nat.lt_of_lt_of_le h (Nat.pow_le_pow_right (by decide) (by omega)))
/-! ## fort -/
theorem len_one {l : List Nat} : l.length = 1 ↔ ∃ u, l = [u] := by
  constructor
  · intro h
    match l, h with
    | [u], _ => exact ⟨u, rfl⟩
  · rintro ⟨u, rfl⟩; rfl
theorem meets_one {g : Graph} {f k : Nat} (hf : f < 2 ^ size g) : ((nodes g f).filter (joined g k)).length = 1 ↔ one (nearTo g k &&& f) = true := by
  rw [len_one, one_iff]
  have e : (nodes g f).filter (joined g k) = (List.range (size g)).filter fun j => (nearTo g k &&& f).testBit j := by
    unfold nodes
    rw [List.filter_filter]
    apply List.filter_congr
    intro j _
    unfold joined
    rw [has_bit, has_bit, Nat.testBit_and]
  rw [e]
  refine exists_congr fun u => ?_
  rw [filter_one]
  constructor
  · rintro ⟨hu, pu, all⟩
    apply Nat.eq_of_testBit_eq
    intro i
    rw [Nat.testBit_two_pow]
    by_cases q : u = i
    · subst q; rw [pu]; simp
    · rw [decide_eq_false q]
      cases t : (nearTo g k &&& f).testBit i with
      | false => rfl
      | true =>
        have hi : i < size g := by
          by_cases hi : i < size g
          · exact hi
          · rw [Nat.testBit_and, Nat.testBit_lt_two_pow (Nat.lt_of_lt_of_le hf (Nat.pow_le_pow_right (by decide) (show size g ≤ i by omega)))] at t
            simp at t
        exact absurd (all i hi t).symm q
  · intro h
    rw [h]
    have t : ∀ j, (2 ^ u).testBit j = decide (u = j) := fun j => Nat.testBit_two_pow
    refine ⟨?_, by rw [t]; simp, fun j _ hj => by rw [t] at hj; exact (of_decide_eq_true hj).symm⟩
    by_cases hu : u < size g
    · exact hu
    · have q : (nearTo g k &&& f).testBit u = true := by rw [h, t]; simp
      rw [Nat.testBit_and, Nat.testBit_lt_two_pow (Nat.lt_of_lt_of_le hf (Nat.pow_le_pow_right (by decide) (show size g ≤ u by omega)))] at q
      simp at q
theorem fort_iff {g : Graph} {f : Nat} (hf : f < 2 ^ size g) : fort g f = true ↔ f ≠ 0 ∧ ∀ k, k < size g → has f k = false → one (nearTo g k &&& f) = false := by
  unfold fort
  rw [Bool.and_eq_true, Bool.and_eq_true, bne_iff_ne, List.all_eq_true]
  have ok1 : okSet g f = true := decide_eq_true hf
  rw [ok1]
  constructor
  · rintro ⟨⟨h0, _⟩, h⟩
    refine ⟨h0, fun k hk hh => ?_⟩
    have q := h k (List.mem_range.mpr hk)
    rw [hh, Bool.false_or, bne_iff_ne] at q
    cases t : one (nearTo g k &&& f) with
    | false => rfl
    | true => exact absurd ((meets_one hf).mpr t) q
  · rintro ⟨h0, h⟩
    refine ⟨⟨h0, rfl⟩, fun k hk => ?_⟩
    cases hh : has f k with
    | true => rfl
    | false =>
      rw [Bool.false_or, bne_iff_ne]
      intro q
      have := h k (List.mem_range.mp hk) hh
      rw [(meets_one hf).mp q] at this
      cases this
/-! ## fewest -/
theorem le_bits {a b : Nat} (h : ∀ i, a.testBit i = true → b.testBit i = true) : a ≤ b := Nat.le_of_testBit h
theorem step_full {g : Graph} (hg : Good g) : step g (full g) = full g := by
  apply Nat.eq_of_testBit_eq
  intro u
  rw [step_or hg, Nat.testBit_or]
  cases t : (next g (full g)).testBit u with
  | false => simp
  | true =>
    have := next_free hg t
    rw [full_bit, decide_eq_true this.1] at this
    cases this.2
theorem after_full {g : Graph} (hg : Good g) : ∀ n, after g n (full g) = full g
  | 0 => rfl
  | n + 1 => by rw [after_succ, after_full hg n, step_full hg]
theorem full_forces {g : Graph} (hg : Good g) : forcesAll g (full g) = true := by
  unfold forcesAll forced
  rw [after_full hg]
  exact beq_self_eq_true _
theorem full_lt (g : Graph) : full g < 2 ^ size g := by
  unfold full
  have := Nat.two_pow_pos (size g)
  omega
/-- a is before b: fewer nodes, or as many and a number no greater -/
def ahead (g : Graph) (a b : Nat) : Prop := many g a < many g b ∨ many g a = many g b ∧ a ≤ b
structure Best (g : Graph) (r : Nat) : Prop where
  lt : r < 2 ^ size g
  all : forcesAll g r = true
  least : ∀ t, t < 2 ^ size g → forcesAll g t = true → ahead g r t
theorem Best.unique {g : Graph} {a b : Nat} (ha : Best g a) (hb : Best g b) : a = b := by
  have h1 := ha.least b hb.lt hb.all
  have h2 := hb.least a ha.lt ha.all
  unfold ahead at h1 h2
  omega
/-- what the search holds ahead of s: the best of those below s, or full -/
structure Sofar (g : Graph) (s r : Nat) : Prop where
  lt : r < 2 ^ size g
  all : forcesAll g r = true
  least : ∀ t, t < s → t < 2 ^ size g → forcesAll g t = true → ahead g r t
  full : ahead g r (full g)
theorem Sofar.start {g : Graph} (hg : Good g) : Sofar g 0 (Kyf.full g) :=
  ⟨full_lt g, full_forces hg, fun t h => by omega, .inr ⟨rfl, Nat.le_refl _⟩⟩
theorem Sofar.turn {g : Graph} {s r : Nat} (h : Sofar g s r) (hr : r < s ∨ r = Kyf.full g) (hs : s < 2 ^ size g) :
    Sofar g (s + 1) (if many g s < many g r && forcesAll g s then s else r) ∧ ((if many g s < many g r && forcesAll g s then s else r) < s + 1 ∨ (if many g s < many g r && forcesAll g s then s else r) = Kyf.full g) := by
  by_cases q : (decide (many g s < many g r) && forcesAll g s) = true
  · rw [if_pos q]
    rw [Bool.and_eq_true, decide_eq_true_eq] at q
    refine ⟨⟨hs, q.2, fun t ht ht2 ft => ?_, ?_⟩, .inl (by omega)⟩
    · by_cases e : t = s
      · subst e; exact .inr ⟨rfl, Nat.le_refl _⟩
      · have := h.least t (by omega) ht2 ft
        unfold ahead at this ⊢
        omega
    · have := h.full
      unfold ahead at this ⊢
      omega
  · rw [if_neg q]
    refine ⟨⟨h.lt, h.all, fun t ht ht2 ft => ?_, h.full⟩, ?_⟩
    · by_cases e : t = s
      · subst e
        rw [Bool.and_eq_true, decide_eq_true_eq, ft] at q
        have n : ¬ many g t < many g r := fun z => q ⟨z, rfl⟩
        unfold ahead
        rcases hr with hr | hr
        · omega
        · rw [hr] at n ⊢
          by_cases e : many g (Kyf.full g) = many g t
          · -- as many as all: it is all
            right
            refine ⟨e, ?_⟩
            have : t = Kyf.full g := by
              apply Nat.eq_of_testBit_eq
              intro u
              rw [full_bit]
              by_cases hu : u < size g
              · rw [decide_eq_true hu]
                cases tu : t.testBit u with
                | true => rfl
                | false =>
                  have : many g t < many g (Kyf.full g) := by
                    unfold many nodes
                    apply filter_fewer
                    · intro x hx _
                      rw [has_bit, full_bit, decide_eq_true (List.mem_range.mp hx)]
                    · exact ⟨u, List.mem_range.mpr hu, by rw [has_bit, full_bit, decide_eq_true hu], by rw [has_bit]; exact tu⟩
                  omega
              · rw [decide_eq_false hu]
                exact Nat.testBit_lt_two_pow (Nat.lt_of_lt_of_le hs (Nat.pow_le_pow_right (by decide) (by omega)))
            omega
          · left
            omega
      · exact h.least t (by omega) ht2 ft
    · rcases hr with hr | hr
      · exact .inl (by omega)
      · exact .inr hr
theorem fewestFrom_sofar {g : Graph} : ∀ (f s r : Nat), s + f ≤ 2 ^ size g → Sofar g s r → (r < s ∨ r = full g) → Sofar g (s + f) (fewestFrom g f s r)
  | 0, s, r, _, h, _ => h
  | f + 1, s, r, hs, h, hr => by
    have t := h.turn hr (by omega)
    have := fewestFrom_sofar f (s + 1) _ (by omega) t.1 t.2
    rw [show s + (f + 1) = s + 1 + f by omega]
    exact this
theorem fewest_best {g : Graph} (hg : Good g) : Best g (fewest g) := by
  have h := fewestFrom_sofar (2 ^ size g) 0 (full g) (by omega) (Sofar.start hg) (.inr rfl)
  exact ⟨h.lt, h.all, fun t ht ft => h.least t (by omega) ht ft⟩
theorem fewest_is {g : Graph} (hg : Good g) {r : Nat} (h : Best g r) : fewest g = r := (fewest_best hg).unique h
end Fn
namespace Fn
open Kyf
/-! ## told: what is told of u behind k steps -/
def toldK (g : Graph) (s k u : Nat) : List Nat := if has s u then [0, 255] else match (List.range k).find? fun n => has (after g (n + 1) s) u with
  | none => [255, 255]
  | some n => [n + 1, (forcer g (after g n s) u).getD 255]
theorem told_toldK (g : Graph) (s u : Nat) : told g s u = toldK g s (size g) u := rfl
theorem has_step {g : Graph} (hg : Good g) {c u : Nat} (h : has c u = true) : has (step g c) u = true := by
  rw [has_bit] at h ⊢
  rw [step_or hg, Nat.testBit_or, h]; rfl
theorem has_after {g : Graph} (hg : Good g) {s u k : Nat} (h : has (after g k s) u = true) : ∀ d, has (after g (k + d) s) u = true
  | 0 => h
  | d + 1 => by
    show has (after g ((k + d) + 1) s) u = true
    rw [after_succ]
    exact has_step hg (has_after hg h d)
theorem bare_before {g : Graph} (hg : Good g) {s u k : Nat} (h : has (after g k s) u = false) {j : Nat} (hj : j ≤ k) : has (after g j s) u = false := by
  cases t : has (after g j s) u with
  | false => rfl
  | true =>
    obtain ⟨d, hd⟩ := Nat.exists_eq_add_of_le hj
    have := has_after hg t d
    rw [← hd, h] at this
    cases this
theorem toldK_zero (g : Graph) (s u : Nat) : toldK g s 0 u = if has s u then [0, 255] else [255, 255] := rfl
theorem toldK_bare {g : Graph} (hg : Good g) {s u k : Nat} (h : has (after g k s) u = false) : toldK g s k u = [255, 255] := by
  have h0 : has s u = false := bare_before hg h (Nat.zero_le k)
  unfold toldK
  rw [h0]
  have n : (List.range k).find? (fun n => has (after g (n + 1) s) u) = none := by
    rw [List.find?_eq_none]
    intro j hj
    rw [List.mem_range] at hj
    rw [bare_before hg h (show j + 1 ≤ k by omega)]
    simp
  rw [n]
  rfl
theorem toldK_keep {g : Graph} {s u k : Nat} (h : has (after g k s) u = true) : toldK g s (k + 1) u = toldK g s k u := by
  unfold toldK
  by_cases h0 : has s u = true
  · rw [if_pos h0, if_pos h0]
  · rw [if_neg h0, if_neg h0]
    cases k with
    | zero => exact absurd h h0
    | succ k =>
      have : (List.range (k + 1 + 1)).find? (fun n => has (after g (n + 1) s) u) = (List.range (k + 1)).find? (fun n => has (after g (n + 1) s) u) := by
        rw [List.range_succ (n := k + 1), List.find?_append]
        cases q : (List.range (k + 1)).find? (fun n => has (after g (n + 1) s) u) with
        | some v => rfl
        | none =>
          rw [List.find?_eq_none] at q
          exact absurd h (q k (List.mem_range.mpr (by omega)))
      rw [this]
theorem toldK_new {g : Graph} (hg : Good g) {s u k : Nat} (h : has (after g k s) u = false) (h1 : has (after g (k + 1) s) u = true) : toldK g s (k + 1) u = [k + 1, (forcer g (after g k s) u).getD 255] := by
  have h0 : has s u = false := bare_before hg h (Nat.zero_le k)
  unfold toldK
  rw [h0]
  have : (List.range (k + 1)).find? (fun n => has (after g (n + 1) s) u) = some k := by
    rw [List.find?_range_eq_some]
    refine ⟨h1, List.mem_range.mpr (by omega), fun j hj => ?_⟩
    rw [bare_before hg h (show j + 1 ≤ k by omega)]
    rfl
  rw [this]
  rfl
theorem toldK_succ {g : Graph} (hg : Good g) (s u k : Nat) : toldK g s (k + 1) u = if has (after g (k + 1) s) u && !has (after g k s) u then [k + 1, (forcer g (after g k s) u).getD 255] else toldK g s k u := by
  cases h : has (after g k s) u with
  | true => rw [toldK_keep h]; simp
  | false =>
    cases h1 : has (after g (k + 1) s) u with
    | true => rw [toldK_new hg h h1]; rfl
    | false => rw [toldK_bare hg h1, toldK_bare hg h]; rfl
theorem toldK_fix {g : Graph} {s u k : Nat} (hg : Good g) (fix : step g (after g k s) = after g k s) : ∀ d, toldK g s (k + d) u = toldK g s k u
  | 0 => rfl
  | d + 1 => by
    have ih := toldK_fix (u := u) hg fix d
    show toldK g s ((k + d) + 1) u = _
    rw [toldK_succ hg, after_succ, after_fix fix d, fix, ih]
    simp
theorem told_is {g : Graph} (hg : Good g) {s u k : Nat} (fix : step g (after g k s) = after g k s) (le : k ≤ size g) : told g s u = toldK g s k u := by
  obtain ⟨d, hd⟩ := Nat.exists_eq_add_of_le le
  rw [told_toldK, hd]
  exact toldK_fix hg fix d
/-- the first node that forces u, as a loop finds it -/
theorem forcer_some {g : Graph} {c u k : Nat} : forcer g c u = some k ↔ k < size g ∧ forces g c k u = true ∧ ∀ j, j < k → forces g c j u = false := by
  unfold forcer
  rw [List.find?_range_eq_some, List.mem_range]
  constructor
  · rintro ⟨a, b, d⟩
    exact ⟨b, a, fun j hj => by have := d j hj; simpa using this⟩
  · rintro ⟨a, b, d⟩
    exact ⟨b, a, fun j hj => by rw [d j hj]; rfl⟩
theorem forces_pow {g : Graph} (hg : Good g) {c k u : Nat} (hk : k < size g) : forces g c k u = true ↔ has c k = true ∧ nearTo g k - (nearTo g k &&& c) = 2 ^ u := by
  unfold forces
  rw [Bool.and_eq_true, Bool.and_eq_true, decide_eq_true_eq, beq_iff_eq, bare_is (hg.near k hk)]
  exact ⟨fun q => ⟨q.1.2, q.2⟩, fun q => ⟨⟨hk, q.1⟩, q.2⟩⟩
end Fn
namespace Fn
open Kyf PySem
/-! ## the program's defs over Int -/
def gr (xs : List Int) : Graph := ⟨xs.map Int.toNat⟩
def hasI (x k : Int) : Bool := (x.fdiv (2 ^ k.toNat)).fmod 2 == 1
def oneI (x : Int) : Bool := x != 0 && Builtin.bitAnd x (x - 1) == 0
def setI (x : Int) (xs : List Int) : Bool := x.fdiv (2 ^ xs.length) == 0
def at_ (xs : List Int) (k : Nat) : Int := xs.getD k 0
def nodeI (k : Int) (xs : List Int) : Bool := setI (xs.getD k.toNat 0) xs && !hasI (xs.getD k.toNat 0) k && (List.range xs.length).all fun j => !hasI (xs.getD k.toNat 0) (j : Int) || hasI (xs.getD j 0) k
def graphI (xs : List Int) : Bool := decide (1 ≤ xs.length) && decide (xs.length ≤ 16) && (List.range xs.length).all fun k => nodeI (k : Int) xs
def bareI (c : Int) (xs : List Int) (k : Nat) : Int := Builtin.bitAnd (xs.getD k 0) (Builtin.bitNot c)
def nextI (c : Int) (xs : List Int) : Nat → Int
  | 0 => 0
  | k + 1 => if hasI c (k : Int) && oneI (bareI c xs k) then Builtin.bitOr (nextI c xs k) (bareI c xs k) else nextI c xs k
def nextA (c : Int) (xs : List Int) : Int := nextI c xs xs.length
def cntI (x : Int) : Int := (cnt x.toNat : Nat)

theorem pow_cast (k : Nat) : ((2 ^ k : Nat) : Int) = (2 : Int) ^ k := PySem.W.kbt_cast k
theorem pow_pos (k : Nat) : (0 : Int) < 2 ^ k := by
  have := Nat.two_pow_pos k
  rw [← pow_cast]; omega
theorem fdiv_pow {x : Int} (h : 0 ≤ x) (k : Nat) : x.fdiv (2 ^ k) = ((x.toNat / 2 ^ k : Nat) : Int) := by
  rw [Int.fdiv_eq_ediv_of_nonneg _ (Int.le_of_lt (pow_pos k)), Int.natCast_ediv, pow_cast, Int.toNat_of_nonneg h]
theorem hasI_nat {x : Int} (h : 0 ≤ x) (k : Int) : hasI x k = has x.toNat k.toNat := by
  unfold hasI has
  rw [fdiv_pow h, Int.fmod_eq_emod_of_nonneg _ (by decide)]
  have e : ((x.toNat / 2 ^ k.toNat : Nat) : Int) % 2 = ((x.toNat / 2 ^ k.toNat % 2 : Nat) : Int) := by omega
  rw [e, Bool.eq_iff_iff, beq_iff_eq, beq_iff_eq]
  omega
theorem setI_iff (x : Int) (xs : List Int) : setI x xs = true ↔ 0 ≤ x ∧ x.toNat < 2 ^ xs.length := by
  unfold setI
  rw [beq_iff_eq]
  have p := pow_pos xs.length
  rw [Int.fdiv_eq_ediv_of_nonneg _ (Int.le_of_lt p)]
  have c := pow_cast xs.length
  constructor
  · intro h
    have h1 := Int.emod_nonneg x (show (2 : Int) ^ xs.length ≠ 0 by omega)
    have h2 := Int.emod_lt_of_pos x p
    have h3 := Int.emod_def x (2 ^ xs.length)
    rw [h, Int.mul_zero] at h3
    omega
  · rintro ⟨h0, h1⟩
    exact Int.ediv_eq_zero_of_lt h0 (by omega)
theorem oneI_nat {x : Int} (h : 0 ≤ x) : oneI x = one x.toNat := by
  unfold oneI one
  by_cases z : x = 0
  · subst z; rfl
  · rw [PyProof.Rows.bitAnd_pp h (by omega), Bool.eq_iff_iff, Bool.and_eq_true, Bool.and_eq_true, bne_iff_ne, bne_iff_ne, beq_iff_eq, beq_iff_eq]
    have e : (x - 1).toNat = x.toNat - 1 := by omega
    rw [e]
    omega
theorem size_gr (xs : List Int) : size (gr xs) = xs.length := by
  unfold size gr
  exact List.length_map _
theorem nearTo_gr (xs : List Int) (k : Nat) : nearTo (gr xs) k = (xs.getD k 0).toNat := by
  unfold nearTo gr
  show (xs.map Int.toNat).getD k 0 = _
  rw [List.getD_eq_getElem?_getD, List.getD_eq_getElem?_getD, List.getElem?_map]
  cases xs[k]? <;> rfl
theorem getD_nonneg {xs : List Int} (h : ∀ x ∈ xs, 0 ≤ x) (k : Nat) : 0 ≤ xs.getD k 0 := by
  rw [List.getD_eq_getElem?_getD]
  cases e : xs[k]? with
  | none => exact Int.le_refl 0
  | some v => exact h v (List.mem_of_getElem? e)
theorem bareI_nat {c : Int} {xs : List Int} (hc : 0 ≤ c) (h : ∀ x ∈ xs, 0 ≤ x) (k : Nat) : bareI c xs k = ((nearTo (gr xs) k - (nearTo (gr xs) k &&& c.toNat) : Nat) : Int) := by
  unfold bareI
  have p := getD_nonneg h k
  rw [PyProof.Rows.bitAnd_not, PyProof.Rows.bitAnd_pp p hc, nearTo_gr]
  have := @Nat.and_le_left (xs.getD k 0).toNat c.toNat
  omega
theorem or_nat (a b : Nat) : Builtin.bitOr (a : Int) (b : Int) = ((a ||| b : Nat) : Int) := by
  rw [PyProof.Rows.bitOr_and, PyProof.Rows.bitAnd_pp (by omega) (by omega)]
  have := PyProof.Rows.nat_or_add_and a b
  have e1 : ((a : Int)).toNat = a := by omega
  have e2 : ((b : Int)).toNat = b := by omega
  rw [e1, e2]
  omega
theorem nextI_nat {c : Int} {xs : List Int} (hc : 0 ≤ c) (h : ∀ x ∈ xs, 0 ≤ x) : ∀ k, nextI c xs k = ((nextN (gr xs) c.toNat k : Nat) : Int)
  | 0 => rfl
  | k + 1 => by
    have ih := nextI_nat hc h k
    rw [nextI, nextN, ih, bareI_nat hc h, hasI_nat hc, oneI_nat (by omega)]
    have e1 : ((k : Int)).toNat = k := by omega
    have e2 : (((nearTo (gr xs) k - (nearTo (gr xs) k &&& c.toNat) : Nat) : Int)).toNat = nearTo (gr xs) k - (nearTo (gr xs) k &&& c.toNat) := by omega
    rw [e1, e2]
    split
    · rw [or_nat]
    · rfl
theorem nextA_nat {c : Int} {xs : List Int} (hc : 0 ≤ c) (h : ∀ x ∈ xs, 0 ≤ x) : nextA c xs = ((next (gr xs) c.toNat : Nat) : Int) := by
  unfold nextA next
  rw [nextI_nat hc h, size_gr]
theorem graphI_parts {xs : List Int} (h : graphI xs = true) : 1 ≤ xs.length ∧ xs.length ≤ 16 ∧ (∀ x ∈ xs, 0 ≤ x ∧ x.toNat < 2 ^ xs.length) := by
  unfold graphI at h
  rw [Bool.and_eq_true, Bool.and_eq_true, decide_eq_true_eq, decide_eq_true_eq, List.all_eq_true] at h
  refine ⟨h.1.1, h.1.2, fun x hx => ?_⟩
  obtain ⟨k, hk, e⟩ := List.mem_iff_getElem.mp hx
  have q := h.2 k (List.mem_range.mpr hk)
  unfold nodeI at q
  rw [Bool.and_eq_true, Bool.and_eq_true, setI_iff] at q
  have e2 : xs.getD (k : Int).toNat 0 = x := by
    rw [show (k : Int).toNat = k by omega, List.getD_eq_getElem?_getD, List.getElem?_eq_getElem hk, e]
    rfl
  rw [e2] at q
  exact q.1.1
theorem graphI_ok {xs : List Int} (h : ∀ x ∈ xs, 0 ≤ x) : graphI xs = ok (gr xs) := by
  have hh : ∀ a b : Nat, hasI (xs.getD a 0) (b : Int) = joined (gr xs) a b := fun a b => by
    unfold joined
    rw [hasI_nat (getD_nonneg h a), nearTo_gr]
    rfl
  have hs : ∀ a : Nat, setI (xs.getD a 0) xs = true ↔ nearTo (gr xs) a < 2 ^ xs.length := fun a => by
    rw [setI_iff, nearTo_gr]
    exact ⟨fun q => q.2, fun q => ⟨getD_nonneg h a, q⟩⟩
  have hn : ∀ a : Nat, nodeI (a : Int) xs = true ↔ nearTo (gr xs) a < 2 ^ xs.length ∧ joined (gr xs) a a = false ∧ ∀ b, b < xs.length → joined (gr xs) a b = true → joined (gr xs) b a = true := fun a => by
    unfold nodeI
    rw [show (a : Int).toNat = a by omega, Bool.and_eq_true, Bool.and_eq_true, hs, hh, Bool.not_eq_true', List.all_eq_true, and_assoc]
    refine and_congr Iff.rfl (and_congr Iff.rfl ?_)
    constructor
    · intro q b hb jb
      have := q b (List.mem_range.mpr hb)
      rw [hh, hh, jb] at this
      exact this
    · intro q b hb
      rw [hh, hh]
      cases jb : joined (gr xs) a b with
      | false => rfl
      | true => rw [q b (List.mem_range.mp hb) jb]; rfl
  have len : (gr xs).near.all (fun m => decide (m < 2 ^ xs.length)) = true ↔ ∀ a, a < xs.length → nearTo (gr xs) a < 2 ^ xs.length := by
    rw [List.all_eq_true]
    constructor
    · intro q a ha
      have m : nearTo (gr xs) a ∈ (gr xs).near := by
        unfold nearTo
        have hl : a < (gr xs).near.length := by have := size_gr xs; unfold size at this; omega
        rw [List.getD_eq_getElem?_getD, List.getElem?_eq_getElem hl]
        exact List.getElem_mem hl
      exact of_decide_eq_true (q _ m)
    · intro q m hm
      obtain ⟨a, ha, e⟩ := List.mem_iff_getElem.mp hm
      have hl : a < xs.length := by have := size_gr xs; unfold size at this; omega
      have := q a hl
      unfold nearTo at this
      rw [List.getD_eq_getElem?_getD, List.getElem?_eq_getElem ha, e] at this
      exact decide_eq_true this
  unfold graphI ok
  rw [size_gr, Bool.eq_iff_iff]
  simp only [Bool.and_eq_true, decide_eq_true_eq, len]
  rw [List.all_eq_true, List.all_eq_true]
  constructor
  · rintro ⟨⟨h1, h2⟩, q⟩
    have q' : ∀ a : Nat, a < xs.length → _ := fun a ha => (hn a).mp (q a (List.mem_range.mpr ha))
    refine ⟨⟨⟨h1, h2⟩, fun a ha => (q' a ha).1⟩, fun a ha => ?_⟩
    rw [List.mem_range] at ha
    rw [(q' a ha).2.1, Bool.not_false, Bool.true_and, List.all_eq_true]
    intro b hb
    rw [List.mem_range] at hb
    rw [beq_iff_eq, Bool.eq_iff_iff]
    exact ⟨(q' a ha).2.2 b hb, (q' b hb).2.2 a ha⟩
  · rintro ⟨⟨⟨h1, h2⟩, q1⟩, q2⟩
    refine ⟨⟨h1, h2⟩, fun a ha => ?_⟩
    have p := q2 a ha
    rw [List.mem_range] at ha
    rw [Bool.and_eq_true, Bool.not_eq_true', List.all_eq_true] at p
    refine (hn a).mpr ⟨q1 a ha, p.1, fun b hb jb => ?_⟩
    have := p.2 b (List.mem_range.mpr hb)
    rw [beq_iff_eq] at this
    rw [← this]; exact jb
theorem good_gr {xs : List Int} (h : graphI xs = true) : Good (gr xs) := by
  refine ⟨fun k hk => ?_⟩
  rw [size_gr] at hk ⊢
  rw [nearTo_gr]
  have := (graphI_parts h).2.2 (xs.getD k 0) (by
    rw [List.getD_eq_getElem?_getD, List.getElem?_eq_getElem hk]
    exact List.getElem_mem hk)
  exact this.2
/-! ## the while of forced -/
structure Run (s : Int) (xs : List Int) (c k f : Int) : Prop where
  graph : graphI xs = true
  set : setI s xs = true
  pos : 0 ≤ k
  col : c = ((after (gr xs) k.toNat s.toNat : Nat) : Int)
  nxt : f = nextA c xs
  old : ∀ j, j < k.toNat → step (gr xs) (after (gr xs) j s.toNat) ≠ after (gr xs) j s.toNat
theorem Run.nonneg {xs : List Int} (h : graphI xs = true) : ∀ x ∈ xs, 0 ≤ x := fun x hx => ((graphI_parts h).2.2 x hx).1
theorem Run.start {s : Int} {xs : List Int} (hg : graphI xs = true) (hs : setI s xs = true) : Run s xs s 0 (nextA s xs) :=
  ⟨hg, hs, Int.le_refl 0, by
    have := ((setI_iff s xs).mp hs).1
    show s = ((s.toNat : Nat) : Int)
    omega, rfl, fun j hj => by
    have : (0 : Int).toNat = 0 := rfl
    omega⟩
theorem Run.cpos {s c k f : Int} {xs : List Int} (r : Run s xs c k f) : 0 ≤ c := by rw [r.col]; omega
theorem Run.fpos {s c k f : Int} {xs : List Int} (r : Run s xs c k f) : f = ((next (gr xs) c.toNat : Nat) : Int) := by
  rw [r.nxt, nextA_nat r.cpos (Run.nonneg r.graph)]
theorem Run.lt {s c k f : Int} {xs : List Int} (r : Run s xs c k f) : c.toNat < 2 ^ xs.length := by
  have q := after_lt (good_gr r.graph) (s := s.toNat) (by rw [size_gr]; exact ((setI_iff s xs).mp r.set).2) k.toNat
  rw [size_gr] at q
  rw [r.col]
  omega
theorem Run.or {s c k f : Int} {xs : List Int} (r : Run s xs c k f) : Builtin.bitOr c f = ((step (gr xs) c.toNat : Nat) : Int) := by
  have e : c = ((c.toNat : Nat) : Int) := by have := r.cpos; omega
  rw [r.fpos, step_or (good_gr r.graph), ← or_nat, ← e]
theorem Run.turn {s c k f : Int} {xs : List Int} (r : Run s xs c k f) (h : f ≠ 0) : Run s xs (Builtin.bitOr c f) (k + 1) (nextA (Builtin.bitOr c f) xs) := by
  have ct : c.toNat = after (gr xs) k.toNat s.toNat := by rw [r.col]; omega
  have kt : (k + 1).toNat = k.toNat + 1 := by have := r.pos; omega
  refine ⟨r.graph, r.set, by have := r.pos; omega, ?_, rfl, fun j hj => ?_⟩
  · rw [r.or, kt, after_succ, ct]
  · by_cases e : j = k.toNat
    · rw [e, ← ct]
      intro q
      rw [step_add (good_gr r.graph)] at q
      have := r.fpos
      omega
    · exact r.old j (by omega)
theorem Run.less {s c k f : Int} {xs : List Int} (r : Run s xs c k f) (h : f ≠ 0) : 2 ^ xs.length - (Builtin.bitOr c f).toNat < 2 ^ xs.length - c.toNat := by
  have e := r.or
  rw [step_add (good_gr r.graph)] at e
  have := r.fpos
  have := r.lt
  omega
theorem Run.out {s c k f : Int} {xs : List Int} (r : Run s xs c k f) (h : f = 0) : [cntI c, c, k] = PyKyf.forced s xs := by
  have ct : c.toNat = after (gr xs) k.toNat s.toNat := by rw [r.col]; omega
  have fix : step (gr xs) (after (gr xs) k.toNat s.toNat) = after (gr xs) k.toNat s.toNat := by
    rw [← ct, step_add (good_gr r.graph)]
    have := r.fpos
    omega
  obtain ⟨e1, e2, e3⟩ := told_end (good_gr r.graph) fix r.old
  have okg : ok (gr xs) = true := by rw [← graphI_ok (Run.nonneg r.graph)]; exact r.graph
  have oks : okSet (gr xs) s.toNat = true := by
    unfold okSet
    rw [size_gr]
    exact decide_eq_true ((setI_iff s xs).mp r.set).2
  have hm : many (gr xs) (forced (gr xs) s.toNat) = cnt c.toNat := by
    rw [e1, ← ct]
    exact many_cnt (by rw [size_gr]; exact r.lt)
  show _ = KyfNeutral.f [[0, s], xs]
  unfold KyfNeutral.f KyfNeutral.callOf
  show _ = (answer (.forced (gr xs) s.toNat)).value :: KyfNeutral.ints (answer (.forced (gr xs) s.toNat)).out
  have a : answer (.forced (gr xs) s.toNat) = ⟨(many (gr xs) (forced (gr xs) s.toNat) : Nat), [forced (gr xs) s.toNat, steps (gr xs) s.toNat]⟩ := by
    show (if ok (gr xs) = false ∨ okSet (gr xs) s.toNat = false then say (-22) else _) = _
    rw [if_neg]
    rw [okg, oks]
    simp
  rw [a, hm, e2, e1, ← ct]
  show _ = [((cnt c.toNat : Nat) : Int), ((c.toNat : Nat) : Int), ((k.toNat : Nat) : Int)]
  have h1 : ((c.toNat : Nat) : Int) = c := by have := r.cpos; omega
  have h2 : ((k.toNat : Nat) : Int) = k := by have := r.pos; omega
  rw [h1, h2]
  rfl
theorem refused {s : Int} {xs : List Int} (hx : ∀ x ∈ xs, 0 ≤ x) (h0 : 0 ≤ s) (h : graphI xs = false ∨ setI s xs = false) : [-22] = PyKyf.forced s xs := by
  show _ = (answer (.forced (gr xs) s.toNat)).value :: KyfNeutral.ints (answer (.forced (gr xs) s.toNat)).out
  have a : answer (.forced (gr xs) s.toNat) = say (-22) := by
    show (if ok (gr xs) = false ∨ okSet (gr xs) s.toNat = false then say (-22) else _) = _
    rw [if_pos]
    rcases h with h | h
    · left; rw [← graphI_ok hx]; exact h
    · right
      unfold okSet
      rw [size_gr]
      apply decide_eq_false
      intro q
      rw [(setI_iff s xs).mpr ⟨h0, q⟩] at h
      cases h
  rw [a]
  rfl
end Fn
namespace Fn
open Kyf PySem
/-! ## forced_by, forced_next, colourings: the defs of the second landing -/
def byI (k c : Int) (xs : List Int) : Int := if hasI c k && oneI (bareI c xs k.toNat) then bareI c xs k.toNat else 0
theorem or_zero (x : Int) : Builtin.bitOr x 0 = x := by
  rw [PyProof.Rows.bitOr_and, PyProof.Rows.bitAnd_zero]
  omega
theorem nextI_by {c : Int} {xs : List Int} (k : Nat) : nextI c xs (k + 1) = Builtin.bitOr (nextI c xs k) (byI (k : Int) c xs) := by
  rw [nextI, byI, show ((k : Nat) : Int).toNat = k by omega]
  split
  · rfl
  · rw [or_zero]
/-- what colourings has made: the colourings behind 0, 1, .. steps -/
structure Path (s : Int) (xs b : List Int) (f : Int) : Prop where
  run : Run s xs (b.getD (b.length - 1) 0) ((b.length - 1 : Nat) : Int) f
  cells : ∀ j, j < b.length → b.getD j 0 = ((after (gr xs) j s.toNat : Nat) : Int)
  some : 1 ≤ b.length
  few : b.length ≤ 17
theorem Run.few {s c k f : Int} {xs : List Int} (r : Run s xs c k f) : k ≤ 16 := by
  have q := many_after (good_gr r.graph) k.toNat r.old
  have := many_le (gr xs) (after (gr xs) k.toNat s.toNat)
  rw [size_gr] at this
  have := (graphI_parts r.graph).2.1
  have := r.pos
  omega
theorem Path.start {s : Int} {xs : List Int} (hg : graphI xs = true) (hs : setI s xs = true) : Path s xs [s] (nextA s xs) := by
  refine ⟨Run.start hg hs, fun j hj => ?_, Nat.le_refl 1, by show 1 ≤ 17; omega⟩
  have e : j = 0 := by
    have : j < 1 := hj
    omega
  subst e
  exact (Run.start hg hs).col
theorem last_app (b : List Int) (y : Int) : (b ++ [y]).getD ((b ++ [y]).length - 1) 0 = y := by
  rw [List.length_append, List.length_singleton, Nat.add_sub_cancel, List.getD_eq_getElem?_getD, List.getElem?_append_right (Nat.le_refl _), Nat.sub_self]
  rfl
theorem Path.turn {s f : Int} {xs b : List Int} (p : Path s xs b f) (h : f ≠ 0) : Path s xs (b ++ [Builtin.bitOr (b.getD (b.length - 1) 0) f]) (nextA (Builtin.bitOr (b.getD (b.length - 1) 0) f) xs) := by
  have r := p.run.turn h
  have e1 : (((b ++ [Builtin.bitOr (b.getD (b.length - 1) 0) f]).length - 1 : Nat) : Int) = ((b.length - 1 : Nat) : Int) + 1 := by
    have := p.some
    rw [List.length_append, List.length_singleton]
    omega
  have q : Run s xs ((b ++ [Builtin.bitOr (b.getD (b.length - 1) 0) f]).getD ((b ++ [Builtin.bitOr (b.getD (b.length - 1) 0) f]).length - 1) 0) (((b ++ [Builtin.bitOr (b.getD (b.length - 1) 0) f]).length - 1 : Nat) : Int) (nextA (Builtin.bitOr (b.getD (b.length - 1) 0) f) xs) := by
    rw [last_app, e1]
    exact r
  have few := q.few
  have s1 := p.some
  rw [e1] at few
  have ln : (b ++ [Builtin.bitOr (b.getD (b.length - 1) 0) f]).length = b.length + 1 := by rw [List.length_append, List.length_singleton]
  refine ⟨q, fun j hj => ?_, by omega, by omega⟩
  by_cases c : j < b.length
  · rw [List.getD_eq_getElem?_getD, List.getElem?_append_left c, ← List.getD_eq_getElem?_getD]
    exact p.cells j c
  · have ej : j = (b ++ [Builtin.bitOr (b.getD (b.length - 1) 0) f]).length - 1 := by omega
    have := q.col
    rw [← ej] at this
    rw [this]
    rfl
theorem Path.less {s f : Int} {xs b : List Int} (p : Path s xs b f) : 18 - (b ++ [Builtin.bitOr (b.getD (b.length - 1) 0) f]).length < 18 - b.length := by
  have := p.few
  rw [List.length_append, List.length_singleton]
  omega
theorem Path.out {s f : Int} {xs b : List Int} (p : Path s xs b f) (h : f = 0) : [cntI (b.getD (b.length - 1) 0), b.getD (b.length - 1) 0, (b.length : Int) - 1] = PyKyf.forced s xs := by
  rw [← p.run.out h]
  have := p.some
  rw [show (b.length : Int) - 1 = ((b.length - 1 : Nat) : Int) by omega]
end Fn
namespace Fn
open Kyf PySem
/-! ## the defs' values -/
theorem and_one (x : Int) : Builtin.bitAnd x 1 = x.fmod 2 := PySem.W.kbt_maskF x 1
theorem tr_has (x k : Int) : (Builtin.bitAnd (x.fdiv (2 ^ k.toNat)) 1 == 1) = hasI x k := by
  unfold hasI
  rw [and_one]
theorem tr_set (x : Int) (xs : List Int) : (x.fdiv (2 ^ (xs.length : Int).toNat) == 0) = setI x xs := by
  unfold setI
  rw [show (xs.length : Int).toNat = xs.length by omega]
theorem tr_one {x : Int} (h : x ≠ 0) : (Builtin.bitAnd x (x - 1) == 0) = oneI x := by
  unfold oneI
  rw [show (x != 0) = true by simpa using h, Bool.true_and]
theorem tr_one0 {x : Int} (h : x = 0) : false = oneI x := by
  subst h; rfl
theorem tr_one1 {x : Int} (h : x = 0) : (x != 0) = oneI x := by
  subst h; rfl
theorem cntI_zero {x : Int} (h : x = 0) : cntI x = 0 := by
  subst h
  show ((cnt 0 : Nat) : Int) = 0
  rw [cnt_zero]; rfl
theorem half_nonneg {x : Int} (h : 0 ≤ x) : 0 ≤ x.fdiv 2 := by
  rw [Int.fdiv_eq_ediv_of_nonneg _ (by decide)]
  omega
theorem half_less {x : Int} (h : 0 ≤ x) (h0 : x ≠ 0) : (x.fdiv 2).toNat < x.toNat := by
  rw [Int.fdiv_eq_ediv_of_nonneg _ (by decide)]
  omega
theorem cntI_half {x : Int} (h : 0 ≤ x) : cntI x = Builtin.bitAnd x 1 + cntI (x.fdiv 2) := by
  rw [and_one, Int.fmod_eq_emod_of_nonneg _ (by decide), Int.fdiv_eq_ediv_of_nonneg _ (by decide)]
  unfold cntI
  have e := cnt_half x.toNat
  have e1 : (x / 2).toNat = x.toNat / 2 := by omega
  rw [e1]
  omega
theorem cnt_start (n : Int) (h : 0 ≤ n) : 0 ≤ n ∧ (0 : Int) ≤ 0 ∧ 0 + cntI n = cntI n := ⟨h, Int.le_refl 0, Int.zero_add _⟩
theorem and_one_nonneg (x : Int) : 0 ≤ Builtin.bitAnd x 1 := by
  rw [and_one, Int.fmod_eq_emod_of_nonneg _ (by decide)]
  omega
theorem cnt_turn {n l c : Int} (h : c + cntI l = cntI n) (l0 : 0 ≤ l) (c0 : 0 ≤ c) : 0 ≤ l.fdiv 2 ∧ 0 ≤ c + Builtin.bitAnd l 1 ∧ c + Builtin.bitAnd l 1 + cntI (l.fdiv 2) = cntI n := by
  have e := cntI_half l0
  have := and_one_nonneg l
  exact ⟨half_nonneg l0, by omega, by omega⟩
theorem cnt_out {n l c : Int} (h : c + cntI l = cntI n) (z : l = 0) : c = cntI n := by
  rw [cntI_zero z] at h
  omega
/-! is_node_as_told -/
structure Seen (k : Int) (xs pre : List Int) : Prop where
  all : ∀ j ∈ pre, hasI (xs.getD k.toNat 0) j = true → hasI (xs.getD j.toNat 0) k = true
theorem Seen.start (k : Int) (xs : List Int) : Seen k xs [] := ⟨fun _ h => nomatch h⟩
theorem Seen.turn0 {k j : Int} {xs pre : List Int} (h : Seen k xs pre) (n : hasI (xs.getD k.toNat 0) j = false) : Seen k xs (pre ++ [j]) := by
  refine ⟨fun i hi q => ?_⟩
  rcases List.mem_append.mp hi with a | b
  · exact h.all i a q
  · rw [List.mem_singleton] at b
    subst b
    rw [n] at q
    cases q
theorem Seen.turn1 {k j : Int} {xs pre : List Int} (h : Seen k xs pre) (n : hasI (xs.getD j.toNat 0) k = true) : Seen k xs (pre ++ [j]) := by
  refine ⟨fun i hi q => ?_⟩
  rcases List.mem_append.mp hi with a | b
  · exact h.all i a q
  · rw [List.mem_singleton] at b
    subst b
    exact n
theorem mem_places {n : Nat} {j : Nat} (h : j < n) : (j : Int) ∈ PySem.W.rangeKs 0 n := by
  unfold PySem.W.rangeKs
  exact List.mem_map.mpr ⟨j, List.mem_range.mpr h, by show (0 : Int) + (j : Int) = j; omega⟩
theorem node_set {k : Int} {xs : List Int} (h : setI (xs.getD k.toNat 0) xs = false) : false = nodeI k xs := by
  unfold nodeI
  rw [h]; rfl
theorem node_self {k : Int} {xs : List Int} (h : hasI (xs.getD k.toNat 0) k = true) : false = nodeI k xs := by
  unfold nodeI
  rw [h, Bool.not_true, Bool.and_false, Bool.false_and]
theorem node_out {k j : Int} {xs : List Int} (h1 : hasI (xs.getD k.toNat 0) j = true) (h2 : hasI (xs.getD j.toNat 0) k = false) (j0 : 0 ≤ j) (j1 : j < (xs.length : Int)) : false = nodeI k xs := by
  unfold nodeI
  have : (List.range xs.length).all (fun j => !hasI (xs.getD k.toNat 0) (j : Int) || hasI (xs.getD j 0) k) = false := by
    rw [List.all_eq_false]
    refine ⟨j.toNat, List.mem_range.mpr (by omega), ?_⟩
    rw [show ((j.toNat : Nat) : Int) = j by omega, h1, h2]
    decide
  rw [this, Bool.and_false]
theorem node_in {k : Int} {n : Nat} {xs : List Int} (h : Seen k xs (PySem.W.rangeKs 0 n)) (hs : setI (xs.getD k.toNat 0) xs = true) (hh : hasI (xs.getD k.toNat 0) k = false) (hn : n = xs.length) : true = nodeI k xs := by
  unfold nodeI
  rw [hs, hh]
  symm
  rw [Bool.not_false, Bool.true_and, Bool.true_and, List.all_eq_true]
  intro j hj
  rw [List.mem_range] at hj
  cases q : hasI (xs.getD k.toNat 0) (j : Int) with
  | false => rfl
  | true =>
    have := h.all (j : Int) (mem_places (by omega)) q
    rw [show ((j : Int)).toNat = j by omega] at this
    rw [this]; rfl
/-! is_graph -/
structure Nodes (xs pre : List Int) : Prop where
  all : ∀ j ∈ pre, nodeI j xs = true
theorem Nodes.start (xs : List Int) : Nodes xs [] := ⟨fun _ h => nomatch h⟩
theorem Nodes.turn {j : Int} {xs pre : List Int} (h : Nodes xs pre) (n : nodeI j xs = true) : Nodes xs (pre ++ [j]) := by
  refine ⟨fun i hi => ?_⟩
  rcases List.mem_append.mp hi with a | b
  · exact h.all i a
  · rw [List.mem_singleton] at b
    subst b
    exact n
theorem graph_low {xs : List Int} (h : (xs.length : Int) < 1) : false = graphI xs := by
  unfold graphI
  rw [decide_eq_false (show ¬ 1 ≤ xs.length by omega), Bool.false_and, Bool.false_and]
theorem graph_high {xs : List Int} (h : 16 < (xs.length : Int)) : false = graphI xs := by
  unfold graphI
  rw [decide_eq_false (show ¬ xs.length ≤ 16 by omega), Bool.and_false, Bool.false_and]
theorem graph_out {j : Int} {xs : List Int} (h : nodeI j xs = false) (j0 : 0 ≤ j) (j1 : j < (xs.length : Int)) : false = graphI xs := by
  unfold graphI
  have : (List.range xs.length).all (fun k => nodeI (k : Int) xs) = false := by
    rw [List.all_eq_false]
    refine ⟨j.toNat, List.mem_range.mpr (by omega), ?_⟩
    rw [show ((j.toNat : Nat) : Int) = j by omega, h]
    decide
  rw [this, Bool.and_false]
theorem graph_in {n : Nat} {xs : List Int} (h : Nodes xs (PySem.W.rangeKs 0 n)) (h1 : ¬ (xs.length : Int) < 1) (h2 : ¬ 16 < (xs.length : Int)) (hn : n = xs.length) : true = graphI xs := by
  unfold graphI
  rw [decide_eq_true (show 1 ≤ xs.length by omega), decide_eq_true (show xs.length ≤ 16 by omega)]
  symm
  rw [Bool.true_and, Bool.true_and, List.all_eq_true]
  intro j hj
  rw [List.mem_range] at hj
  exact h.all (j : Int) (mem_places (by omega))
/-! forced_next -/
theorem next_start (c : Int) (xs : List Int) : (0 : Int) = nextI c xs ([] : List Int).length := rfl
theorem next_turn {c f k : Int} {xs pre : List Int} (h : f = nextI c xs pre.length) (hk : k = 0 + (pre.length : Int)) (h1 : hasI c k = true) (h2 : oneI (Builtin.bitAnd (xs.getD k.toNat 0) (Builtin.bitNot c)) = true) :
    Builtin.bitOr f (Builtin.bitAnd (xs.getD k.toNat 0) (Builtin.bitNot c)) = nextI c xs (pre ++ [k]).length := by
  have e : k.toNat = pre.length := by omega
  have e2 : ((pre.length : Nat) : Int) = k := by omega
  rw [List.length_append, List.length_singleton, nextI, e2, h1, h]
  rw [e] at h2 ⊢
  unfold bareI
  rw [h2]
  rfl
theorem next_no {c f k : Int} {xs pre : List Int} (h : f = nextI c xs pre.length) (hk : k = 0 + (pre.length : Int)) (h1 : hasI c k = false) : f = nextI c xs (pre ++ [k]).length := by
  have e2 : ((pre.length : Nat) : Int) = k := by omega
  rw [List.length_append, List.length_singleton, nextI, e2, h1, h]
  rfl
theorem next_many {c f k : Int} {xs pre : List Int} (h : f = nextI c xs pre.length) (hk : k = 0 + (pre.length : Int)) (h2 : oneI (Builtin.bitAnd (xs.getD k.toNat 0) (Builtin.bitNot c)) = false) : f = nextI c xs (pre ++ [k]).length := by
  have e : k.toNat = pre.length := by omega
  rw [List.length_append, List.length_singleton, nextI, h]
  rw [e] at h2
  unfold bareI
  rw [h2, Bool.and_false]
  rfl
theorem run_start {s : Int} {xs : List Int} (hg : graphI xs = true) (hs : setI s xs = true) : 0 ≤ s ∧ Run s xs s 0 (nextA s xs) := ⟨(Run.start hg hs).cpos, Run.start hg hs⟩
theorem run_turn {s c k f : Int} {xs : List Int} (r : Run s xs c k f) (h : f ≠ 0) : 0 ≤ Builtin.bitOr c f ∧ Run s xs (Builtin.bitOr c f) (k + 1) (nextA (Builtin.bitOr c f) xs) := ⟨(r.turn h).cpos, r.turn h⟩
theorem next_out {c f : Int} {n : Nat} {xs : List Int} (h : f = nextI c xs (PySem.W.rangeKs 0 n).length) (hn : n = xs.length) : f = nextA c xs := by
  rw [h, PySem.W.rangeKs_length, hn]
  rfl
end Fn
namespace Fn
open Kyf PySem
theorem by_in {c k : Int} {xs : List Int} (h1 : hasI c k = true) (h2 : oneI (Builtin.bitAnd (xs.getD k.toNat 0) (Builtin.bitNot c)) = true) : Builtin.bitAnd (xs.getD k.toNat 0) (Builtin.bitNot c) = byI k c xs := by
  unfold byI bareI
  rw [h1, h2]
  rfl
theorem by_no {c k : Int} {xs : List Int} (h1 : hasI c k = false) : 0 = byI k c xs := by
  unfold byI
  rw [h1]
  rfl
theorem by_many {c k : Int} {xs : List Int} (h2 : oneI (Builtin.bitAnd (xs.getD k.toNat 0) (Builtin.bitNot c)) = false) : 0 = byI k c xs := by
  unfold byI bareI
  rw [h2, Bool.and_false]
  rfl
theorem next_by {c f k : Int} {xs pre : List Int} (h : f = nextI c xs pre.length) (hk : k = 0 + (pre.length : Int)) : Builtin.bitOr f (byI k c xs) = nextI c xs (pre ++ [k]).length := by
  have e2 : k = ((pre.length : Nat) : Int) := by omega
  rw [List.length_append, List.length_singleton, nextI_by, h, e2]
theorem last_is (b : List Int) : b.getD (-1 + (b.length : Int)).toNat 0 = b.getD (b.length - 1) 0 := by
  rw [show (-1 + (b.length : Int)).toNat = b.length - 1 by omega]
theorem path_all {s f : Int} {xs b : List Int} (p : Path s xs b f) : 1 ≤ b.length ∧ b.length ≤ 17 ∧ 0 ≤ b.getD (-1 + (b.length : Int)).toNat 0 ∧ Path s xs b f := by
  refine ⟨p.some, p.few, ?_, p⟩
  rw [last_is]
  exact p.run.cpos
theorem path_start {s : Int} {xs : List Int} (hg : graphI xs = true) (hs : setI s xs = true) : 1 ≤ [s].length ∧ [s].length ≤ 17 ∧ 0 ≤ [s].getD (-1 + ([s].length : Int)).toNat 0 ∧ Path s xs [s] (nextA s xs) := path_all (Path.start hg hs)
theorem path_turn {s f y : Int} {xs b : List Int} (p : Path s xs b f) (h : f ≠ 0) (e : y = Builtin.bitOr (b.getD (-1 + (b.length : Int)).toNat 0) f) : 1 ≤ (b ++ [y]).length ∧ (b ++ [y]).length ≤ 17 ∧ 0 ≤ (b ++ [y]).getD (-1 + ((b ++ [y]).length : Int)).toNat 0 ∧ Path s xs (b ++ [y]) (nextA y xs) := by
  rw [last_is] at e
  subst e
  exact path_all (p.turn h)
theorem path_less {s f y : Int} {xs b : List Int} (p : Path s xs b f) : 18 - (b ++ [y]).length < 18 - b.length := by
  have := p.few
  rw [List.length_append, List.length_singleton]
  omega
theorem path_out {s f : Int} {xs b : List Int} (p : Path s xs b f) (h : f = 0) : [cntI (b.getD (-1 + (b.length : Int)).toNat 0), b.getD (-1 + (b.length : Int)).toNat 0, (b.length : Int) - 1] = PyKyf.forced s xs := by
  rw [last_is]
  exact p.out h
end Fn
namespace Fn
open Kyf PySem
theorem fix_end {s f : Int} {xs b : List Int} (p : Path s xs b f) (h : f = 0) : forced (gr xs) s.toNat = (b.getD (b.length - 1) 0).toNat ∧ steps (gr xs) s.toNat = b.length - 1 := by
  have r := p.run
  have ct : (b.getD (b.length - 1) 0).toNat = after (gr xs) ((b.length - 1 : Nat) : Int).toNat s.toNat := by
    have := r.col
    omega
  have kt : ((b.length - 1 : Nat) : Int).toNat = b.length - 1 := by omega
  have fix : step (gr xs) (after (gr xs) ((b.length - 1 : Nat) : Int).toNat s.toNat) = after (gr xs) ((b.length - 1 : Nat) : Int).toNat s.toNat := by
    rw [← ct, step_add (good_gr r.graph)]
    have := r.fpos
    omega
  obtain ⟨e1, e2, e3⟩ := told_end (good_gr r.graph) fix r.old
  rw [e1, e2, ct, kt]
  exact ⟨rfl, rfl⟩
theorem path_ok {s f : Int} {xs b : List Int} (p : Path s xs b f) : ¬ (ok (gr xs) = false ∨ okSet (gr xs) s.toNat = false) := by
  have okg : ok (gr xs) = true := by rw [← graphI_ok (Run.nonneg p.run.graph)]; exact p.run.graph
  have oks : okSet (gr xs) s.toNat = true := by
    unfold okSet
    rw [size_gr]
    exact decide_eq_true ((setI_iff s xs).mp p.run.set).2
  rw [okg, oks]
  simp
theorem not_ok {s : Int} {xs : List Int} (hx : ∀ x ∈ xs, 0 ≤ x) (h0 : 0 ≤ s) (h : graphI xs = false ∨ setI s xs = false) : ok (gr xs) = false ∨ okSet (gr xs) s.toNat = false := by
  rcases h with h | h
  · left; rw [← graphI_ok hx]; exact h
  · right
    unfold okSet
    rw [size_gr]
    apply decide_eq_false
    intro q
    rw [(setI_iff s xs).mpr ⟨h0, q⟩] at h
    cases h
def fullI (xs : List Int) : Int := ((full (gr xs) : Nat) : Int)
theorem tr_full (xs : List Int) : (1 * 2 ^ (xs.length : Int).toNat - 1 : Int) = fullI xs := by
  unfold fullI full
  rw [size_gr, show (xs.length : Int).toNat = xs.length by omega]
  have := Nat.two_pow_pos xs.length
  rw [← pow_cast]
  omega
theorem graph_len {xs : List Int} (h : graphI xs = true) : xs.length ≤ 16 := (graphI_parts h).2.1
theorem full_int (xs : List Int) : fullI xs = ((full (gr xs) : Nat) : Int) := rfl
theorem left_nat {s f : Int} {xs b : List Int} (p : Path s xs b f) : Builtin.bitAnd (fullI xs) (Builtin.bitNot (b.getD (-1 + (b.length : Int)).toNat 0)) = ((full (gr xs) - (full (gr xs) &&& (b.getD (b.length - 1) 0).toNat) : Nat) : Int) := by
  rw [full_int, last_is, PyProof.Rows.bitAnd_not, PyProof.Rows.bitAnd_pp (by omega) p.run.cpos]
  have := @Nat.and_le_left (full (gr xs)) (b.getD (b.length - 1) 0).toNat
  have e : ((full (gr xs) : Nat) : Int).toNat = full (gr xs) := by omega
  rw [e]
  omega
theorem left_pos {s f : Int} {xs b : List Int} (p : Path s xs b f) : 0 ≤ Builtin.bitAnd (fullI xs) (Builtin.bitNot (b.getD (-1 + (b.length : Int)).toNat 0)) := by
  rw [left_nat p]
  omega
theorem left_rest {s f : Int} {xs b : List Int} (p : Path s xs b f) (h : f = 0) : Builtin.bitAnd (fullI xs) (Builtin.bitNot (b.getD (-1 + (b.length : Int)).toNat 0)) = ((Kyf.rest (gr xs) s.toNat : Nat) : Int) := by
  rw [left_nat p, rest_less, (fix_end p h).1]
theorem rest_refused {s : Int} {xs : List Int} (hx : ∀ x ∈ xs, 0 ≤ x) (h0 : 0 ≤ s) (h : graphI xs = false ∨ setI s xs = false) : [-22] = PyKyf.rest s xs := by
  show _ = (answer (.rest (gr xs) s.toNat)).value :: KyfNeutral.ints (answer (.rest (gr xs) s.toNat)).out
  have a : answer (.rest (gr xs) s.toNat) = say (-22) := if_pos (not_ok hx h0 h)
  rw [a]
  rfl
theorem forced_lt {s f : Int} {xs b : List Int} (p : Path s xs b f) (h : f = 0) : forced (gr xs) s.toNat < 2 ^ size (gr xs) := by
  rw [(fix_end p h).1, size_gr]
  exact p.run.lt
theorem rest_none {s f : Int} {xs b : List Int} (p : Path s xs b f) (h : f = 0) (z : Builtin.bitAnd (fullI xs) (Builtin.bitNot (b.getD (-1 + (b.length : Int)).toNat 0)) = 0) : [-61] = PyKyf.rest s xs := by
  rw [left_rest p h] at z
  have q := (forcesAll_rest (forced_lt p h)).mpr (by omega)
  show _ = (answer (.rest (gr xs) s.toNat)).value :: KyfNeutral.ints (answer (.rest (gr xs) s.toNat)).out
  have a : answer (.rest (gr xs) s.toNat) = say (-61) := (if_neg (path_ok p)).trans (if_pos q)
  rw [a]
  rfl
theorem rest_some {s f : Int} {xs b : List Int} (p : Path s xs b f) (h : f = 0) (z : Builtin.bitAnd (fullI xs) (Builtin.bitNot (b.getD (-1 + (b.length : Int)).toNat 0)) ≠ 0) : [cntI (Builtin.bitAnd (fullI xs) (Builtin.bitNot (b.getD (-1 + (b.length : Int)).toNat 0))), Builtin.bitAnd (fullI xs) (Builtin.bitNot (b.getD (-1 + (b.length : Int)).toNat 0))] = PyKyf.rest s xs := by
  rw [left_rest p h] at z ⊢
  have q : ¬ forcesAll (gr xs) s.toNat = true := fun q => z (by rw [(forcesAll_rest (forced_lt p h)).mp q]; rfl)
  show _ = (answer (.rest (gr xs) s.toNat)).value :: KyfNeutral.ints (answer (.rest (gr xs) s.toNat)).out
  have a : answer (.rest (gr xs) s.toNat) = ⟨(many (gr xs) (Kyf.rest (gr xs) s.toNat) : Nat), [Kyf.rest (gr xs) s.toNat]⟩ := (if_neg (path_ok p)).trans (if_neg q)
  rw [a, many_cnt (rest_lt _ _)]
  rfl
end Fn
namespace Fn
open Kyf PySem
def allI (s : Int) (xs : List Int) : Bool := forcesAll (gr xs) s.toNat
theorem set_below {s : Int} {xs : List Int} (h0 : 0 ≤ s) (h : s < fullI xs) : setI s xs = true := by
  refine (setI_iff s xs).mpr ⟨h0, ?_⟩
  have e := full_lt (gr xs)
  rw [size_gr] at e
  rw [full_int] at h
  omega
theorem path_below {s : Int} {xs : List Int} (hg : graphI xs = true) (h0 : 0 ≤ s) (h : s < fullI xs) : 1 ≤ [s].length ∧ [s].length ≤ 17 ∧ 0 ≤ [s].getD (-1 + ([s].length : Int)).toNat 0 ∧ Path s xs [s] (nextA s xs) := path_start hg (set_below h0 h)
theorem all_out {s f : Int} {xs b : List Int} (p : Path s xs b f) (h : f = 0) : (b.getD (-1 + (b.length : Int)).toNat 0 == fullI xs) = allI s xs := by
  unfold allI forcesAll
  rw [last_is, (fix_end p h).1, full_int, Bool.eq_iff_iff, beq_iff_eq, beq_iff_eq]
  have := p.run.cpos
  omega
structure PathG {xs : List Int} (hg : graphI xs = true) (s : Int) (b : List Int) (f : Int) : Prop where
  path : Path s xs b f
theorem pathg_all {s f : Int} {xs b : List Int} {hg : graphI xs = true} (p : PathG hg s b f) : 1 ≤ b.length ∧ b.length ≤ 17 ∧ 0 ≤ b.getD (-1 + (b.length : Int)).toNat 0 ∧ PathG hg s b f := by
  have := path_all p.path
  exact ⟨this.1, this.2.1, this.2.2.1, p⟩
theorem pathg_start {s : Int} {xs : List Int} {hg : graphI xs = true} (h0 : 0 ≤ s) (h : s < fullI xs) : 1 ≤ [s].length ∧ [s].length ≤ 17 ∧ 0 ≤ [s].getD (-1 + ([s].length : Int)).toNat 0 ∧ PathG hg s [s] (nextA s xs) := pathg_all ⟨Path.start hg (set_below h0 h)⟩
theorem pathg_turn {s f y : Int} {xs b : List Int} {hg : graphI xs = true} (p : PathG hg s b f) (h : f ≠ 0) (e : y = Builtin.bitOr (b.getD (-1 + (b.length : Int)).toNat 0) f) : 1 ≤ (b ++ [y]).length ∧ (b ++ [y]).length ≤ 17 ∧ 0 ≤ (b ++ [y]).getD (-1 + ((b ++ [y]).length : Int)).toNat 0 ∧ PathG hg s (b ++ [y]) (nextA y xs) :=
  pathg_all ⟨(path_turn p.path h e).2.2.2⟩
theorem last_new (b : List Int) (y : Int) : (b ++ [y]).getD (-1 + ((b ++ [y]).length : Int)).toNat 0 = y := by
  rw [last_is, List.getD_eq_getElem?_getD, List.length_append, List.length_singleton, Nat.add_sub_cancel, List.getElem?_concat_length]
  rfl
theorem pathg_turn2 {s f y : Int} {xs b : List Int} {hg : graphI xs = true} (p : PathG hg s b f) (h : f ≠ 0) (e : y = Builtin.bitOr (b.getD (-1 + (b.length : Int)).toNat 0) f) : 1 ≤ (b ++ [y]).length ∧ (b ++ [y]).length ≤ 17 ∧ 0 ≤ (b ++ [y]).getD (-1 + ((b ++ [y]).length : Int)).toNat 0 ∧ PathG hg s (b ++ [y]) (nextA ((b ++ [y]).getD (-1 + ((b ++ [y]).length : Int)).toNat 0) xs) := by
  have t := pathg_turn p h e
  refine ⟨t.1, t.2.1, t.2.2.1, ?_⟩
  rw [last_new]
  exact t.2.2.2
theorem pathg_less {s f y : Int} {xs b : List Int} {hg : graphI xs = true} (p : PathG hg s b f) : 18 - (b ++ [y]).length < 18 - b.length := path_less p.path
structure Sof (xs pre : List Int) (b : Int) : Prop where
  pos : 0 ≤ b
  so : Sofar (gr xs) pre.length b.toNat
  lo : b.toNat < pre.length ∨ b.toNat = full (gr xs)
theorem full_nat (xs : List Int) : (fullI xs).toNat = full (gr xs) := by
  rw [full_int]
  omega
theorem full_pos (xs : List Int) : 0 ≤ fullI xs := by
  rw [full_int]
  omega
theorem full_most {xs : List Int} (h : xs.length ≤ 16) : fullI xs ≤ 65535 := by
  have e := full_lt (gr xs)
  rw [size_gr] at e
  have q : 2 ^ xs.length ≤ 2 ^ 16 := Nat.pow_le_pow_right (by decide) h
  rw [full_int]
  omega
theorem sof_start {xs : List Int} (hg : graphI xs = true) : 0 ≤ fullI xs ∧ Sof xs [] (fullI xs) :=
  ⟨full_pos xs, full_pos xs, by rw [full_nat]; exact Sofar.start (good_gr hg), .inr (full_nat xs)⟩
theorem cnt_many {x : Int} {xs : List Int} (h : x.toNat < 2 ^ size (gr xs)) : cntI x = ((many (gr xs) x.toNat : Nat) : Int) := by
  unfold cntI
  rw [many_cnt h]
theorem sof_turn {k b : Int} {xs pre : List Int} (h : Sof xs pre b) (hk : k = 0 + (pre.length : Int)) (hl : k < fullI xs) :
    Sof xs (pre ++ [k]) (if cntI k < cntI b ∧ allI k xs = true then k else b) := by
  have hlt : k.toNat < 2 ^ size (gr xs) := by
    have e := full_lt (gr xs)
    rw [full_int] at hl
    omega
  have ek : k.toNat = pre.length := by omega
  have t := h.so.turn h.lo (by rw [← ek]; exact hlt)
  rw [cnt_many hlt, cnt_many h.so.lt]
  unfold allI
  rw [ek]
  have el : (pre ++ [k]).length = pre.length + 1 := by rw [List.length_append, List.length_singleton]
  by_cases q : (decide (many (gr xs) pre.length < many (gr xs) b.toNat) && forcesAll (gr xs) pre.length) = true
  · rw [if_pos q] at t
    rw [Bool.and_eq_true, decide_eq_true_eq] at q
    rw [if_pos ⟨by omega, q.2⟩]
    exact ⟨by omega, by rw [el, ek]; exact t.1, by rw [el, ek]; exact t.2⟩
  · rw [if_neg q] at t
    rw [Bool.and_eq_true, decide_eq_true_eq] at q
    rw [if_neg (fun z => q ⟨by omega, z.2⟩)]
    exact ⟨h.pos, by rw [el]; exact t.1, by rw [el]; exact t.2⟩
theorem sof_yes {k b : Int} {xs pre : List Int} (h : Sof xs pre b) (hk : k = 0 + (pre.length : Int)) (hl : k < fullI xs) (h1 : cntI k < cntI b) (h2 : allI k xs = true) : 0 ≤ k ∧ Sof xs (pre ++ [k]) k := by
  have t := sof_turn h hk hl
  rw [if_pos ⟨h1, h2⟩] at t
  exact ⟨t.pos, t⟩
theorem sof_more {k b : Int} {xs pre : List Int} (h : Sof xs pre b) (hk : k = 0 + (pre.length : Int)) (hl : k < fullI xs) (h1 : ¬ cntI k < cntI b) : 0 ≤ b ∧ Sof xs (pre ++ [k]) b := by
  have t := sof_turn h hk hl
  rw [if_neg (fun z => h1 z.1)] at t
  exact ⟨t.pos, t⟩
theorem sof_no {k b : Int} {xs pre : List Int} (h : Sof xs pre b) (hk : k = 0 + (pre.length : Int)) (hl : k < fullI xs) (h2 : allI k xs = false) : 0 ≤ b ∧ Sof xs (pre ++ [k]) b := by
  have t := sof_turn h hk hl
  rw [if_neg (fun z => by rw [h2] at z; cases z.2)] at t
  exact ⟨t.pos, t⟩
theorem sof_path {s k b f : Int} {xs pre c : List Int} {hg : graphI xs = true} (h : Sof xs pre b) (hk : k = 0 + (pre.length : Int)) (hl : k < fullI xs) (h1 : cntI k < cntI b) (p : PathG hg k c f) (hf : f = 0) (e : c.getD (-1 + (c.length : Int)).toNat 0 = fullI xs) (hs : s = k) : 0 ≤ s ∧ Sof xs (pre ++ [k]) s := by
  subst hs
  refine sof_yes h hk hl h1 ?_
  rw [← all_out p.path hf, e]
  exact beq_self_eq_true _
theorem sof_less {k b f : Int} {xs pre c : List Int} {hg : graphI xs = true} (h : Sof xs pre b) (hk : k = 0 + (pre.length : Int)) (hl : k < fullI xs) (p : PathG hg k c f) (hf : f = 0) (e : ¬ c.getD (-1 + (c.length : Int)).toNat 0 = fullI xs) : 0 ≤ b ∧ Sof xs (pre ++ [k]) b := by
  refine sof_no h hk hl ?_
  rw [← all_out p.path hf]
  exact beq_eq_false_iff_ne.mpr e
theorem fewest_refused {xs : List Int} (hx : ∀ x ∈ xs, 0 ≤ x) (h : graphI xs = false) : [-22] = PyKyf.fewest xs := by
  show _ = (answer (.fewest (gr xs))).value :: KyfNeutral.ints (answer (.fewest (gr xs))).out
  have a : answer (.fewest (gr xs)) = say (-22) := if_pos (by rw [← graphI_ok hx]; exact h)
  rw [a]
  rfl
theorem graph_good {xs : List Int} (hg : graphI xs = true) : ¬ ok (gr xs) = false := by
  rw [← graphI_ok (Run.nonneg hg), hg]
  decide
theorem fewest_many {xs : List Int} (hg : graphI xs = true) (h : 12 < (xs.length : Int)) : [-28] = PyKyf.fewest xs := by
  show _ = (answer (.fewest (gr xs))).value :: KyfNeutral.ints (answer (.fewest (gr xs))).out
  have a : answer (.fewest (gr xs)) = say (-28) := (if_neg (graph_good hg)).trans (if_pos (by rw [size_gr]; omega))
  rw [a]
  rfl
theorem sof_best {n : Nat} {b : Int} {xs : List Int} (h : Sof xs (PySem.W.rangeKs 0 n) b) (hn : n = full (gr xs)) : Best (gr xs) b.toNat := by
  have so := h.so
  rw [PySem.W.rangeKs_length, hn] at so
  refine ⟨so.lt, so.all, fun t ht ft => ?_⟩
  by_cases q : t < full (gr xs)
  · exact so.least t q ht ft
  · have : t = full (gr xs) := by
      unfold full at q ⊢
      omega
    rw [this]
    exact so.full
theorem fewest_found {n : Nat} {b : Int} {xs : List Int} (hg : graphI xs = true) (hl : ¬ 12 < (xs.length : Int)) (h : Sof xs (PySem.W.rangeKs 0 n) b) (hn : n = (fullI xs).toNat) : [cntI b, b] = PyKyf.fewest xs := by
  rw [full_nat] at hn
  have hb := sof_best h hn
  have e := fewest_is (good_gr hg) hb
  show _ = (answer (.fewest (gr xs))).value :: KyfNeutral.ints (answer (.fewest (gr xs))).out
  have a : answer (.fewest (gr xs)) = ⟨(many (gr xs) (Kyf.fewest (gr xs)) : Nat), [Kyf.fewest (gr xs)]⟩ := (if_neg (graph_good hg)).trans (if_neg (by rw [size_gr]; omega))
  rw [a, e, cnt_many hb.lt]
  have : b = ((b.toNat : Nat) : Int) := by
    have := h.pos
    omega
  show _ = [_, ((b.toNat : Nat) : Int)]
  rw [← this]
end Fn

namespace Fn
open PySem PySem.W PyProof.Rows
theorem said : PySem.Challenge.rw_forcednodes_s05_fewest.wellSaid = true := by decide +kernel
theorem shut {xs ys : List Int} (hpre : PySem.Challenge.rw_forcednodes_s05_fewest.pre [ofPy (PyData.list (List.map PyData.int xs))] = true)
    (h : (∀ x ∈ xs, 0 ≤ x) → ys = PyKyf.fewest xs) :
    PySem.Challenge.rw_forcednodes_s05_fewest.post [ofPy (PyData.list (List.map PyData.int xs))] (ofPy (PyData.list (ys.map PyData.int))) = true := by
  os_open said with a w q e
  obtain ⟨xs', u⟩ := a
  have e2 := os_j_ints (List.cons.inj e).1
  subst e2
  have w' : (Codec.inList 0 30 (Codec.inInt 0 65535) xs && true) = true := w
  rw [Bool.and_eq_true] at w'
  have wx := w'.1
  unfold Codec.inList at wx
  rw [Bool.and_eq_true, List.all_eq_true] at wx
  show ofPy (PyData.list _) = WData.list (List.map WData.int _)
  exact os_listI (h (fun x hx => (Codec.inInt_iff.mp (wx.2 x hx)).1))

end Fn
open PySem PySem.W PyProof.Rows
local macro_rules | `(tactic| walk_at "InvEndN") => `(tactic| ((rename Fn.Sof _ _ _ => hSof9); with_unfolding_all (first | ksr_close | kst_close)))
set_option maxRecDepth 100000 in
set_option maxHeartbeats 8000000 in
theorem PySem.Challenge.cw_forcednodes_s05_fewest_holds : PySem.Challenge.rw_forcednodes_s05_fewest.Holds := by
  k_with "call ref" => k_call_by "has_node" Fn.hasI (fun (_ k : Int) => 0 ≤ k)
  k_with "call ref" => k_call_by "has_just_one" Fn.oneI
  k_with "call ref" => k_call_by "count_nodes" Fn.cntI (fun (x : Int) => 0 ≤ x)
  k_with "call ref" => (rename Fn.graphI _ = true => hG; have hL := Fn.graph_len hG; k_call_by "all_nodes" Fn.fullI (fun (xs : List Int) => xs.length ≤ 16))
  k_with "call ref" => k_call_by "is_set_of" Fn.setI
  k_with "call ref" => k_call_rec "is_node_as_told" Fn.nodeI (fun (k : Int) (xs : List Int) => 0 ≤ k ∧ k < (xs.length : Int)) (fun (_ : Int) (_ : List Int) => 1)
  k_with "call ref" => k_call_rec "is_graph" Fn.graphI (fun (_ : List Int) => True) (fun (_ : List Int) => 2)
  k_with "call ref" => k_call_rec "forced_by" Fn.byI (fun (k _ : Int) (xs : List Int) => 0 ≤ k ∧ k < (xs.length : Int)) (fun (_ _ : Int) (_ : List Int) => 1)
  k_with "call ref" => k_call_rec "forced_next" Fn.nextA (fun (_ : Int) (_ : List Int) => True) (fun (_ : Int) (_ : List Int) => 2)
  k_with "tree" => first
    | exact Fn.tr_has _ _
    | exact Fn.tr_set _ _
    | exact Fn.tr_full _
    | exact Fn.tr_one (by omega)
    | exact Fn.tr_one0 (by omega)
    | exact Fn.tr_one1 (by omega)
    | exact Fn.cnt_out (by assumption) (by omega)
    | exact Fn.node_set (by assumption)
    | exact Fn.node_self (by assumption)
    | exact Fn.node_out (by assumption) (by assumption) (by omega) (by omega)
    | exact Fn.node_in (by assumption) (by assumption) (by assumption) (by first | rfl | omega)
    | exact Fn.graph_low (by omega)
    | exact Fn.graph_high (by omega)
    | exact Fn.graph_out (by assumption) (by omega) (by omega)
    | exact Fn.graph_in (by assumption) (by omega) (by omega) (by first | rfl | omega)
    | exact Fn.by_in (by assumption) (by assumption)
    | exact Fn.by_no (by assumption)
    | exact Fn.by_many (by assumption)
    | exact Fn.next_out (by assumption) (by first | rfl | omega)
  k_with "state" => first
    | exact Fn.cnt_start _ (by omega)
    | exact Fn.cnt_turn (by assumption) (by omega) (by omega)
    | exact Fn.Seen.start _ _
    | exact Fn.Seen.turn0 (by assumption) (by assumption)
    | exact Fn.Seen.turn1 (by assumption) (by assumption)
    | exact Fn.Nodes.start _
    | exact Fn.Nodes.turn (by assumption) (by assumption)
    | exact Fn.next_start _ _
    | exact Fn.next_by (by assumption) (by assumption)
    | exact Fn.pathg_start (by omega) (by omega)
    | exact Fn.pathg_turn (by assumption) (by omega) rfl
    | exact Fn.pathg_turn2 (by assumption) (by assumption) rfl
    | exact Fn.sof_start (by assumption)
    | exact Fn.sof_more (by assumption) (by omega) (by omega) (by omega)
    | exact Fn.sof_path (by assumption) (by assumption) (by omega) (by assumption) (by assumption) (by omega) (by assumption) rfl
    | exact Fn.sof_less (by assumption) (by assumption) (by omega) (by assumption) (by omega) (by assumption)
  k_with "measure" => first
    | exact Fn.half_less (by omega) (by omega)
    | exact Fn.pathg_less (by assumption)
  k_with "exec While Compare cons nil" => k_while_given ["nodes"] (fun n _ l c => 0 ≤ l ∧ 0 ≤ c ∧ c + Fn.cntI l = Fn.cntI n) (fun _ _ l _ => l.toNat) "left" "count"
  k_with "exec While Compare cons nil" => (rename Fn.graphI _ = true => hG; k_while_given ["s"] (fun s _ b f => 1 ≤ b.length ∧ b.length ≤ 17 ∧ 0 ≤ b.getD (-1 + (b.length : Int)).toNat 0 ∧ Fn.PathG hG s b f) (fun _ _ b _ => 18 - b.length) "behind" "found")
  k_with "pyIter ref" => (k_of "other" => (rename Int => kNode; rename List Int => kXs; k_search (fun pre => Fn.Seen kNode kXs pre)))
  k_with "pyIter ref" => (k_of "node" => (rename List Int => kXs; k_search (fun pre => Fn.Nodes kXs pre)))
  k_with "pyIter ref" => (k_of "node" => (rename List Int => kXs; k_state_given ["coloured"] (fun c pre f => f = Fn.nextI c kXs pre.length) "found"))
  k_with "pyIter ref" => (k_of "s" => (rename Fn.graphI _ = true => hG; rename List Int => kXs; have hM := Fn.full_most (Fn.graph_len hG); have hZ := Fn.full_pos kXs; k_state (fun pre b => 0 ≤ b ∧ Fn.Sof kXs pre b) "best"))
  open_ks with [.list []]
  all_goals first
    | exact Fn.shut (ys := [-22]) hpre (fun hx => Fn.fewest_refused hx (by assumption))
    | exact Fn.shut (ys := [-28]) hpre (fun _ => Fn.fewest_many (by assumption) (by omega))
    | exact Fn.shut (ys := [Fn.cntI _, _]) hpre (fun _ => Fn.fewest_found (by assumption) (by omega) (by assumption) (by first | omega | rfl))
#print axioms PySem.Challenge.cw_forcednodes_s05_fewest_holds
