/- OWN TEXT: plain mathematics: numbers as digits to the base 65536, and what the reference's product does to them. -/
import Derived.Below
namespace Go.Proofs.YtapijhhmjjplmaaGreatDoor

/-- The number that digits tell, the lowest first. -/
def dv : List Nat → Nat
  | [] => 0
  | d :: r => d + 65536 * dv r

theorem dv_append (l m : List Nat) : dv (l ++ m) = dv l + 65536 ^ l.length * dv m := by
  induction l with
  | nil => simp [dv]
  | cons d r ih => simp only [List.cons_append, dv, ih, List.length_cons, Nat.pow_succ]; grind

theorem dv_set (l : List Nat) : ∀ (k y : Nat) (h : k < l.length), dv (l.set k y) + l[k] * 65536 ^ k = dv l + y * 65536 ^ k := by
  induction l with
  | nil => intro k y h; simp at h
  | cons d r ih =>
    intro k y h
    cases k with
    | zero => simp [dv]; omega
    | succ k =>
      have := ih k y (by simpa using h)
      simp only [List.set_cons_succ, dv, List.getElem_cons_succ, Nat.pow_succ]
      grind

theorem dv_ge (l : List Nat) : ∀ (k : Nat) (h : k < l.length), l[k] * 65536 ^ k ≤ dv l := by
  induction l with
  | nil => intro k h; simp at h
  | cons d r ih =>
    intro k h
    cases k with
    | zero => simp [dv]
    | succ k =>
      have := ih k (by simpa using h)
      simp only [dv, List.getElem_cons_succ, Nat.pow_succ]
      grind

theorem dv_lt (l : List Nat) (h : ∀ d ∈ l, d < 65536) : dv l < 65536 ^ l.length := by
  induction l with
  | nil => simp [dv]
  | cons d r ih =>
    have h1 := h d (by simp)
    have h2 := ih (fun x hx => h x (by simp [hx]))
    simp only [dv, List.length_cons, Nat.pow_succ]
    omega

theorem dv_replicate (n : Nat) : dv (List.replicate n 0) = 0 := by
  induction n with
  | zero => rfl
  | succ n ih => simp [List.replicate_succ, dv, ih]

theorem dv_take_succ (l : List Nat) (i : Nat) (h : i < l.length) : dv (l.take (i + 1)) = dv (l.take i) + l[i] * 65536 ^ i := by
  rw [List.take_succ_eq_append_getElem h, dv_append]
  simp only [dv, List.length_take, Nat.min_eq_left (Nat.le_of_lt h)]
  grind

theorem dv_take_le (l : List Nat) (i : Nat) : dv (l.take i) ≤ dv l := by
  have := dv_append (l.take i) (l.drop i)
  rw [List.take_append_drop] at this
  omega

/-- What has been added up when the product stands at (i, j). -/
def part (a b : List Nat) (i j : Nat) : Nat := dv (a.take i) * dv b + a.getD i 0 * 65536 ^ i * dv (b.take j)

theorem part_step (a b : List Nat) (i j : Nat) (hj : j < b.length) : part a b i (j + 1) = part a b i j + a.getD i 0 * b[j] * 65536 ^ (i + j) := by
  unfold part
  rw [dv_take_succ b j hj, Nat.pow_add]
  grind

theorem part_row (a b : List Nat) (i : Nat) (hi : i < a.length) : part a b i b.length = part a b (i + 1) 0 := by
  unfold part
  rw [List.take_length, dv_take_succ a i hi]
  have e : a.getD i 0 = a[i] := by simp [List.getD, List.getElem?_eq_getElem hi]
  rw [e]
  simp only [List.take_zero, dv]
  grind

theorem part_lt (a b : List Nat) (ha : ∀ d ∈ a, d < 65536) (hb : ∀ d ∈ b, d < 65536) (i j : Nat) (hi : i < a.length) : part a b i j < 65536 ^ (a.length + b.length) := by
  have h1 : part a b i j ≤ dv (a.take (i + 1)) * dv b := by
    unfold part
    rw [dv_take_succ a i hi]
    have e : a.getD i 0 = a[i] := by simp [List.getD, List.getElem?_eq_getElem hi]
    rw [e, Nat.add_mul]
    exact Nat.add_le_add_left (Nat.mul_le_mul_left _ (dv_take_le b j)) _
  have h2 : dv (a.take (i + 1)) * dv b ≤ dv a * dv b := Nat.mul_le_mul_right _ (dv_take_le a (i + 1))
  have h3 := dv_lt a ha
  have h4 := dv_lt b hb
  rw [Nat.pow_add]
  rcases Nat.eq_zero_or_pos (dv b) with h0 | h0
  · rw [h0] at h1 h2
    have : 0 < 65536 ^ a.length * 65536 ^ b.length := Nat.mul_pos (Nat.pos_of_ne_zero (by simp)) (Nat.pos_of_ne_zero (by simp))
    omega
  · exact Nat.lt_of_le_of_lt (Nat.le_trans h1 h2) (Nat.lt_of_lt_of_le (Nat.mul_lt_mul_of_pos_right h3 h0) (Nat.mul_le_mul_left _ (Nat.le_of_lt h4)))

/-- A carry is never out of the list. -/
theorem carry_in (c : List Nat) (k T : Nat) (hk : k < c.length) (hT : dv c = T) (hlt : T < 65536 ^ c.length) (hc : 65536 ≤ c[k]) : k + 1 < c.length := by
  rcases Nat.lt_or_ge (k + 1) c.length with h | h
  · exact h
  · have e : c.length = k + 1 := by omega
    have := dv_ge c k hk
    rw [e, Nat.pow_succ] at hlt
    have h5 : 65536 * 65536 ^ k ≤ c[k] * 65536 ^ k := Nat.mul_le_mul_right _ hc
    rw [Nat.mul_comm] at hlt
    omega

/-- One carry leaves the number as it was. -/
theorem carry_same (c : List Nat) (k : Nat) (hk : k + 1 < c.length) :
    dv ((c.set (k + 1) (c[k + 1] + c[k] / 65536)).set k (c[k] % 65536)) = dv c := by
  have h1 := dv_set c (k + 1) (c[k + 1] + c[k] / 65536) hk
  have h2 := dv_set (c.set (k + 1) (c[k + 1] + c[k] / 65536)) k (c[k] % 65536) (by simp; omega)
  have e : (c.set (k + 1) (c[k + 1] + c[k] / 65536))[k]'(by simp; omega) = c[k] := by
    rw [List.getElem_set_ne (by omega)]
  rw [e] at h2
  have hm := Nat.div_add_mod c[k] 65536
  rw [Nat.pow_succ] at h1
  generalize dv (c.set (k + 1) (c[k + 1] + c[k] / 65536)) = X at h1 h2
  generalize dv ((c.set (k + 1) (c[k + 1] + c[k] / 65536)).set k (c[k] % 65536)) = Y at h2 ⊢
  generalize c[k] / 65536 = q at *
  generalize c[k] % 65536 = r at *
  generalize c[k + 1] = z at *
  generalize c[k] = u at *
  generalize 65536 ^ k = p at *
  subst hm
  grind

theorem dv_drop (c : List Nat) (m : Nat) (h : m < c.length) : dv (c.drop m) = c[m] + 65536 * dv (c.drop (m + 1)) := by
  rw [List.drop_eq_getElem_cons h]
  rfl

theorem dv_drop_lt (c : List Nat) (hd : ∀ d ∈ c, d < 65536) (m : Nat) (h : c.length - m ≤ 2) : dv (c.drop m) < 4294967296 := by
  have h1 := dv_lt (c.drop m) (fun d hx => hd d (List.mem_of_mem_drop hx))
  rw [List.length_drop] at h1
  have h2 : 65536 ^ (c.length - m) ≤ 65536 ^ 2 := Nat.pow_le_pow_right (by decide) h
  have h3 : 65536 ^ 2 = 4294967296 := by decide
  omega

theorem sum_drop (c : List Nat) (pt m : Nat) (h : m < pt) (hp : pt ≤ c.length) : ((c.take pt).drop m).sum = c[m] + ((c.take pt).drop (m + 1)).sum := by
  rw [List.drop_eq_getElem_cons (by rw [List.length_take]; omega), List.sum_cons, List.getElem_take]

theorem sum_lt (l : List Nat) (hd : ∀ d ∈ l, d < 65536) : l.sum ≤ 65535 * l.length := by
  induction l with
  | nil => simp
  | cons d r ih =>
    have h1 := hd d (by simp)
    have h2 := ih (fun x hx => hd x (by simp [hx]))
    simp only [List.sum_cons, List.length_cons]
    omega

theorem sum_drop_lt (c : List Nat) (hd : ∀ d ∈ c, d < 65536) (pt m : Nat) (hp : pt ≤ 6) : ((c.take pt).drop m).sum ≤ 393210 := by
  have h1 := sum_lt ((c.take pt).drop m) (fun d hx => hd d (List.mem_of_mem_take (List.mem_of_mem_drop hx)))
  have h2 : ((c.take pt).drop m).length ≤ 6 := by rw [List.length_drop, List.length_take]; omega
  have h3 := Nat.mul_le_mul_left 65535 h2
  omega

theorem dv_zero (l : List Nat) : dv l = 0 ↔ l.sum = 0 := by
  induction l with
  | nil => simp [dv]
  | cons d r ih => simp only [dv, List.sum_cons]; omega

/-- What the last line of 'below' asks. -/
theorem below_iff (c : List Nat) (pt p : Nat) (hd : ∀ d ∈ c, d < 65536) (hp : pt ≤ c.length) :
    (dv (c.drop pt) < p ∨ dv (c.drop pt) = p ∧ (c.take pt).sum = 0) ↔ dv c ≤ p * 65536 ^ pt := by
  have h1 := dv_append (c.take pt) (c.drop pt)
  rw [List.take_append_drop, List.length_take, Nat.min_eq_left hp] at h1
  have h2 := dv_lt (c.take pt) (fun d hx => hd d (List.mem_of_mem_take hx))
  rw [List.length_take, Nat.min_eq_left hp] at h2
  have h3 := dv_zero (c.take pt)
  generalize dv (c.take pt) = x at *
  generalize (c.take pt).sum = s at *
  generalize dv (c.drop pt) = n at *
  generalize hq : 65536 ^ pt = q at *
  have hq0 : 0 < q := by omega
  rw [h1, Nat.mul_comm q n]
  constructor
  · rintro (h | ⟨h, hs⟩)
    · have : (n + 1) * q ≤ p * q := Nat.mul_le_mul_right q h
      rw [Nat.add_mul, Nat.one_mul] at this
      omega
    · have : x = 0 := h3.2 hs
      rw [h, this]
      omega
  · intro h
    rcases Nat.lt_trichotomy n p with h' | h' | h'
    · exact .inl h'
    · refine .inr ⟨h', h3.1 ?_⟩
      subst h'
      omega
    · exfalso
      have : (p + 1) * q ≤ n * q := Nat.mul_le_mul_right q h'
      rw [Nat.add_mul, Nat.one_mul] at this
      omega

theorem dv3 (t whole : Nat) : dv [t % 65536, t / 65536, whole] = whole * 4294967296 + t := by
  simp only [dv]
  omega
end Go.Proofs.YtapijhhmjjplmaaGreatDoor
