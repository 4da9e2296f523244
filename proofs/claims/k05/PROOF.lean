import PyProof.Rows.All
import Wide.All
import OpenK.AllK
import Wide.FinOn
import HandS.ForMost
import HandS.IsInst
import HandS.Zip
import HandS.More
import HandS.WideBits
import HandS.Conv
import PyProof.DictMoreH
import PySem.Challenge.RW_lastseen_k05_how_far_off_and_how_long
set_option Elab.async false
set_option linter.all false
set_option maxRecDepth 100000
set_option maxHeartbeats 4000000
namespace LS
/-- a rule: its kind, bits, step -/
inductive Ru where
  | cnt (b s : Nat)
  | shf (b s : Nat)
  | rgh (b : Nat)
def Ru.ok : Ru → Prop
  | .cnt b s => 1 ≤ b ∧ b ≤ 6 ∧ 1 ≤ s ∧ s ≤ 20
  | .shf b s => 1 ≤ b ∧ b ≤ 10 ∧ 1 ≤ s ∧ s ≤ 20
  | .rgh b => 1 ≤ b ∧ b ≤ 3
def Ru.bits : Ru → Nat
  | .cnt b _ => b
  | .shf b _ => b
  | .rgh b => b
/-- the greatest mark -/
def Ru.most : Ru → Nat
  | .cnt b _ => 2 ^ b - 1
  | .shf b _ => 2 ^ (b + 1) - 1
  | .rgh b => 2 ^ b - 1
/-- the mark that ageing leaves -/
def Ru.fin : Ru → Nat
  | .cnt b _ => 2 ^ b - 1
  | .shf _ _ => 0
  | .rgh b => 2 ^ b - 1
/-- the mark of a thing that was just seen for the first time -/
def Ru.top : Ru → Nat
  | .shf b _ => 2 ^ b
  | _ => 0
/-- the beginning of a moment -/
def tick : Ru → Nat → Nat → Nat
  | .cnt b s, m, t => if t % s = 0 then min (m + 1) (2 ^ b - 1) else m
  | .shf _ s, m, t => if t % s = 0 then m / 2 else m
  | .rgh b, m, t => if m ≠ 2 ^ b - 1 ∧ t % 2 ^ m = 0 then m + 1 else m
/-- n moments behind moment t -/
def ag (R : Ru) (m t : Nat) : Nat → Nat
  | 0 => m
  | n + 1 => tick R (ag R m t n) (t + n + 1)
theorem ag_add (R : Ru) (m t n : Nat) : ∀ k, ag R m t (n + k) = ag R (ag R m t n) (t + n) k
  | 0 => rfl
  | k + 1 => by
    show tick R (ag R m t (n + k)) (t + (n + k) + 1) = tick R (ag R (ag R m t n) (t + n) k) (t + n + k + 1)
    rw [ag_add R m t n k, Nat.add_assoc t n k]
theorem succ_div (k s : Nat) (hs : 0 < s) : (k + 1) / s = k / s + (if (k + 1) % s = 0 then 1 else 0) := by
  have e := Nat.div_add_mod k s
  have hr : k % s < s := Nat.mod_lt k hs
  by_cases h : k % s + 1 < s
  · have e1 : k + 1 = s * (k / s) + (k % s + 1) := by omega
    have d : (k + 1) / s = k / s := by
      have := congrArg (· / s) e1
      simp only [Nat.mul_add_div hs, Nat.div_eq_of_lt h, Nat.add_zero] at this
      exact this
    have m : (k + 1) % s = k % s + 1 := by
      have := congrArg (· % s) e1
      simp only [Nat.mul_add_mod] at this
      rw [this, Nat.mod_eq_of_lt h]
    rw [d, if_neg (by omega), Nat.add_zero]
  · have e2 : k % s + 1 = s := by omega
    have e1 : k + 1 = s * (k / s + 1) := by rw [Nat.mul_add, Nat.mul_one]; omega
    have d : (k + 1) / s = k / s + 1 := by
      have := congrArg (· / s) e1
      simp only [Nat.mul_div_cancel_left _ hs] at this
      exact this
    have m : (k + 1) % s = 0 := by
      have := congrArg (· % s) e1
      simp only [Nat.mul_mod_right] at this
      exact this
    rw [d, if_pos m]
theorem div_mono {a b : Nat} (s : Nat) (h : a ≤ b) : a / s ≤ b / s := Nat.div_le_div_right h
theorem ag_cnt (b s m t : Nat) (hs : 0 < s) (hm : m ≤ 2 ^ b - 1) : ∀ n, ag (.cnt b s) m t n = min (m + ((t + n) / s - t / s)) (2 ^ b - 1)
  | 0 => by
    show m = _
    rw [Nat.add_zero, Nat.sub_self, Nat.add_zero, Nat.min_eq_left hm]
  | n + 1 => by
    show (if (t + n + 1) % s = 0 then min (ag (.cnt b s) m t n + 1) (2 ^ b - 1) else ag (.cnt b s) m t n) = _
    rw [ag_cnt b s m t hs hm n]
    have e := succ_div (t + n) s hs
    have g := div_mono s (Nat.le_add_right t n)
    rw [show t + (n + 1) = t + n + 1 from rfl, e]
    by_cases h : (t + n + 1) % s = 0
    · rw [if_pos h, if_pos h]; omega
    · rw [if_neg h, if_neg h, Nat.add_zero]
theorem ag_shf (b s m t : Nat) (hs : 0 < s) : ∀ n, ag (.shf b s) m t n = m / 2 ^ ((t + n) / s - t / s)
  | 0 => by
    show m = _
    rw [Nat.add_zero, Nat.sub_self, Nat.pow_zero, Nat.div_one]
  | n + 1 => by
    show (if (t + n + 1) % s = 0 then ag (.shf b s) m t n / 2 else ag (.shf b s) m t n) = _
    rw [ag_shf b s m t hs n]
    have e := succ_div (t + n) s hs
    have g := div_mono s (Nat.le_add_right t n)
    rw [show t + (n + 1) = t + n + 1 from rfl, e]
    by_cases h : (t + n + 1) % s = 0
    · rw [if_pos h, if_pos h, Nat.div_div_eq_div_mul, ← Nat.pow_succ]
      congr 2; omega
    · rw [if_neg h, if_neg h, Nat.add_zero]
/-- where rough stands still -/
theorem ag_rgh_fin (b t : Nat) : ∀ n, ag (.rgh b) (2 ^ b - 1) t n = 2 ^ b - 1
  | 0 => rfl
  | n + 1 => by
    show (if ag (.rgh b) (2 ^ b - 1) t n ≠ 2 ^ b - 1 ∧ _ then _ else _) = _
    rw [ag_rgh_fin b t n, if_neg (fun h => h.1 rfl)]
theorem ag_rgh_still (b m t : Nat) : ∀ n, n < (t / 2 ^ m + 1) * 2 ^ m - t → ag (.rgh b) m t n = m
  | 0, _ => rfl
  | n + 1, h => by
    show (if ag (.rgh b) m t n ≠ 2 ^ b - 1 ∧ (t + n + 1) % 2 ^ ag (.rgh b) m t n = 0 then ag (.rgh b) m t n + 1 else ag (.rgh b) m t n) = _
    rw [ag_rgh_still b m t n (by omega)]
    refine if_neg fun ⟨_, h2⟩ => ?_
    have hp : 0 < 2 ^ m := Nat.two_pow_pos m
    have e := Nat.div_add_mod t (2 ^ m)
    have e2 := Nat.div_add_mod (t + n + 1) (2 ^ m)
    have h3 : t + n + 1 < (t / 2 ^ m + 1) * 2 ^ m := by omega
    have h4 : (t + n + 1) / 2 ^ m < t / 2 ^ m + 1 := (Nat.div_lt_iff_lt_mul hp).mpr h3
    have h5 := div_mono (2 ^ m) (show t ≤ t + n + 1 by omega)
    have h6 : (t + n + 1) / 2 ^ m = t / 2 ^ m := by omega
    rw [h6, h2] at e2
    have h7 : 2 ^ m * (t / 2 ^ m) ≤ t := by omega
    omega
theorem next_gt (m t : Nat) : t < (t / 2 ^ m + 1) * 2 ^ m := by
  have hp : 0 < 2 ^ m := Nat.two_pow_pos m
  have e := Nat.div_add_mod t (2 ^ m)
  have := Nat.mod_lt t hp
  rw [Nat.add_mul, Nat.one_mul, Nat.mul_comm]
  omega
theorem next_le (m t : Nat) : (t / 2 ^ m + 1) * 2 ^ m ≤ t + 2 ^ m := by
  have e := Nat.div_add_mod t (2 ^ m)
  rw [Nat.add_mul, Nat.one_mul, Nat.mul_comm]
  omega
theorem ag_rgh_next (b m t : Nat) (hm : m ≠ 2 ^ b - 1) : ag (.rgh b) m t ((t / 2 ^ m + 1) * 2 ^ m - t) = m + 1 := by
  have g := next_gt m t
  obtain ⟨n, hn⟩ : ∃ n, (t / 2 ^ m + 1) * 2 ^ m - t = n + 1 := ⟨(t / 2 ^ m + 1) * 2 ^ m - t - 1, by omega⟩
  rw [hn]
  show (if ag (.rgh b) m t n ≠ 2 ^ b - 1 ∧ (t + n + 1) % 2 ^ ag (.rgh b) m t n = 0 then ag (.rgh b) m t n + 1 else ag (.rgh b) m t n) = _
  have e3 : (t + n + 1) % 2 ^ m = 0 := by
    rw [show t + n + 1 = (t / 2 ^ m + 1) * 2 ^ m by omega]
    exact Nat.mul_mod_left _ _
  rw [ag_rgh_still b m t n (by omega), if_pos ⟨hm, e3⟩]
theorem tick_le (R : Ru) (m t : Nat) (h : m ≤ R.most) : tick R m t ≤ R.most := by
  cases R with
  | cnt b s =>
    show (if t % s = 0 then min (m + 1) (2 ^ b - 1) else m) ≤ 2 ^ b - 1
    have h' : m ≤ 2 ^ b - 1 := h
    split <;> omega
  | shf b s =>
    show (if t % s = 0 then m / 2 else m) ≤ 2 ^ (b + 1) - 1
    have h' : m ≤ 2 ^ (b + 1) - 1 := h
    split <;> omega
  | rgh b =>
    show (if m ≠ 2 ^ b - 1 ∧ t % 2 ^ m = 0 then m + 1 else m) ≤ 2 ^ b - 1
    have h' : m ≤ 2 ^ b - 1 := h
    split
    · rename_i c
      have := c.1
      omega
    · exact h'
theorem ag_le (R : Ru) (m t : Nat) (h : m ≤ R.most) : ∀ n, ag R m t n ≤ R.most
  | 0 => h
  | n + 1 => tick_le R _ _ (ag_le R m t h n)
/-- the length of a round -/
def Ru.round : Ru → Nat
  | .cnt _ s => s
  | .shf _ s => s
  | .rgh _ => 64
theorem pow_div64 {m : Nat} (h : m ≤ 6) (t k : Nat) : (t + 64 * k) % 2 ^ m = t % 2 ^ m := by
  have : m = 0 ∨ m = 1 ∨ m = 2 ∨ m = 3 ∨ m = 4 ∨ m = 5 ∨ m = 6 := by omega
  rcases this with rfl | rfl | rfl | rfl | rfl | rfl | rfl <;> simp only [Nat.reducePow] <;> omega
theorem tick_round (R : Ru) (hR : R.ok) (m t k : Nat) (h : m ≤ R.most) : tick R m (t + R.round * k) = tick R m t := by
  cases R with
  | cnt b s =>
    show (if (t + s * k) % s = 0 then min (m + 1) (2 ^ b - 1) else m) = if t % s = 0 then min (m + 1) (2 ^ b - 1) else m
    rw [Nat.add_mul_mod_self_left]
  | shf b s =>
    show (if (t + s * k) % s = 0 then m / 2 else m) = if t % s = 0 then m / 2 else m
    rw [Nat.add_mul_mod_self_left]
  | rgh b =>
    show (if m ≠ 2 ^ b - 1 ∧ (t + 64 * k) % 2 ^ m = 0 then m + 1 else m) = if m ≠ 2 ^ b - 1 ∧ t % 2 ^ m = 0 then m + 1 else m
    by_cases e : m = 2 ^ b - 1
    · rw [if_neg (fun h => h.1 e), if_neg (fun h => h.1 e)]
    · have h' : m ≤ 2 ^ b - 1 := h
      obtain ⟨h1, h2⟩ : 1 ≤ b ∧ b ≤ 3 := hR
      have hb : b = 1 ∨ b = 2 ∨ b = 3 := by omega
      have h6 : m ≤ 6 := by
        rcases hb with rfl | rfl | rfl <;> simp only [Nat.reducePow] at h' e <;> omega
      rw [pow_div64 h6]
theorem ag_round (R : Ru) (hR : R.ok) (m t k : Nat) (h : m ≤ R.most) : ∀ n, ag R m (t + R.round * k) n = ag R m t n
  | 0 => rfl
  | n + 1 => by
    show tick R (ag R m (t + R.round * k) n) (t + R.round * k + n + 1) = tick R (ag R m t n) (t + n + 1)
    rw [ag_round R hR m t k h n, show t + R.round * k + n + 1 = (t + n + 1) + R.round * k by omega]
    exact tick_round R hR _ _ k (ag_le R m t h n)
theorem ag_rgh_mono1 (b m t n : Nat) : ag (.rgh b) m t n ≤ ag (.rgh b) m t (n + 1) := by
  show ag (.rgh b) m t n ≤ (if ag (.rgh b) m t n ≠ 2 ^ b - 1 ∧ (t + n + 1) % 2 ^ ag (.rgh b) m t n = 0 then ag (.rgh b) m t n + 1 else ag (.rgh b) m t n)
  split <;> omega
theorem ag_rgh_mono (b m t n : Nat) : ∀ k, ag (.rgh b) m t n ≤ ag (.rgh b) m t (n + k)
  | 0 => Nat.le_refl _
  | k + 1 => Nat.le_trans (ag_rgh_mono b m t n k) (ag_rgh_mono1 b m t (n + k))
theorem rgh_reach (b m t : Nat) : ∀ e, e ≤ 2 ^ b - 1 → e ≤ ag (.rgh b) m t (2 ^ e - 1)
  | 0, _ => Nat.zero_le _
  | e + 1, he => by
    have ih := rgh_reach b m t e (by omega)
    have hp := Nat.two_pow_pos e
    have e2 : 2 ^ (e + 1) - 1 = (2 ^ e - 1) + 2 ^ e := by rw [Nat.pow_succ]; omega
    rw [e2]
    by_cases c : e + 1 ≤ ag (.rgh b) m t (2 ^ e - 1)
    · exact Nat.le_trans c (ag_rgh_mono b m t _ _)
    · have ee : ag (.rgh b) m t (2 ^ e - 1) = e := by omega
      rw [ag_add, ee]
      have nx := next_le e (t + (2 ^ e - 1))
      have gx := next_gt e (t + (2 ^ e - 1))
      have r := ag_rgh_next b e (t + (2 ^ e - 1)) (by omega)
      obtain ⟨k, hk⟩ : ∃ k, 2 ^ e = ((t + (2 ^ e - 1)) / 2 ^ e + 1) * 2 ^ e - (t + (2 ^ e - 1)) + k :=
        ⟨2 ^ e - (((t + (2 ^ e - 1)) / 2 ^ e + 1) * 2 ^ e - (t + (2 ^ e - 1))), by omega⟩
      have mo := ag_rgh_mono b e (t + (2 ^ e - 1)) (((t + (2 ^ e - 1)) / 2 ^ e + 1) * 2 ^ e - (t + (2 ^ e - 1))) k
      rw [r, ← hk] at mo
      exact mo
theorem div_add_ge (t n s : Nat) (hs : 0 < s) : n / s ≤ (t + n) / s - t / s := by
  have h1 := Nat.div_mul_le_self t s
  have h2 := Nat.div_mul_le_self n s
  have : t / s + n / s ≤ (t + n) / s := (Nat.le_div_iff_mul_le hs).mpr (by rw [Nat.add_mul]; omega)
  omega
/-- far behind: the end -/
theorem ag_far (R : Ru) (hR : R.ok) (m t n : Nat) (h : m ≤ R.most) (hn : 1300 ≤ n) : ag R m t n = R.fin := by
  cases R with
  | cnt b s =>
    obtain ⟨h1, h2, h3, h4⟩ : 1 ≤ b ∧ b ≤ 6 ∧ 1 ≤ s ∧ s ≤ 20 := hR
    have h' : m ≤ 2 ^ b - 1 := h
    rw [ag_cnt b s m t h3 h' n]
    show _ = 2 ^ b - 1
    have g := div_add_ge t n s h3
    have : 65 ≤ n / s := (Nat.le_div_iff_mul_le h3).mpr (Nat.le_trans (Nat.mul_le_mul_left 65 h4) hn)
    have : 2 ^ b ≤ 2 ^ 6 := Nat.pow_le_pow_right (by decide) h2
    omega
  | shf b s =>
    obtain ⟨h1, h2, h3, h4⟩ : 1 ≤ b ∧ b ≤ 10 ∧ 1 ≤ s ∧ s ≤ 20 := hR
    have h' : m ≤ 2 ^ (b + 1) - 1 := h
    rw [ag_shf b s m t h3 n]
    show _ = 0
    have g := div_add_ge t n s h3
    have : 65 ≤ n / s := (Nat.le_div_iff_mul_le h3).mpr (Nat.le_trans (Nat.mul_le_mul_left 65 h4) hn)
    have : 2 ^ (b + 1) ≤ 2 ^ ((t + n) / s - t / s) := Nat.pow_le_pow_right (by decide) (by omega)
    have := Nat.two_pow_pos (b + 1)
    exact Nat.div_eq_of_lt (by omega)
  | rgh b =>
    obtain ⟨h1, h2⟩ : 1 ≤ b ∧ b ≤ 3 := hR
    have le := ag_le (.rgh b) m t h n
    have r := rgh_reach b m t (2 ^ b - 1) (Nat.le_refl _)
    have hb : b = 1 ∨ b = 2 ∨ b = 3 := by omega
    have h7 : 2 ^ (2 ^ b - 1) - 1 ≤ 127 := by rcases hb with rfl | rfl | rfl <;> decide
    obtain ⟨k, hk⟩ : ∃ k, n = 2 ^ (2 ^ b - 1) - 1 + k := ⟨n - (2 ^ (2 ^ b - 1) - 1), by omega⟩
    have mo := ag_rgh_mono b m t (2 ^ (2 ^ b - 1) - 1) k
    rw [← hk] at mo
    show _ = 2 ^ b - 1
    have le' : ag (.rgh b) m t n ≤ 2 ^ b - 1 := le
    omega
end LS
namespace LS
def Ru.isShf : Ru → Bool
  | .shf _ _ => true
  | _ => false
def Ru.isRgh : Ru → Bool
  | .rgh _ => true
  | _ => false
/-- what the mark of a thing that was seen so many moments ago comes to -/
def one (R : Ru) (now a : Nat) : Nat := ag R R.top (now - a) a
/-- it may have such a mark -/
def poss (R : Ru) (now mark a : Nat) : Bool :=
  if R.isShf && decide (0 < one R now a) then decide (one R now a ≤ mark) && decide (mark < 2 * one R now a) else decide (one R now a = mark)
def IsSpan (R : Ru) (now mark : Nat) (x y : Option Nat) : Prop :=
  (x = none ∧ y = none ∧ ∀ a, a ≤ now → poss R now mark a = false) ∨
  (∃ lo, x = some lo ∧ lo ≤ now ∧ poss R now mark lo = true ∧ (∀ a, a ≤ now → poss R now mark a = true → lo ≤ a) ∧
    ((mark = R.fin ∧ y = none) ∨ (mark ≠ R.fin ∧ ∃ hi, y = some hi ∧ hi ≤ now ∧ poss R now mark hi = true ∧ ∀ a, a ≤ now → poss R now mark a = true → a ≤ hi)))
theorem IsSpan.uniq {R : Ru} {now mark : Nat} {x y x' y' : Option Nat} (h : IsSpan R now mark x y) (h' : IsSpan R now mark x' y') : x = x' ∧ y = y' := by
  rcases h with ⟨rfl, rfl, h⟩ | ⟨lo, rfl, h1, h2, h3, h4⟩
  · rcases h' with ⟨rfl, rfl, _⟩ | ⟨lo', rfl, k1, k2, _⟩
    · exact ⟨rfl, rfl⟩
    · rw [h lo' k1] at k2
      cases k2
  · rcases h' with ⟨rfl, rfl, h'⟩ | ⟨lo', rfl, k1, k2, k3, k4⟩
    · rw [h' lo h1] at h2
      cases h2
    · have e : lo = lo' := Nat.le_antisymm (h3 _ k1 k2) (k3 _ h1 h2)
      refine ⟨by rw [e], ?_⟩
      rcases h4 with ⟨e1, rfl⟩ | ⟨e1, hi, rfl, a1, a2, a3⟩
      · rcases k4 with ⟨_, rfl⟩ | ⟨n1, _⟩
        · rfl
        · exact absurd e1 n1
      · rcases k4 with ⟨n1, rfl⟩ | ⟨_, hi', rfl, b1, b2, b3⟩
        · exact absurd n1 e1
        · rw [Nat.le_antisymm (b3 _ a1 a2) (a3 _ b1 b2)]
/-! ### the lists that are found -/
def fl (R : Ru) (now mark n : Nat) : List Nat := (List.range n).filter (poss R now mark)
theorem fl_succ (R : Ru) (now mark n : Nat) : fl R now mark (n + 1) = if poss R now mark n = true then fl R now mark n ++ [n] else fl R now mark n := by
  unfold fl
  rw [List.range_succ, List.filter_append]
  by_cases h : poss R now mark n = true
  · rw [if_pos h, List.filter_cons_of_pos h]
    rfl
  · rw [if_neg h, List.filter_cons_of_neg h, List.filter_nil, List.append_nil]
theorem mem_fl {R : Ru} {now mark n a : Nat} : a ∈ fl R now mark n ↔ a < n ∧ poss R now mark a = true := by
  unfold fl
  rw [List.mem_filter, List.mem_range]
theorem fl_len (R : Ru) (now mark n : Nat) : (fl R now mark n).length ≤ n := by
  unfold fl
  exact Nat.le_trans (List.length_filter_le _ _) (by rw [List.length_range]; exact Nat.le_refl n)
/-- the tried ones do -/
def Cov (R : Ru) (now mark cnt : Nat) : Prop := cnt ≤ now + 1 ∧ ∀ a, cnt ≤ a → a ≤ now → poss R now mark a = true → mark = R.fin ∧ ∃ a', a' < cnt ∧ poss R now mark a' = true
theorem span_nil {R : Ru} {now mark cnt : Nat} (c : Cov R now mark cnt) (h : fl R now mark cnt = []) : IsSpan R now mark none none := by
  have no : ∀ a, a < cnt → poss R now mark a = false := fun a ha => by
    cases e : poss R now mark a with
    | false => rfl
    | true =>
      have : a ∈ fl R now mark cnt := mem_fl.mpr ⟨ha, e⟩
      rw [h] at this
      cases this
  refine .inl ⟨rfl, rfl, fun a ha => ?_⟩
  by_cases hc : a < cnt
  · exact no a hc
  · cases e : poss R now mark a with
    | false => rfl
    | true =>
      obtain ⟨_, a', l, p⟩ := c.2 a (by omega) ha e
      rw [no a' l] at p
      cases p
theorem span_some {R : Ru} {now mark cnt lo : Nat} {y : Option Nat} (c : Cov R now mark cnt) (h1 : lo ∈ fl R now mark cnt) (h2 : ∀ a, a ∈ fl R now mark cnt → lo ≤ a)
    (h3 : (mark = R.fin ∧ y = none) ∨ (mark ≠ R.fin ∧ ∃ hi, y = some hi ∧ hi ∈ fl R now mark cnt ∧ ∀ a, a ∈ fl R now mark cnt → a ≤ hi)) : IsSpan R now mark (some lo) y := by
  obtain ⟨l1, l2⟩ := mem_fl.mp h1
  have c1 := c.1
  refine .inr ⟨lo, rfl, by omega, l2, fun a ha hp => ?_, ?_⟩
  · by_cases hc : a < cnt
    · exact h2 a (mem_fl.mpr ⟨hc, hp⟩)
    · omega
  · rcases h3 with h3 | ⟨n1, hi, rfl, m1, m2⟩
    · exact .inl h3
    · obtain ⟨q1, q2⟩ := mem_fl.mp m1
      refine .inr ⟨n1, hi, rfl, by omega, q2, fun a ha hp => ?_⟩
      by_cases hc : a < cnt
      · exact m2 a (mem_fl.mpr ⟨hc, hp⟩)
      · exact absurd (c.2 a (by omega) ha hp).1 n1
theorem fl_pair (R : Ru) (now mark n : Nat) : (fl R now mark n).Pairwise (· < ·) := List.Pairwise.filter _ List.pairwise_lt_range
theorem fl_head {R : Ru} {now mark n lo : Nat} {r : List Nat} (e : fl R now mark n = lo :: r) : lo ∈ fl R now mark n ∧ ∀ a, a ∈ fl R now mark n → lo ≤ a := by
  have p := fl_pair R now mark n
  rw [e] at p ⊢
  refine ⟨List.mem_cons_self, fun a ha => ?_⟩
  rcases List.mem_cons.mp ha with rfl | ha
  · exact Nat.le_refl _
  · exact Nat.le_of_lt ((List.pairwise_cons.mp p).1 a ha)
theorem fl_last {R : Ru} {now mark n hi : Nat} {r : List Nat} (e : fl R now mark n = r ++ [hi]) : hi ∈ fl R now mark n ∧ ∀ a, a ∈ fl R now mark n → a ≤ hi := by
  have p := fl_pair R now mark n
  rw [e] at p ⊢
  refine ⟨List.mem_append_right _ List.mem_cons_self, fun a ha => ?_⟩
  rcases List.mem_append.mp ha with ha | ha
  · exact Nat.le_of_lt ((List.pairwise_append.mp p).2.2 a ha hi List.mem_cons_self)
  · rcases List.mem_cons.mp ha with rfl | ha
    · exact Nat.le_refl _
    · cases ha
/-! ### rough: later is less -/
theorem tick_rgh_mono (b t : Nat) {m m' : Nat} (h : m ≤ m') : tick (.rgh b) m t ≤ tick (.rgh b) m' t := by
  by_cases e : m = m'
  · rw [e]; exact Nat.le_refl _
  · have h1 : tick (.rgh b) m t ≤ m + 1 := by
      show (if m ≠ 2 ^ b - 1 ∧ t % 2 ^ m = 0 then m + 1 else m) ≤ m + 1
      split <;> omega
    have h2 : m' ≤ tick (.rgh b) m' t := by
      show m' ≤ (if m' ≠ 2 ^ b - 1 ∧ t % 2 ^ m' = 0 then m' + 1 else m')
      split <;> omega
    omega
theorem ag_rgh_mark (b t : Nat) {m m' : Nat} (h : m ≤ m') : ∀ n, ag (.rgh b) m t n ≤ ag (.rgh b) m' t n
  | 0 => h
  | n + 1 => tick_rgh_mono b _ (ag_rgh_mark b t h n)
theorem one_rgh_step (b now a : Nat) (h : a + 1 ≤ now) : one (.rgh b) now a ≤ one (.rgh b) now (a + 1) := by
  show ag (.rgh b) 0 (now - a) a ≤ ag (.rgh b) 0 (now - (a + 1)) (a + 1)
  rw [Nat.add_comm a 1, ag_add]
  rw [show now - (1 + a) + 1 = now - a by omega]
  exact ag_rgh_mark b _ (Nat.zero_le _) a
theorem one_rgh_mono (b now a : Nat) : ∀ k, a + k ≤ now → one (.rgh b) now a ≤ one (.rgh b) now (a + k)
  | 0, _ => Nat.le_refl _
  | k + 1, h => Nat.le_trans (one_rgh_mono b now a k (by omega)) (one_rgh_step b now (a + k) (by omega))
theorem one_le (R : Ru) (now a : Nat) (h : R.top ≤ R.most) : one R now a ≤ R.most := ag_le R _ _ h a
theorem top_le (R : Ru) : R.top ≤ R.most := by
  cases R with
  | cnt b s => exact Nat.zero_le _
  | rgh b => exact Nat.zero_le _
  | shf b s =>
    show 2 ^ b ≤ 2 ^ (b + 1) - 1
    have := Nat.two_pow_pos b
    rw [Nat.pow_succ]
    omega
/-- the end is kept -/
theorem one_rgh_fin {b now a a' : Nat} (h : one (.rgh b) now a = 2 ^ b - 1) (h1 : a ≤ a') (h2 : a' ≤ now) : one (.rgh b) now a' = 2 ^ b - 1 := by
  obtain ⟨k, rfl⟩ : ∃ k, a' = a + k := ⟨a' - a, by omega⟩
  have m := one_rgh_mono b now a k h2
  have l : one (.rgh b) now (a + k) ≤ 2 ^ b - 1 := one_le (.rgh b) now (a + k) (top_le _)
  omega
theorem one_rgh_far {b now a : Nat} (hb : b ≤ 3) (ha : 127 ≤ a) : one (.rgh b) now a = 2 ^ b - 1 := by
  have p3 : 2 ^ b ≤ 2 ^ 3 := Nat.pow_le_pow_right (by decide) hb
  have h7 : 2 ^ (2 ^ b - 1) ≤ 2 ^ 7 := Nat.pow_le_pow_right (by decide) (by omega)
  have r := rgh_reach b 0 (now - a) (2 ^ b - 1) (Nat.le_refl _)
  obtain ⟨k, hk⟩ : ∃ k, a = (2 ^ (2 ^ b - 1) - 1) + k := ⟨a - (2 ^ (2 ^ b - 1) - 1), by omega⟩
  have mo := ag_rgh_mono b 0 (now - a) (2 ^ (2 ^ b - 1) - 1) k
  rw [← hk] at mo
  have l : one (.rgh b) now a ≤ 2 ^ b - 1 := one_le (.rgh b) now a (top_le _)
  have l2 : 2 ^ b - 1 ≤ one (.rgh b) now a := Nat.le_trans r mo
  omega
theorem poss_rgh (b now mark a : Nat) : poss (.rgh b) now mark a = decide (one (.rgh b) now a = mark) := rfl
theorem poss_cnt (b s now mark a : Nat) : poss (.cnt b s) now mark a = decide (one (.cnt b s) now a = mark) := rfl
theorem cov_end (R : Ru) (now mark : Nat) : Cov R now mark (now + 1) := ⟨Nat.le_refl _, fun a h1 h2 _ => by omega⟩
theorem cov_rgh {b now mark c : Nat} (h : one (.rgh b) now c = 2 ^ b - 1) (hc : c ≤ now) : Cov (.rgh b) now mark (c + 1) := by
  refine ⟨by omega, fun a h1 h2 h3 => ?_⟩
  have e := one_rgh_fin h (show c ≤ a by omega) h2
  rw [poss_rgh, e] at h3
  have e2 : 2 ^ b - 1 = mark := of_decide_eq_true h3
  exact ⟨e2.symm, c, by omega, by rw [poss_rgh, h, decide_eq_true e2]⟩
/-! ### count and shift: by how often a thing was aged -/
def bl (n : Nat) : Nat := if n = 0 then 0 else n.log2 + 1
theorem bl_pos {n : Nat} (h : n ≠ 0) : 2 ^ (bl n - 1) ≤ n ∧ n < 2 ^ bl n ∧ 1 ≤ bl n := by
  unfold bl
  rw [if_neg h]
  exact ⟨Nat.log2_self_le h, Nat.lt_log2_self, by omega⟩
theorem pow_uniq {i j n : Nat} (h1 : 2 ^ i ≤ n) (h2 : n < 2 ^ (i + 1)) (h3 : 2 ^ j ≤ n) (h4 : n < 2 ^ (j + 1)) : i = j := by
  have a : i < j + 1 := (Nat.pow_lt_pow_iff_right (by decide : 1 < 2)).mp (Nat.lt_of_le_of_lt h1 h4)
  have b : j < i + 1 := (Nat.pow_lt_pow_iff_right (by decide : 1 < 2)).mp (Nat.lt_of_le_of_lt h3 h2)
  omega
theorem bl_le {n b : Nat} (h : n < 2 ^ b) : bl n ≤ b := by
  by_cases e : n = 0
  · unfold bl; rw [if_pos e]; exact Nat.zero_le _
  · obtain ⟨h1, h2, h3⟩ := bl_pos e
    have : bl n - 1 < b := (Nat.pow_lt_pow_iff_right (by decide : 1 < 2)).mp (Nat.lt_of_le_of_lt h1 h)
    omega
/-- how often it was aged, for the end at the least -/
def Ru.ags : Ru → Nat → Nat
  | .cnt _ _, m => m
  | .shf b _, m => b + 1 - bl m
  | .rgh _, _ => 0
def Ru.step : Ru → Nat
  | .cnt _ s => s
  | .shf _ s => s
  | .rgh _ => 1
def dd (s now a : Nat) : Nat := now / s - (now - a) / s
theorem one_cnt (b s now a : Nat) (hs : 0 < s) (h : a ≤ now) : one (.cnt b s) now a = min (dd s now a) (2 ^ b - 1) := by
  show ag (.cnt b s) 0 (now - a) a = _
  rw [ag_cnt b s 0 (now - a) hs (Nat.zero_le _) a, Nat.zero_add, show now - a + a = now by omega]
  rfl
theorem one_shf (b s now a : Nat) (hs : 0 < s) (h : a ≤ now) : one (.shf b s) now a = 2 ^ b / 2 ^ dd s now a := by
  show ag (.shf b s) (2 ^ b) (now - a) a = _
  rw [ag_shf b s (2 ^ b) (now - a) hs a, show now - a + a = now by omega]
  rfl
theorem two_div {b d : Nat} (h : d ≤ b) : 2 ^ b / 2 ^ d = 2 ^ (b - d) := Nat.pow_div h (by decide)
theorem two_div0 {b d : Nat} (h : b < d) : 2 ^ b / 2 ^ d = 0 := Nat.div_eq_of_lt (Nat.pow_lt_pow_right (by decide) h)
theorem poss_stp {R : Ru} (hR : R.isRgh = false) (hs : 0 < R.step) {now mark a : Nat} (hm : mark ≤ R.most) (h : a ≤ now) : poss R now mark a = true ↔ (if mark = R.fin then R.ags mark ≤ dd R.step now a else dd R.step now a = R.ags mark) := by
  cases R with
  | rgh b => cases hR
  | cnt b s =>
    have hm' : mark ≤ 2 ^ b - 1 := hm
    rw [poss_cnt, one_cnt b s now a hs h, decide_eq_true_iff]
    show _ ↔ (if mark = 2 ^ b - 1 then mark ≤ dd s now a else dd s now a = mark)
    split <;> omega
  | shf b s =>
    have hm' : mark ≤ 2 ^ (b + 1) - 1 := hm
    have pb := Nat.two_pow_pos (b + 1)
    show (if (true && decide (0 < one (.shf b s) now a)) = true then decide (one (.shf b s) now a ≤ mark) && decide (mark < 2 * one (.shf b s) now a) else decide (one (.shf b s) now a = mark)) = true ↔ (if mark = 0 then b + 1 - bl mark ≤ dd s now a else dd s now a = b + 1 - bl mark)
    rw [one_shf b s now a hs h, Bool.true_and]
    by_cases hd : dd s now a ≤ b
    · rw [two_div hd]
      have p := Nat.two_pow_pos (b - dd s now a)
      rw [decide_eq_true p, if_pos rfl, Bool.and_eq_true, decide_eq_true_iff, decide_eq_true_iff, Nat.mul_comm, ← Nat.pow_succ]
      by_cases e : mark = 0
      · rw [if_pos e, e, show bl 0 = 0 from rfl]
        omega
      · rw [if_neg e]
        obtain ⟨h1, h2, h3⟩ := bl_pos e
        have h4 : bl mark ≤ b + 1 := bl_le (by omega)
        constructor
        · rintro ⟨q1, q2⟩
          have := pow_uniq q1 q2 h1 (by rw [show bl mark - 1 + 1 = bl mark by omega]; exact h2)
          omega
        · intro q
          have : b - dd s now a = bl mark - 1 := by omega
          rw [this, show (bl mark - 1).succ = bl mark by omega]
          exact ⟨h1, h2⟩
    · rw [two_div0 (by omega), if_neg (by decide)]
      rw [decide_eq_true_iff]
      by_cases e : mark = 0
      · rw [if_pos e, e]
        constructor
        · intro _
          rw [show bl 0 = 0 from rfl]
          omega
        · intro _
          rfl
      · rw [if_neg e]
        obtain ⟨h1, h2, h3⟩ := bl_pos e
        constructor
        · intro q
          exact absurd q.symm e
        · intro q
          omega
theorem span_stp_none {R : Ru} (hR : R.isRgh = false) (hs : 0 < R.step) {now mark : Nat} (hm : mark ≤ R.most) (h : now / R.step < R.ags mark) : IsSpan R now mark none none := by
  refine .inl ⟨rfl, rfl, fun a ha => ?_⟩
  cases e : poss R now mark a with
  | false => rfl
  | true =>
    have p := (poss_stp hR hs hm ha).mp e
    have : dd R.step now a ≤ now / R.step := Nat.sub_le _ _
    split at p <;> omega
theorem span_stp_some {R : Ru} (hR : R.isRgh = false) (hs : 0 < R.step) {now mark run first latest : Nat} (hm : mark ≤ R.most) (h : now / R.step = R.ags mark + run) (hf : first = run * R.step) (hl : latest = min now (first + R.step - 1)) :
    IsSpan R now mark (some (now - latest)) (if mark = R.fin then none else some (now - first)) ∧ first ≤ now := by
  have f1 : first ≤ now := by
    rw [hf]
    have := Nat.div_mul_le_self now R.step
    exact Nat.le_trans (Nat.mul_le_mul_right _ (by omega)) this
  have l1 : first ≤ latest := by omega
  have l2 : latest ≤ first + R.step - 1 := by omega
  have l3 : latest ≤ now := by omega
  have dl : latest / R.step = run := by
    refine Nat.div_eq_of_lt_le (by rw [← hf]; exact l1) ?_
    rw [Nat.add_mul, Nat.one_mul, ← hf]
    omega
  have df : first / R.step = run := by rw [hf]; exact Nat.mul_div_cancel _ hs
  refine ⟨.inr ⟨now - latest, rfl, by omega, ?_, fun a ha hp => ?_, ?_⟩, f1⟩
  · refine (poss_stp hR hs hm (by omega)).mpr ?_
    have : dd R.step now (now - latest) = R.ags mark := by
      unfold dd
      rw [show now - (now - latest) = latest by omega, dl]
      omega
    rw [this]
    split
    · exact Nat.le_refl _
    · rfl
  · have p := (poss_stp hR hs hm ha).mp hp
    have q : R.ags mark ≤ dd R.step now a := by split at p <;> omega
    have dm := div_mono R.step (show now - a ≤ now by omega)
    have q2 : (now - a) / R.step ≤ run := by
      unfold dd at q
      omega
    have q3 : now - a < (run + 1) * R.step := (Nat.div_lt_iff_lt_mul hs).mp (by omega)
    rw [Nat.add_mul, Nat.one_mul, ← hf] at q3
    omega
  · by_cases e : mark = R.fin
    · exact .inl ⟨e, if_pos e⟩
    · refine .inr ⟨e, now - first, if_neg e, by omega, ?_, fun a ha hp => ?_⟩
      · refine (poss_stp hR hs hm (by omega)).mpr ?_
        rw [if_neg e]
        unfold dd
        rw [show now - (now - first) = first by omega, df]
        omega
      · have p := (poss_stp hR hs hm ha).mp hp
        rw [if_neg e] at p
        have dm := div_mono R.step (show now - a ≤ now by omega)
        have q2 : (now - a) / R.step = run := by
          unfold dd at p
          omega
        have := Nat.div_mul_le_self (now - a) R.step
        rw [q2, ← hf] at this
        omega
/-- as far back as the law tries -/
def Ru.far : Ru → Nat
  | .cnt b s => s * (2 + max b (2 ^ b - 1))
  | .shf b s => s * (2 + max b 0)
  | .rgh _ => 140
theorem cov_far {R : Ru} (hR : R.ok) {now mark : Nat} (hm : mark ≤ R.most) : Cov R now mark (min now R.far + 1) := by
  by_cases hn : now ≤ R.far
  · rw [Nat.min_eq_left hn]
    exact cov_end R now mark
  · rw [Nat.min_eq_right (by omega)]
    cases R with
    | rgh b => exact cov_rgh (one_rgh_far hR.2 (show 127 ≤ 140 by decide)) (by omega)
    | cnt b s =>
      obtain ⟨h1, h2, h3, h4⟩ : 1 ≤ b ∧ b ≤ 6 ∧ 1 ≤ s ∧ s ≤ 20 := hR
      have hn' : s * (2 + max b (2 ^ b - 1)) ≤ now := by
        have : ¬ now ≤ s * (2 + max b (2 ^ b - 1)) := hn
        omega
      have big : ∀ a, s * (2 + max b (2 ^ b - 1)) ≤ a → a ≤ now → one (.cnt b s) now a = 2 ^ b - 1 := fun a l1 l2 => by
        rw [one_cnt b s now a h3 l2]
        have g := div_add_ge (now - a) a s h3
        rw [show now - a + a = now by omega] at g
        have : 2 + max b (2 ^ b - 1) ≤ a / s := (Nat.le_div_iff_mul_le h3).mpr (by rw [Nat.mul_comm]; exact l1)
        unfold dd
        omega
      refine ⟨Nat.succ_le_succ hn', fun a l1 l2 l3 => ?_⟩
      have e := big a (Nat.le_of_lt l1) l2
      rw [poss_cnt, e] at l3
      have e2 : 2 ^ b - 1 = mark := of_decide_eq_true l3
      exact ⟨e2.symm, s * (2 + max b (2 ^ b - 1)), Nat.lt_succ_self _, by rw [poss_cnt, big _ (Nat.le_refl _) hn', decide_eq_true e2]⟩
    | shf b s =>
      obtain ⟨h1, h2, h3, h4⟩ : 1 ≤ b ∧ b ≤ 10 ∧ 1 ≤ s ∧ s ≤ 20 := hR
      have hn' : s * (2 + max b 0) ≤ now := by
        have : ¬ now ≤ s * (2 + max b 0) := hn
        omega
      have big : ∀ a, s * (2 + max b 0) ≤ a → a ≤ now → one (.shf b s) now a = 0 := fun a l1 l2 => by
        rw [one_shf b s now a h3 l2]
        have g := div_add_ge (now - a) a s h3
        rw [show now - a + a = now by omega] at g
        have : 2 + max b 0 ≤ a / s := (Nat.le_div_iff_mul_le h3).mpr (by rw [Nat.mul_comm]; exact l1)
        refine two_div0 ?_
        unfold dd
        omega
      have ps : ∀ a, one (.shf b s) now a = 0 → poss (.shf b s) now mark a = decide (0 = mark) := fun a e => by
        unfold poss
        rw [e]
        rfl
      refine ⟨Nat.succ_le_succ hn', fun a l1 l2 l3 => ?_⟩
      have e := big a (Nat.le_of_lt l1) l2
      rw [ps a e] at l3
      have e2 : 0 = mark := of_decide_eq_true l3
      exact ⟨e2.symm, s * (2 + max b 0), Nat.lt_succ_self _, by rw [ps _ (big _ (Nat.le_refl _) hn'), decide_eq_true e2]⟩
theorem far_le {R : Ru} (hR : R.ok) : R.far ≤ 1300 := by
  cases R with
  | rgh b => exact (by decide : 140 ≤ 1300)
  | cnt b s =>
    obtain ⟨h1, h2, h3, h4⟩ : 1 ≤ b ∧ b ≤ 6 ∧ 1 ≤ s ∧ s ≤ 20 := hR
    have : 2 ^ b ≤ 2 ^ 6 := Nat.pow_le_pow_right (by decide) h2
    exact Nat.mul_le_mul h4 (show 2 + max b (2 ^ b - 1) ≤ 65 by omega)
  | shf b s =>
    obtain ⟨h1, h2, h3, h4⟩ : 1 ≤ b ∧ b ≤ 10 ∧ 1 ≤ s ∧ s ≤ 20 := hR
    exact Nat.mul_le_mul h4 (show 2 + max b 0 ≤ 65 by omega)
end LS
namespace LS
/-- a turn of rough -/
def tT (b : Nat) : Nat := 2 ^ (2 ^ b - 2)
theorem two_T {b : Nat} (hb : 1 ≤ b) : 2 ^ (2 ^ b - 1) = 2 * tT b := by
  have : 2 ^ 1 ≤ 2 ^ b := Nat.pow_le_pow_right (by decide) hb
  unfold tT
  rw [show 2 ^ b - 1 = (2 ^ b - 2) + 1 by omega, Nat.pow_succ, Nat.mul_comm]
theorem T_pos (b : Nat) : 1 ≤ tT b := Nat.two_pow_pos _
theorem T_le {b : Nat} (hb : b ≤ 3) : tT b ≤ 64 := by
  have : 2 ^ b ≤ 2 ^ 3 := Nat.pow_le_pow_right (by decide) hb
  have : tT b ≤ 2 ^ 6 := Nat.pow_le_pow_right (by decide) (by omega)
  exact this
theorem tick_T (b m t k : Nat) (h : m ≤ 2 ^ b - 1) : tick (.rgh b) m (t + tT b * k) = tick (.rgh b) m t := by
  show (if m ≠ 2 ^ b - 1 ∧ (t + tT b * k) % 2 ^ m = 0 then m + 1 else m) = if m ≠ 2 ^ b - 1 ∧ t % 2 ^ m = 0 then m + 1 else m
  by_cases e : m = 2 ^ b - 1
  · rw [if_neg (fun h => h.1 e), if_neg (fun h => h.1 e)]
  · have ed : tT b = 2 ^ m * 2 ^ (2 ^ b - 2 - m) := by
      unfold tT
      rw [← Nat.pow_add]
      congr 1
      omega
    rw [ed, Nat.mul_assoc, Nat.add_mul_mod_self_left]
theorem ag_T (b m t k : Nat) (h : m ≤ 2 ^ b - 1) : ∀ n, ag (.rgh b) m (t + tT b * k) n = ag (.rgh b) m t n
  | 0 => rfl
  | n + 1 => by
    show tick (.rgh b) (ag (.rgh b) m (t + tT b * k) n) (t + tT b * k + n + 1) = tick (.rgh b) (ag (.rgh b) m t n) (t + n + 1)
    rw [ag_T b m t k h n, show t + tT b * k + n + 1 = (t + n + 1) + tT b * k by omega]
    exact tick_T b _ _ k (ag_le (.rgh b) m t h n)
theorem one_T (b now k a : Nat) (h : a ≤ now) : one (.rgh b) (now + tT b * k) a = one (.rgh b) now a := by
  show ag (.rgh b) 0 (now + tT b * k - a) a = ag (.rgh b) 0 (now - a) a
  rw [show now + tT b * k - a = (now - a) + tT b * k by omega]
  exact ag_T b 0 (now - a) k (Nat.zero_le _) a
/-- a moment of the third turn that stands for another one -/
def rep (b now : Nat) : Nat := 2 * tT b + now % tT b
theorem rep_in (b now : Nat) : 2 * tT b ≤ rep b now ∧ rep b now < 3 * tT b := by
  have := Nat.mod_lt now (T_pos b)
  unfold rep
  omega
theorem rep_same (b now a : Nat) (h : a ≤ now) (h2 : a ≤ rep b now) : one (.rgh b) (rep b now) a = one (.rgh b) now a := by
  have e := Nat.div_add_mod now (tT b)
  by_cases c : now / tT b ≤ 2
  · obtain ⟨k, hk⟩ : ∃ k, 2 = now / tT b + k := ⟨2 - now / tT b, by omega⟩
    have : rep b now = now + tT b * k := by
      unfold rep
      have : 2 * tT b = tT b * (now / tT b) + tT b * k := by rw [← Nat.mul_add, ← hk, Nat.mul_comm]
      omega
    rw [this]
    exact one_T b now k a h
  · obtain ⟨k, hk⟩ : ∃ k, now / tT b = 2 + k := ⟨now / tT b - 2, by omega⟩
    have : now = rep b now + tT b * k := by
      unfold rep
      have : tT b * (now / tT b) = 2 * tT b + tT b * k := by rw [hk, Nat.mul_add, Nat.mul_comm]
      omega
    have q := one_T b (rep b now) k a h2
    rw [← this] at q
    exact q.symm
theorem one_far2 {b now a : Nat} (hb : 1 ≤ b) (ha : 2 * tT b - 1 ≤ a) : one (.rgh b) now a = 2 ^ b - 1 := by
  have r := rgh_reach b 0 (now - a) (2 ^ b - 1) (Nat.le_refl _)
  rw [two_T hb] at r
  obtain ⟨k, hk⟩ : ∃ k, a = (2 * tT b - 1) + k := ⟨a - (2 * tT b - 1), by omega⟩
  have mo := ag_rgh_mono b 0 (now - a) (2 * tT b - 1) k
  rw [← hk] at mo
  have l : one (.rgh b) now a ≤ 2 ^ b - 1 := one_le (.rgh b) now a (top_le _)
  have l2 : 2 ^ b - 1 ≤ one (.rgh b) now a := Nat.le_trans r mo
  omega
theorem exists_span (R : Ru) (now m : Nat) : ∃ x y, IsSpan R now m x y := by
  have c := cov_end R now m
  cases ef : fl R now m (now + 1) with
  | nil => exact ⟨none, none, span_nil c ef⟩
  | cons lo r =>
    obtain ⟨f1, f2⟩ := fl_head ef
    by_cases e : m = R.fin
    · exact ⟨some lo, none, span_some c f1 f2 (.inl ⟨e, rfl⟩)⟩
    · have hl : lo :: r = (lo :: r).dropLast ++ [(lo :: r).getLast (List.cons_ne_nil _ _)] := (List.dropLast_concat_getLast _).symm
      have g := fl_last (ef.trans hl)
      exact ⟨some lo, some _, span_some c f1 f2 (.inr ⟨e, _, rfl, g.1, g.2⟩)⟩
theorem IsSpan.lo_le {R : Ru} {now m a : Nat} {x y : Option Nat} (h : IsSpan R now m x y) (ha : a ≤ now) (hp : poss R now m a = true) : ∃ lo, x = some lo ∧ lo ≤ a ∧ lo ≤ now ∧ poss R now m lo = true := by
  rcases h with ⟨_, _, h⟩ | ⟨lo, rfl, h1, h2, h3, _⟩
  · rw [h a ha] at hp
    cases hp
  · exact ⟨lo, rfl, h3 a ha hp, h1, h2⟩
theorem IsSpan.hi_ge {R : Ru} {now m a : Nat} {x y : Option Nat} (h : IsSpan R now m x y) (ha : a ≤ now) (hp : poss R now m a = true) (hm : m ≠ R.fin) : ∃ hi, y = some hi ∧ a ≤ hi ∧ hi ≤ now ∧ poss R now m hi = true := by
  rcases h with ⟨_, _, h⟩ | ⟨lo, rfl, h1, h2, h3, h4⟩
  · rw [h a ha] at hp
    cases hp
  · rcases h4 with ⟨e, _⟩ | ⟨_, hi, rfl, k1, k2, k3⟩
    · exact absurd e hm
    · exact ⟨hi, rfl, k3 a ha hp, k1, k2⟩
theorem IsSpan.hi_none {R : Ru} {now m : Nat} {x y : Option Nat} (h : IsSpan R now m x y) (hm : m = R.fin) : y = none := by
  rcases h with ⟨_, e, _⟩ | ⟨lo, rfl, h1, h2, h3, h4⟩
  · exact e
  · rcases h4 with ⟨_, e⟩ | ⟨n, _⟩
    · exact e
    · exact absurd hm n
theorem IsSpan.both {R : Ru} {now m lo hi : Nat} (h : IsSpan R now m (some lo) (some hi)) : lo ≤ now ∧ hi ≤ now ∧ poss R now m lo = true ∧ poss R now m hi = true ∧ lo ≤ hi ∧ m ≠ R.fin := by
  rcases h with ⟨e, _⟩ | ⟨lo', e, h1, h2, h3, h4⟩
  · cases e
  · cases e
    rcases h4 with ⟨_, e⟩ | ⟨n, hi', e, k1, k2, k3⟩
    · cases e
    · cases e
      exact ⟨h1, k1, h2, k2, h3 _ k1 k2, n⟩
def wset (b d : Nat) : Prop := ∃ now m lo hi, 2 * tT b ≤ now ∧ now < 3 * tT b ∧ m < 2 ^ b - 1 ∧ IsSpan (.rgh b) now m (some lo) (some hi) ∧ d = hi - lo
def OffR (b v : Nat) : Prop := (∀ d, wset b d → d ≤ v) ∧ (v = 0 ∨ wset b v)
def lset (b l : Nat) : Prop := ∃ now, 2 * tT b ≤ now ∧ now < 3 * tT b ∧ IsSpan (.rgh b) now (2 ^ b - 1) (some l) none
def ReachR (b v : Nat) : Prop := (∀ l, lset b l → v + 1 ≤ l) ∧ lset b (v + 1)
def IsOff (R : Ru) (v : Nat) : Prop := (R.isRgh = true ∧ OffR R.bits v) ∨ (R.isRgh = false ∧ v = R.step - 1)
def IsReach (R : Ru) (v : Nat) : Prop := (R.isRgh = true ∧ ReachR R.bits v) ∨ (R.isRgh = false ∧ v = (R.ags R.fin - 1) * R.step)
theorem step_pos {R : Ru} (h : R.ok) : 0 < R.step := by
  cases R with
  | cnt b s => exact h.2.2.1
  | shf b s => exact h.2.2.1
  | rgh b => exact Nat.one_pos
theorem dd_lt {s now a k : Nat} (hs : 0 < s) (ha : a ≤ now) (h : k + 1 ≤ dd s now a) : k * s < a := by
  unfold dd at h
  have h1 := Nat.div_mul_le_self now s
  have h2 : now - a < ((now - a) / s + 1) * s := by
    have := Nat.lt_mul_div_succ (now - a) hs
    rw [Nat.mul_comm] at this
    exact this
  have h3 : ((now - a) / s + (k + 1)) * s ≤ now / s * s := Nat.mul_le_mul_right s (by omega)
  rw [Nat.add_mul] at h2 h3
  rw [Nat.add_mul k 1 s] at h3
  omega
theorem dd_eq {s now a c : Nat} (hs : 0 < s) (ha : a ≤ now) (hc : c ≤ now) (h : dd s now a = dd s now c) : c ≤ a + (s - 1) := by
  unfold dd at h
  have m1 := div_mono s (show now - a ≤ now by omega)
  have m2 := div_mono s (show now - c ≤ now by omega)
  have e : (now - a) / s = (now - c) / s := by omega
  have h1 := Nat.div_mul_le_self (now - c) s
  have h2 : now - a < ((now - a) / s + 1) * s := by
    have := Nat.lt_mul_div_succ (now - a) hs
    rw [Nat.mul_comm] at this
    exact this
  rw [e, Nat.add_mul] at h2
  omega
/-- by how much it can be too much -/
theorem off_all {R : Ru} {v now m lo hi : Nat} (hR : R.ok) (hv : IsOff R v) (hm : m ≤ R.most) (h : IsSpan R now m (some lo) (some hi)) : hi ≤ lo + v := by
  obtain ⟨l1, l2, p1, p2, lh, nf⟩ := h.both
  rcases hv with ⟨ir, hv⟩ | ⟨nr, rfl⟩
  · cases R with
    | cnt b s => cases ir
    | shf b s => cases ir
    | rgh b =>
      have b1 : 1 ≤ b := hR.1
      have hm' : m ≤ 2 ^ b - 1 := hm
      have nf' : m ≠ 2 ^ b - 1 := nf
      have lt : ∀ a, poss (.rgh b) now m a = true → a < 2 * tT b := fun a p => by
        by_cases c : a < 2 * tT b
        · exact c
        · rw [poss_rgh, one_far2 b1 (by omega)] at p
          exact absurd (of_decide_eq_true p).symm nf'
      obtain ⟨r1, r2⟩ := rep_in b now
      have tr : ∀ a, a ≤ now → poss (.rgh b) now m a = true → a ≤ rep b now ∧ poss (.rgh b) (rep b now) m a = true := fun a ha p => by
        have := lt a p
        refine ⟨by omega, ?_⟩
        rw [poss_rgh] at p ⊢
        rw [rep_same b now a ha (by omega)]
        exact p
      obtain ⟨x, y, sp⟩ := exists_span (.rgh b) (rep b now) m
      obtain ⟨q1, q2⟩ := tr lo l1 p1
      obtain ⟨q3, q4⟩ := tr hi l2 p2
      obtain ⟨lo', rfl, e1, _⟩ := sp.lo_le q1 q2
      obtain ⟨hi', rfl, e2, _⟩ := sp.hi_ge q3 q4 nf
      have := hv.1 (hi' - lo') ⟨rep b now, m, lo', hi', r1, r2, Nat.lt_of_le_of_ne hm' nf', sp, rfl⟩
      omega
  · have hs := step_pos hR
    have a1 := (poss_stp nr hs hm l1).mp p1
    have a2 := (poss_stp nr hs hm l2).mp p2
    rw [if_neg nf] at a1 a2
    exact dd_eq hs l1 l2 (a1.trans a2.symm)
theorem fin_most (R : Ru) : R.fin ≤ R.most := by
  cases R with
  | cnt b s => exact Nat.le_refl _
  | shf b s => exact Nat.zero_le _
  | rgh b => exact Nat.le_refl _
theorem ags_fin {R : Ru} (hR : R.ok) (nr : R.isRgh = false) : 1 ≤ R.ags R.fin := by
  cases R with
  | cnt b s =>
    have : 2 ^ 1 ≤ 2 ^ b := Nat.pow_le_pow_right (by decide) hR.1
    show 1 ≤ 2 ^ b - 1
    omega
  | shf b s => exact Nat.succ_le_succ (Nat.zero_le b)
  | rgh b => cases nr
/-- within reach no mark is the end -/
theorem reach_all {R : Ru} {v now a : Nat} (hR : R.ok) (hv : IsReach R v) (ha : a ≤ now) (hp : poss R now R.fin a = true) : v < a := by
  rcases hv with ⟨ir, hv⟩ | ⟨nr, rfl⟩
  · cases R with
    | cnt b s => cases ir
    | shf b s => cases ir
    | rgh b =>
      have b1 : 1 ≤ b := hR.1
      obtain ⟨r1, r2⟩ := rep_in b now
      have tp := T_pos b
      obtain ⟨x, y, sp⟩ := exists_span (.rgh b) (rep b now) (2 ^ b - 1)
      have pe : poss (.rgh b) (rep b now) (2 ^ b - 1) (2 * tT b - 1) = true := by
        rw [poss_rgh, one_far2 b1 (Nat.le_refl _), decide_eq_true rfl]
      have yn : y = none := sp.hi_none rfl
      subst yn
      obtain ⟨lo, rfl, e1, e3, _⟩ := sp.lo_le (show 2 * tT b - 1 ≤ rep b now by omega) pe
      have lb := hv.1 lo ⟨rep b now, r1, r2, sp⟩
      by_cases c : a ≤ rep b now
      · have hp' : poss (.rgh b) (rep b now) (2 ^ b - 1) a = true := by
          rw [poss_rgh, rep_same b now a ha c, ← poss_rgh]
          exact hp
        obtain ⟨lo', e, l, _⟩ := sp.lo_le c hp'
        cases e
        omega
      · omega
  · have hs := step_pos hR
    have a1 := (poss_stp nr hs (fin_most R) ha).mp hp
    rw [if_pos rfl] at a1
    have := ags_fin hR nr
    exact dd_lt hs ha (by omega)
/-- the marks of a thing that was just seen -/
def Fresh (R : Ru) (m : Nat) : Prop := if R.isShf = true then R.top ≤ m ∧ m < 2 * R.top else m = 0
/-- a thing that was truly seen may have been seen then -/
theorem poss_true {R : Ru} (hR : R.ok) {m last n : Nat} (h : Fresh R m) : poss R (last + n) (ag R m last n) n = true := by
  cases R with
  | cnt b s =>
    have e : m = 0 := h
    subst e
    rw [poss_cnt]
    refine decide_eq_true ?_
    show ag (.cnt b s) 0 (last + n - n) n = _
    rw [Nat.add_sub_cancel]
  | rgh b =>
    have e : m = 0 := h
    subst e
    rw [poss_rgh]
    refine decide_eq_true ?_
    show ag (.rgh b) 0 (last + n - n) n = _
    rw [Nat.add_sub_cancel]
  | shf b s =>
    obtain ⟨h1, h2⟩ : 2 ^ b ≤ m ∧ m < 2 * 2 ^ b := h
    have hs : 0 < s := hR.2.2.1
    have e1 : one (.shf b s) (last + n) n = 2 ^ b / 2 ^ ((last + n) / s - last / s) := by
      show ag (.shf b s) (2 ^ b) (last + n - n) n = _
      rw [Nat.add_sub_cancel]
      exact ag_shf b s _ last hs n
    rw [ag_shf b s m last hs n]
    generalize (last + n) / s - last / s = d at e1
    have pd := Nat.two_pow_pos d
    unfold poss
    rw [e1]
    by_cases hd : d ≤ b
    · have p := Nat.two_pow_pos (b - d)
      have es : 2 ^ b = 2 ^ (b - d) * 2 ^ d := by rw [← Nat.pow_add]; congr 1; omega
      rw [two_div hd, decide_eq_true p]
      have q1 : 2 ^ (b - d) ≤ m / 2 ^ d := (Nat.le_div_iff_mul_le pd).mpr (by rw [← es]; exact h1)
      have q2 : m / 2 ^ d < 2 * 2 ^ (b - d) := (Nat.div_lt_iff_lt_mul pd).mpr (by rw [Nat.mul_assoc, ← es]; exact h2)
      rw [decide_eq_true q1, decide_eq_true q2]
      rfl
    · have z : m / 2 ^ d = 0 := by
        refine Nat.div_eq_of_lt (Nat.lt_of_lt_of_le h2 ?_)
        rw [Nat.mul_comm, ← Nat.pow_succ]
        exact Nat.pow_le_pow_right (by decide) (by omega)
      rw [two_div0 (by omega), z]
      rfl
theorem fresh_most {R : Ru} {m : Nat} (h : Fresh R m) : m ≤ R.most := by
  cases R with
  | cnt b s =>
    have e : m = 0 := h
    rw [e]; exact Nat.zero_le _
  | rgh b =>
    have e : m = 0 := h
    rw [e]; exact Nat.zero_le _
  | shf b s =>
    obtain ⟨h1, h2⟩ : 2 ^ b ≤ m ∧ m < 2 * 2 ^ b := h
    show m ≤ 2 ^ (b + 1) - 1
    rw [Nat.pow_succ]
    omega
end LS
namespace LS
/-- a round that is tried throughout -/
def Ru.arnd : Ru → Nat
  | .cnt b s => s * (1 + (2 ^ b - 1))
  | .shf b s => s * (1 + (b + 1))
  | .rgh _ => 64
theorem ag_fin (R : Ru) (t : Nat) : ∀ n, ag R R.fin t n = R.fin
  | 0 => rfl
  | n + 1 => by
    show tick R (ag R R.fin t n) (t + n + 1) = R.fin
    rw [ag_fin R t n]
    cases R with
    | cnt b s =>
      show (if _ then min (2 ^ b - 1 + 1) (2 ^ b - 1) else 2 ^ b - 1) = 2 ^ b - 1
      split
      · exact Nat.min_eq_right (Nat.le_succ _)
      · rfl
    | shf b s =>
      show (if _ then 0 / 2 else 0) = 0
      split <;> rfl
    | rgh b => exact if_neg fun h => h.1 rfl
theorem fin_le {R : Ru} {t n n' : Nat} (h : ag R R.top t n = R.fin) (l : n ≤ n') : ag R R.top t n' = R.fin := by
  obtain ⟨k, rfl⟩ : ∃ k, n' = n + k := ⟨n' - n, by omega⟩
  rw [ag_add, h, ag_fin]
theorem one_at {R : Ru} {h b : Nat} (l : b ≤ h) : one R h (h - b) = ag R R.top b (h - b) := by
  show ag R R.top (h - (h - b)) (h - b) = _
  rw [show h - (h - b) = b by omega]
theorem poss_exact {R : Ru} {now m a : Nat} (e : one R now a = m) (h : m ≠ R.fin) : poss R now m a = true := by
  cases R with
  | cnt b s => rw [poss_cnt, decide_eq_true e]
  | rgh b => rw [poss_rgh, decide_eq_true e]
  | shf b s =>
    have h' : m ≠ 0 := h
    unfold poss
    rw [e, decide_eq_true (show 0 < m by omega), decide_eq_true (Nat.le_refl m), decide_eq_true (show m < 2 * m by omega)]
    rfl
theorem poss_fin {R : Ru} {now a : Nat} (e : one R now a = R.fin) : poss R now R.fin a = true := by
  cases R with
  | cnt b s => rw [poss_cnt, decide_eq_true e]
  | rgh b => rw [poss_rgh, decide_eq_true e]
  | shf b s =>
    unfold poss
    rw [e]
    rfl
/-- two begins of one mark -/
theorem begins_off {R : Ru} {v h m b1 b2 : Nat} (hR : R.ok) (hv : IsOff R v) (l1 : b1 ≤ h) (l2 : b2 ≤ h) (e1 : ag R R.top b1 (h - b1) = m) (e2 : ag R R.top b2 (h - b2) = m) (nf : m ≠ R.fin) : b2 ≤ b1 + v := by
  have p1 := poss_exact ((one_at l1).trans e1) nf
  have p2 := poss_exact ((one_at l2).trans e2) nf
  obtain ⟨x, y, sp⟩ := exists_span R h m
  obtain ⟨lo, rfl, e3, _⟩ := sp.lo_le (show h - b2 ≤ h by omega) p2
  obtain ⟨hi, rfl, e4, _⟩ := sp.hi_ge (show h - b1 ≤ h by omega) p1 nf
  have mm : m ≤ R.most := by rw [← e1]; exact ag_le R _ _ (top_le R) _
  have := off_all hR hv mm sp
  omega
theorem begins_reach {R : Ru} {u b n : Nat} (hR : R.ok) (hu : IsReach R u) (e : ag R R.top b n = R.fin) : u + 1 ≤ n := by
  have o : one R (b + n) n = R.fin := by
    show ag R R.top (b + n - n) n = _
    rw [Nat.add_sub_cancel]
    exact e
  exact reach_all hR hu (Nat.le_add_left n b) (poss_fin o)
theorem arnd_step {R : Ru} (hR : R.ok) (nr : R.isRgh = false) : ∃ k, R.arnd = R.step * k ∧ 2 ≤ k := by
  cases R with
  | cnt b s =>
    have : 2 ^ 1 ≤ 2 ^ b := Nat.pow_le_pow_right (by decide) hR.1
    exact ⟨1 + (2 ^ b - 1), rfl, by omega⟩
  | shf b s => exact ⟨1 + (b + 1), rfl, by omega⟩
  | rgh b => cases nr
theorem arnd_le {R : Ru} (hR : R.ok) : 1 ≤ R.arnd ∧ R.arnd ≤ 1280 := by
  cases R with
  | cnt b s =>
    obtain ⟨h1, h2, h3, h4⟩ : 1 ≤ b ∧ b ≤ 6 ∧ 1 ≤ s ∧ s ≤ 20 := hR
    have : 2 ^ b ≤ 2 ^ 6 := Nat.pow_le_pow_right (by decide) h2
    exact ⟨Nat.mul_le_mul h3 (show 1 ≤ 1 + (2 ^ b - 1) by omega), Nat.mul_le_mul h4 (show 1 + (2 ^ b - 1) ≤ 64 by omega)⟩
  | shf b s =>
    obtain ⟨h1, h2, h3, h4⟩ : 1 ≤ b ∧ b ≤ 10 ∧ 1 ≤ s ∧ s ≤ 20 := hR
    exact ⟨Nat.mul_le_mul h3 (show 1 ≤ 1 + (b + 1) by omega), Nat.mul_le_mul h4 (show 1 + (b + 1) ≤ 64 by omega)⟩
  | rgh b => exact ⟨(by decide : 1 ≤ 64), (by decide : 64 ≤ 1280)⟩
/-- by how often it was aged: count and shift -/
theorem ag_dd0 {R : Ru} (hR : R.ok) (nr : R.isRgh = false) {t n : Nat} (h : (t + n) / R.step - t / R.step = 0) : ag R R.top t n = R.top ∧ R.top ≠ R.fin := by
  have hs := step_pos hR
  cases R with
  | cnt b s =>
    have h' : (t + n) / s - t / s = 0 := h
    refine ⟨?_, ?_⟩
    · show ag (.cnt b s) 0 t n = 0
      rw [ag_cnt b s 0 t hs (Nat.zero_le _) n, h']
      omega
    · show 0 ≠ 2 ^ b - 1
      have : 2 ^ 1 ≤ 2 ^ b := Nat.pow_le_pow_right (by decide) hR.1
      omega
  | shf b s =>
    have h' : (t + n) / s - t / s = 0 := h
    refine ⟨?_, ?_⟩
    · show ag (.shf b s) (2 ^ b) t n = 2 ^ b
      rw [ag_shf b s _ t hs n, h', Nat.pow_zero, Nat.div_one]
    · show 2 ^ b ≠ 0
      have := Nat.two_pow_pos b
      omega
  | rgh b => cases nr
theorem ag_ddk {R : Ru} (hR : R.ok) (nr : R.isRgh = false) {t n : Nat} (h : (t + n) / R.step - t / R.step = R.ags R.fin) : ag R R.top t n = R.fin := by
  have hs := step_pos hR
  cases R with
  | cnt b s =>
    have h' : (t + n) / s - t / s = 2 ^ b - 1 := h
    show ag (.cnt b s) 0 t n = 2 ^ b - 1
    rw [ag_cnt b s 0 t hs (Nat.zero_le _) n, h']
    omega
  | shf b s =>
    have h' : (t + n) / s - t / s = b + 1 := h
    show ag (.shf b s) (2 ^ b) t n = 0
    rw [ag_shf b s _ t hs n, h']
    exact two_div0 (Nat.lt_succ_self b)
  | rgh b => cases nr
/-- the widest is met -/
theorem off_met {R : Ru} {v : Nat} (hR : R.ok) (hv : IsOff R v) : ∃ h m b1 b2, 4 * R.arnd ≤ h ∧ h < 5 * R.arnd ∧ b1 ≤ h ∧ b2 ≤ h ∧ ag R R.top b1 (h - b1) = m ∧ ag R R.top b2 (h - b2) = m ∧ m ≠ R.fin ∧ v ≤ b2 - b1 := by
  rcases hv with ⟨ir, hv⟩ | ⟨nr, rfl⟩
  · cases R with
    | cnt b s => cases ir
    | shf b s => cases ir
    | rgh b =>
      obtain ⟨b1, b3⟩ : 1 ≤ b ∧ b ≤ 3 := hR
      have p2 : 2 ^ 1 ≤ 2 ^ b := Nat.pow_le_pow_right (by decide) b1
      have tl := T_le b3
      have tp := T_pos b
      rcases hv.2 with rfl | ⟨now, m, lo, hi, n1, n2, hm, sp, rfl⟩
      · refine ⟨256, 0, 256, 256, Nat.le_refl _, (by decide : 256 < 320), Nat.le_refl _, Nat.le_refl _, rfl, rfl, ?_, Nat.zero_le _⟩
        show 0 ≠ 2 ^ b - 1
        omega
      · have n1' : 2 * tT b ≤ now := n1
        have n2' : now < 3 * tT b := n2
        have hm' : m < 2 ^ b - 1 := hm
        obtain ⟨c1, c2, c3, c4, c5, c6⟩ := sp.both
        have td : 64 % tT b = 0 := by
          have hb : b = 1 ∨ b = 2 ∨ b = 3 := by omega
          rcases hb with rfl | rfl | rfl <;> decide
        have hb0 : b = 1 ∨ b = 2 ∨ b = 3 := by omega
        have hr : rep b (256 + now % tT b) = now := by
          have hmod : (256 + now % tT b) % tT b = now % tT b := by
            rcases hb0 with rfl | rfl | rfl
            · show (256 + now % 1) % 1 = now % 1; omega
            · show (256 + now % 4) % 4 = now % 4; omega
            · show (256 + now % 64) % 64 = now % 64; omega
          unfold rep
          rw [hmod]
          have e := Nat.div_add_mod now (tT b)
          have q : now / tT b = 2 := by
            refine Nat.div_eq_of_lt_le n1' ?_
            exact n2'
          rw [q, Nat.mul_comm] at e
          exact e
        have ml := Nat.mod_lt now tp
        have tr : ∀ a, a ≤ now → poss (.rgh b) now m a = true → a ≤ 256 + now % tT b ∧ ag (.rgh b) 0 (256 + now % tT b - a) a = m := fun a ha p => by
          rw [poss_rgh] at p
          have p' := of_decide_eq_true p
          have al : a < 2 * tT b := by
            by_cases c : a < 2 * tT b
            · exact c
            · rw [one_far2 b1 (by omega)] at p'
              exact absurd p'.symm (Nat.ne_of_lt hm')
          have hle : a ≤ 256 + now % tT b := by omega
          have s := rep_same b (256 + now % tT b) a hle (by rw [hr]; exact ha)
          rw [hr] at s
          exact ⟨hle, s.symm.trans p'⟩
        obtain ⟨q1, q2⟩ := tr lo c1 c3
        obtain ⟨q3, q4⟩ := tr hi c2 c4
        refine ⟨256 + now % tT b, m, 256 + now % tT b - hi, 256 + now % tT b - lo, Nat.le_add_right _ _, ?_, Nat.sub_le _ _, Nat.sub_le _ _, ?_, ?_, Nat.ne_of_lt hm', ?_⟩
        · show 256 + now % tT b < 320
          omega
        · show ag (.rgh b) 0 (256 + now % tT b - hi) (256 + now % tT b - (256 + now % tT b - hi)) = m
          rw [show 256 + now % tT b - (256 + now % tT b - hi) = hi by omega]
          exact q4
        · show ag (.rgh b) 0 (256 + now % tT b - lo) (256 + now % tT b - (256 + now % tT b - lo)) = m
          rw [show 256 + now % tT b - (256 + now % tT b - lo) = lo by omega]
          exact q2
        · omega
  · obtain ⟨k, ek, k2⟩ := arnd_step hR nr
    have hs := step_pos hR
    have sk : R.step * 2 ≤ R.step * k := Nat.mul_le_mul_left _ k2
    have z : ∀ n, n < R.step → (4 * R.arnd + n) / R.step - 4 * R.arnd / R.step = 0 := fun n hn => by
      have e : 4 * R.arnd = R.step * (4 * k) := by rw [ek, Nat.mul_left_comm]
      rw [e, Nat.mul_add_div hs, Nat.div_eq_of_lt hn, Nat.mul_div_cancel_left _ hs]
      omega
    obtain ⟨a1, a2⟩ := ag_dd0 hR nr (z (R.step - 1) (by omega))
    refine ⟨4 * R.arnd + (R.step - 1), R.top, 4 * R.arnd, 4 * R.arnd + (R.step - 1), by omega, by omega, by omega, by omega, ?_, ?_, a2, by omega⟩
    · rw [Nat.add_sub_cancel_left]
      exact a1
    · rw [Nat.sub_self]
      rfl
/-- the soonest end is met -/
theorem reach_met {R : Ru} {u : Nat} (hR : R.ok) (hu : IsReach R u) : ∃ b, b < 6 * R.arnd ∧ ag R R.top b (u + 1) = R.fin := by
  rcases hu with ⟨ir, hu⟩ | ⟨nr, rfl⟩
  · cases R with
    | cnt b s => cases ir
    | shf b s => cases ir
    | rgh b =>
      obtain ⟨b1, b3⟩ : 1 ≤ b ∧ b ≤ 3 := hR
      have tl := T_le b3
      obtain ⟨now, n1, n2, sp⟩ := hu.2
      have n2' : now < 3 * tT b := n2
      rcases sp with ⟨e, _⟩ | ⟨lo, e, h1, h2, _⟩
      · cases e
      · cases e
        rw [poss_rgh] at h2
        exact ⟨now - (u + 1), by show now - (u + 1) < 384; omega, of_decide_eq_true h2⟩
  · obtain ⟨k, ek, k2⟩ := arnd_step hR nr
    have hs := step_pos hR
    have sk : R.step * 2 ≤ R.step * k := Nat.mul_le_mul_left _ k2
    have a1 := ags_fin hR nr
    refine ⟨R.step - 1, by omega, ag_ddk hR nr ?_⟩
    have e : R.step - 1 + ((R.ags R.fin - 1) * R.step + 1) = R.step * R.ags R.fin := by
      obtain ⟨j, hj⟩ : ∃ j, R.ags R.fin = j + 1 := ⟨R.ags R.fin - 1, by omega⟩
      rw [hj, Nat.add_sub_cancel, Nat.mul_add, Nat.mul_one, Nat.mul_comm j]
      omega
    rw [e, Nat.mul_div_cancel_left _ hs, Nat.div_eq_of_lt (show R.step - 1 < R.step by omega), Nat.sub_zero]
end LS
namespace LS
open PySem PySem.Spec PyProof.Rows L2 RZ
/-! ### calls by a promise alone -/
def Cl (P : Program) (w : World) (K : PySem.W.Frag) (mg : Str → Option Value) (base : Heap) (k : Nat) (x : Str) (ps : List Str) (sp : Sp) : Prop :=
  ∃ (f : Addr) (fd : FuncData), FnOk P w K mg base CX0 k f fd ps sp ∧ mg x = some (.ref f) ∧ PySem.W.keepIn K (.ref f) = true ∧ Binds K fd ps []
theorem pe_cl {X : Cx} {j k : Nat} {x : Str} {ps : List Str} {sp : Sp} {e : Expr} {es : List Expr} {t : TA} {p pos : Pos} (D : Cl X.prog X.w X.K X.mg X.base k x ps sp) (hr : Room j X.A) (ha : PA X (e :: es) t) (hk : k ≤ j := by decide) (hg : Gl X x := by rfl)
    (hdb : (x == ("__debug__" : Str)) = false := by decide) (he : starEach (e :: es) X.env = (false, eval e X.env) :: starEach es X.env := by rfl) (hpl : (backTo pos (starEach es X.env)).any (·.1) = false := by rfl) :
    PE X (.Call (.Name x p) (e :: es) [] pos) (tCall sp [] E0 t) := by
  obtain ⟨f, fd, G, g, kp, b⟩ := D
  exact pe_call G (hr.mono hk) hg g kp b .nil pass0 ha hdb he hpl
/-- a def as the top has left it -/
def DefAt (K : PySem.W.Frag) (mg : Str → Option Value) (x : Str) (st : Stmt) (ps : List Str) : Prop :=
  ∃ (f : Addr) (fd : FuncData), Fun K x x st f fd ∧ mg x = some (.ref f) ∧ Binds K fd ps []
theorem DefAt.cl {P : Program} {w : World} {K : PySem.W.Frag} {mg : Str → Option Value} {base : Heap} {k : Nat} {x : Str} {st : Stmt} {ps : List Str} {sp : Sp} (D : DefAt K mg x st ps)
    (h : ∀ f fd, Fun K x x st f fd → FnOk P w K mg base CX0 k f fd ps sp) : Cl P w K mg base k x ps sp := by
  obtain ⟨f, fd, F, g, b⟩ := D
  exact ⟨f, fd, h f fd F, g, F.kp, b⟩
theorem defAt_mk {K : PySem.W.Frag} {h : Heap} {mg : Str → Option Value} {x : Str} {st : Stmt} {ps : List Str} {f : Addr} {od an : Option Addr} {sl : Array (Option Value)} {oc kV dc pm cd ct : Value} (X : K.In h) (G : h.Ns mainGlobals mg)
    (a : PySem.W.nsIn K mainGlobals x = some (some (.ref f))) (l : K.lookup f = some ⟨oc, od, .func (PySem.W.fnOf x x (defArgs st) (defBody st) (defScope st) .none kV dc pm an cd ct), sl⟩) (c : PySem.W.codeIn K cd x = true) (k : PySem.W.keepIn K (.ref f) = true)
    (hb : ∀ (kV doc pm : Value) (an : Option Addr) (cdv ct : Value) (us : List Value), us.length = ps.length → bindArgs (PySem.W.fnOf x x (defArgs st) (defBody st) (defScope st) .none kV doc pm an cdv ct) ⟨us, []⟩ = pure (ps.zip us)) : DefAt K mg x st ps := by
  have F := fun_mk (st := st) l c k
  exact ⟨f, _, F, PySem.W.mg_of X G a, F.binds hb⟩
/-! ### heaps -/
theorem same_upd {H : Hp} {p : Addr} {o : HO} (h : H p = none) : Same H (upd H p o) := fun b x e => by
  rw [upd_ne (ne_of_none e h)]
  exact e
/-- all but two objects stands as it was -/
def Kp2 (h c : Addr) (H H' : Hp) : Prop := ∀ b o, H b = some o → b ≠ h → b ≠ c → H' b = some o
theorem Kp2.refl (h c : Addr) (H : Hp) : Kp2 h c H H := fun _ _ e _ _ => e
theorem Kp2.trans {h c : Addr} {H H1 H2 : Hp} (a : Kp2 h c H H1) (b : Kp2 h c H1 H2) : Kp2 h c H H2 := fun x o e n1 n2 => b x o (a x o e n1 n2) n1 n2
theorem Same.kp2 {h c : Addr} {H H1 : Hp} (a : Same H H1) : Kp2 h c H H1 := fun b o e _ _ => a b o e
/-- the list that is drawn from stands at h, its cells at c -/
structure HAt (H : Hp) (h c : Addr) : Prop where
  ex : ∃ (mx pl : Int) (ns : List Int), H h = some (.lst [.int mx, .ref c, .int pl]) ∧ H c = some (.lst (ns.map V.int)) ∧ 0 ≤ mx ∧ mx < 2147483647 ∧ 0 ≤ pl ∧ ns.length ≤ 63
  ne : h ≠ c
theorem HAt.same {H H' : Hp} {h c : Addr} (a : HAt H h c) (s : Same H H') : HAt H' h c := by
  obtain ⟨⟨mx, pl, ns, e1, e2, e3⟩, n⟩ := a
  exact ⟨⟨mx, pl, ns, s _ _ e1, s _ _ e2, e3⟩, n⟩
theorem HAt.neT {H : Hp} {h c p : Addr} {xs : List V} (a : HAt H h c) (e : H p = some (.tup xs)) : p ≠ h ∧ p ≠ c := by
  obtain ⟨⟨mx, pl, ns, e1, e2, e3⟩, n⟩ := a
  exact ⟨ne_of e e1 (by intro q; cases q), ne_of e e2 (by intro q; cases q)⟩
/-- a tuple stands behind a draw -/
theorem Kp2.tup {H H' : Hp} {h c p : Addr} {xs : List V} (k : Kp2 h c H H') (a : HAt H h c) (e : H p = some (.tup xs)) : H' p = some (.tup xs) := k p _ e (a.neT e).1 (a.neT e).2
/-! ### rules as tuples -/
def Ru.kind : Ru → Str
  | .cnt _ _ => "count"
  | .shf _ _ => "shift"
  | .rgh _ => "rough"
def Ru.nums : Ru → List Int
  | .cnt b s => [(b : Int), (s : Int)]
  | .shf b s => [(b : Int), (s : Int)]
  | .rgh b => [(b : Int)]
def Ru.tup (R : Ru) : List V := .str R.kind :: R.nums.map V.int
def Ru.lim : Ru → List Int
  | .cnt _ _ => [6, 20]
  | .shf _ _ => [10, 20]
  | .rgh _ => [3]
abbrev RuAt (H : Hp) (p : Addr) (R : Ru) : Prop := H p = some (.tup R.tup)
theorem Ru.at0 (R : Ru) : atI R.tup 0 = some (.str R.kind) := atI_nat (j := 0) rfl
theorem Ru.at1 (R : Ru) : atI R.tup 1 = some (.int (R.bits : Int)) := by
  cases R <;> exact atI_nat (j := 1) rfl
theorem Ru.bits_pos {R : Ru} (h : R.ok) : 1 ≤ R.bits ∧ R.bits ≤ 10 := by
  cases R with
  | cnt b s => obtain ⟨h1, h2, h3, h4⟩ : 1 ≤ b ∧ b ≤ 6 ∧ 1 ≤ s ∧ s ≤ 20 := h; exact ⟨h1, by show b ≤ 10; omega⟩
  | shf b s => obtain ⟨h1, h2, h3, h4⟩ : 1 ≤ b ∧ b ≤ 10 ∧ 1 ≤ s ∧ s ≤ 20 := h; exact ⟨h1, h2⟩
  | rgh b => obtain ⟨h1, h2⟩ : 1 ≤ b ∧ b ≤ 3 := h; exact ⟨h1, by show b ≤ 10; omega⟩
theorem cut1 (xs : List V) : cutV xs (some 1) none = xs.drop 1 := by
  unfold cutV
  rw [show HT.sIx xs.length 0 (some 1) = min 1 xs.length from HT.sIx_nat xs.length 0 1, HT.sIx_none]
  cases xs with
  | nil => rfl
  | cons x r =>
    rw [show min 1 (x :: r).length = 1 by
      rw [List.length_cons]
      omega]
    show (List.take ((x :: r).length - 1) r) = r
    rw [List.length_cons, Nat.add_sub_cancel]
    exact List.take_length
/-! ### whether texts are alike -/
theorem dec_str {a b : Str} : decide (V.str a = V.str b) = decide (a = b) := by
  by_cases h : a = b
  · subst h; rw [decide_eq_true rfl, decide_eq_true rfl]
  · rw [decide_eq_false h, decide_eq_false (fun q => h (V.str.inj q))]
theorem dec_int {a b : Int} : decide (V.int a = V.int b) = decide (a = b) := by
  by_cases h : a = b
  · subst h; rw [decide_eq_true rfl, decide_eq_true rfl]
  · rw [decide_eq_false h, decide_eq_false (fun q => h (V.int.inj q))]
/-! ### a comprehension over zip of two tuples -/
theorem lc_zipT {K : PySem.W.Frag} {a b : Addr} {xs ys : List V} {g : TG} {tt : TT} {te : TE} {vs : List Nat} {σ : L2.St} {H1 : Hp} {D : Addr} {Qd : Hp → Prop} (hl : xs.length = ys.length) (Pv : Nat → Hp → Prop) (h0 : Pv 0 (upd H1 D (.lst []))) (hq : ∀ i H, Pv i H → SqT K H a xs ∧ SqT K H b ys)
    (hs : ∀ i x y T H, xs[i]? = some x → ys[i]? = some y → Pv i H → H T = none → g (.ref T) (wipe σ vs) (upd H T (.tup [x, y])) fun σ2 H2 => wipe σ2 vs = wipe σ vs ∧ tt σ2 H2 fun b H3 =>
      if b = true then te σ2 H3 fun y H4 => ∃ acc, H4 D = some (.lst acc) ∧ acc.length < sizeLine ∧ Pv (i + 1) (upd H4 D (.lst (acc ++ [y]))) else Pv (i + 1) H3) (hd : ∀ H, Pv xs.length H → Qd H) :
    ∃ W : Nat → Nat → Hp → Prop, (∃ m, W 0 m (upd H1 D (.lst []))) ∧ ∀ i m H, W i m H →
      ((ItzT K a b).stop i H ∧ Qd H) ∨ ((ItzT K a b).go i H ∧ ∃ Nx : Hp → Prop, (∀ H', Nx H' → ∃ m', m' < m ∧ W (i + 1) m' H') ∧ ∀ x H', (ItzT K a b).yld i H x H' → g x (wipe σ vs) H' fun σ2 H2 => wipe σ2 vs = wipe σ vs ∧ tt σ2 H2 fun b H3 =>
        if b = true then te σ2 H3 fun y H4 => ∃ acc, H4 D = some (.lst acc) ∧ acc.length < sizeLine ∧ Nx (upd H4 D (.lst (acc ++ [y]))) else Nx H3) := by
  refine ⟨fun i m H => m = xs.length - i ∧ i ≤ xs.length ∧ Pv i H, ⟨xs.length, by simp, Nat.zero_le _, h0⟩, ?_⟩
  rintro i m H ⟨rfl, hi, p⟩
  obtain ⟨qx, qy⟩ := hq i H p
  by_cases hlt : i < xs.length
  · have hx : xs[i]? = some xs[i] := List.getElem?_eq_getElem hlt
    have hlt2 : i < ys.length := by omega
    have hy : ys[i]? = some ys[i] := List.getElem?_eq_getElem hlt2
    refine .inr ⟨⟨xs, ys, _, _, qx, qy, hx, hy⟩, Pv (i + 1), fun H' p' => ⟨xs.length - (i + 1), by omega, rfl, hlt, p'⟩, fun x H' y => ?_⟩
    obtain ⟨T, x', y', rfl, hT, rfl, f1, f2⟩ := y
    exact hs i x' y' T H (f1 xs qx) (f2 ys qy) p hT
  · have e : i = xs.length := by omega
    subst e
    exact .inl ⟨⟨xs, ys, qx, qy, Or.inl (Nat.le_refl _)⟩, hd H p⟩
/-! ### lists of ints against the empty list -/
theorem dpAll_ints {K : PySem.W.Frag} {H : Hp} : ∀ ns : List Int, DpAll K H (ns.map V.int) (ns.map PyData.int)
  | [] => .nil
  | n :: r => .cons (.int n) (dpAll_ints r)
theorem eqv_nil (ns : List Int) : PyData.eqv (.list (ns.map PyData.int)) (.list []) = ns.isEmpty := by
  cases ns with
  | nil => simp [PyData.eqv, PyData.eqvAll]
  | cons n r => simp [PyData.eqv, PyData.eqvAll]
theorem ixN_nn {n : Nat} {i : Int} (h0 : 0 ≤ i) (h1 : i < n) : ixN n i = some i.toNat := by
  unfold ixN
  rw [if_pos h0, if_pos h1]
/-- two ways to one value -/
theorem join_if {te1 te2 : TE} {σ : L2.St} {H1 : Hp} {Q' : VK} {c : Bool} (G : V → Hp → Prop) (hG : ∀ v H', G v H' → Q' v H') (h1 : c = true → ∃ v H', (∀ Q : VK, Q v H' → te1 σ H1 Q) ∧ G v H')
    (h2 : c = false → ∃ v H', (∀ Q : VK, Q v H' → te2 σ H1 Q) ∧ G v H') : if c = true then te1 σ H1 Q' else te2 σ H1 Q' := by
  cases c with
  | true =>
    obtain ⟨v, H', e, g⟩ := h1 rfl
    rw [if_pos rfl]
    exact e _ (hG _ _ g)
  | false =>
    obtain ⟨v, H', e, g⟩ := h2 rfl
    rw [if_neg Bool.false_ne_true]
    exact e _ (hG _ _ g)
/-- over a range, with a break -/
theorem for_rangeB {lo : Int} {n : Nat} {g : TG} {tb : TS} {D : Ends} {σ : L2.St} {H : Hp} (Pv : Nat → L2.St → Hp → Prop) (Post : L2.St → Hp → Prop) (h0 : Pv 0 σ H)
    (hs : ∀ (bk : L2.St → Hp → Prop), (∀ σ H, Post σ H → bk σ H) → ∀ i σ H, i < n → Pv i σ H → g (.int (lo + i)) σ H fun σ2 H2 => tb { D with nx := Pv (i + 1), ct := Pv (i + 1), bk := bk } σ2 H2) (hd : ∀ σ H, Pv n σ H → Post σ H) (hp : ∀ σ H, Post σ H → D.nx σ H) :
    ∃ W : Nat → Nat → L2.St → Hp → Prop, (∃ m, W 0 m σ H) ∧ ∀ i m σ H, W i m σ H →
      ((Itr lo n).stop i H ∧ D.nx σ H) ∨ ((Itr lo n).go i H ∧ ∃ N : L2.St → Hp → Prop, (∀ σ' H', N σ' H' → ∃ m', m' < m ∧ W (i + 1) m' σ' H') ∧ ∀ x H', (Itr lo n).yld i H x H' → g x σ H' fun σ2 H2 => tb { D with nx := N, ct := N, bk := D.nx } σ2 H2) :=
  for_range Pv h0 (hs D.nx hp) fun σ H h => hp σ H (hd σ H h)
/-- two ways to values of one kind -/
theorem join_ifA {te1 te2 : TE} {σ : L2.St} {H1 : Hp} {Q' : VK} {c : Bool} (G : V → Hp → Prop) (hG : ∀ v H', G v H' → Q' v H') (h1 : c = true → ∀ Q : VK, (∀ v H', G v H' → Q v H') → te1 σ H1 Q)
    (h2 : c = false → ∀ Q : VK, (∀ v H', G v H' → Q v H') → te2 σ H1 Q) : if c = true then te1 σ H1 Q' else te2 σ H1 Q' := by
  cases c with
  | true =>
    rw [if_pos rfl]
    exact h1 rfl Q' hG
  | false =>
    rw [if_neg Bool.false_ne_true]
    exact h2 rfl Q' hG
/-- a statement by what holds behind it -/
theorem abs_nx {t : TS} {D : Ends} {σ : L2.St} {H : Hp} (G : L2.St → Hp → Prop) (h : ∀ nx' : L2.St → Hp → Prop, (∀ σ' H', G σ' H' → nx' σ' H') → t { D with nx := nx' } σ H) (hG : ∀ σ' H', G σ' H' → D.nx σ' H') : t D σ H := h D.nx hG
theorem le64 {i : Int} (h0 : 0 ≤ i) (h : i < 18446744073709551616) : -(2 ^ 64) < i ∧ i < 2 ^ 64 := by
  constructor <;> omega
end LS
namespace LS
open PySem PySem.Spec PyProof.Rows L2 RZ
/-! ### d.setdefault(key, x) where keys are tuples -/
section
variable {X : Cx} {pins : List (Addr × Obj)} {σ : L2.St} {H : Hp} {s : Shared} {a b : Addr} {r : Value} {d : V} {k : List Key} {A : Around} {E : Value → Shared → Prop}
theorem d_setdT {kvs : List (List Key × V)} {Q : Value → Shared → Prop} (hu : A.units + 1 < cLine) (I : Inv X pins σ H s) (e : H a = some (.dT kvs)) (eb : H b = some (.tup (k.map kV))) (rd : RelV d r) (hl : kvs.length < sizeLine)
    (h1 : ∀ v, valV kvs k = some v → ∀ (w' : Value) (s' : Shared), Inv X pins σ H s' → RelV v w' → Q w' s') (h2 : valV kvs k = none → ∀ (w' : Value) (s' : Shared), Inv X pins σ (upd H a (.dT (putK kvs k d))) s' → RelV d w' → Q w' s') :
    wpAny (model X.prog X.w) A (call (.builtin "dict.setdefault") [.ref a, .ref b, r]) Q E s := by
  obtain ⟨z, hd, xs, rel, dd⟩ := dt_of I.hok e
  have hz : xs.length ≤ sizeLine := Nat.le_trans (Nat.le_of_eq (Paired.length rel).symm) z
  refine call_setdefault_heap (hsz := hz) (tupleKind_room_in1 hu) (key_of I.hok eb) hd dd (fun p hp => ?_) fun hn h' dd' hs => ?_
  · have q := rel.val k
    rw [hp] at q
    cases q0 : valV kvs k with
    | none =>
      rw [q0] at q
      exact False.elim q
    | some v0 =>
      rw [q0] at q
      exact h1 v0 q0 _ _ (I.tok _) q
  · have q := rel.val k
    rw [hn] at q
    cases q0 : valV kvs k with
    | some v0 =>
      rw [q0] at q
      exact False.elim q
    | none =>
      have lp := length_putK kvs k d
      obtain ⟨q1, es, ep, hq, g2, g3, g4, _, g5⟩ := dd'
      refine h2 q0 _ _ (d_write I (by rw [e]; exact True.intro) hs ⟨q1, hq⟩ ⟨by omega, hd, _, (rel.put k eb rd).keeps fun c ys ec => ?_, q1, es, ep, hq, g2, g3, g4, g5⟩) rd
      rw [upd_ne (ne_of ec e (fun z => nomatch z))]
      exact ec
end
def tSetdT (td ty tx : TE) : TE := fun σ H Q => td σ H fun x H1 => ∃ a, x = .ref a ∧ IsD H1 a ∧ ty σ H1 fun y H2 => tx σ H2 fun z H3 => ∃ (kvs : List (List Key × V)) (k : List Key) (b : Addr), H3 a = some (.dT kvs) ∧ y = .ref b ∧ H3 b = some (.tup (k.map kV)) ∧ kvs.length < sizeLine ∧
  (∀ v, valV kvs k = some v → Q v H3) ∧ (valV kvs k = none → Q z (upd H3 a (.dT (putK kvs k z))))
section
variable {X : Cx} {o e f : Expr} {td ty tx : TE} {apos cpos : Pos}
theorem pe_setdT (hu : X.A.units + 1 < cLine) (ho : PE X o td) (he : PE X e ty) (hf : PE X f tx) (m : M2 X o "setdefault" apos e f cpos) : PE X (.Call (.Attribute o "setdefault" apos) [e, f] [] cpos) (tSetdT td ty tx) := by
  refine ⟨fun pins s σ H Q I h => ?_⟩
  refine wpAny_Call_method m.base m.few m.line PySem.F.plainAttrs_dict PySem.F.slot_dict_setdefault PySem.F.type_dict_setdefault (thn (ho.run pins s σ H _ I h) fun u s1 hh => ?_)
  obtain ⟨x, H1, I1, rx, a, ex, d, q1⟩ := hh
  subst ex
  cases (show u = Value.ref a from rx)
  obtain ⟨t1, t2, _⟩ := isD_at I1 d
  refine ⟨t1, t2, ?_⟩
  rw [m.trees]
  refine Calls.callWith_builtin rfl (Calls.evalArgs_plain (Calls.spliced_cons (thn (he.run pins s1 σ H1 _ I1 q1) fun iv s2 h2 => ?_)))
  obtain ⟨y, H2, I2, ry, q2⟩ := h2
  refine Calls.spliced_cons (thn (hf.run pins s2 σ H2 _ I2 q2) fun fv s3 h3 => ?_)
  obtain ⟨z, H3, I3, rz, kvs, k, b, ea, ey, eb, hl, q3, q4⟩ := h3
  subst ey
  cases (show iv = Value.ref b from ry)
  exact Calls.spliced_nil (d_setdT hu I3 ea eb rz hl (fun v hv w' s4 I4 rw' => ⟨v, _, I4, rw', q3 v hv⟩) fun hn w' s4 I4 rw' => ⟨z, _, I4, rw', q4 hn⟩)
end
/-! ### a comprehension over a dict whose keys are tuples -/
theorem lc_keysT {d : Addr} {o : Obj} {kvs : List (List Key × V)} {g : TG} {tt : TT} {te : TE} {vs : List Nat} {σ : L2.St} {H1 : Hp} {D : Addr} {Qd : Hp → Prop} (Pv : Nat → Hp → Prop) (h0 : Pv 0 (upd H1 D (.lst []))) (hq : ∀ i H, Pv i H → H d = some (.frz o (.dT kvs)))
    (hs : ∀ i k v q H, kvs[i]? = some (k, v) → H q = some (.tup (k.map kV)) → Pv i H → g (.ref q) (wipe σ vs) H fun σ2 H2 => wipe σ2 vs = wipe σ vs ∧ tt σ2 H2 fun b H3 =>
      if b = true then te σ2 H3 fun y H4 => ∃ acc, H4 D = some (.lst acc) ∧ acc.length < sizeLine ∧ Pv (i + 1) (upd H4 D (.lst (acc ++ [y]))) else Pv (i + 1) H3) (hd : ∀ H, Pv kvs.length H → Qd H) :
    ∃ W : Nat → Nat → Hp → Prop, (∃ m, W 0 m (upd H1 D (.lst []))) ∧ ∀ i m H, W i m H →
      ((Itkt d o kvs).stop i H ∧ Qd H) ∨ ((Itkt d o kvs).go i H ∧ ∃ Nx : Hp → Prop, (∀ H', Nx H' → ∃ m', m' < m ∧ W (i + 1) m' H') ∧ ∀ x H', (Itkt d o kvs).yld i H x H' → g x (wipe σ vs) H' fun σ2 H2 => wipe σ2 vs = wipe σ vs ∧ tt σ2 H2 fun b H3 =>
        if b = true then te σ2 H3 fun y H4 => ∃ acc, H4 D = some (.lst acc) ∧ acc.length < sizeLine ∧ Nx (upd H4 D (.lst (acc ++ [y]))) else Nx H3) := by
  refine ⟨fun i m H => m = kvs.length - i ∧ i ≤ kvs.length ∧ Pv i H, ⟨kvs.length, by simp, Nat.zero_le _, h0⟩, ?_⟩
  rintro i m H ⟨rfl, hi, p⟩
  by_cases hlt : i < kvs.length
  · refine .inr ⟨⟨hq i H p, hlt⟩, Pv (i + 1), fun H' p' => ⟨kvs.length - (i + 1), by omega, rfl, hlt, p'⟩, fun x H' y => ?_⟩
    obtain ⟨rfl, k, v, q, e1, rfl, e2⟩ := y
    exact hs i k v q _ e1 e2 p
  · have e : i = kvs.length := by omega
    subst e
    exact .inl ⟨⟨hq _ H p, Nat.le_refl _⟩, hd H p⟩
/-! ### what is known: a dict from (moment, mark) to lists of begins -/
structure Ent where
  h : Nat
  m : Nat
  l : Addr
  bs : List Nat
def Ent.key (e : Ent) : List Key := [.inl (e.h : Int), .inl (e.m : Int)]
def Ent.kv (e : Ent) : List Key × V := (e.key, .ref e.l)
def addB (l : Addr) (x : Nat) (e : Ent) : Ent := if e.l = l then ⟨e.h, e.m, e.l, e.bs ++ [x]⟩ else e
theorem addB_same (l : Addr) (x : Nat) (e : Ent) : (addB l x e).h = e.h ∧ (addB l x e).m = e.m ∧ (addB l x e).l = e.l ∧ (addB l x e).kv = e.kv := by
  unfold addB
  split <;> exact ⟨rfl, rfl, rfl, rfl⟩
theorem key_inj {h m h' m' : Nat} (e : ([.inl (h : Int), .inl (m : Int)] : List Key) = [.inl (h' : Int), .inl (m' : Int)]) : h = h' ∧ m = m' := by
  injection e with e1 e2
  injection e2 with e2 _
  exact ⟨Int.ofNat.inj (Sum.inl.inj e1), Int.ofNat.inj (Sum.inl.inj e2)⟩
theorem val_some {k : List Key} {v : V} : ∀ {es : List Ent}, valV (es.map Ent.kv) k = some v → ∃ e, e ∈ es ∧ e.key = k ∧ v = .ref e.l
  | [], h => by cases h
  | e :: r, h => by
    rw [List.map_cons] at h
    by_cases c : e.key = k
    · rw [valV_pos (p := e.kv) c] at h
      exact ⟨e, List.mem_cons_self, c, (Option.some.inj h).symm⟩
    · rw [valV_neg (p := e.kv) c] at h
      obtain ⟨e', m, q⟩ := val_some h
      exact ⟨e', List.mem_cons_of_mem _ m, q⟩
theorem val_none {k : List Key} : ∀ {es : List Ent}, valV (es.map Ent.kv) k = none → ∀ e, e ∈ es → ¬ e.key = k
  | [], _, _, m => nomatch m
  | e0 :: r, h, e, m => by
    rw [List.map_cons] at h
    by_cases c : e0.key = k
    · rw [valV_pos (p := e0.kv) c] at h
      cases h
    · rw [valV_neg (p := e0.kv) c] at h
      rcases List.mem_cons.mp m with rfl | m
      · exact c
      · exact val_none h e m
theorem val_at : ∀ {es : List Ent}, (es.map fun e => (e.h, e.m)).Nodup → ∀ e, e ∈ es → valV (es.map Ent.kv) e.key = some (.ref e.l)
  | [], _, _, m => nomatch m
  | e0 :: r, n, e, m => by
    rw [List.map_cons] at n ⊢
    obtain ⟨n1, n2⟩ := List.nodup_cons.mp n
    rcases List.mem_cons.mp m with rfl | m
    · exact valV_pos (p := e.kv) rfl
    · have c : ¬ e0.key = e.key := fun q => by
        obtain ⟨q1, q2⟩ := key_inj q
        exact n1 (List.mem_map.mpr ⟨e, m, by rw [q1, q2]⟩)
      rw [valV_neg (p := e0.kv) c]
      exact val_at n2 e m
theorem put_new {es : List Ent} {h m : Nat} {l : Addr} (n : valV (es.map Ent.kv) [.inl (h : Int), .inl (m : Int)] = none) : putK (es.map Ent.kv) [.inl (h : Int), .inl (m : Int)] (.ref l) = (es ++ [Ent.mk h m l []]).map Ent.kv := by
  unfold putK
  rw [valV_any, n, Option.isSome_none, if_neg Bool.false_ne_true, List.map_append]
  rfl
structure KI (R : Ru) (H0 H : Hp) (d : Addr) (es : List Ent) (i n : Nat) : Prop where
  at_ : H d = some (.dT (es.map Ent.kv))
  lst : ∀ e, e ∈ es → H e.l = some (.lst ((e.bs.map Int.ofNat).map V.int))
  nk : (es.map fun e => (e.h, e.m)).Nodup
  nl : (es.map Ent.l).Nodup
  fr : ∀ e, e ∈ es → H0 e.l = none
  so : ∀ e, e ∈ es → e.bs ≠ [] ∧ 4 * R.arnd ≤ e.h ∧ e.h < 5 * R.arnd ∧ e.m ≠ R.fin ∧ ∀ x, x ∈ e.bs → x ≤ e.h ∧ ag R R.top x (e.h - x) = e.m
  co : ∀ b k, (b < i ∨ (b = i ∧ k < n)) → ag R R.top b k ≠ R.fin → 4 * R.arnd ≤ b + k → b + k < 5 * R.arnd → ∃ e, e ∈ es ∧ e.h = b + k ∧ e.m = ag R R.top b k ∧ b ∈ e.bs
  sz : es.length ≤ i * 1300 + n
  szb : ∀ e, e ∈ es → e.bs.length ≤ i * 1300 + n
theorem KI.same {R : Ru} {H0 H H' : Hp} {d : Addr} {es : List Ent} {i n : Nat} (k : KI R H0 H d es i n) (s : Same H H') : KI R H0 H' d es i n :=
  ⟨s _ _ k.at_, fun e m => s _ _ (k.lst e m), k.nk, k.nl, k.fr, k.so, k.co, k.sz, k.szb⟩
theorem KI.skip {R : Ru} {H0 H : Hp} {d : Addr} {es : List Ent} {i n : Nat} (k : KI R H0 H d es i n) (h : ¬ (4 * R.arnd ≤ i + n ∧ i + n < 5 * R.arnd)) : KI R H0 H d es i (n + 1) :=
  ⟨k.at_, k.lst, k.nk, k.nl, k.fr, k.so, fun b j hb nf l1 l2 => by
    rcases hb with hb | ⟨rfl, hb⟩
    · exact k.co b j (.inl hb) nf l1 l2
    · by_cases e : j = n
      · rw [e] at l1 l2
        exact absurd ⟨l1, l2⟩ h
      · exact k.co b j (.inr ⟨rfl, by omega⟩) nf l1 l2, Nat.le_trans k.sz (by omega), fun e m => Nat.le_trans (k.szb e m) (by omega)⟩
theorem KI.next {R : Ru} {H0 H : Hp} {d : Addr} {es : List Ent} {i n : Nat} (k : KI R H0 H d es i n) (e : ag R R.top i n = R.fin) (hn : n ≤ 1300) : KI R H0 H d es (i + 1) 0 :=
  ⟨k.at_, k.lst, k.nk, k.nl, k.fr, k.so, fun b j hb nf l1 l2 => by
    rcases hb with hb | ⟨_, hb⟩
    · by_cases c : b = i
      · subst c
        refine k.co b j (.inr ⟨rfl, ?_⟩) nf l1 l2
        by_cases q : j < n
        · exact q
        · exact absurd (fin_le e (show n ≤ j by omega)) nf
      · exact k.co b j (.inl (by omega)) nf l1 l2
    · exact absurd hb (Nat.not_lt_zero _), Nat.le_trans k.sz (by omega), fun e m => Nat.le_trans (k.szb e m) (by omega)⟩
/-- a begin more at an entry that stands -/
theorem KI.add {R : Ru} {H0 H : Hp} {d : Addr} {es : List Ent} {i n : Nat} {e0 : Ent} (k : KI R H0 H d es i n) (m0 : e0 ∈ es) (eh : e0.h = i + n) (em : e0.m = ag R R.top i n) :
    KI R H0 (upd H e0.l (.lst ((e0.bs.map Int.ofNat).map V.int ++ [V.int (i : Int)]))) d (es.map (addB e0.l i)) i (n + 1) := by
  have fields : ∀ e, e ∈ es.map (addB e0.l i) → ∃ e', e' ∈ es ∧ e.h = e'.h ∧ e.m = e'.m ∧ e.l = e'.l ∧ ((e'.l = e0.l ∧ e.bs = e'.bs ++ [i]) ∨ (¬ e'.l = e0.l ∧ e.bs = e'.bs)) := by
    intro e m
    obtain ⟨e', m', rfl⟩ := List.mem_map.mp m
    obtain ⟨a1, a2, a3, _⟩ := addB_same e0.l i e'
    refine ⟨e', m', a1, a2, a3, ?_⟩
    unfold addB
    by_cases c : e'.l = e0.l
    · rw [if_pos c]; exact .inl ⟨c, rfl⟩
    · rw [if_neg c]; exact .inr ⟨c, rfl⟩
  have uniq : ∀ e', e' ∈ es → e'.l = e0.l → e' = e0 := by
    intro e' m' q
    obtain ⟨j, hj⟩ := List.mem_iff_getElem?.mp m'
    obtain ⟨j', hj'⟩ := List.mem_iff_getElem?.mp m0
    have : j = j' := nd_ix k.nl (x := e0.l) (by rw [List.getElem?_map, hj]; exact congrArg some q) (by rw [List.getElem?_map, hj']; rfl)
    subst this
    exact Option.some.inj (hj.symm.trans hj')
  have mk : (es.map (addB e0.l i)).map Ent.kv = es.map Ent.kv := by
    rw [List.map_map]
    exact List.map_congr_left fun e _ => (addB_same e0.l i e).2.2.2
  refine ⟨?_, ?_, ?_, ?_, ?_, ?_, ?_, ?_, ?_⟩
  · rw [upd_ne (ne_of k.at_ (k.lst e0 m0) (fun z => nomatch z)), mk]
    exact k.at_
  · intro e m
    obtain ⟨e', m', _, _, q3, q4⟩ := fields e m
    rcases q4 with ⟨c, q⟩ | ⟨c, q⟩
    · rw [q3, c, upd_same, q, uniq e' m' c, List.map_append, List.map_append]
      rfl
    · rw [q3, upd_ne c, q]
      exact k.lst e' m'
  · rw [List.map_map, show ((fun e => (e.h, e.m)) ∘ addB e0.l i) = (fun e : Ent => (e.h, e.m)) from funext fun e => by
      show ((addB e0.l i e).h, (addB e0.l i e).m) = (e.h, e.m)
      rw [(addB_same e0.l i e).1, (addB_same e0.l i e).2.1]]
    exact k.nk
  · rw [List.map_map, show (Ent.l ∘ addB e0.l i) = Ent.l from funext fun e => (addB_same e0.l i e).2.2.1]
    exact k.nl
  · intro e m
    obtain ⟨e', m', _, _, q3, _⟩ := fields e m
    rw [q3]
    exact k.fr e' m'
  · intro e m
    obtain ⟨e', m', q1, q2, q3, q4⟩ := fields e m
    obtain ⟨s1, s2, s3, s4, s5⟩ := k.so e' m'
    rw [q1, q2]
    rcases q4 with ⟨c, q⟩ | ⟨c, q⟩
    · refine ⟨by rw [q]; simp, s2, s3, s4, fun x hx => ?_⟩
      rw [q] at hx
      rcases List.mem_append.mp hx with hx | hx
      · exact s5 x hx
      · have ex : x = i := List.mem_singleton.mp hx
        rw [ex, uniq e' m' c, eh, em]
        exact ⟨Nat.le_add_right _ _, by rw [Nat.add_sub_cancel_left]⟩
    · rw [q]
      exact ⟨s1, s2, s3, s4, s5⟩
  · intro b j hb nf l1 l2
    have lift : ∀ e', e' ∈ es → b ∈ e'.bs → e'.h = b + j → e'.m = ag R R.top b j → ∃ e, e ∈ es.map (addB e0.l i) ∧ e.h = b + j ∧ e.m = ag R R.top b j ∧ b ∈ e.bs := by
      intro e' m' mb q1 q2
      obtain ⟨a1, a2, _⟩ := addB_same e0.l i e'
      refine ⟨_, List.mem_map.mpr ⟨e', m', rfl⟩, a1.trans q1, a2.trans q2, ?_⟩
      unfold addB
      split
      · exact List.mem_append_left _ mb
      · exact mb
    by_cases c : b = i ∧ j = n
    · obtain ⟨rfl, rfl⟩ := c
      obtain ⟨a1, a2, _⟩ := addB_same e0.l b e0
      refine ⟨_, List.mem_map.mpr ⟨e0, m0, rfl⟩, a1.trans eh, a2.trans em, ?_⟩
      unfold addB
      rw [if_pos rfl]
      exact List.mem_append_right _ List.mem_cons_self
    · obtain ⟨e', m', q1, q2, q3⟩ := k.co b j (by
        rcases hb with hb | ⟨rfl, hb⟩
        · exact .inl hb
        · exact .inr ⟨rfl, by by_cases q : j = n
                              · exact absurd ⟨rfl, q⟩ c
                              · omega⟩) nf l1 l2
      exact lift e' m' q3 q1 q2
  · rw [List.length_map]
    exact Nat.le_trans k.sz (Nat.le_succ _)
  · intro e m
    obtain ⟨e', m', _, _, _, q4⟩ := fields e m
    have := k.szb e' m'
    rcases q4 with ⟨_, q⟩ | ⟨_, q⟩
    · rw [q, List.length_append]
      show e'.bs.length + 1 ≤ _
      omega
    · rw [q]; omega
/-- a new entry with its first begin -/
theorem KI.fresh {R : Ru} {H0 H : Hp} {d p : Addr} {es : List Ent} {i n : Nat} (k : KI R H0 H d es i n) (ep : H p = some (.lst [])) (fp : H0 p = none) (np : ∀ e, e ∈ es → e.l ≠ p) (nf : ag R R.top i n ≠ R.fin) (l1 : 4 * R.arnd ≤ i + n) (l2 : i + n < 5 * R.arnd)
    (hn : valV (es.map Ent.kv) [.inl ((i + n : Nat) : Int), .inl (ag R R.top i n : Int)] = none) :
    KI R H0 (upd (upd H d (.dT ((es ++ [Ent.mk (i + n) (ag R R.top i n) p []]).map Ent.kv))) p (.lst ([] ++ [V.int (i : Int)]))) d (es ++ [Ent.mk (i + n) (ag R R.top i n) p [i]]) i (n + 1) := by
  have dp : d ≠ p := ne_of k.at_ ep (fun z => nomatch z)
  refine ⟨?_, ?_, ?_, ?_, ?_, ?_, ?_, ?_, ?_⟩
  · rw [upd_ne dp, upd_same, List.map_append, List.map_append]
    rfl
  · intro e m
    rcases List.mem_append.mp m with m | m
    · rw [upd_ne (np e m), upd_ne (ne_of (k.lst e m) k.at_ (fun z => nomatch z))]
      exact k.lst e m
    · rw [List.mem_singleton.mp m, upd_same]
      rfl
  · rw [List.map_append]
    refine List.nodup_append.mpr ⟨k.nk, by simp, fun x hx y hy q => ?_⟩
    obtain ⟨e, m, rfl⟩ := List.mem_map.mp hx
    have ey : y = (i + n, ag R R.top i n) := List.mem_singleton.mp hy
    rw [ey] at q
    refine val_none hn e m ?_
    have q1 : e.h = i + n := congrArg Prod.fst q
    have q2 : e.m = ag R R.top i n := congrArg Prod.snd q
    unfold Ent.key
    rw [q1, q2]
  · rw [List.map_append]
    refine List.nodup_append.mpr ⟨k.nl, by simp, fun x hx y hy q => ?_⟩
    obtain ⟨e, m, rfl⟩ := List.mem_map.mp hx
    have ey : y = p := List.mem_singleton.mp hy
    exact np e m (q.trans ey)
  · intro e m
    rcases List.mem_append.mp m with m | m
    · exact k.fr e m
    · rw [List.mem_singleton.mp m]; exact fp
  · intro e m
    rcases List.mem_append.mp m with m | m
    · exact k.so e m
    · rw [List.mem_singleton.mp m]
      refine ⟨by simp, l1, l2, nf, fun x hx => ?_⟩
      have ex : x = i := List.mem_singleton.mp hx
      rw [ex]
      exact ⟨Nat.le_add_right _ _, by show ag R R.top i (i + n - i) = _; rw [Nat.add_sub_cancel_left]⟩
  · intro b j hb nf' l1' l2'
    by_cases c : b = i ∧ j = n
    · obtain ⟨rfl, rfl⟩ := c
      exact ⟨_, List.mem_append_right _ List.mem_cons_self, rfl, rfl, List.mem_cons_self⟩
    · obtain ⟨e', m', q⟩ := k.co b j (by
        rcases hb with hb | ⟨rfl, hb⟩
        · exact .inl hb
        · exact .inr ⟨rfl, by by_cases q : j = n
                              · exact absurd ⟨rfl, q⟩ c
                              · omega⟩) nf' l1' l2'
      exact ⟨e', List.mem_append_left _ m', q⟩
  · rw [List.length_append]
    have := k.sz
    show es.length + 1 ≤ _
    omega
  · intro e m
    rcases List.mem_append.mp m with m | m
    · exact Nat.le_trans (k.szb e m) (by omega)
    · rw [List.mem_singleton.mp m]
      show 1 ≤ _
      omega
def top (i : Nat) : Stmt := PySem.Challenge.pw_lastseen_k05_how_far_off_and_how_long.main.body.getD i (.Pass ⟨0, 0, 0, 0⟩)
abbrev s_is_rule : Stmt := top 5
abbrev s_check_rule : Stmt := top 6
abbrev s_top_mark : Stmt := top 7
abbrev s_end_mark : Stmt := top 8
abbrev s_seen : Stmt := top 9
abbrev s_aged_on : Stmt := top 10
abbrev s_aged_roughly : Stmt := top 11
abbrev s_off : Stmt := top 13
abbrev s_reach : Stmt := top 14
abbrev s_agings : Stmt := top 15
abbrev s_rough_span : Stmt := top 16
abbrev s_rough_moments : Stmt := top 17
abbrev s_rough_width : Stmt := top 18
abbrev s_L_mix : Stmt := top 20
abbrev s_L_next : Stmt := top 21
abbrev s_L_alike : Stmt := top 22
abbrev s_L_rule : Stmt := top 23
abbrev s_L_end : Stmt := top 24
abbrev s_L_most : Stmt := top 25
abbrev s_L_top : Stmt := top 26
abbrev s_L_tick : Stmt := top 27
abbrev s_L_seen : Stmt := top 28
abbrev s_L_tried : Stmt := top 29
abbrev s_law : Stmt := top 30
/-! ### the program: rules -/
theorem k_cs : ¬ (("count" : Str) = "shift") := by decide +kernel
theorem k_cr : ¬ (("count" : Str) = "rough") := by decide +kernel
theorem k_sc : ¬ (("shift" : Str) = "count") := by decide +kernel
theorem k_sr : ¬ (("shift" : Str) = "rough") := by decide +kernel
theorem k_rc : ¬ (("rough" : Str) = "count") := by decide +kernel
theorem k_rs : ¬ (("rough" : Str) = "shift") := by decide +kernel

/-- what the top has written of the limits, at d -/
def WrT (K : PySem.W.Frag) (a : Addr) (xs : List V) : Prop := ∃ (o : Obj) (its : Array Value) (n : Nat), K.lookup a = some o ∧ o.cls = .type "tuple" ∧ o.data = .seq its n ∧ its.size ≤ sizeLine ∧ Vals xs its.toList
structure Lims (K : PySem.W.Frag) (w : World) (mg : Str → Option Value) : Prop where
  ex : ∃ (d : Addr) (es : Array DictEntry) (n : Nat), mg "LIMITS" = some (.ref d) ∧ KDict K w d es n ∧ ∀ R : Ru, ∃ t, PySem.W.nsIn K d R.kind = some (some (.ref t)) ∧ WrT K t (R.lim.map V.int)
theorem nums_ok {R : Ru} (h : R.ok) {i : Nat} {x y : V} (hx : (R.nums.map V.int)[i]? = some x) (hy : (R.lim.map V.int)[i]? = some y) : ∃ n m : Int, x = .int n ∧ y = .int m ∧ 1 ≤ n ∧ n ≤ m := by
  cases R with
  | cnt b s =>
    obtain ⟨h1, h2, h3, h4⟩ : 1 ≤ b ∧ b ≤ 6 ∧ 1 ≤ s ∧ s ≤ 20 := h
    match i, hx, hy with
    | 0, hx, hy => exact ⟨b, 6, (Option.some.inj hx).symm, (Option.some.inj hy).symm, by omega, by omega⟩
    | 1, hx, hy => exact ⟨s, 20, (Option.some.inj hx).symm, (Option.some.inj hy).symm, by omega, by omega⟩
    | i + 2, hx, hy => simp [Ru.nums] at hx
  | shf b s =>
    obtain ⟨h1, h2, h3, h4⟩ : 1 ≤ b ∧ b ≤ 10 ∧ 1 ≤ s ∧ s ≤ 20 := h
    match i, hx, hy with
    | 0, hx, hy => exact ⟨b, 10, (Option.some.inj hx).symm, (Option.some.inj hy).symm, by omega, by omega⟩
    | 1, hx, hy => exact ⟨s, 20, (Option.some.inj hx).symm, (Option.some.inj hy).symm, by omega, by omega⟩
    | i + 2, hx, hy => simp [Ru.nums] at hx
  | rgh b =>
    obtain ⟨h1, h2⟩ : 1 ≤ b ∧ b ≤ 3 := h
    match i, hx, hy with
    | 0, hx, hy => exact ⟨b, 3, (Option.some.inj hx).symm, (Option.some.inj hy).symm, by omega, by omega⟩
    | i + 1, hx, hy => simp [Ru.nums] at hx
theorem nums_lim (R : Ru) : (R.nums.map V.int).length = (R.lim.map V.int).length := by cases R <;> rfl
theorem lim_short (R : Ru) : (R.lim.map V.int).length ≤ 2 := by
  cases R with
  | cnt b s => exact Nat.le_refl 2
  | shf b s => exact Nat.le_refl 2
  | rgh b => exact (by decide : 1 ≤ 2)
def spIsRule : Sp := fun vs H Q _ => ∃ (p : Addr) (R : Ru), vs = [.ref p] ∧ RuAt H p R ∧ R.ok ∧ ∀ H', Same H H' → Q (.bl true) H'
section
variable {P : Program} {w : World} {K : PySem.W.Frag} {mg : Str → Option Value} {base : Heap}
theorem sc_is_rule : FnScope ["rule", "limits", "numbers", "number", "most"] ["rule"] (defScope s_is_rule) := ⟨rfl, rfl, rfl, by decide +kernel, rfl, by decide +kernel, by decide +kernel⟩
theorem ok_is_rule (D : DefAt K mg "is_rule" s_is_rule ["rule"]) (LI : Lims K w mg) (m_len : mg "len" = none) (m_all : mg "all" = none) (m_zip : mg "zip" = none) : Cl P w K mg base 1 "is_rule" ["rule"] spIsRule := by
  refine D.cl fun f fd F => ?_
  obtain ⟨d, es, n, gL, kd, lt⟩ := LI.ex
  refine F.ok sc_is_rule (fun vs H Q E h => ?_) (fun cdv A outer s H vs Q E hr h => ?_)
  · obtain ⟨p, R, rfl, _⟩ := h
    rfl
  · obtain ⟨p, R, rfl, hp, ok, q⟩ := h
    obtain ⟨t, ht, wt⟩ := lt R
    refine ⟨_, pss_cons (ps_if (pt_cmpR (op_notIn_kd kd) (pe_ix ix_tup (pv 0) pe_int (fun _ _ => rfl)) (pe_glob (v := .ref d) (by rfl) gL rfl) (by rfl)) (pss_one ps_never) pss_nil)
      (pss_cons (ps_set (i := 1) sc_is_rule.nd rfl (Or.inl rfl) (pe_ix ix_kdict (pe_glob (v := .ref d) (by rfl) gL rfl) (pe_ix ix_tup (pv 0) pe_int (fun _ _ => rfl)) (fun _ _ => rfl)))
      (pss_cons (ps_set (i := 2) sc_is_rule.nd rfl (Or.inl rfl) (pe_slice sl_tup (pv 0) (po_some pe_int) po_none))
      (pss_cons (ps_if (pt_cmpR op_ne (pe_callB call_len_seq (by rfl) m_len PySem.boot_len (pa_cons (pv 2) pa_nil)) (pe_callB call_len_seq (by rfl) m_len PySem.boot_len (pa_cons (pv 1) pa_nil)) (nomark _)) (pss_one ps_never) pss_nil)
      (pss_one (ps_ret (pe_callB (cr_all rfl) (by rfl) m_all (by decide +kernel) (pa_cons
        (pe_lc (own := [("number", 3), ("most", 4)]) (g := gTup K 2 (gCons (gName 3) (gCons (gName 4) gNil))) (tt := tYes) rfl sc_is_rule.nd (pi_zipA (by rfl) m_zip (pa_cons (pv 2) (pa_cons (pv 1) pa_nil))) (blkOk_by (N := ["rule", "limits", "numbers", "number", "most"]) (sc := defScope s_is_rule) (by decide +kernel))
          (fun _ _ _ _ _ => by exact pg_tup rfl (pgs_cons (pg_name (i := 3) sc_is_rule.nd rfl (Or.inl rfl)) (pgs_cons (pg_name (i := 4) sc_is_rule.nd rfl (Or.inl rfl)) pgs_nil))) (fun _ _ _ _ _ => by exact pts_nil)
          (fun _ _ _ _ _ => by exact pe_chain op_le op_le pe_int (pv 3) (pv 4))) pa_nil))))))), ?_⟩
    refine ⟨_, rfl, p, _, _, _, rfl, rfl, SqT.of hp, R.at0, R.kind, _, rfl, rfl, ht, _, rfl, iteF ?_⟩
    refine ⟨_, rfl, p, _, _, _, rfl, rfl, SqT.of hp, R.at0, d, R.kind, .ref t, rfl, rfl, ⟨es, n, _, kd.at_, kd.lit, ht, rfl⟩, ?_⟩
    refine ⟨_, rfl, 1, rfl, p, R.tup, rfl, SqT.of hp, ?_, fun u nu => ?_⟩
    · have h1 : R.tup.length = (R.nums.map V.int).length + 1 := rfl
      have h2 : 1 ≤ (R.nums.map V.int).length := by cases R <;> exact Nat.succ_le_succ (Nat.zero_le _)
      rintro ⟨e, _⟩
      rw [show HT.sIx R.tup.length 0 (some 1) = min 1 R.tup.length from HT.sIx_nat _ 0 1] at e
      omega
    have su : Same H (upd H u (.tup (cutV R.tup (some 1) none))) := same_upd nu
    have eu : (upd H u (.tup (cutV R.tup (some 1) none))) u = some (.tup (R.nums.map V.int)) := by
      rw [upd_same, cut1]; rfl
    refine ⟨_, rfl, u, R.nums.map V.int, rfl, .inr (SqT.of eu), _, rfl, t, R.lim.map V.int, rfl, .inr (.inr wt), rfl, _, rfl, ?_⟩
    rw [nums_lim]
    refine iteNS rfl ?_
    refine ⟨_, rfl, _, rfl, u, t, R.nums.map V.int, R.lim.map V.int, rfl, .inr ⟨SqT.of eu, .inr wt, fun D nD => ?_⟩⟩
    refine lc_zipT (K := K) (xs := R.nums.map V.int) (ys := R.lim.map V.int) (nums_lim R) (fun i H' => Same (upd H u (.tup (cutV R.tup (some 1) none))) H' ∧ H' D = some (.lst ((List.replicate i true).map V.bl)))
      ⟨same_upd nD, upd_same⟩ (fun i H' h => ⟨SqT.of (h.1 _ _ eu), .inr wt⟩) ?_ ?_
    · rintro i x y T H' hx hy ⟨sm, hD⟩ hT
      obtain ⟨a, b, rfl, rfl, h1, h2⟩ := nums_ok ok hx hy
      have nT : D ≠ T := ne_of_none hD hT
      refine ⟨T, [.int a, .int b], rfl, .inl (.inl upd_same), rfl, .int a, [.int b], rfl, .int b, [], rfl, rfl, rfl, ?_⟩
      refine ⟨_, rfl, _, _, rfl, rfl, _, rfl, ?_⟩
      rw [decide_eq_true h1]
      refine iteT ?_
      refine ⟨_, rfl, _, _, rfl, rfl, ?_⟩
      dsimp only
      rw [decide_eq_true h2]
      refine ⟨_, (by rw [upd_ne nT]; exact hD), ?_, ?_, ?_⟩
      · rw [List.length_map, List.length_replicate]
        have : i < (R.lim.map V.int).length := (List.getElem?_eq_some_iff.mp hy).1
        have := lim_short R
        exact small1000 (by omega)
      · intro z o e
        rw [upd_ne (show z ≠ D from ne_of_none e nD), upd_ne (ne_of_none (sm _ _ e) hT)]
        exact sm _ _ e
      · rw [upd_same, List.replicate_succ', List.map_append]
        rfl
    · rintro H' ⟨sm, hD⟩
      refine ⟨D, List.replicate _ true, rfl, SqL.of hD, ?_⟩
      rw [show (List.replicate (R.nums.map V.int).length true).all id = true by simp]
      exact q H' (su.trans sm)
end
/-! ### the program: marks and ageing -/
def spCheckRule : Sp := fun vs H Q _ => ∃ (p : Addr) (R : Ru), vs = [.ref p] ∧ RuAt H p R ∧ R.ok ∧ ∀ H', Same H H' → Q .non H'
def spTopMark : Sp := fun vs H Q _ => ∃ (p : Addr) (R : Ru), vs = [.ref p] ∧ RuAt H p R ∧ R.ok ∧ Q (.int (R.most : Int)) H
def spCheckMark : Sp := fun vs H Q _ => ∃ (p : Addr) (R : Ru) (i : Int), vs = [.ref p, .int i] ∧ RuAt H p R ∧ R.ok ∧ 0 ≤ i ∧ i ≤ (R.most : Int) ∧ Q .non H
def spCheckMoment : Sp := fun vs H Q _ => ∃ (i : Int), vs = [.int i] ∧ 0 ≤ i ∧ i ≤ 1000000000 ∧ Q .non H
def spRoughly : Sp := fun vs H Q _ => ∃ (b m t n : Nat) (i1 i2 i3 i4 : Int), vs = [.int i1, .int i2, .int i3, .int i4] ∧ i1 = ((2 ^ b - 1 : Nat) : Int) ∧ i2 = (m : Int) ∧ i3 = (t : Int) ∧ i4 = ((t + n : Nat) : Int) ∧
  1 ≤ b ∧ b ≤ 3 ∧ m ≤ 2 ^ b - 1 ∧ t + n ≤ 1000000000 ∧ Q (.int (ag (.rgh b) m t n : Int)) H
def spAged : Sp := fun vs H Q _ => ∃ (p : Addr) (R : Ru) (m t n : Nat) (i1 i2 i3 : Int), vs = [.ref p, .int i1, .int i2, .int i3] ∧ i1 = (m : Int) ∧ i2 = (t : Int) ∧ i3 = ((t + n : Nat) : Int) ∧
  RuAt H p R ∧ R.ok ∧ m ≤ R.most ∧ t + n ≤ 1000000000 ∧ ∀ H', Same H H' → Q (.int (ag R m t n : Int)) H'
theorem pow_sub (k : Nat) : (2 : Int) ^ k - 1 = ((2 ^ k - 1 : Nat) : Int) := by
  have := Nat.two_pow_pos k
  have e : ((2 ^ k : Nat) : Int) = (2 : Int) ^ k := by rw [Int.natCast_pow]; rfl
  omega
theorem top_is {i : Int} {k : Nat} (h : i = (k : Int)) : (1 : Int) * 2 ^ i.toNat - 1 = ((2 ^ k - 1 : Nat) : Int) := by
  rw [h, Int.toNat_natCast, Int.one_mul, pow_sub]
theorem Ru.most_lt {R : Ru} (h : R.ok) : R.most < 2048 := by
  cases R with
  | cnt b s =>
    obtain ⟨h1, h2, h3, h4⟩ : 1 ≤ b ∧ b ≤ 6 ∧ 1 ≤ s ∧ s ≤ 20 := h
    have : 2 ^ b ≤ 2 ^ 6 := Nat.pow_le_pow_right (by decide) h2
    show 2 ^ b - 1 < 2048
    omega
  | shf b s =>
    obtain ⟨h1, h2, h3, h4⟩ : 1 ≤ b ∧ b ≤ 10 ∧ 1 ≤ s ∧ s ≤ 20 := h
    have : 2 ^ (b + 1) ≤ 2 ^ 11 := Nat.pow_le_pow_right (by decide) (by omega)
    show 2 ^ (b + 1) - 1 < 2048
    omega
  | rgh b =>
    obtain ⟨h1, h2⟩ : 1 ≤ b ∧ b ≤ 3 := h
    have : 2 ^ b ≤ 2 ^ 3 := Nat.pow_le_pow_right (by decide) h2
    show 2 ^ b - 1 < 2048
    omega
theorem next_cast (t m : Nat) : ((t : Int) / 2 ^ (m : Int).toNat + 1) * 2 ^ (m : Int).toNat = (((t / 2 ^ m + 1) * 2 ^ m : Nat) : Int) := by
  rw [Int.toNat_natCast, Int.natCast_mul, Int.natCast_add, Int.natCast_ediv, Int.natCast_pow]
  rfl
theorem kind_ne {R : Ru} {x : Str} (h : R.kind ≠ x) : decide (V.str R.kind = V.str x) = false := by rw [dec_str, decide_eq_false h]
section
variable {P : Program} {w : World} {K : PySem.W.Frag} {mg : Str → Option Value} {base : Heap}
theorem sc_check_rule : FnScope ["rule"] ["rule"] (defScope s_check_rule) := ⟨rfl, rfl, rfl, by decide +kernel, rfl, by decide +kernel, by decide +kernel⟩
theorem ok_check_rule (D : DefAt K mg "check_rule" s_check_rule ["rule"]) (C1 : Cl P w K mg base 1 "is_rule" ["rule"] spIsRule) : Cl P w K mg base 2 "check_rule" ["rule"] spCheckRule := by
  refine D.cl fun f fd F => ?_
  refine F.ok sc_check_rule (fun vs H Q E h => ?_) (fun cdv A outer s H vs Q E hr h => ?_)
  · obtain ⟨p, R, rfl, _⟩ := h
    rfl
  · obtain ⟨p, R, rfl, hp, ok, q⟩ := h
    refine ⟨_, pss_one (ps_if (pt_not (pt_val (pe_cl C1 hr (pa_cons (pv 0) pa_nil)))) (pss_one ps_never) pss_nil), ?_⟩
    exact ⟨_, rfl, p, R, rfl, hp, ok, fun H' sm => ⟨true, rfl, iteF (q H' sm)⟩⟩
theorem sc_top_mark : FnScope ["rule"] ["rule"] (defScope s_top_mark) := ⟨rfl, rfl, rfl, by decide +kernel, rfl, by decide +kernel, by decide +kernel⟩
theorem ok_top_mark (D : DefAt K mg "top_mark" s_top_mark ["rule"]) : Cl P w K mg base 1 "top_mark" ["rule"] spTopMark := by
  refine D.cl fun f fd F => ?_
  refine F.ok sc_top_mark (fun vs H Q E h => ?_) (fun cdv A outer s H vs Q E hr h => ?_)
  · obtain ⟨p, R, rfl, _⟩ := h
    rfl
  · obtain ⟨p, R, rfl, hp, ok, q⟩ := h
    have hb := R.bits_pos ok
    refine ⟨_, pss_cons (ps_if (pt_cmpR op_eq (pe_ix ix_tup (pv 0) pe_int (fun _ _ => rfl)) pe_str (nomark _)) (pss_one (ps_ret (pe_op op_sub (pe_op op_shl pe_int (pe_op op_add (pe_ix ix_tup (pv 0) pe_int (fun _ _ => rfl)) pe_int)) pe_int))) pss_nil)
      (pss_one (ps_ret (pe_op op_sub (pe_op op_shl pe_int (pe_ix ix_tup (pv 0) pe_int (fun _ _ => rfl))) pe_int))), ?_⟩
    refine ⟨_, rfl, p, _, _, _, rfl, rfl, SqT.of hp, R.at0, rfl, _, rfl, ?_⟩
    have low : ∀ _ : R.kind ≠ "shift", R.most = 2 ^ R.bits - 1 := by
      intro hk
      cases R with
      | cnt b s => rfl
      | shf b s => exact absurd rfl hk
      | rgh b => rfl
    by_cases hk : R.kind = "shift"
    · rw [dec_str, decide_eq_true hk]
      refine iteT ?_
      refine ⟨_, rfl, p, _, _, _, rfl, rfl, SqT.of hp, R.at1, _, _, rfl, rfl, _, _, rfl, rfl, ⟨by omega, by omega, by decide⟩, _, _, rfl, rfl, ?_⟩
      have e : (1 : Int) * 2 ^ ((R.bits : Int) + 1).toNat - 1 = (R.most : Int) := by
        rw [top_is (i := (R.bits : Int) + 1) (k := R.bits + 1) rfl]
        cases R with
        | cnt b s => exact absurd hk k_cs
        | shf b s => rfl
        | rgh b => exact absurd hk k_rs
      dsimp only
      rw [e]
      exact q
    · rw [dec_str, decide_eq_false hk]
      refine iteF ?_
      refine ⟨_, rfl, p, _, _, _, rfl, rfl, SqT.of hp, R.at1, _, _, rfl, rfl, ⟨by omega, by omega, by decide⟩, _, _, rfl, rfl, ?_⟩
      dsimp only
      rw [top_is (i := (R.bits : Int)) (k := R.bits) rfl, ← low hk]
      exact q
theorem sc_roughly : FnScope ["last", "mark", "begin", "end", "moment"] ["last", "mark", "begin", "end"] (defScope s_aged_roughly) := ⟨rfl, rfl, rfl, by decide +kernel, rfl, by decide +kernel, by decide +kernel⟩
theorem ok_roughly (D : DefAt K mg "_aged_roughly" s_aged_roughly ["last", "mark", "begin", "end"]) : Cl P w K mg base 1 "_aged_roughly" ["last", "mark", "begin", "end"] spRoughly := by
  refine D.cl fun f fd F => ?_
  refine F.ok sc_roughly (fun vs H Q E h => ?_) (fun cdv A outer s H vs Q E hr h => ?_)
  · obtain ⟨b, m, t, n, i1, i2, i3, i4, rfl, _⟩ := h
    rfl
  · obtain ⟨b, m, t, n, i1, i2, i3, i4, rfl, rfl, rfl, rfl, rfl, b1, b3, hm, ht, q⟩ := h
    refine ⟨_, pss_cons (ps_set (i := 4) sc_roughly.nd rfl (Or.inl rfl) (pv 2))
      (pss_cons (ps_while PassesOwn.never (pt_cmpR op_lt (pv 1) (pv 0) (nomark _))
        (pss_cons (ps_set (i := 4) sc_roughly.nd rfl (Or.inl rfl) (pe_op op_shl (pe_op op_add (pe_op op_shr (pv 4) (pv 1)) pe_int) (pv 1)))
        (pss_cons (ps_if (pt_cmpR op_gt (pv 4) (pv 3) (nomark _)) (pss_one ps_break) pss_nil)
        (pss_one (ps_aug (i := 1) sc_roughly.nd rfl (Or.inl rfl) pe_int ip_add)))))
      (pss_one (ps_ret (pv 1)))), ?_⟩
    refine ⟨_, rfl, ?_⟩
    refine while_by (fun σ H' => ∃ m' t' n' : Nat, σ = [some (.int ((2 ^ b - 1 : Nat) : Int)), some (.int (m' : Int)), some (.int (t : Int)), some (.int ((t + n : Nat) : Int)), some (.int (t' : Int))] ∧ H' = H ∧ t' + n' = t + n ∧ m' ≤ 2 ^ b - 1 ∧ ag (.rgh b) m t n = ag (.rgh b) m' t' n')
      (fun σ H' => match σ with | [_, some (.int i), _, _, _] => (((2 ^ b - 1 : Nat) : Int) - i).toNat | _ => 0) ⟨m, t, n, rfl, rfl, rfl, hm, rfl⟩ ?_ ?_
    · rintro σ H' ⟨m', t', n', rfl, rfl, e, hm', ea⟩
      have p3 : 2 ^ b ≤ 2 ^ 3 := Nat.pow_le_pow_right (by decide) b3
      refine ⟨_, rfl, _, rfl, _, _, rfl, rfl, _, rfl, ?_⟩
      by_cases c : m' < 2 ^ b - 1
      · rw [decide_eq_true (show (m' : Int) < ((2 ^ b - 1 : Nat) : Int) by omega)]
        refine iteT ?_
        have g1 := next_gt m' t'
        have g2 := next_le m' t'
        have p7 : 2 ^ m' ≤ 2 ^ 7 := Nat.pow_le_pow_right (by decide) (by omega)
        have hdiv : t' / 2 ^ m' ≤ t' := Nat.div_le_self _ _
        refine ⟨_, rfl, _, rfl, _, _, rfl, rfl, Int.natCast_nonneg _, _, _, rfl, rfl, _, rfl, _, _, rfl, rfl, ⟨Int.natCast_nonneg _, by omega, ?_⟩, ?_⟩
        · rw [Int.toNat_natCast]
          have e2 : ((t' : Int) / 2 ^ m' + 1) = ((t' / 2 ^ m' + 1 : Nat) : Int) := by
            rw [Int.natCast_add, Int.natCast_ediv, Int.natCast_pow]; rfl
          rw [e2]
          show t' / 2 ^ m' + 1 < 2 ^ 64
          have : t' ≤ 1000000000 := by omega
          have : (2 : Nat) ^ 64 = 18446744073709551616 := by decide
          omega
        · dsimp only
          rw [next_cast]
          refine ⟨_, rfl, _, rfl, _, _, rfl, rfl, _, rfl, ?_⟩
          by_cases c2 : t + n < (t' / 2 ^ m' + 1) * 2 ^ m'
          · rw [decide_eq_true (show ((t + n : Nat) : Int) < (((t' / 2 ^ m' + 1) * 2 ^ m' : Nat) : Int) by omega)]
            refine iteT ?_
            have es : ag (.rgh b) m t n = m' := by
              rw [ea]
              exact ag_rgh_still b m' t' n' (by omega)
            rw [es] at q
            exact ⟨_, rfl, q⟩
          · rw [decide_eq_false (show ¬ ((t + n : Nat) : Int) < (((t' / 2 ^ m' + 1) * 2 ^ m' : Nat) : Int) by omega)]
            refine iteF ?_
            refine ⟨_, rfl, _, _, rfl, rfl, ⟨m' + 1, (t' / 2 ^ m' + 1) * 2 ^ m', t + n - (t' / 2 ^ m' + 1) * 2 ^ m', rfl, rfl, by omega, by omega, ?_⟩, ?_⟩
            · obtain ⟨k, hk⟩ : ∃ k, n' = ((t' / 2 ^ m' + 1) * 2 ^ m' - t') + k := ⟨n' - ((t' / 2 ^ m' + 1) * 2 ^ m' - t'), by omega⟩
              rw [ea, hk, ag_add, ag_rgh_next b m' t' (by omega)]
              rw [show t' + ((t' / 2 ^ m' + 1) * 2 ^ m' - t') = (t' / 2 ^ m' + 1) * 2 ^ m' by omega]
              rw [show t + n - (t' / 2 ^ m' + 1) * 2 ^ m' = k by omega]
            · show (((2 ^ b - 1 : Nat) : Int) - ((m' : Int) + 1)).toNat < (((2 ^ b - 1 : Nat) : Int) - (m' : Int)).toNat
              omega
      · rw [decide_eq_false (show ¬ (m' : Int) < ((2 ^ b - 1 : Nat) : Int) by omega)]
        refine iteF ?_
        have es : ag (.rgh b) m t n = m' := by
          have : m' = 2 ^ b - 1 := by omega
          rw [ea, this]
          exact ag_rgh_fin b t' n'
        rw [es] at q
        exact ⟨_, rfl, q⟩
    · rintro σ H' Q1 Q2 i ⟨x, hx, y, hy, i', j', e1, e2, k, ek, qq⟩
      exact ⟨x, hx, y, hy, i', j', e1, e2, k, ek, i _ _ qq⟩
theorem sc_aged_on : FnScope ["rule", "mark", "begin", "end", "step", "times"] ["rule", "mark", "begin", "end"] (defScope s_aged_on) := ⟨rfl, rfl, rfl, by decide +kernel, rfl, by decide +kernel, by decide +kernel⟩
theorem Ru.at2 {R : Ru} (h : R.kind ≠ "rough") : atI R.tup 2 = some (.int (R.step : Int)) := by
  cases R with
  | cnt b s => exact atI_nat (j := 2) rfl
  | shf b s => exact atI_nat (j := 2) rfl
  | rgh b => exact absurd rfl h
theorem Ru.step_ok {R : Ru} (h : R.ok) : 1 ≤ R.step ∧ R.step ≤ 20 := by
  cases R with
  | cnt b s => obtain ⟨h1, h2, h3, h4⟩ : 1 ≤ b ∧ b ≤ 6 ∧ 1 ≤ s ∧ s ≤ 20 := h; exact ⟨h3, h4⟩
  | shf b s => obtain ⟨h1, h2, h3, h4⟩ : 1 ≤ b ∧ b ≤ 10 ∧ 1 ≤ s ∧ s ≤ 20 := h; exact ⟨h3, h4⟩
  | rgh b => exact ⟨Nat.le_refl 1, (by decide : 1 ≤ 20)⟩
theorem times_cast (t n s : Nat) : ((t + n : Nat) : Int) / (s : Int) - (t : Int) / (s : Int) = (((t + n) / s - t / s : Nat) : Int) := by
  have g := div_mono s (Nat.le_add_right t n)
  rw [← Int.natCast_ediv, ← Int.natCast_ediv]
  omega
theorem ok_aged_on (D : DefAt K mg "aged_on" s_aged_on ["rule", "mark", "begin", "end"]) (m_min : mg "min" = none) (C1 : Cl P w K mg base 1 "top_mark" ["rule"] spTopMark) (C2 : Cl P w K mg base 1 "_aged_roughly" ["last", "mark", "begin", "end"] spRoughly) :
    Cl P w K mg base 2 "aged_on" ["rule", "mark", "begin", "end"] spAged := by
  refine D.cl fun f fd F => ?_
  refine F.ok sc_aged_on (fun vs H Q E h => ?_) (fun cdv A outer s H vs Q E hr h => ?_)
  · obtain ⟨p, R, m, t, n, i1, i2, i3, rfl, _⟩ := h
    rfl
  · obtain ⟨p, R, m, t, n, i1, i2, i3, rfl, rfl, rfl, rfl, hp, ok, hm, ht, q⟩ := h
    have hs := R.step_ok ok
    refine ⟨_, pss_cons (ps_if (pt_cmpR op_eq (pe_ix ix_tup (pv 0) pe_int (fun _ _ => rfl)) pe_str (nomark _)) (pss_one (ps_ret (pe_cl C2 hr (pa_cons (pe_cl C1 hr (pa_cons (pv 0) pa_nil)) (pa_cons (pv 1) (pa_cons (pv 2) (pa_cons (pv 3) pa_nil))))))) pss_nil)
      (pss_cons (ps_set (i := 4) sc_aged_on.nd rfl (Or.inl rfl) (pe_ix ix_tup (pv 0) pe_int (fun _ _ => rfl)))
      (pss_cons (ps_set (i := 5) sc_aged_on.nd rfl (Or.inl rfl) (pe_op op_sub (pe_op op_fdiv (pv 3) (pv 4)) (pe_op op_fdiv (pv 2) (pv 4))))
      (pss_cons (ps_if (pt_cmpR op_eq (pe_ix ix_tup (pv 0) pe_int (fun _ _ => rfl)) pe_str (nomark _)) (pss_one (ps_ret (pe_op op_shr (pv 1) (pv 5)))) pss_nil)
      (pss_one (ps_ret (pe_callB (call_min2 rfl) (by rfl) m_min (by decide +kernel) (pa_cons (pe_op op_add (pv 1) (pv 5)) (pa_cons (pe_cl C1 hr (pa_cons (pv 0) pa_nil)) pa_nil)))))))), ?_⟩
    refine ⟨_, rfl, p, _, _, _, rfl, rfl, SqT.of hp, R.at0, rfl, _, rfl, ?_⟩
    by_cases hk : R.kind = "rough"
    · rw [dec_str, decide_eq_true hk]
      refine iteT ?_
      cases R with
      | cnt b s => exact absurd hk k_cr
      | shf b s => exact absurd hk k_sr
      | rgh b =>
        obtain ⟨b1, b3⟩ : 1 ≤ b ∧ b ≤ 3 := ok
        exact ⟨_, rfl, p, .rgh b, rfl, hp, ⟨b1, b3⟩, _, rfl, _, rfl, _, rfl, b, m, t, n, _, _, _, _, rfl, rfl, rfl, rfl, rfl, b1, b3, hm, ht, q H (Same.refl H)⟩
    · rw [dec_str, decide_eq_false hk]
      refine iteF ?_
      refine ⟨_, rfl, p, _, _, _, rfl, rfl, SqT.of hp, R.at2 hk, ?_⟩
      refine ⟨_, rfl, _, rfl, _, _, rfl, rfl, ⟨by omega, by omega⟩, _, rfl, _, rfl, _, _, rfl, rfl, ⟨by omega, by omega⟩, _, _, rfl, rfl, ?_⟩
      dsimp only
      rw [times_cast]
      refine ⟨_, rfl, p, _, _, _, rfl, rfl, SqT.of hp, R.at0, rfl, _, rfl, ?_⟩
      by_cases hk2 : R.kind = "shift"
      · rw [dec_str, decide_eq_true hk2]
        refine iteT ?_
        refine ⟨_, rfl, _, rfl, _, _, rfl, rfl, Int.natCast_nonneg _, ?_⟩
        have q' := q H (Same.refl H)
        cases R with
        | cnt b s => exact absurd hk2 k_cs
        | rgh b => exact absurd rfl hk
        | shf b s =>
          rw [ag_shf b s m t hs.1 n, Int.natCast_ediv, Int.natCast_pow] at q'
          dsimp only
          rw [Int.toNat_natCast]
          exact q'
      · rw [dec_str, decide_eq_false hk2]
        refine iteF ?_
        refine ⟨_, rfl, _, rfl, _, _, rfl, rfl, _, rfl, p, R, rfl, hp, ok, _, _, rfl, ?_⟩
        have q' := q H (Same.refl H)
        cases R with
        | shf b s => exact absurd rfl hk2
        | rgh b => exact absurd rfl hk
        | cnt b s =>
          rw [ag_cnt b s m t hs.1 hm n] at q'
          have e : (if ((Ru.cnt b s).most : Int) < (m : Int) + (((t + n) / (Ru.cnt b s).step - t / (Ru.cnt b s).step : Nat) : Int) then ((Ru.cnt b s).most : Int) else (m : Int) + (((t + n) / (Ru.cnt b s).step - t / (Ru.cnt b s).step : Nat) : Int)) =
              ((min (m + ((t + n) / s - t / s)) (2 ^ b - 1) : Nat) : Int) := by
            show (if ((2 ^ b - 1 : Nat) : Int) < (m : Int) + (((t + n) / s - t / s : Nat) : Int) then ((2 ^ b - 1 : Nat) : Int) else (m : Int) + (((t + n) / s - t / s : Nat) : Int)) = _
            split <;> omega
          rw [e]
          exact q'
end
/-! ### the program: what a mark tells -/
def oV : Option Nat → V
  | none => .non
  | some n => .int (n : Int)
/-- the mark of a thing that is seen -/
def seenM : Ru → Nat → Nat
  | .shf b _, m => if m < 2 ^ b then m + 2 ^ b else m
  | _, _ => 0
def spEndMark : Sp := fun vs H Q _ => ∃ (p : Addr) (R : Ru), vs = [.ref p] ∧ RuAt H p R ∧ R.ok ∧ Q (.int (R.fin : Int)) H
def spSeen : Sp := fun vs H Q _ => ∃ (p : Addr) (R : Ru) (m : Nat) (i : Int), vs = [.ref p, .int i] ∧ i = (m : Int) ∧ RuAt H p R ∧ R.ok ∧ Q (.int (seenM R m : Int)) H
def spAgings : Sp := fun vs H Q _ => ∃ (p : Addr) (R : Ru) (m : Nat) (i : Int), vs = [.ref p, .int i] ∧ i = (m : Int) ∧ RuAt H p R ∧ R.ok ∧ R.isRgh = false ∧ m ≤ R.most ∧ Q (.int (R.ags m : Int)) H
def spStepped : Sp := fun vs H Q _ => ∃ (p : Addr) (R : Ru) (now m : Nat) (i1 i2 : Int), vs = [.ref p, .int i1, .int i2] ∧ i1 = (now : Int) ∧ i2 = (m : Int) ∧ RuAt H p R ∧ R.ok ∧ R.isRgh = false ∧ m ≤ R.most ∧
  ∀ H' T x y, IsSpan R now m x y → H T = none → Same H H' → H' T = some (.tup [oV x, oV y]) → Q (.ref T) H'
def spRoughSpan : Sp := fun vs H Q _ => ∃ (p : Addr) (R : Ru) (now m : Nat) (i1 i2 : Int), vs = [.ref p, .int i1, .int i2] ∧ i1 = (now : Int) ∧ i2 = (m : Int) ∧ RuAt H p R ∧ R.ok ∧ R.isRgh = true ∧ m ≤ R.most ∧ now ≤ 1000000000 ∧
  ∀ H' T x y, IsSpan R now m x y → H T = none → Same H H' → H' T = some (.tup [oV x, oV y]) → Q (.ref T) H'
def spSpan : Sp := fun vs H Q _ => ∃ (p : Addr) (R : Ru) (now m : Nat) (i1 i2 : Int), vs = [.ref p, .int i1, .int i2] ∧ i1 = (now : Int) ∧ i2 = (m : Int) ∧ RuAt H p R ∧ R.ok ∧ m ≤ R.most ∧ now ≤ 1000000000 ∧
  ∀ H' T x y, IsSpan R now m x y → H T = none → Same H H' → H' T = some (.tup [oV x, oV y]) → Q (.ref T) H'
theorem bits_bl (n : Nat) : Builtin.Int.intBits (n : Int) = bl n := by
  unfold Builtin.Int.intBits bl
  by_cases h : n = 0
  · subst h; rfl
  · rw [if_neg h, if_neg (by simpa using h)]
    rfl
theorem bl_two (b : Nat) : bl (2 ^ b) = b + 1 := by
  have p := Nat.two_pow_pos b
  obtain ⟨h1, h2, h3⟩ := bl_pos (show 2 ^ b ≠ 0 by omega)
  have := pow_uniq h1 (show 2 ^ b < 2 ^ (bl (2 ^ b) - 1 + 1) by rw [show bl (2 ^ b) - 1 + 1 = bl (2 ^ b) by omega]; exact h2) (Nat.le_refl _) (show 2 ^ b < 2 ^ (b + 1) by rw [Nat.pow_succ]; omega)
  omega
theorem Ru.rough_iff (R : Ru) : (R.kind = "rough") ↔ R.isRgh = true := by
  cases R with
  | cnt b s => exact ⟨fun h => absurd h k_cr, fun h => nomatch h⟩
  | shf b s => exact ⟨fun h => absurd h k_sr, fun h => nomatch h⟩
  | rgh b => exact ⟨fun _ => rfl, fun _ => rfl⟩
theorem shl_is {i : Int} {k : Nat} (h : i = (k : Int)) : (1 : Int) * 2 ^ i.toNat = ((2 ^ k : Nat) : Int) := by
  rw [h, Int.toNat_natCast, Int.one_mul, Int.natCast_pow]
  rfl
section
variable {P : Program} {w : World} {K : PySem.W.Frag} {mg : Str → Option Value} {base : Heap}
theorem sc_end_mark : FnScope ["rule"] ["rule"] (defScope s_end_mark) := ⟨rfl, rfl, rfl, by decide +kernel, rfl, by decide +kernel, by decide +kernel⟩
theorem ok_end_mark (D : DefAt K mg "end_mark" s_end_mark ["rule"]) (C1 : Cl P w K mg base 1 "top_mark" ["rule"] spTopMark) : Cl P w K mg base 2 "end_mark" ["rule"] spEndMark := by
  refine D.cl fun f fd F => ?_
  refine F.ok sc_end_mark (fun vs H Q E h => ?_) (fun cdv A outer s H vs Q E hr h => ?_)
  · obtain ⟨p, R, rfl, _⟩ := h
    rfl
  · obtain ⟨p, R, rfl, hp, ok, q⟩ := h
    refine ⟨_, pss_cons (ps_if (pt_cmpR op_eq (pe_ix ix_tup (pv 0) pe_int (fun _ _ => rfl)) pe_str (nomark _)) (pss_one (ps_ret pe_int)) pss_nil) (pss_one (ps_ret (pe_cl C1 hr (pa_cons (pv 0) pa_nil)))), ?_⟩
    refine ⟨_, rfl, p, _, _, _, rfl, rfl, SqT.of hp, R.at0, rfl, _, rfl, ?_⟩
    rw [dec_str]
    by_cases hk : R.kind = "shift"
    · rw [decide_eq_true hk]
      refine iteT ?_
      cases R with
      | cnt b s => exact absurd hk k_cs
      | rgh b => exact absurd hk k_rs
      | shf b s => exact q
    · rw [decide_eq_false hk]
      refine iteF ⟨_, rfl, p, R, rfl, hp, ok, ?_⟩
      cases R with
      | cnt b s => exact q
      | rgh b => exact q
      | shf b s => exact absurd rfl hk
theorem sc_seen : FnScope ["rule", "mark", "highest_bit"] ["rule", "mark"] (defScope s_seen) := ⟨rfl, rfl, rfl, by decide +kernel, rfl, by decide +kernel, by decide +kernel⟩
theorem ok_seen (D : DefAt K mg "seen" s_seen ["rule", "mark"]) : Cl P w K mg base 1 "seen" ["rule", "mark"] spSeen := by
  refine D.cl fun f fd F => ?_
  refine F.ok sc_seen (fun vs H Q E h => ?_) (fun cdv A outer s H vs Q E hr h => ?_)
  · obtain ⟨p, R, m, i, rfl, _⟩ := h
    rfl
  · obtain ⟨p, R, m, i, rfl, rfl, hp, ok, q⟩ := h
    refine ⟨_, pss_cons (ps_if (pt_cmpR op_ne (pe_ix ix_tup (pv 0) pe_int (fun _ _ => rfl)) pe_str (nomark _)) (pss_one (ps_ret pe_int)) pss_nil)
      (pss_cons (ps_set (i := 2) sc_seen.nd rfl (Or.inl rfl) (pe_op op_shl pe_int (pe_ix ix_tup (pv 0) pe_int (fun _ _ => rfl))))
      (pss_cons (ps_if (pt_cmpR op_lt (pv 1) (pv 2) (nomark _)) (pss_one (ps_ret (pe_op op_add (pv 1) (pv 2)))) pss_nil)
      (pss_one (ps_ret (pv 1))))), ?_⟩
    refine ⟨_, rfl, p, _, _, _, rfl, rfl, SqT.of hp, R.at0, rfl, _, rfl, ?_⟩
    rw [dec_str]
    by_cases hk : R.kind = "shift"
    · rw [decide_eq_true hk]
      refine iteF ?_
      cases R with
      | cnt b s => exact absurd hk k_cs
      | rgh b => exact absurd hk k_rs
      | shf b s =>
        have hb : b ≤ 10 := ok.2.1
        refine ⟨_, rfl, p, _, _, _, rfl, rfl, SqT.of hp, Ru.at1 (.shf b s), _, _, rfl, rfl, ⟨Int.natCast_nonneg _, (by show (b : Int) ≤ 1000000; omega), by decide⟩, ?_⟩
        dsimp only
        rw [show (1 : Int) * 2 ^ (((Ru.shf b s).bits : Nat) : Int).toNat = ((2 ^ b : Nat) : Int) from shl_is (k := b) rfl]
        refine ⟨_, rfl, _, rfl, _, _, rfl, rfl, _, rfl, ?_⟩
        by_cases c : m < 2 ^ b
        · rw [decide_eq_true (show (m : Int) < ((2 ^ b : Nat) : Int) by omega)]
          refine iteT ⟨_, rfl, _, rfl, _, _, rfl, rfl, ?_⟩
          rw [show seenM (.shf b s) m = m + 2 ^ b from if_pos c] at q
          exact q
        · rw [decide_eq_false (show ¬ (m : Int) < ((2 ^ b : Nat) : Int) by omega)]
          refine iteF ⟨_, rfl, ?_⟩
          rw [show seenM (.shf b s) m = m from if_neg c] at q
          exact q
    · rw [decide_eq_false hk]
      refine iteT ?_
      cases R with
      | cnt b s => exact q
      | rgh b => exact q
      | shf b s => exact absurd rfl hk
theorem sc_agings : FnScope ["rule", "mark", "fresh"] ["rule", "mark"] (defScope s_agings) := ⟨rfl, rfl, rfl, by decide +kernel, rfl, by decide +kernel, by decide +kernel⟩
theorem ok_agings (D : DefAt K mg "_agings" s_agings ["rule", "mark"]) (C1 : Cl P w K mg base 1 "seen" ["rule", "mark"] spSeen) (C2 : Cl P w K mg base 2 "end_mark" ["rule"] spEndMark) : Cl P w K mg base 3 "_agings" ["rule", "mark"] spAgings := by
  refine D.cl fun f fd F => ?_
  refine F.ok sc_agings (fun vs H Q E h => ?_) (fun cdv A outer s H vs Q E hr h => ?_)
  · obtain ⟨p, R, m, i, rfl, _⟩ := h
    rfl
  · obtain ⟨p, R, m, i, rfl, rfl, hp, ok, nr, hm, q⟩ := h
    refine ⟨_, pss_cons (ps_set (i := 2) sc_agings.nd rfl (Or.inl rfl) (pe_cl C1 hr (pa_cons (pv 0) (pa_cons (pe_cl C2 hr (pa_cons (pv 0) pa_nil)) pa_nil))))
      (pss_cons (ps_if (pt_cmpR op_eq (pe_ix ix_tup (pv 0) pe_int (fun _ _ => rfl)) pe_str (nomark _)) (pss_one (ps_ret (pe_op op_sub (pe_bits (pv 2)) (pe_bits (pv 1))))) pss_nil)
      (pss_one (ps_ret (pe_op op_sub (pv 1) (pv 2))))), ?_⟩
    refine ⟨_, rfl, _, rfl, p, R, rfl, hp, ok, p, R, R.fin, _, rfl, rfl, hp, ok, ?_⟩
    refine ⟨_, rfl, p, _, _, _, rfl, rfl, SqT.of hp, R.at0, rfl, _, rfl, ?_⟩
    rw [dec_str]
    cases R with
    | rgh b => cases nr
    | cnt b s =>
      rw [decide_eq_false (show ¬ (Ru.cnt b s).kind = "shift" from k_cs)]
      refine iteF ⟨_, rfl, _, rfl, _, _, rfl, rfl, ?_⟩
      have e : (m : Int) - ((seenM (.cnt b s) (Ru.cnt b s).fin : Nat) : Int) = ((Ru.cnt b s).ags m : Int) := by
        show (m : Int) - ((0 : Nat) : Int) = (m : Int)
        omega
      dsimp only
      rw [e]
      exact q
    | shf b s =>
      rw [decide_eq_true (show (Ru.shf b s).kind = "shift" from rfl)]
      refine iteT ⟨_, rfl, _, rfl, _, rfl, _, rfl, _, _, rfl, rfl, ?_⟩
      have hm' : m ≤ 2 ^ (b + 1) - 1 := hm
      have pb := Nat.two_pow_pos (b + 1)
      have pb' := Nat.two_pow_pos b
      have e1 : seenM (.shf b s) (Ru.shf b s).fin = 2 ^ b := by
        exact (if_pos (show (Ru.shf b s).fin < 2 ^ b from pb')).trans (Nat.zero_add _)
      have l := bl_le (show m < 2 ^ (b + 1) by omega)
      have e : ((Builtin.Int.intBits ((seenM (.shf b s) (Ru.shf b s).fin : Nat) : Int) : Nat) : Int) - ((Builtin.Int.intBits (m : Int) : Nat) : Int) = ((Ru.shf b s).ags m : Int) := by
        rw [e1, bits_bl, bits_bl, bl_two]
        show ((b + 1 : Nat) : Int) - (bl m : Int) = ((b + 1 - bl m : Nat) : Int)
        omega
      dsimp only
      rw [e]
      exact q
theorem sc_rough : FnScope ["rule", "now", "mark", "end", "fresh", "found", "ago", "reached"] ["rule", "now", "mark"] (defScope s_rough_span) := ⟨rfl, rfl, rfl, by decide +kernel, rfl, by decide +kernel, by decide +kernel⟩
theorem ok_rough (D : DefAt K mg "_rough_span" s_rough_span ["rule", "now", "mark"]) (m_range : mg "range" = none) (C1 : Cl P w K mg base 2 "end_mark" ["rule"] spEndMark) (C2 : Cl P w K mg base 1 "seen" ["rule", "mark"] spSeen) (C3 : Cl P w K mg base 2 "aged_on" ["rule", "mark", "begin", "end"] spAged) :
    Cl P w K mg base 3 "_rough_span" ["rule", "now", "mark"] spRoughSpan := by
  refine D.cl fun f fd F => ?_
  refine F.ok sc_rough (fun vs H Q E h => ?_) (fun cdv A outer s H vs Q E hr h => ?_)
  · obtain ⟨p, R, now, m, i1, i2, rfl, _⟩ := h
    rfl
  · obtain ⟨p, R, now, m, i1, i2, rfl, rfl, rfl, hp, ok, ir, hm, hnow, q⟩ := h
    cases R with
    | cnt b s => cases ir
    | shf b s => cases ir
    | rgh b =>
    refine ⟨_, pss_cons (ps_set (i := 3) sc_rough.nd rfl (Or.inl rfl) (pe_cl C1 hr (pa_cons (pv 0) pa_nil)))
      (pss_cons (ps_set (i := 4) sc_rough.nd rfl (Or.inl rfl) (pe_cl C2 hr (pa_cons (pv 0) (pa_cons (pv 3) pa_nil))))
      (pss_cons (ps_set (i := 5) sc_rough.nd rfl (Or.inl rfl) (pe_lst pa_nil))
      (pss_cons (ps_for PassesOwn.never rfl (pi_range1 (by rfl) m_range (pa_cons (pe_op op_add (pv 1) pe_int) pa_nil)) (pg_name (i := 6) sc_rough.nd rfl (Or.inl rfl))
        (pss_cons (ps_set (i := 7) sc_rough.nd rfl (Or.inl rfl) (pe_cl C3 hr (pa_cons (pv 0) (pa_cons (pv 4) (pa_cons (pe_op op_sub (pv 1) (pv 6)) (pa_cons (pv 1) pa_nil))))))
        (pss_cons (ps_if (pt_cmpR op_eq (pv 7) (pv 2) (nomark _)) (pss_one (ps_expr (pe_bm PySem.F.plainAttrs_list PySem.F.slot_list_append PySem.F.type_list_append mt_append (pv 5) (pa_cons (pv 6) pa_nil)))) pss_nil)
        (pss_one (ps_if (pt_cmpR op_eq (pv 7) (pv 3) (nomark _)) (pss_one ps_break) pss_nil)))))
      (pss_cons (ps_if (pt_not (pt_truth (pv 5) (by intro _; rfl))) (pss_one (ps_ret (pe_tup (pa_cons pe_non (pa_cons pe_non pa_nil))))) pss_nil)
      (pss_cons (ps_if (pt_cmpR op_eq (pv 2) (pv 3) (nomark _)) (pss_one (ps_ret (pe_tup (pa_cons (pe_ix ix_list (pv 5) pe_int (fun _ _ => rfl)) (pa_cons pe_non pa_nil))))) pss_nil)
      (pss_one (ps_ret (pe_tup (pa_cons (pe_ix ix_list (pv 5) pe_int (fun _ _ => rfl)) (pa_cons (pe_ix ix_list (pv 5) (pe_un un_neg pe_int) (fun _ _ => rfl)) pa_nil)))))))))), ?_⟩
    refine ⟨_, rfl, p, .rgh b, rfl, hp, ok, ?_⟩
    refine ⟨_, rfl, _, rfl, p, .rgh b, (Ru.rgh b).fin, _, rfl, rfl, hp, ok, ?_⟩
    refine ⟨Nat.zero_le _, fun L nL => ?_⟩
    refine ⟨_, rfl, _, _, rfl, rfl, _, rfl, by omega, by omega, ?_⟩
    rw [show ((now : Int) + 1).toNat = now + 1 by omega]
    refine for_rangeB (lo := 0) (n := now + 1)
      (fun i σ H' => ∃ v6 v7 : Option V, σ = [some (.ref p), some (.int (now : Int)), some (.int (m : Int)), some (.int ((Ru.rgh b).fin : Int)), some (.int ((0 : Nat) : Int)), some (.ref L), v6, v7] ∧ Kp2 L L (upd H L (.lst [])) H' ∧
        H' L = some (.lst ((fl (.rgh b) now m i).map fun (a : Nat) => V.int (a : Int))) ∧ ∀ a, a < i → one (.rgh b) now a ≠ 2 ^ b - 1)
      (fun σ H' => ∃ (c : Nat) (v6 v7 : Option V), σ = [some (.ref p), some (.int (now : Int)), some (.int (m : Int)), some (.int ((Ru.rgh b).fin : Int)), some (.int ((0 : Nat) : Int)), some (.ref L), v6, v7] ∧ Kp2 L L (upd H L (.lst [])) H' ∧
        H' L = some (.lst ((fl (.rgh b) now m c).map fun (a : Nat) => V.int (a : Int))) ∧ Cov (.rgh b) now m c)
      ⟨none, none, rfl, Kp2.refl _ _ _, upd_same, fun a h => absurd h (Nat.not_lt_zero a)⟩ ?_ ?_ ?_
    · rintro bk hbk i σ H' hi ⟨v6, v7, rfl, kk, eL, nf⟩
      have hp' : H' p = some (.tup (Ru.rgh b).tup) := by
        have npL : p ≠ L := ne_of_none hp nL
        exact kk _ _ (by rw [upd_ne npL]; exact hp) npL npL
      have i127 : i ≤ 127 := by
        by_cases h : i ≤ 127
        · exact h
        · exact absurd (one_rgh_far ok.2 (Nat.le_refl 127)) (nf 127 (by omega))
      refine ⟨_, rfl, _, rfl, _, rfl, _, rfl, _, _, rfl, rfl, _, rfl, p, .rgh b, 0, now - i, i, _, _, _, rfl, rfl, by omega, by omega, hp', ok, Nat.zero_le _, by omega, fun H2 s2 => ?_⟩
      have eL2 := s2 _ _ eL
      have kk2 : Kp2 L L (upd H L (.lst [])) H2 := kk.trans (Same.kp2 s2)
      have oi : ag (.rgh b) 0 (now - i) i = one (.rgh b) now i := rfl
      rw [oi]
      refine ⟨_, rfl, _, rfl, rfl, _, rfl, ?_⟩
      rw [dec_int]
      -- the second test, for any list that then stands
      have fin : ∀ (H3 : Hp), Kp2 L L (upd H L (.lst [])) H3 → H3 L = some (.lst ((fl (.rgh b) now m (i + 1)).map fun (a : Nat) => V.int (a : Int))) →
          (if decide (V.int (one (.rgh b) now i : Int) = V.int ((Ru.rgh b).fin : Int)) = true then bk [some (.ref p), some (.int (now : Int)), some (.int (m : Int)), some (.int ((Ru.rgh b).fin : Int)), some (.int ((0 : Nat) : Int)), some (.ref L), some (.int (0 + (i : Int))), some (.int (one (.rgh b) now i : Int))] H3
            else ∃ v6 v7 : Option V, [some (.ref p), some (.int (now : Int)), some (.int (m : Int)), some (.int ((Ru.rgh b).fin : Int)), some (.int ((0 : Nat) : Int)), some (.ref L), some (V.int (0 + (i : Int))), some (V.int (one (.rgh b) now i : Int))] = [some (.ref p), some (.int (now : Int)), some (.int (m : Int)), some (.int ((Ru.rgh b).fin : Int)), some (.int ((0 : Nat) : Int)), some (.ref L), v6, v7] ∧ Kp2 L L (upd H L (.lst [])) H3 ∧
              H3 L = some (.lst ((fl (.rgh b) now m (i + 1)).map fun (a : Nat) => V.int (a : Int))) ∧ ∀ a, a < i + 1 → one (.rgh b) now a ≠ 2 ^ b - 1) := by
        intro H3 k3 e3
        rw [dec_int]
        by_cases z : one (.rgh b) now i = 2 ^ b - 1
        · rw [decide_eq_true (show (one (.rgh b) now i : Int) = ((Ru.rgh b).fin : Int) by rw [z]; rfl), if_pos rfl]
          exact hbk _ _ ⟨i + 1, _, _, rfl, k3, e3, cov_rgh z (by omega)⟩
        · rw [decide_eq_false (show ¬ (one (.rgh b) now i : Int) = ((Ru.rgh b).fin : Int) from fun y => z (Int.ofNat.inj y)), if_neg Bool.false_ne_true]
          refine ⟨_, _, rfl, k3, e3, fun a ha => ?_⟩
          by_cases ea : a = i
          · rw [ea]; exact z
          · exact nf a (by omega)
      by_cases c : one (.rgh b) now i = m
      · rw [decide_eq_true (show (one (.rgh b) now i : Int) = (m : Int) by omega)]
        refine iteT ⟨_, rfl, .inl ⟨rfl, _, SqL.of eL2⟩, _, rfl, L, _, _, rfl, rfl, eL2, ?_, ?_⟩
        · rw [List.length_map]
          exact small1000 (Nat.le_trans (fl_len _ _ _ _) (by omega))
        · have e3 : (upd H2 L (.lst ((fl (.rgh b) now m i).map (fun (a : Nat) => V.int (a : Int)) ++ [V.int (0 + (i : Int))]))) L = some (.lst ((fl (.rgh b) now m (i + 1)).map fun (a : Nat) => V.int (a : Int))) := by
            rw [upd_same, fl_succ, if_pos (by rw [poss_rgh, decide_eq_true c]), List.map_append, Int.zero_add]
            rfl
          exact ⟨_, rfl, _, rfl, rfl, _, rfl, fin _ (fun x o e n1 n2 => by rw [upd_ne n1]; exact kk2 x o e n1 n2) e3⟩
      · rw [decide_eq_false (show ¬ (one (.rgh b) now i : Int) = (m : Int) by omega)]
        refine iteF ?_
        refine ⟨_, rfl, _, rfl, rfl, _, rfl, fin _ kk2 ?_⟩
        rw [fl_succ, if_neg (by rw [poss_rgh, decide_eq_false c]; exact Bool.false_ne_true)]
        exact eL2
    · rintro σ H' ⟨v6, v7, rfl, kk, eL, nf⟩
      exact ⟨now + 1, v6, v7, rfl, kk, eL, cov_end _ _ _⟩
    · rintro σ H' ⟨c, v6, v7, rfl, kk, eL, cov⟩
      have sm : Same H H' := fun x o e => by
        have nx : x ≠ L := ne_of_none e nL
        exact kk x o (by rw [upd_ne nx]; exact e) nx nx
      refine ⟨_, rfl, _, .inl ⟨_, SqL.of eL, rfl⟩, ?_⟩
      cases ef : fl (.rgh b) now m c with
      | nil =>
        refine iteT ⟨(by show 2 ≤ sizeLine; decide), fun T nT => ?_⟩
        exact q _ T none none (span_nil cov ef) (sm.free nT) (sm.trans (same_upd nT)) upd_same
      | cons lo r =>
        rw [ef] at eL
        obtain ⟨f1, f2⟩ := fl_head ef
        have a0 : atI ((lo :: r).map fun (a : Nat) => V.int (a : Int)) 0 = some (.int (lo : Int)) := atI_nat (j := 0) rfl
        refine iteF ⟨_, rfl, _, rfl, rfl, _, rfl, ?_⟩
        rw [dec_int]
        by_cases e : m = 2 ^ b - 1
        · rw [decide_eq_true (show (m : Int) = ((Ru.rgh b).fin : Int) by rw [e]; rfl)]
          refine iteT ⟨_, rfl, L, _, _, _, rfl, rfl, SqL.of eL, a0, (by show 2 ≤ sizeLine; decide), fun T nT => ?_⟩
          exact q _ T (some lo) none (span_some cov f1 f2 (.inl ⟨e, rfl⟩)) (sm.free nT) (sm.trans (same_upd nT)) upd_same
        · rw [decide_eq_false (show ¬ (m : Int) = ((Ru.rgh b).fin : Int) from fun y => e (Int.ofNat.inj y))]
          have hl : lo :: r = (lo :: r).dropLast ++ [(lo :: r).getLast (List.cons_ne_nil _ _)] := (List.dropLast_concat_getLast _).symm
          generalize (lo :: r).dropLast = ini at hl
          generalize (lo :: r).getLast (List.cons_ne_nil _ _) = hi at hl
          have al : atI ((lo :: r).map fun (a : Nat) => V.int (a : Int)) (-1) = some (.int (hi : Int)) := by
            rw [hl, List.map_append]
            exact atI_last _ _
          have g := fl_last (ef.trans hl)
          refine iteF ⟨_, rfl, L, _, _, _, rfl, rfl, SqL.of eL, a0, _, rfl, 1, rfl, L, _, _, _, rfl, rfl, SqL.of eL, al, (by show 2 ≤ sizeLine; decide), fun T nT => ?_⟩
          exact q _ T (some lo) (some hi) (span_some cov f1 f2 (.inr ⟨e, hi, rfl, g.1, g.2⟩)) (sm.free nT) (sm.trans (same_upd nT)) upd_same
end
/-! ### the program: off and reach -/
def spMoments : Sp := fun vs H Q _ => ∃ (p : Addr) (b : Nat), vs = [.ref p] ∧ RuAt H p (.rgh b) ∧ (Ru.rgh b).ok ∧ ∀ H' q, H q = none → Same H H' → H' q = some (.lst (rgV ((2 * tT b : Nat) : Int) ((3 * tT b : Nat) : Int))) → Q (.ref q) H'
def WidthP (b now w n : Nat) : Prop := (∀ m lo hi, m < n → IsSpan (.rgh b) now m (some lo) (some hi) → hi - lo ≤ w) ∧ (w = 0 ∨ ∃ m lo hi, m < n ∧ IsSpan (.rgh b) now m (some lo) (some hi) ∧ w = hi - lo)
def spWidth : Sp := fun vs H Q _ => ∃ (p : Addr) (b now : Nat) (i : Int), vs = [.ref p, .int i] ∧ i = (now : Int) ∧ RuAt H p (.rgh b) ∧ (Ru.rgh b).ok ∧ now ≤ 1000000000 ∧ ∀ w H', WidthP b now w (2 ^ b - 1) → Same H H' → Q (.int (w : Int)) H'
def spOff : Sp := fun vs H Q _ => ∃ (p : Addr) (R : Ru), vs = [.ref p] ∧ RuAt H p R ∧ R.ok ∧ ∀ v H', IsOff R v → Same H H' → Q (.int (v : Int)) H'
def spReach : Sp := fun vs H Q _ => ∃ (p : Addr) (R : Ru), vs = [.ref p] ∧ RuAt H p R ∧ R.ok ∧ ∀ v H', IsReach R v → Same H H' → Q (.int (v : Int)) H'
theorem rg_get {lo hi j : Nat} {y : V} (h : (rgV (lo : Int) (hi : Int))[j]? = some y) : y = .int ((lo + j : Nat) : Int) ∧ j < hi - lo := by
  unfold rgV at h
  rw [List.getElem?_map] at h
  cases e : (List.range ((hi : Int) - (lo : Int)).toNat)[j]? with
  | none =>
    rw [e] at h
    cases h
  | some k =>
    rw [e] at h
    obtain ⟨l, ek⟩ := List.getElem?_eq_some_iff.mp e
    rw [List.getElem_range] at ek
    rw [List.length_range] at l
    subst ek
    exact ⟨(Option.some.inj h).symm, by omega⟩
theorem width_step {b now w i : Nat} {x y : Option Nat} (h : WidthP b now w i) (hi : i < 2 ^ b - 1) (s : IsSpan (.rgh b) now i x y) : (y = none → WidthP b now w (i + 1)) ∧ ∀ lo hi', x = some lo → y = some hi' → WidthP b now (max w (hi' - lo)) (i + 1) := by
  constructor
  · rintro rfl
    refine ⟨fun m lo hi' hm sp => ?_, ?_⟩
    · by_cases e : m = i
      · subst e
        have := (s.uniq sp).2
        cases this
      · exact h.1 m lo hi' (by omega) sp
    · rcases h.2 with h2 | ⟨m, lo, hi', hm, sp, e⟩
      · exact .inl h2
      · exact .inr ⟨m, lo, hi', by omega, sp, e⟩
  · rintro lo hi' rfl rfl
    refine ⟨fun m lo2 hi2 hm sp => ?_, ?_⟩
    · by_cases e : m = i
      · subst e
        obtain ⟨e1, e2⟩ := s.uniq sp
        cases e1
        cases e2
        omega
      · have := h.1 m lo2 hi2 (by omega) sp
        omega
    · by_cases c : hi' - lo ≤ w
      · rw [Nat.max_eq_left c]
        rcases h.2 with h2 | ⟨m, lo, hi', hm, sp, e⟩
        · exact .inl h2
        · exact .inr ⟨m, lo, hi', by omega, sp, e⟩
      · rw [Nat.max_eq_right (by omega)]
        exact .inr ⟨i, lo, hi', Nat.lt_succ_self i, s, rfl⟩
theorem get_mem {ws : List Nat} {j : Nat} {w : Nat} (h : ws[j]? = some w) : Int.ofNat w ∈ ws.map Int.ofNat := List.mem_map.mpr ⟨w, List.mem_of_getElem? h, rfl⟩
theorem len_app {ws : List Nat} {i : Nat} {P : Nat → Nat → Prop} (hl : ws.length = i) (h : ∀ j, j < i → ∃ w, ws[j]? = some w ∧ P j w) {w : Nat} (hw : P i w) : (ws ++ [w]).length = i + 1 ∧ ∀ j, j < i + 1 → ∃ w', (ws ++ [w])[j]? = some w' ∧ P j w' := by
  refine ⟨by rw [List.length_append, hl]; rfl, fun j hj => ?_⟩
  by_cases e : j = i
  · subst e
    exact ⟨w, by rw [← hl]; simp, hw⟩
  · obtain ⟨w', g, p⟩ := h j (by omega)
    exact ⟨w', by rw [List.getElem?_append_left (by omega)]; exact g, p⟩
section
variable {P : Program} {w : World} {K : PySem.W.Frag} {mg : Str → Option Value} {base : Heap}
theorem sc_moments : FnScope ["rule", "turn"] ["rule"] (defScope s_rough_moments) := ⟨rfl, rfl, rfl, by decide +kernel, rfl, by decide +kernel, by decide +kernel⟩
theorem ok_moments (D : DefAt K mg "_rough_moments" s_rough_moments ["rule"]) (m_list : mg "list" = none) (m_range : mg "range" = none) (C1 : Cl P w K mg base 2 "end_mark" ["rule"] spEndMark) : Cl P w K mg base 3 "_rough_moments" ["rule"] spMoments := by
  refine D.cl fun f fd F => ?_
  refine F.ok sc_moments (fun vs H Q E h => ?_) (fun cdv A outer s H vs Q E hr h => ?_)
  · obtain ⟨p, b, rfl, _⟩ := h
    rfl
  · obtain ⟨p, b, rfl, hp, ok, q⟩ := h
    obtain ⟨b1, b3⟩ : 1 ≤ b ∧ b ≤ 3 := ok
    have tl := T_le b3
    have p8 : 2 ^ b ≤ 2 ^ 3 := Nat.pow_le_pow_right (by decide) b3
    have p2 : 2 ^ 1 ≤ 2 ^ b := Nat.pow_le_pow_right (by decide) b1
    refine ⟨_, pss_cons (ps_set (i := 1) sc_moments.nd rfl (Or.inl rfl) (pe_op op_shl pe_int (pe_op op_sub (pe_cl C1 hr (pa_cons (pv 0) pa_nil)) pe_int)))
      (pss_one (ps_ret (pe_listRg rfl (by rfl) m_list (prg_2 (by rfl) m_range (pe_op op_mul pe_int (pv 1)) (pe_op op_mul pe_int (pv 1)))))), ?_⟩
    have ef : (((Ru.rgh b).fin : Nat) : Int) - 1 = ((2 ^ b - 2 : Nat) : Int) := by
      show ((2 ^ b - 1 : Nat) : Int) - 1 = _
      omega
    refine ⟨_, rfl, p, .rgh b, rfl, hp, ⟨b1, b3⟩, _, _, rfl, rfl, _, _, rfl, rfl, ⟨by rw [ef]; omega, by rw [ef]; omega, by decide⟩, ?_⟩
    dsimp only
    rw [show (1 : Int) * 2 ^ ((((Ru.rgh b).fin : Nat) : Int) - 1).toNat = ((tT b : Nat) : Int) from shl_is ef]
    refine ⟨_, rfl, _, _, rfl, rfl, .inl ⟨by decide, by decide⟩, _, rfl, _, _, rfl, rfl, .inl ⟨by decide, by decide⟩, _, _, rfl, rfl, RgOk.of_le (by omega) (by omega) (by omega) (by omega), fun q' nq => ?_⟩
    exact q _ q' nq (same_upd nq) upd_same
theorem sc_width : FnScope ["rule", "now", "widest", "mark", "least", "most"] ["rule", "now"] (defScope s_rough_width) := ⟨rfl, rfl, rfl, by decide +kernel, rfl, by decide +kernel, by decide +kernel⟩
theorem ok_width (D : DefAt K mg "_rough_width" s_rough_width ["rule", "now"]) (m_max : mg "max" = none) (m_range : mg "range" = none) (C1 : Cl P w K mg base 2 "end_mark" ["rule"] spEndMark) (C2 : Cl P w K mg base 3 "_rough_span" ["rule", "now", "mark"] spRoughSpan) :
    Cl P w K mg base 4 "_rough_width" ["rule", "now"] spWidth := by
  refine D.cl fun f fd F => ?_
  refine F.ok sc_width (fun vs H Q E h => ?_) (fun cdv A outer s H vs Q E hr h => ?_)
  · obtain ⟨p, b, now, i, rfl, _⟩ := h
    rfl
  · obtain ⟨p, b, now, i, rfl, rfl, hp, ok, hnow, q⟩ := h
    obtain ⟨b1, b3⟩ : 1 ≤ b ∧ b ≤ 3 := ok
    have p8 : 2 ^ b ≤ 2 ^ 3 := Nat.pow_le_pow_right (by decide) b3
    refine ⟨_, pss_cons (ps_set (i := 2) sc_width.nd rfl (Or.inl rfl) pe_int)
      (pss_cons (ps_for PassesOwn.never rfl (pi_range1 (by rfl) m_range (pa_cons (pe_cl C1 hr (pa_cons (pv 0) pa_nil)) pa_nil)) (pg_name (i := 3) sc_width.nd rfl (Or.inl rfl))
        (pss_cons (ps_asg (pe_cl C2 hr (pa_cons (pv 0) (pa_cons (pv 1) (pa_cons (pv 3) pa_nil)))) (pg_tup rfl (pgs_cons (pg_name (i := 4) sc_width.nd rfl (Or.inl rfl)) (pgs_cons (pg_name (i := 5) sc_width.nd rfl (Or.inl rfl)) pgs_nil))))
        (pss_one (ps_if (pt_cmp (pc_notN (pv 5)) rfl) (pss_one (ps_set (i := 2) sc_width.nd rfl (Or.inl rfl) (pe_callB (call_max2 rfl) (by rfl) m_max (by decide +kernel) (pa_cons (pv 2) (pa_cons (pe_op op_sub (pv 5) (pv 4)) pa_nil))))) pss_nil))))
      (pss_one (ps_ret (pv 2)))), ?_⟩
    refine ⟨_, rfl, p, .rgh b, rfl, hp, ⟨b1, b3⟩, _, rfl, by show -(2 ^ 62) ≤ ((2 ^ b - 1 : Nat) : Int); omega, by show ((2 ^ b - 1 : Nat) : Int) < 2 ^ 62; omega, ?_⟩
    rw [Int.toNat_natCast]
    refine for_range (lo := 0) (n := (Ru.rgh b).fin) (fun i σ H' => ∃ (wd : Nat) (v3 v4 v5 : Option V), σ = [some (.ref p), some (.int (now : Int)), some (.int (wd : Int)), v3, v4, v5] ∧ Same H H' ∧ WidthP b now wd i)
      ⟨0, none, none, none, rfl, Same.refl H, fun m _ _ hm => absurd hm (Nat.not_lt_zero m), .inl rfl⟩ ?_ ?_
    · rintro i σ H' hi ⟨wd, v3, v4, v5, rfl, sm, wp⟩
      have hi' : i < 2 ^ b - 1 := hi
      refine ⟨_, rfl, _, rfl, _, rfl, p, .rgh b, now, i, _, _, rfl, rfl, by omega, sm _ _ hp, ⟨b1, b3⟩, rfl, Nat.le_of_lt hi', hnow, fun H2 T x y sp nT s2 eT => ?_⟩
      have st := width_step wp hi' sp
      have sm2 := sm.trans s2
      refine ⟨T, [oV x, oV y], rfl, SqT.of eT, rfl, oV x, [oV y], rfl, oV y, [], rfl, rfl, ?_⟩
      refine ⟨_, rfl, _, rfl, ?_⟩
      cases y with
      | none =>
        rw [decide_eq_true (show oV none = V.non from rfl)]
        exact iteF ⟨wd, _, _, _, rfl, sm2, st.1 rfl⟩
      | some hi2 =>
        rw [decide_eq_false (show ¬ oV (some hi2) = V.non from fun z => nomatch z)]
        refine iteT ?_
        have nx : ∃ lo, x = some lo := by
          rcases sp with ⟨_, e, _⟩ | ⟨lo, e, _⟩
          · cases e
          · exact ⟨lo, e⟩
        obtain ⟨lo, rfl⟩ := nx
        have bo := sp.both
        refine ⟨_, rfl, _, rfl, _, rfl, _, _, rfl, rfl, _, _, rfl, max wd (hi2 - lo), some (.int (0 + (i : Int))), some (oV (some lo)), some (oV (some hi2)), ?_, sm2, st.2 lo hi2 rfl rfl⟩
        have e : (if (hi2 : Int) - (lo : Int) > (wd : Int) then (hi2 : Int) - (lo : Int) else (wd : Int)) = ((max wd (hi2 - lo) : Nat) : Int) := by split <;> omega
        rw [← e]
        rfl
    · rintro σ H' ⟨wd, v3, v4, v5, rfl, sm, wp⟩
      exact ⟨_, rfl, q wd H' wp sm⟩
theorem sc_off : FnScope ["rule", "now"] ["rule"] (defScope s_off) := ⟨rfl, rfl, rfl, by decide +kernel, rfl, by decide +kernel, by decide +kernel⟩
theorem ok_off (D : DefAt K mg "off" s_off ["rule"]) (m_max : mg "max" = none) (C1 : Cl P w K mg base 2 "check_rule" ["rule"] spCheckRule) (C2 : Cl P w K mg base 3 "_rough_moments" ["rule"] spMoments) (C3 : Cl P w K mg base 4 "_rough_width" ["rule", "now"] spWidth) :
    Cl P w K mg base 5 "off" ["rule"] spOff := by
  refine D.cl fun f fd F => ?_
  refine F.ok sc_off (fun vs H Q E h => ?_) (fun cdv A outer s H vs Q E hr h => ?_)
  · obtain ⟨p, R, rfl, _⟩ := h
    rfl
  · obtain ⟨p, R, rfl, hp, ok, q⟩ := h
    refine ⟨_, pss_cons (ps_expr (pe_cl C1 hr (pa_cons (pv 0) pa_nil)))
      (pss_cons (ps_if (pt_cmpR op_eq (pe_ix ix_tup (pv 0) pe_int (fun _ _ => rfl)) pe_str (nomark _)) (pss_one (ps_ret (pe_callB (cr_max rfl) (by rfl) m_max (by decide +kernel) (pa_cons
        (pe_lc (own := [("now", 1)]) (g := gName 1) (tt := tYes) rfl sc_off.nd (pi_list (pe_cl C2 hr (pa_cons (pv 0) pa_nil))) (blkOk_by (N := ["rule", "now"]) (sc := defScope s_off) (by decide +kernel)) (fun _ _ _ _ _ => by exact pg_name (i := 1) sc_off.nd rfl (Or.inl rfl)) (fun _ _ _ _ _ => by exact pts_nil)
          (fun _ _ _ _ _ => by exact pe_cl C3 hr (pa_cons (pv 0) (pa_cons (pv 1) pa_nil)))) pa_nil)))) pss_nil)
      (pss_one (ps_ret (pe_op op_sub (pe_ix ix_tup (pv 0) pe_int (fun _ _ => rfl)) pe_int)))), ?_⟩
    refine ⟨_, rfl, p, R, rfl, hp, ok, fun H1 s1 => ?_⟩
    have hp1 := s1 _ _ hp
    refine ⟨_, rfl, p, _, _, _, rfl, rfl, SqT.of hp1, R.at0, rfl, _, rfl, ?_⟩
    rw [dec_str]
    by_cases hk : R.kind = "rough"
    · rw [decide_eq_true hk]
      refine iteT ?_
      cases R with
      | cnt b s => exact absurd hk k_cr
      | shf b s => exact absurd hk k_sr
      | rgh b =>
      obtain ⟨b1, b3⟩ : 1 ≤ b ∧ b ≤ 3 := ok
      have tp := T_pos b
      have tl := T_le b3
      refine ⟨_, rfl, p, b, rfl, hp1, ⟨b1, b3⟩, fun H2 l nl s2 el => ?_⟩
      refine ⟨l, rfl, ⟨_, SqL.of el⟩, fun D nD => ?_⟩
      have rl : (rgV ((2 * tT b : Nat) : Int) ((3 * tT b : Nat) : Int)).length = tT b := by
        rw [rgV_length]
        omega
      refine lc_list (K := K) (a := l) (xs := rgV ((2 * tT b : Nat) : Int) ((3 * tT b : Nat) : Int)) (fun i H' => Same H2 H' ∧ ∃ ws : List Nat, ws.length = i ∧ H' D = some (.lst ((ws.map Int.ofNat).map V.int)) ∧ ∀ j, j < i → ∃ w', ws[j]? = some w' ∧ WidthP b (2 * tT b + j) w' (2 ^ b - 1))
        ⟨same_upd nD, [], rfl, upd_same, fun j hj => absurd hj (Nat.not_lt_zero j)⟩ (fun i H' _ h => SqL.of (h.1 _ _ el)) ?_ ?_
      · rintro i y H' hy ⟨sm, ws, lw, eD, hw⟩
        obtain ⟨rfl, hi⟩ := rg_get hy
        have hi' : i < tT b := by omega
        refine ⟨rfl, _, rfl, _, rfl, p, b, 2 * tT b + i, _, rfl, rfl, sm _ _ (s2 _ _ hp1), ⟨b1, b3⟩, by omega, fun w' H3 wp s3 => ?_⟩
        obtain ⟨a1, a2⟩ := len_app (P := fun j w' => WidthP b (2 * tT b + j) w' (2 ^ b - 1)) lw hw wp
        refine ⟨_, s3 _ _ eD, ?_, fun x o e => ?_, ws ++ [w'], a1, ?_, a2⟩
        · rw [List.length_map, List.length_map, lw]
          exact small1000 (by omega)
        · rw [upd_ne (ne_of_none e nD)]
          exact s3 _ _ (sm _ _ e)
        · rw [upd_same, List.map_append, List.map_append]
          rfl
      · rintro H' ⟨sm, ws, lw, eD, hw⟩
        rw [rl] at lw hw
        refine ⟨D, ws.map Int.ofNat, rfl, SqL.of eD, by rw [List.length_map, lw]; omega, fun m hm hmax => ?_⟩
        obtain ⟨v, hv, rfl⟩ := List.mem_map.mp hm
        refine q v H' (.inl ⟨rfl, fun d hd => ?_, ?_⟩) ((s1.trans s2).trans sm)
        · obtain ⟨now, mk, lo, hi, n1, n2, hmk, sp, rfl⟩ := hd
          obtain ⟨j, rfl⟩ : ∃ j, now = 2 * tT b + j := ⟨now - 2 * tT b, by have : 2 * tT b ≤ now := n1; omega⟩
          obtain ⟨w', gw, wp⟩ := hw j (by have : 2 * tT b + j < 3 * tT b := n2; omega)
          have h1 := wp.1 mk lo hi hmk sp
          have h2 : (w' : Int) ≤ (v : Int) := hmax _ (get_mem gw)
          omega
        · obtain ⟨j, hj⟩ := List.mem_iff_getElem?.mp hv
          have jl : j < tT b := by
            have := (List.getElem?_eq_some_iff.mp hj).1
            omega
          obtain ⟨w', gw, wp⟩ := hw j jl
          have : w' = v := Option.some.inj (gw.symm.trans hj)
          subst this
          rcases wp.2 with h0 | ⟨mk, lo, hi, hmk, sp, e⟩
          · exact .inl h0
          · exact .inr ⟨2 * tT b + j, mk, lo, hi, Nat.le_add_right _ _, by show 2 * tT b + j < 3 * tT b; omega, hmk, sp, e⟩
    · rw [decide_eq_false hk]
      have hs := R.step_ok ok
      refine iteF ⟨_, rfl, p, _, _, _, rfl, rfl, SqT.of hp1, R.at2 hk, _, _, rfl, rfl, ?_⟩
      dsimp only
      rw [show (R.step : Int) - 1 = ((R.step - 1 : Nat) : Int) by omega]
      refine q _ H1 (.inr ⟨?_, rfl⟩) s1
      cases e : R.isRgh with
      | false => rfl
      | true => exact absurd ((R.rough_iff).mpr e) hk
theorem sc_reach : FnScope ["rule", "end", "now"] ["rule"] (defScope s_reach) := ⟨rfl, rfl, rfl, by decide +kernel, rfl, by decide +kernel, by decide +kernel⟩
theorem ok_reach (D : DefAt K mg "reach" s_reach ["rule"]) (m_min : mg "min" = none) (C1 : Cl P w K mg base 2 "check_rule" ["rule"] spCheckRule) (C2 : Cl P w K mg base 3 "_rough_moments" ["rule"] spMoments) (C3 : Cl P w K mg base 3 "_rough_span" ["rule", "now", "mark"] spRoughSpan)
    (C4 : Cl P w K mg base 2 "end_mark" ["rule"] spEndMark) (C5 : Cl P w K mg base 3 "_agings" ["rule", "mark"] spAgings) : Cl P w K mg base 4 "reach" ["rule"] spReach := by
  refine D.cl fun f fd F => ?_
  refine F.ok sc_reach (fun vs H Q E h => ?_) (fun cdv A outer s H vs Q E hr h => ?_)
  · obtain ⟨p, R, rfl, _⟩ := h
    rfl
  · obtain ⟨p, R, rfl, hp, ok, q⟩ := h
    refine ⟨_, pss_cons (ps_expr (pe_cl C1 hr (pa_cons (pv 0) pa_nil)))
      (pss_cons (ps_set (i := 1) sc_reach.nd rfl (Or.inr rfl) (pe_cl C4 hr (pa_cons (pv 0) pa_nil)))
      (pss_cons (ps_if (pt_cmpR op_eq (pe_ix ix_tup (pv 0) pe_int (fun _ _ => rfl)) pe_str (nomark _)) (pss_one (ps_ret (pe_op op_sub (pe_callB (cr_min rfl) (by rfl) m_min (by decide +kernel) (pa_cons
        (pe_lc (own := [("now", 2)]) (g := gName 2) (tt := tYes) rfl sc_reach.nd (pi_list (pe_cl C2 hr (pa_cons (pv 0) pa_nil))) (blkOk_by (N := ["rule", "end", "now"]) (sc := defScope s_reach) (by decide +kernel)) (fun _ _ _ _ _ => by exact pg_name (i := 2) sc_reach.nd rfl (Or.inl rfl)) (fun _ _ _ _ _ => by exact pts_nil)
          (te := tOp (rIxT K) (tCall spRoughSpan [] E0 (tCons (tVar 0) (tCons (tVar 2) (tCons (tVar 1) tNil)))) (tC (.int 0)))
          (fun _ _ _ _ _ => by exact pe_ix ix_tup (pe_cl C3 hr (pa_cons (pv 0) (pa_cons (pv 2) (pa_cons (pv 1) pa_nil)))) pe_int (fun _ _ => rfl))) pa_nil)) pe_int))) pss_nil)
      (pss_one (ps_ret (pe_op op_mul (pe_op op_sub (pe_cl C5 hr (pa_cons (pv 0) (pa_cons (pv 1) pa_nil))) pe_int) (pe_ix ix_tup (pv 0) pe_int (fun _ _ => rfl))))))), ?_⟩
    refine ⟨_, rfl, p, R, rfl, hp, ok, fun H1 s1 => ?_⟩
    have hp1 := s1 _ _ hp
    refine ⟨_, rfl, p, R, rfl, hp1, ok, ?_⟩
    refine ⟨_, rfl, p, _, _, _, rfl, rfl, SqT.of hp1, R.at0, rfl, _, rfl, ?_⟩
    rw [dec_str]
    by_cases hk : R.kind = "rough"
    · rw [decide_eq_true hk]
      refine iteT ?_
      cases R with
      | cnt b s => exact absurd hk k_cr
      | shf b s => exact absurd hk k_sr
      | rgh b =>
      obtain ⟨b1, b3⟩ : 1 ≤ b ∧ b ≤ 3 := ok
      have tp := T_pos b
      have tl := T_le b3
      refine ⟨_, rfl, p, b, rfl, hp1, ⟨b1, b3⟩, fun H2 l nl s2 el => ?_⟩
      refine ⟨l, rfl, ⟨_, SqL.of el⟩, fun D nD => ?_⟩
      have rl : (rgV ((2 * tT b : Nat) : Int) ((3 * tT b : Nat) : Int)).length = tT b := by
        rw [rgV_length]
        omega
      refine lc_list (K := K) (a := l) (xs := rgV ((2 * tT b : Nat) : Int) ((3 * tT b : Nat) : Int)) (fun i H' => Same H2 H' ∧ ∃ ws : List Nat, ws.length = i ∧ H' D = some (.lst ((ws.map Int.ofNat).map V.int)) ∧ ∀ j, j < i → ∃ w', ws[j]? = some w' ∧ IsSpan (.rgh b) (2 * tT b + j) (2 ^ b - 1) (some w') none)
        ⟨same_upd nD, [], rfl, upd_same, fun j hj => absurd hj (Nat.not_lt_zero j)⟩ (fun i H' _ h => SqL.of (h.1 _ _ el)) ?_ ?_
      · rintro i y H' hy ⟨sm, ws, lw, eD, hw⟩
        obtain ⟨rfl, hi⟩ := rg_get hy
        have hi' : i < tT b := by omega
        refine ⟨rfl, _, rfl, _, rfl, _, rfl, p, .rgh b, 2 * tT b + i, 2 ^ b - 1, _, _, rfl, rfl, rfl, sm _ _ (s2 _ _ hp1), ⟨b1, b3⟩, rfl, Nat.le_refl _, by omega, fun H3 T x y sp nT s3 eT => ?_⟩
        have yn : y = none := sp.hi_none rfl
        subst yn
        have pe : poss (.rgh b) (2 * tT b + i) (2 ^ b - 1) (2 * tT b - 1) = true := by
          rw [poss_rgh, one_far2 b1 (Nat.le_refl _), decide_eq_true rfl]
        obtain ⟨w', rfl, _⟩ := sp.lo_le (show 2 * tT b - 1 ≤ 2 * tT b + i by omega) pe
        obtain ⟨a1, a2⟩ := len_app (P := fun j w' => IsSpan (.rgh b) (2 * tT b + j) (2 ^ b - 1) (some w') none) lw hw sp
        refine ⟨T, _, _, _, rfl, rfl, SqT.of eT, atI_nat (j := 0) rfl, _, s3 _ _ eD, ?_, fun x o e => ?_, ws ++ [w'], a1, ?_, a2⟩
        · rw [List.length_map, List.length_map, lw]
          exact small1000 (by omega)
        · rw [upd_ne (ne_of_none e nD)]
          exact s3 _ _ (sm _ _ e)
        · rw [upd_same, List.map_append, List.map_append]
          rfl
      · rintro H' ⟨sm, ws, lw, eD, hw⟩
        rw [rl] at lw hw
        refine ⟨D, ws.map Int.ofNat, rfl, SqL.of eD, by rw [List.length_map, lw]; omega, fun m hm hmin => ?_⟩
        obtain ⟨v, hv, rfl⟩ := List.mem_map.mp hm
        obtain ⟨j, hj⟩ := List.mem_iff_getElem?.mp hv
        have jl : j < tT b := by
          have := (List.getElem?_eq_some_iff.mp hj).1
          omega
        obtain ⟨w', gw, sp⟩ := hw j jl
        have : w' = v := Option.some.inj (gw.symm.trans hj)
        subst this
        have w1 : 1 ≤ w' := by
          rcases sp with ⟨e, _⟩ | ⟨lo, e, h1, h2, _⟩
          · cases e
          · cases e
            by_cases z : w' = 0
            · rw [z, poss_rgh] at h2
              have e2 : 0 = 2 ^ b - 1 := of_decide_eq_true h2
              have p2 : 2 ^ 1 ≤ 2 ^ b := Nat.pow_le_pow_right (by decide) b1
              omega
            · omega
        refine ⟨_, _, rfl, rfl, ?_⟩
        dsimp only
        rw [show Int.ofNat w' - 1 = ((w' - 1 : Nat) : Int) by show (w' : Int) - 1 = _; omega]
        refine q (w' - 1) H' (.inl ⟨rfl, fun l' hl' => ?_, ?_⟩) ((s1.trans s2).trans sm)
        · obtain ⟨now, n1, n2, sp'⟩ := hl'
          obtain ⟨j', rfl⟩ : ∃ j', now = 2 * tT b + j' := ⟨now - 2 * tT b, by have : 2 * tT b ≤ now := n1; omega⟩
          obtain ⟨w2, gw2, sp2⟩ := hw j' (by have : 2 * tT b + j' < 3 * tT b := n2; omega)
          have e2 := (sp2.uniq sp').1
          cases e2
          have h2 : (w' : Int) ≤ (l' : Int) := hmin _ (get_mem gw2)
          omega
        · rw [show w' - 1 + 1 = w' by omega]
          exact ⟨2 * tT b + j, Nat.le_add_right _ _, by show 2 * tT b + j < 3 * tT b; omega, sp⟩
    · rw [decide_eq_false hk]
      have hs := R.step_ok ok
      have nr : R.isRgh = false := by
        cases e : R.isRgh with
        | false => rfl
        | true => exact absurd ((R.rough_iff).mpr e) hk
      have a1 := ags_fin ok nr
      refine iteF ⟨_, rfl, _, rfl, p, R, R.fin, _, rfl, rfl, hp1, ok, nr, fin_most R, _, _, rfl, rfl, _, rfl, p, _, _, _, rfl, rfl, SqT.of hp1, R.at2 hk, _, _, rfl, rfl, .inr (le64 (by omega) (by omega)), ?_⟩
      dsimp only
      rw [show (R.ags R.fin : Int) - 1 = ((R.ags R.fin - 1 : Nat) : Int) by omega]
      exact q ((R.ags R.fin - 1) * R.step) H1 (.inr ⟨nr, rfl⟩) s1
end
/-! ### whether two things are alike: the same data on both sides -/
theorem Same.seqT {K : PySem.W.Frag} {H H' : Hp} {a : Addr} {xs : List V} (e : Same H H') (h : SqT K H a xs) : SqT K H' a xs := by
  rcases h with (h | ⟨o, h⟩) | h
  · exact .inl (.inl (e _ _ h))
  · exact .inl (.inr ⟨o, e _ _ h⟩)
  · exact .inr h
mutual
theorem Dp.same {K : PySem.W.Frag} {H H' : Hp} (e : Same H H') : ∀ (d : PyData) (v : V), Dp K H v d → Dp K H' v d
  | .none, _, h => by cases h; exact .non
  | .bool b, _, h => by cases h; exact .bl b
  | .int i, _, h => by cases h; exact .int i
  | .str x, _, h => by cases h; exact .str x
  | .list ds, _, h => by
    cases h with
    | lst hs ha => exact .lst (Same.seq e hs) (DpAll.same e ds _ ha)
  | .tuple ds, _, h => by
    cases h with
    | tup hs ha => exact .tup (Same.seqT e hs) (DpAll.same e ds _ ha)
  | .dict _, _, h => by cases h
theorem DpAll.same {K : PySem.W.Frag} {H H' : Hp} (e : Same H H') : ∀ (ds : List PyData) (vs : List V), DpAll K H vs ds → DpAll K H' vs ds
  | [], _, h => by cases h; exact .nil
  | d :: ds, _, h => by
    cases h with
    | cons h1 h2 => exact .cons (Dp.same e d _ h1) (DpAll.same e ds _ h2)
end
theorem dpAll_len {K : PySem.W.Frag} {H : Hp} : ∀ {ds : List PyData} {vs : List V}, DpAll K H vs ds → vs.length = ds.length
  | [], _, h => by cases h; rfl
  | d :: ds, _, h => by
    cases h with
    | cons h1 h2 => exact congrArg (· + 1) (dpAll_len h2)
theorem dpAll_get {K : PySem.W.Frag} {H : Hp} : ∀ {ds : List PyData} {vs : List V} {i : Nat}, DpAll K H vs ds → i < ds.length → ∃ v d, vs[i]? = some v ∧ ds[i]? = some d ∧ Dp K H v d
  | [], _, _, _, l => absurd l (Nat.not_lt_zero _)
  | d :: ds, _, 0, h, _ => by
    cases h with
    | cons h1 h2 => exact ⟨_, d, rfl, rfl, h1⟩
  | d :: ds, _, i + 1, h, l => by
    cases h with
    | cons h1 h2 =>
      obtain ⟨v, d', e1, e2, e3⟩ := dpAll_get h2 (Nat.lt_of_succ_lt_succ l)
      exact ⟨v, d', e1, e2, e3⟩
theorem depth_get : ∀ {ds : List PyData} {i : Nat} {d : PyData}, ds[i]? = some d → PyData.depth d ≤ PyData.depthAll ds
  | [], _, _, h => by simp at h
  | x :: ds, 0, d, h => by
    have e : x = d := Option.some.inj h
    subst e
    simp only [PyData.depthAll]
    omega
  | x :: ds, i + 1, d, h => by
    have ih := depth_get (ds := ds) (i := i) (d := d) h
    simp only [PyData.depthAll]
    omega
mutual
/-- lists of at most a thousand items -/
def szOk : PyData → Bool
  | .list xs => decide (xs.length ≤ 1000) && szAll xs
  | .tuple xs => decide (xs.length ≤ 1000) && szAll xs
  | _ => true
def szAll : List PyData → Bool
  | [] => true
  | x :: r => szOk x && szAll r
end
theorem szOk_lst {ds : List PyData} (h : szOk (.list ds) = true) : ds.length ≤ 1000 ∧ szAll ds = true := by
  simp only [szOk, Bool.and_eq_true, decide_eq_true_eq] at h
  exact h
theorem szOk_tup {ds : List PyData} (h : szOk (.tuple ds) = true) : ds.length ≤ 1000 ∧ szAll ds = true := by
  simp only [szOk, Bool.and_eq_true, decide_eq_true_eq] at h
  exact h
theorem sz_get : ∀ {ds : List PyData} {i : Nat} {d : PyData}, ds[i]? = some d → szAll ds = true → szOk d = true
  | [], _, _, h, _ => by simp at h
  | x :: ds, 0, d, h, a => by
    have e : x = d := Option.some.inj h
    subst e
    simp only [szAll, Bool.and_eq_true] at a
    exact a.1
  | x :: ds, i + 1, d, h, a => by
    simp only [szAll, Bool.and_eq_true] at a
    exact sz_get (ds := ds) (i := i) (d := d) h a.2
theorem ty_list {K : PySem.W.Frag} {H : Hp} {a : Addr} {xs : List V} (h : SqL K H a xs) : TyX K H (.ref a) (.type "list") := by
  rcases h with (h | ⟨o, h⟩) | ⟨o, its, n, hk, hc, _⟩
  · exact .base (.lst h)
  · exact .base (.frz h)
  · exact .kList hk hc
theorem ty_tup {K : PySem.W.Frag} {H : Hp} {a : Addr} {xs : List V} (h : SqT K H a xs) : TyX K H (.ref a) (.type "tuple") := by
  rcases h with (h | ⟨o, h⟩) | ⟨o, its, n, hk, hc, _⟩
  · exact .base (.tup h)
  · exact .fTuple h
  · exact .kTuple hk hc
/-- alike: the same data, of small lists -/
def spAlike (K : PySem.W.Frag) (n : Nat) : Sp := fun vs H Q _ => ∃ (x y : V) (d : PyData), vs = [x, y] ∧ Dp K H x d ∧ Dp K H y d ∧ PyData.depth d ≤ n ∧ szOk d = true ∧ ∀ H', Same H H' → Q (.bl true) H'
section
variable {P : Program} {w : World} {K : PySem.W.Frag} {mg : Str → Option Value} {base : Heap}
theorem sc_alike : FnScope ["_law_found", "_law_due", "_law_k"] ["_law_found", "_law_due"] (defScope s_L_alike) := ⟨rfl, rfl, rfl, by decide +kernel, rfl, by decide +kernel, by decide +kernel⟩
theorem ok_alike0 (D : DefAt K mg "_law_alike" s_L_alike ["_law_found", "_law_due"]) (m_isi : mg "isinstance" = none) (m_tuple : mg "tuple" = none) (m_list : mg "list" = none) (m_str : mg "str" = none) (m_bool : mg "bool" = none) (m_int : mg "int" = none) :
    Cl P w K mg base 1 "_law_alike" ["_law_found", "_law_due"] (spAlike K 0) := by
  refine D.cl fun f fd F => ?_
  refine F.ok sc_alike (fun vs H Q E h => ?_) (fun cdv A outer s H vs Q E hr h => ?_)
  · obtain ⟨x, y, d, rfl, _⟩ := h
    rfl
  · obtain ⟨x, y, d, rfl, hx, hy, hd, hz, q⟩ := h
    refine ⟨_, pss_cons (ps_if (pt_val (pe_callB call_isiT (by rfl) m_isi (by decide +kernel) (pa_cons (pv 1) (pa_cons (pe_tup (pa_cons (pe_bltn (v := .ty "tuple") (u := .type "tuple") (by rfl) m_tuple (by decide +kernel) rfl) (pa_cons (pe_bltn (v := .ty "list") (u := .type "list") (by rfl) m_list (by decide +kernel) rfl) pa_nil))) pa_nil)))) pss_never pss_nil)
      (pss_cons (ps_if (pt_cmp (pc_isN (pv 1)) rfl) (pss_one (ps_ret (pe_cmp (pc_isN (pv 0)) rfl))) pss_nil)
      (pss_cons (ps_if (pt_val (pe_callB call_isi (by rfl) m_isi (by decide +kernel) (pa_cons (pv 1) (pa_cons (pe_bltn (v := .ty "str") (u := .type "str") (by rfl) m_str (by decide +kernel) rfl) pa_nil)))) (pss_one (ps_ret (pe_and (pe_callB call_isi (by rfl) m_isi (by decide +kernel) (pa_cons (pv 0) (pa_cons (pe_bltn (v := .ty "str") (u := .type "str") (by rfl) m_str (by decide +kernel) rfl) pa_nil))) (pe_one (pe_cmpR op_eq (pv 0) (pv 1) (nomark _)))))) pss_nil)
      (pss_cons (ps_if (PW.pt (pw_or (pt_val (pe_callB call_isi (by rfl) m_isi (by decide +kernel) (pa_cons (pv 1) (pa_cons (pe_bltn (v := .ty "bool") (u := .type "bool") (by rfl) m_bool (by decide +kernel) rfl) pa_nil)))) (pw_or1 (pt_val (pe_callB call_isi (by rfl) m_isi (by decide +kernel) (pa_cons (pv 0) (pa_cons (pe_bltn (v := .ty "bool") (u := .type "bool") (by rfl) m_bool (by decide +kernel) rfl) pa_nil))))))) (pss_one (ps_ret (pe_and (pe_callB call_isi (by rfl) m_isi (by decide +kernel) (pa_cons (pv 1) (pa_cons (pe_bltn (v := .ty "bool") (u := .type "bool") (by rfl) m_bool (by decide +kernel) rfl) pa_nil))) (pe_and (pe_callB call_isi (by rfl) m_isi (by decide +kernel) (pa_cons (pv 0) (pa_cons (pe_bltn (v := .ty "bool") (u := .type "bool") (by rfl) m_bool (by decide +kernel) rfl) pa_nil))) (pe_one (pe_cmpR op_eq (pv 0) (pv 1) (nomark _))))))) pss_nil)
      (pss_one (ps_ret (pe_and (pe_callB call_isi (by rfl) m_isi (by decide +kernel) (pa_cons (pv 0) (pa_cons (pe_bltn (v := .ty "int") (u := .type "int") (by rfl) m_int (by decide +kernel) rfl) pa_nil))) (pe_one (pe_cmpR op_eq (pv 0) (pv 1) (nomark _))))))))), ?_⟩
    cases hx with
    | non =>
      cases hy
      refine ⟨_, rfl, (by show 2 ≤ sizeLine; decide), fun p np => ?_⟩
      refine ⟨.non, p, _, _, _, false, rfl, upd_same, .cons (.ty "tuple") (.cons (.ty "list") .nil), .base (.non), (kitAny_cons (b := false) (kit_ty (by decide +kernel)) (fun _ => kitAny_cons (b := false) (kit_ty (by decide +kernel)) (fun _ => kitAny_nil) (fun e => nomatch e)) (fun e => nomatch e)), _, rfl, iteF ?_⟩
      refine ⟨_, rfl, _, rfl, ?_⟩
      rw [decide_eq_true rfl]
      exact iteT ⟨_, rfl, q _ (same_upd np)⟩
    | bl b =>
      cases hy
      refine ⟨_, rfl, (by show 2 ≤ sizeLine; decide), fun p np => ?_⟩
      refine ⟨.bl b, p, _, _, _, false, rfl, upd_same, .cons (.ty "tuple") (.cons (.ty "list") .nil), .base (.bl b), (kitAny_cons (b := false) (kit_ty (by decide +kernel)) (fun _ => kitAny_cons (b := false) (kit_ty (by decide +kernel)) (fun _ => kitAny_nil) (fun e => nomatch e)) (fun e => nomatch e)), _, rfl, iteF ?_⟩
      refine ⟨_, rfl, _, rfl, ?_⟩
      rw [decide_eq_false (show ¬ V.bl b = .non from fun z => nomatch z)]
      refine iteF ?_
      refine ⟨_, rfl, .bl b, _, _, _, false, rfl, .ty "str", .base (.bl b), kit_ty (by decide +kernel), _, rfl, iteF ?_⟩
      refine ⟨_, rfl, .bl b, _, _, _, true, rfl, .ty "bool", .base (.bl b), kit_ty (by decide +kernel), _, rfl, iteT ?_⟩
      refine ⟨_, rfl, .bl b, _, _, _, true, rfl, .ty "bool", .base (.bl b), kit_ty (by decide +kernel), true, rfl, iteT ?_⟩
      refine ⟨_, rfl, .bl b, _, _, _, true, rfl, .ty "bool", .base (.bl b), kit_ty (by decide +kernel), true, rfl, iteT ⟨_, rfl, _, rfl, rfl, ?_⟩⟩
      rw [decide_eq_true rfl]
      exact q _ (same_upd np)
    | int i =>
      cases hy
      refine ⟨_, rfl, (by show 2 ≤ sizeLine; decide), fun p np => ?_⟩
      refine ⟨.int i, p, _, _, _, false, rfl, upd_same, .cons (.ty "tuple") (.cons (.ty "list") .nil), .base (.int i), (kitAny_cons (b := false) (kit_ty (by decide +kernel)) (fun _ => kitAny_cons (b := false) (kit_ty (by decide +kernel)) (fun _ => kitAny_nil) (fun e => nomatch e)) (fun e => nomatch e)), _, rfl, iteF ?_⟩
      refine ⟨_, rfl, _, rfl, ?_⟩
      rw [decide_eq_false (show ¬ V.int i = .non from fun z => nomatch z)]
      refine iteF ?_
      refine ⟨_, rfl, .int i, _, _, _, false, rfl, .ty "str", .base (.int i), kit_ty (by decide +kernel), _, rfl, iteF ?_⟩
      refine ⟨_, rfl, .int i, _, _, _, false, rfl, .ty "bool", .base (.int i), kit_ty (by decide +kernel), _, rfl, iteF ?_⟩
      refine ⟨_, rfl, .int i, _, _, _, false, rfl, .ty "bool", .base (.int i), kit_ty (by decide +kernel), _, rfl, iteF ?_⟩
      refine ⟨_, rfl, .int i, _, _, _, true, rfl, .ty "int", .base (.int i), kit_ty (by decide +kernel), true, rfl, iteT ⟨_, rfl, _, rfl, rfl, ?_⟩⟩
      rw [decide_eq_true rfl]
      exact q _ (same_upd np)
    | str s =>
      cases hy
      refine ⟨_, rfl, (by show 2 ≤ sizeLine; decide), fun p np => ?_⟩
      refine ⟨.str s, p, _, _, _, false, rfl, upd_same, .cons (.ty "tuple") (.cons (.ty "list") .nil), .base (.str s), (kitAny_cons (b := false) (kit_ty (by decide +kernel)) (fun _ => kitAny_cons (b := false) (kit_ty (by decide +kernel)) (fun _ => kitAny_nil) (fun e => nomatch e)) (fun e => nomatch e)), _, rfl, iteF ?_⟩
      refine ⟨_, rfl, _, rfl, ?_⟩
      rw [decide_eq_false (show ¬ V.str s = .non from fun z => nomatch z)]
      refine iteF ?_
      refine ⟨_, rfl, .str s, _, _, _, true, rfl, .ty "str", .base (.str s), kit_ty (by decide +kernel), _, rfl, iteT ?_⟩
      refine ⟨_, rfl, .str s, _, _, _, true, rfl, .ty "str", .base (.str s), kit_ty (by decide +kernel), true, rfl, iteT ⟨_, rfl, _, rfl, rfl, ?_⟩⟩
      rw [decide_eq_true rfl]
      exact q _ (same_upd np)
    | lst hs ha => exact absurd hd (Nat.not_succ_le_zero _)
    | tup hs ha => exact absurd hd (Nat.not_succ_le_zero _)
theorem ok_alikeS {n : Nat} (D : DefAt K mg "_law_alike" s_L_alike ["_law_found", "_law_due"]) (m_isi : mg "isinstance" = none) (m_tuple : mg "tuple" = none) (m_list : mg "list" = none) (m_str : mg "str" = none) (m_bool : mg "bool" = none) (m_int : mg "int" = none) (m_len : mg "len" = none) (m_range : mg "range" = none)
    (C1 : Cl P w K mg base (n + 1) "_law_alike" ["_law_found", "_law_due"] (spAlike K n)) : Cl P w K mg base (n + 2) "_law_alike" ["_law_found", "_law_due"] (spAlike K (n + 1)) := by
  refine D.cl fun f fd F => ?_
  refine F.ok sc_alike (fun vs H Q E h => ?_) (fun cdv A outer s H vs Q E hr h => ?_)
  · obtain ⟨x, y, d, rfl, _⟩ := h
    rfl
  · obtain ⟨x, y, d, rfl, hx, hy, hd, hz, q⟩ := h
    refine ⟨_, pss_cons (ps_if (pt_val (pe_callB call_isiT (by rfl) m_isi (by decide +kernel) (pa_cons (pv 1) (pa_cons (pe_tup (pa_cons (pe_bltn (v := .ty "tuple") (u := .type "tuple") (by rfl) m_tuple (by decide +kernel) rfl) (pa_cons (pe_bltn (v := .ty "list") (u := .type "list") (by rfl) m_list (by decide +kernel) rfl) pa_nil))) pa_nil))))
        (pss_cons (ps_if (PW.pt (pw_or (pt_not (pt_val (pe_callB call_isiT (by rfl) m_isi (by decide +kernel) (pa_cons (pv 0) (pa_cons (pe_tup (pa_cons (pe_bltn (v := .ty "tuple") (u := .type "tuple") (by rfl) m_tuple (by decide +kernel) rfl) (pa_cons (pe_bltn (v := .ty "list") (u := .type "list") (by rfl) m_list (by decide +kernel) rfl) pa_nil))) pa_nil))))) (pw_or1 (pt_cmpR op_ne (pe_callB call_isi (by rfl) m_isi (by decide +kernel) (pa_cons (pv 0) (pa_cons (pe_bltn (v := .ty "list") (u := .type "list") (by rfl) m_list (by decide +kernel) rfl) pa_nil))) (pe_callB call_isi (by rfl) m_isi (by decide +kernel) (pa_cons (pv 1) (pa_cons (pe_bltn (v := .ty "list") (u := .type "list") (by rfl) m_list (by decide +kernel) rfl) pa_nil))) (nomark _))))) pss_never pss_nil)
        (pss_cons (ps_if (pt_cmpR op_ne (pe_callB call_len_seq (by rfl) m_len PySem.boot_len (pa_cons (pv 0) pa_nil)) (pe_callB call_len_seq (by rfl) m_len PySem.boot_len (pa_cons (pv 1) pa_nil)) (nomark _)) pss_never pss_nil)
        (pss_one (ps_ret (pe_cmpR (op_eqD hr.units) (pe_lc (own := [("_law_k", 2)]) (g := gName 2) (tt := tNot (tB (tCall (spAlike K n) [] E0 (tCons (tOp (rIx K) (tVar 0) (tVar 2)) (tCons (tOp (rIx K) (tVar 1) (tVar 2)) tNil))))) rfl sc_alike.nd
          (pi_range1 (by rfl) m_range (pa_cons (pe_callB call_len_seq (by rfl) m_len PySem.boot_len (pa_cons (pv 1) pa_nil)) pa_nil)) (blkOk_by (N := ["_law_found", "_law_due", "_law_k"]) (sc := defScope s_L_alike) (by decide +kernel))
          (fun _ _ _ _ _ => by exact pg_name (i := 2) sc_alike.nd rfl (Or.inl rfl)) (fun _ _ _ _ _ => by exact pts_one (pt_not (pt_val (pe_cl C1 hr (pa_cons (pe_ix ix_seq (pv 0) (pv 2) (fun _ _ => rfl)) (pa_cons (pe_ix ix_seq (pv 1) (pv 2) (fun _ _ => rfl)) pa_nil)) (Nat.le_refl _)))))
          (fun _ _ _ _ _ => by exact pv 2)) (pe_lst pa_nil) (nomark _)))))) pss_nil)
      (pss_cons (ps_if (pt_cmp (pc_isN (pv 1)) rfl) (pss_one (ps_ret (pe_cmp (pc_isN (pv 0)) rfl))) pss_nil)
      (pss_cons (ps_if (pt_val (pe_callB call_isi (by rfl) m_isi (by decide +kernel) (pa_cons (pv 1) (pa_cons (pe_bltn (v := .ty "str") (u := .type "str") (by rfl) m_str (by decide +kernel) rfl) pa_nil)))) (pss_one (ps_ret (pe_and (pe_callB call_isi (by rfl) m_isi (by decide +kernel) (pa_cons (pv 0) (pa_cons (pe_bltn (v := .ty "str") (u := .type "str") (by rfl) m_str (by decide +kernel) rfl) pa_nil))) (pe_one (pe_cmpR op_eq (pv 0) (pv 1) (nomark _)))))) pss_nil)
      (pss_cons (ps_if (PW.pt (pw_or (pt_val (pe_callB call_isi (by rfl) m_isi (by decide +kernel) (pa_cons (pv 1) (pa_cons (pe_bltn (v := .ty "bool") (u := .type "bool") (by rfl) m_bool (by decide +kernel) rfl) pa_nil)))) (pw_or1 (pt_val (pe_callB call_isi (by rfl) m_isi (by decide +kernel) (pa_cons (pv 0) (pa_cons (pe_bltn (v := .ty "bool") (u := .type "bool") (by rfl) m_bool (by decide +kernel) rfl) pa_nil))))))) (pss_one (ps_ret (pe_and (pe_callB call_isi (by rfl) m_isi (by decide +kernel) (pa_cons (pv 1) (pa_cons (pe_bltn (v := .ty "bool") (u := .type "bool") (by rfl) m_bool (by decide +kernel) rfl) pa_nil))) (pe_and (pe_callB call_isi (by rfl) m_isi (by decide +kernel) (pa_cons (pv 0) (pa_cons (pe_bltn (v := .ty "bool") (u := .type "bool") (by rfl) m_bool (by decide +kernel) rfl) pa_nil))) (pe_one (pe_cmpR op_eq (pv 0) (pv 1) (nomark _))))))) pss_nil)
      (pss_one (ps_ret (pe_and (pe_callB call_isi (by rfl) m_isi (by decide +kernel) (pa_cons (pv 0) (pa_cons (pe_bltn (v := .ty "int") (u := .type "int") (by rfl) m_int (by decide +kernel) rfl) pa_nil))) (pe_one (pe_cmpR op_eq (pv 0) (pv 1) (nomark _))))))))), ?_⟩
    cases hx with
    | non =>
      cases hy
      refine ⟨_, rfl, (by show 2 ≤ sizeLine; decide), fun p np => ?_⟩
      refine ⟨.non, p, _, _, _, false, rfl, upd_same, .cons (.ty "tuple") (.cons (.ty "list") .nil), .base (.non), (kitAny_cons (b := false) (kit_ty (by decide +kernel)) (fun _ => kitAny_cons (b := false) (kit_ty (by decide +kernel)) (fun _ => kitAny_nil) (fun e => nomatch e)) (fun e => nomatch e)), _, rfl, iteF ?_⟩
      refine ⟨_, rfl, _, rfl, ?_⟩
      rw [decide_eq_true rfl]
      exact iteT ⟨_, rfl, q _ (same_upd np)⟩
    | bl b =>
      cases hy
      refine ⟨_, rfl, (by show 2 ≤ sizeLine; decide), fun p np => ?_⟩
      refine ⟨.bl b, p, _, _, _, false, rfl, upd_same, .cons (.ty "tuple") (.cons (.ty "list") .nil), .base (.bl b), (kitAny_cons (b := false) (kit_ty (by decide +kernel)) (fun _ => kitAny_cons (b := false) (kit_ty (by decide +kernel)) (fun _ => kitAny_nil) (fun e => nomatch e)) (fun e => nomatch e)), _, rfl, iteF ?_⟩
      refine ⟨_, rfl, _, rfl, ?_⟩
      rw [decide_eq_false (show ¬ V.bl b = .non from fun z => nomatch z)]
      refine iteF ?_
      refine ⟨_, rfl, .bl b, _, _, _, false, rfl, .ty "str", .base (.bl b), kit_ty (by decide +kernel), _, rfl, iteF ?_⟩
      refine ⟨_, rfl, .bl b, _, _, _, true, rfl, .ty "bool", .base (.bl b), kit_ty (by decide +kernel), _, rfl, iteT ?_⟩
      refine ⟨_, rfl, .bl b, _, _, _, true, rfl, .ty "bool", .base (.bl b), kit_ty (by decide +kernel), true, rfl, iteT ?_⟩
      refine ⟨_, rfl, .bl b, _, _, _, true, rfl, .ty "bool", .base (.bl b), kit_ty (by decide +kernel), true, rfl, iteT ⟨_, rfl, _, rfl, rfl, ?_⟩⟩
      rw [decide_eq_true rfl]
      exact q _ (same_upd np)
    | int i =>
      cases hy
      refine ⟨_, rfl, (by show 2 ≤ sizeLine; decide), fun p np => ?_⟩
      refine ⟨.int i, p, _, _, _, false, rfl, upd_same, .cons (.ty "tuple") (.cons (.ty "list") .nil), .base (.int i), (kitAny_cons (b := false) (kit_ty (by decide +kernel)) (fun _ => kitAny_cons (b := false) (kit_ty (by decide +kernel)) (fun _ => kitAny_nil) (fun e => nomatch e)) (fun e => nomatch e)), _, rfl, iteF ?_⟩
      refine ⟨_, rfl, _, rfl, ?_⟩
      rw [decide_eq_false (show ¬ V.int i = .non from fun z => nomatch z)]
      refine iteF ?_
      refine ⟨_, rfl, .int i, _, _, _, false, rfl, .ty "str", .base (.int i), kit_ty (by decide +kernel), _, rfl, iteF ?_⟩
      refine ⟨_, rfl, .int i, _, _, _, false, rfl, .ty "bool", .base (.int i), kit_ty (by decide +kernel), _, rfl, iteF ?_⟩
      refine ⟨_, rfl, .int i, _, _, _, false, rfl, .ty "bool", .base (.int i), kit_ty (by decide +kernel), _, rfl, iteF ?_⟩
      refine ⟨_, rfl, .int i, _, _, _, true, rfl, .ty "int", .base (.int i), kit_ty (by decide +kernel), true, rfl, iteT ⟨_, rfl, _, rfl, rfl, ?_⟩⟩
      rw [decide_eq_true rfl]
      exact q _ (same_upd np)
    | str s =>
      cases hy
      refine ⟨_, rfl, (by show 2 ≤ sizeLine; decide), fun p np => ?_⟩
      refine ⟨.str s, p, _, _, _, false, rfl, upd_same, .cons (.ty "tuple") (.cons (.ty "list") .nil), .base (.str s), (kitAny_cons (b := false) (kit_ty (by decide +kernel)) (fun _ => kitAny_cons (b := false) (kit_ty (by decide +kernel)) (fun _ => kitAny_nil) (fun e => nomatch e)) (fun e => nomatch e)), _, rfl, iteF ?_⟩
      refine ⟨_, rfl, _, rfl, ?_⟩
      rw [decide_eq_false (show ¬ V.str s = .non from fun z => nomatch z)]
      refine iteF ?_
      refine ⟨_, rfl, .str s, _, _, _, true, rfl, .ty "str", .base (.str s), kit_ty (by decide +kernel), _, rfl, iteT ?_⟩
      refine ⟨_, rfl, .str s, _, _, _, true, rfl, .ty "str", .base (.str s), kit_ty (by decide +kernel), true, rfl, iteT ⟨_, rfl, _, rfl, rfl, ?_⟩⟩
      rw [decide_eq_true rfl]
      exact q _ (same_upd np)
    | @lst a xs ds hs hal =>
      cases hy with
      | @lst a2 ys _ hs2 hal2 =>
      have lx := dpAll_len hal
      have ly := dpAll_len hal2
      obtain ⟨zl, za⟩ := szOk_lst hz
      have hdd : PyData.depthAll ds ≤ n := Nat.le_of_succ_le_succ hd
      refine ⟨_, rfl, (by show 2 ≤ sizeLine; decide), fun p np => ?_⟩
      have s1 := same_upd (o := .tup [V.ty "tuple", V.ty "list"]) np
      refine ⟨.ref a2, p, _, _, _, true, rfl, upd_same, .cons (.ty "tuple") (.cons (.ty "list") .nil), ty_list (Same.seq s1 hs2), (kitAny_cons (b := false) (kit_ty (by decide +kernel)) (fun _ => kitAny_cons (b := true) (r := true) (kit_ty (by decide +kernel)) (fun e => nomatch e) (fun _ => rfl)) (fun e => nomatch e)), _, rfl, iteT ?_⟩
      refine ⟨_, rfl, (by show 2 ≤ sizeLine; decide), fun p2 np2 => ?_⟩
      have s2 := s1.trans (same_upd (o := .tup [V.ty "tuple", V.ty "list"]) np2)
      refine ⟨.ref a, p2, _, _, _, true, rfl, upd_same, .cons (.ty "tuple") (.cons (.ty "list") .nil), ty_list (Same.seq s2 hs), (kitAny_cons (b := false) (kit_ty (by decide +kernel)) (fun _ => kitAny_cons (b := true) (r := true) (kit_ty (by decide +kernel)) (fun e => nomatch e) (fun _ => rfl)) (fun e => nomatch e)), _, rfl, iteF ?_⟩
      refine ⟨_, rfl, .ref a, _, _, _, true, rfl, .ty "list", ty_list (Same.seq s2 hs), kit_ty (by decide +kernel), ?_⟩
      refine ⟨_, rfl, .ref a2, _, _, _, true, rfl, .ty "list", ty_list (Same.seq s2 hs2), kit_ty (by decide +kernel), rfl, _, rfl, iteF ?_⟩
      refine ⟨_, rfl, a, xs, rfl, .inl (Same.seq s2 hs), _, rfl, a2, ys, rfl, .inl (Same.seq s2 hs2), rfl, _, rfl, ?_⟩
      rw [lx, ly]
      refine iteNS rfl ?_
      have sz : ds.length ≤ sizeLine := by
        exact Nat.le_trans zl (by decide)
      have szn : sizeLine < 2 ^ 62 := by decide
      refine ⟨_, rfl, a2, ys, rfl, .inl (Same.seq s2 hs2), _, rfl, by omega, by omega, fun D nD => ?_⟩
      rw [Int.toNat_natCast, ly]
      refine lc_range (lo := 0) (n := ds.length) (fun i H3 => Same (upd (upd H p (.tup [V.ty "tuple", V.ty "list"])) p2 (.tup [V.ty "tuple", V.ty "list"])) H3 ∧ H3 D = some (.lst [])) ⟨same_upd nD, upd_same⟩ ?_ ?_
      · rintro i H3 hi ⟨s3, eD⟩
        have s4 := s2.trans s3
        obtain ⟨v, d, gv, gd, hv⟩ := dpAll_get hal hi
        obtain ⟨v2, d2, gv2, gd2, hv2⟩ := dpAll_get hal2 hi
        have ed : d2 = d := Option.some.inj (gd2.symm.trans gd)
        subst ed
        refine ⟨rfl, _, rfl, _, rfl, .inl ⟨a, _, _, _, rfl, rfl, Same.seq s4 hs, at_of (j := i) (Int.zero_add _) gv, ?_⟩⟩
        refine ⟨_, rfl, _, rfl, .inl ⟨a2, _, _, _, rfl, rfl, Same.seq s4 hs2, at_of (j := i) (Int.zero_add _) gv2, ?_⟩⟩
        refine ⟨v, v2, d2, rfl, Dp.same s4 d2 _ hv, Dp.same s4 d2 _ hv2, Nat.le_trans (depth_get gd) hdd, sz_get gd za, fun H5 s5 => ⟨_, rfl, ?_⟩⟩
        exact ⟨s3.trans s5, s5 _ _ eD⟩
      · rintro H3 ⟨s3, eD⟩
        refine ⟨Nat.zero_le _, fun p3 np3 => ?_⟩
        refine ⟨.list [], .list [], Dp.lst (SqL.of (same_upd np3 _ _ eD)) .nil, Dp.lst (SqL.of upd_same) .nil, PySem.W.shaped_ints [], PySem.W.shaped_ints [], ?_⟩
        rw [show PyData.eqv (.list []) (.list []) = true from eqv_nil []]
        exact q _ ((s2.trans s3).trans (same_upd np3))
    | @tup a xs ds hs hal =>
      cases hy with
      | @tup a2 ys _ hs2 hal2 =>
      have lx := dpAll_len hal
      have ly := dpAll_len hal2
      obtain ⟨zl, za⟩ := szOk_tup hz
      have hdd : PyData.depthAll ds ≤ n := Nat.le_of_succ_le_succ hd
      refine ⟨_, rfl, (by show 2 ≤ sizeLine; decide), fun p np => ?_⟩
      have s1 := same_upd (o := .tup [V.ty "tuple", V.ty "list"]) np
      refine ⟨.ref a2, p, _, _, _, true, rfl, upd_same, .cons (.ty "tuple") (.cons (.ty "list") .nil), ty_tup (Same.seqT s1 hs2), (kitAny_cons (b := true) (r := true) (kit_ty (by decide +kernel)) (fun e => nomatch e) (fun _ => rfl)), _, rfl, iteT ?_⟩
      refine ⟨_, rfl, (by show 2 ≤ sizeLine; decide), fun p2 np2 => ?_⟩
      have s2 := s1.trans (same_upd (o := .tup [V.ty "tuple", V.ty "list"]) np2)
      refine ⟨.ref a, p2, _, _, _, true, rfl, upd_same, .cons (.ty "tuple") (.cons (.ty "list") .nil), ty_tup (Same.seqT s2 hs), (kitAny_cons (b := true) (r := true) (kit_ty (by decide +kernel)) (fun e => nomatch e) (fun _ => rfl)), _, rfl, iteF ?_⟩
      refine ⟨_, rfl, .ref a, _, _, _, false, rfl, .ty "list", ty_tup (Same.seqT s2 hs), kit_ty (by decide +kernel), ?_⟩
      refine ⟨_, rfl, .ref a2, _, _, _, false, rfl, .ty "list", ty_tup (Same.seqT s2 hs2), kit_ty (by decide +kernel), rfl, _, rfl, iteF ?_⟩
      refine ⟨_, rfl, a, xs, rfl, .inr (Same.seqT s2 hs), _, rfl, a2, ys, rfl, .inr (Same.seqT s2 hs2), rfl, _, rfl, ?_⟩
      rw [lx, ly]
      refine iteNS rfl ?_
      have sz : ds.length ≤ sizeLine := by
        exact Nat.le_trans zl (by decide)
      have szn : sizeLine < 2 ^ 62 := by decide
      refine ⟨_, rfl, a2, ys, rfl, .inr (Same.seqT s2 hs2), _, rfl, by omega, by omega, fun D nD => ?_⟩
      rw [Int.toNat_natCast, ly]
      refine lc_range (lo := 0) (n := ds.length) (fun i H3 => Same (upd (upd H p (.tup [V.ty "tuple", V.ty "list"])) p2 (.tup [V.ty "tuple", V.ty "list"])) H3 ∧ H3 D = some (.lst [])) ⟨same_upd nD, upd_same⟩ ?_ ?_
      · rintro i H3 hi ⟨s3, eD⟩
        have s4 := s2.trans s3
        obtain ⟨v, d, gv, gd, hv⟩ := dpAll_get hal hi
        obtain ⟨v2, d2, gv2, gd2, hv2⟩ := dpAll_get hal2 hi
        have ed : d2 = d := Option.some.inj (gd2.symm.trans gd)
        subst ed
        refine ⟨rfl, _, rfl, _, rfl, .inr (.inl ⟨a, _, _, _, rfl, rfl, Same.seqT s4 hs, at_of (j := i) (Int.zero_add _) gv, ?_⟩)⟩
        refine ⟨_, rfl, _, rfl, .inr (.inl ⟨a2, _, _, _, rfl, rfl, Same.seqT s4 hs2, at_of (j := i) (Int.zero_add _) gv2, ?_⟩)⟩
        refine ⟨v, v2, d2, rfl, Dp.same s4 d2 _ hv, Dp.same s4 d2 _ hv2, Nat.le_trans (depth_get gd) hdd, sz_get gd za, fun H5 s5 => ⟨_, rfl, ?_⟩⟩
        exact ⟨s3.trans s5, s5 _ _ eD⟩
      · rintro H3 ⟨s3, eD⟩
        refine ⟨Nat.zero_le _, fun p3 np3 => ?_⟩
        refine ⟨.list [], .list [], Dp.lst (SqL.of (same_upd np3 _ _ eD)) .nil, Dp.lst (SqL.of upd_same) .nil, PySem.W.shaped_ints [], PySem.W.shaped_ints [], ?_⟩
        rw [show PyData.eqv (.list []) (.list []) = true from eqv_nil []]
        exact q _ ((s2.trans s3).trans (same_upd np3))
end

/-! ### the law's own helpers -/
def spMix (K : PySem.W.Frag) : Sp := fun vs H Q _ => ∃ (a : Addr) (sd : Int) (ns : List Int), vs = [.ref a, .int sd] ∧ SqL K H a (ns.map V.int) ∧ ns.length ≤ 63 ∧ 0 ≤ sd ∧ sd < 2147483647 ∧ ∀ H' h c, HAt H' h c → H h = none → H c = none → Same H H' → Q (.ref h) H'
def spNext : Sp := fun vs H Q _ => ∃ (h c : Addr) (m : Int), vs = [.ref h, .int m] ∧ 1 ≤ m ∧ m < 1073741824 ∧ HAt H h c ∧ ∀ (r : Nat) H', (r : Int) < m → HAt H' h c → Kp2 h c H H' → Q (.int (r : Int)) H'
section
variable {P : Program} {w : World} {K : PySem.W.Frag} {mg : Str → Option Value} {base : Heap}
theorem sc_mix : FnScope ["_law_script", "_law_seed", "_law_mixed", "_law_cell"] ["_law_script", "_law_seed"] (defScope s_L_mix) := ⟨rfl, rfl, rfl, by decide +kernel, rfl, by decide +kernel, by decide +kernel⟩
theorem ok_mix (D : DefAt K mg "_law_mix" s_L_mix ["_law_script", "_law_seed"]) (m_list : mg "list" = none) : Cl P w K mg base 1 "_law_mix" ["_law_script", "_law_seed"] (spMix K) := by
  refine D.cl fun f fd F => ?_
  refine F.ok sc_mix (fun vs H Q E h => ?_) (fun cdv A outer s H vs Q E hr h => ?_)
  · obtain ⟨a, sd, ns, rfl, _⟩ := h
    rfl
  · obtain ⟨a, sd, ns, rfl, hS, hl, s0, s1, q⟩ := h
    refine ⟨_, pss_cons (ps_set (i := 2) sc_mix.nd rfl (Or.inl rfl) (pv 1))
      (pss_cons (ps_for PassesOwn.never rfl (pi_list (pv 0)) (pg_name (i := 3) sc_mix.nd rfl (Or.inl rfl))
        (pss_one (ps_set (i := 2) sc_mix.nd rfl (Or.inl rfl) (pe_op op_mod (pe_op op_add (pe_op op_add (pe_op op_mul (pv 2) pe_int) (pe_op op_mod (pv 3) pe_int)) pe_int) pe_int))))
      (pss_one (ps_ret (pe_lst (pa_cons (pv 2) (pa_cons (pe_callTy call_list_of (by rfl) m_list (by decide +kernel) (pa_cons (pv 0) pa_nil)) (pa_cons pe_int pa_nil))))))), ?_⟩
    refine ⟨_, rfl, ?_⟩
    refine ⟨_, rfl, a, rfl, ⟨_, hS⟩, for_list (K := K) (a := a) (xs := ns.map V.int) (fun i σ H' => ∃ (mx : Int) (v : Option V), σ = [some (.ref a), some (.int sd), some (.int mx), v] ∧ H' = H ∧ 0 ≤ mx ∧ mx < 2147483647)
      ⟨sd, none, rfl, rfl, s0, s1⟩ (fun i σ H' _ ⟨_, _, _, e, _⟩ => by rw [e]; exact hS) ?_ ?_⟩
    · rintro i y σ H' hi ⟨mx, v, rfl, rfl, m0, m1⟩
      obtain ⟨z, rfl⟩ : ∃ z, y = V.int z := by
        rw [List.getElem?_map] at hi
        cases e : ns[i]? with
        | none =>
          rw [e] at hi
          cases hi
        | some z =>
          rw [e] at hi
          exact ⟨z, (Option.some.inj hi).symm⟩
      refine ⟨_, rfl, _, _, rfl, rfl, .inl (le64 m0 (by omega)), _, rfl, _, _, rfl, rfl, (by show (0 : Int) < 2147483629; decide), _, _, rfl, rfl, _, _, rfl, rfl, _, _, rfl, rfl, (by show (0 : Int) < 2147483647; decide), ?_⟩
      exact ⟨_, some (.int z), rfl, rfl, Int.emod_nonneg _ (by decide), Int.emod_lt_of_pos _ (by decide)⟩
    · rintro σ H' ⟨mx, v, rfl, rfl, m0, m1⟩
      refine ⟨_, rfl, _, rfl, a, ns.map V.int, rfl, .inl hS, fun c nc => ?_⟩
      refine ⟨(by show 3 ≤ sizeLine; decide), fun h nh => ?_⟩
      have sc' : Same H' (upd H' c (.lst (ns.map V.int))) := same_upd nc
      have nch : c ≠ h := ne_of_none upd_same nh
      refine q _ h c ⟨⟨mx, 0, ns, upd_same, ?_, m0, m1, Int.le_refl 0, hl⟩, nch.symm⟩ (sc'.free nh) nc (sc'.trans (same_upd nh))
      rw [upd_ne nch, upd_same]
theorem sc_next : FnScope ["_law_h", "_law_many", "_law_at", "_law_cell"] ["_law_h", "_law_many"] (defScope s_L_next) := ⟨rfl, rfl, rfl, by decide +kernel, rfl, by decide +kernel, by decide +kernel⟩
theorem ok_next (D : DefAt K mg "_law_next" s_L_next ["_law_h", "_law_many"]) (m_max : mg "max" = none) (m_len : mg "len" = none) : Cl P w K mg base 1 "_law_next" ["_law_h", "_law_many"] spNext := by
  refine D.cl fun f fd F => ?_
  refine F.ok sc_next (fun vs H Q E h => ?_) (fun cdv A outer s H vs Q E hr h => ?_)
  · obtain ⟨h, c, m, rfl, _⟩ := h
    rfl
  · obtain ⟨h, c, m, rfl, h1, h2, ha, q⟩ := h
    obtain ⟨⟨mx, pl, ns, eh, ec, m0, m1, p0, hl⟩, nhc⟩ := ha
    refine ⟨_, pss_cons (ps_set (i := 2) sc_next.nd rfl (Or.inl rfl) (pe_op op_mod (pe_ix ix_list (pv 0) pe_int (fun _ _ => rfl)) (pe_callB (call_max2 rfl) (by rfl) m_max (by decide +kernel) (pa_cons pe_int (pa_cons (pe_callB call_len_seq (by rfl) m_len PySem.boot_len (pa_cons (pe_ix ix_list (pv 0) pe_int (fun _ _ => rfl)) pa_nil)) pa_nil)))))
      (pss_cons (ps_set (i := 3) sc_next.nd rfl (Or.inl rfl) (pe_ifExp (pt_cmpR (op_neD hr.units) (pe_ix ix_list (pv 0) pe_int (fun _ _ => rfl)) (pe_lst pa_nil) (nomark _)) (pe_ix ix_list (pe_ix ix_list (pv 0) pe_int (fun _ _ => rfl)) (pv 2) (fun _ _ => rfl)) pe_int))
      (pss_cons (ps_if (pt_cmpR op_ge (pv 3) (pe_op op_pow pe_int pe_int) (nomark _))
        (pss_cons (ps_asg (pe_op op_fdiv (pv 3) (pv 1)) (pg_sub (pe_ix ix_list (pv 0) pe_int (fun _ _ => rfl)) (pv 2) set_list)) (pss_one (ps_ret (pe_op op_mod (pv 3) (pv 1))))) pss_nil)
      (pss_cons (ps_asg (pe_op op_mod (pe_op op_add (pe_op op_add (pe_op op_mul (pe_ix ix_list (pv 0) pe_int (fun _ _ => rfl)) pe_int) (pe_op op_mul (pv 3) pe_int)) pe_int) pe_int) (pg_sub (pv 0) pe_int set_list))
      (pss_cons (ps_asg (pe_op op_add (pe_ix ix_list (pv 0) pe_int (fun _ _ => rfl)) pe_int) (pg_sub (pv 0) pe_int set_list))
      (pss_one (ps_ret (pe_op op_mod (pe_op op_fdiv (pe_ix ix_list (pv 0) pe_int (fun _ _ => rfl)) pe_int) (pv 1)))))))), ?_⟩
    have a1 : atI [V.int mx, V.ref c, V.int pl] 1 = some (.ref c) := atI_nat (j := 1) rfl
    have a0 : atI [V.int mx, V.ref c, V.int pl] 0 = some (.int mx) := atI_nat (j := 0) rfl
    have a2 : atI [V.int mx, V.ref c, V.int pl] 2 = some (.int pl) := atI_nat (j := 2) rfl
    have hz : ((ns.map V.int).length : Int) = (ns.length : Int) := by rw [List.length_map]
    obtain ⟨M, hM, hM1, hM2⟩ : ∃ M : Int, (if ((ns.map V.int).length : Int) > 1 then ((ns.map V.int).length : Int) else 1) = M ∧ 1 ≤ M ∧ (ns ≠ [] → M = ns.length) := by
      refine ⟨_, rfl, ?_, ?_⟩
      · split <;> omega
      · intro hn
        have : 1 ≤ ns.length := List.length_pos_iff.mpr hn
        rw [hz]
        split <;> omega
    -- _law_at
    refine ⟨_, rfl, h, _, _, _, rfl, rfl, SqL.of eh, a2, _, rfl, h, _, _, _, rfl, rfl, SqL.of eh, a1, c, _, rfl, .inl (SqL.of ec), _, _, rfl, ?_⟩
    dsimp only
    rw [hM]
    refine ⟨_, _, rfl, rfl, (by show 0 < M; omega), ?_⟩
    have at0 : 0 ≤ pl % M := Int.emod_nonneg _ (by omega)
    have at1 : pl % M < M := Int.emod_lt_of_pos _ (by omega)
    -- _law_cell
    refine ⟨_, rfl, h, _, _, _, rfl, rfl, SqL.of eh, a1, (by show 0 ≤ sizeLine; decide), fun p np => ?_⟩
    have sp : Same H (upd H p (.lst [])) := same_upd np
    have eh1 := sp _ _ eh
    have ec1 := sp _ _ ec
    refine ⟨.list (ns.map PyData.int), .list [], Dp.lst (SqL.of ec1) (dpAll_ints ns), Dp.lst (SqL.of upd_same) .nil, PySem.W.shaped_ints ns, PySem.W.shaped_ints [], _, rfl, ?_⟩
    rw [eqv_nil]
    refine join_if (fun v H' => ∃ z : Int, v = .int z ∧ H' = upd H p (.lst []) ∧ (1000000000000000000 ≤ z → ns ≠ [])) ?_ ?_ ?_
    · rintro v H' ⟨z, rfl, rfl, hzn⟩
      refine ⟨_, rfl, _, _, rfl, rfl, ⟨by decide, by decide, by decide⟩, _, _, rfl, rfl, _, rfl, ?_⟩
      have e18 : (10 : Int) ^ (18 : Int).toNat = 1000000000000000000 := by decide
      dsimp only
      rw [e18]
      by_cases big : 1000000000000000000 ≤ z
      · rw [decide_eq_true big]
        refine iteT ?_
        have hn := hzn big
        have hj : (pl % M).toNat < ns.length := by
          have := hM2 hn
          omega
        refine ⟨_, rfl, _, rfl, _, _, rfl, rfl, ⟨by omega, by omega⟩, _, rfl, h, _, _, _, rfl, rfl, SqL.of eh1, a1, _, rfl, c, _, _, (pl % M).toNat, rfl, rfl, ec1, ?_, ?_⟩
        · rw [List.length_map]
          exact ixN_nn at0 (by omega)
        · refine ⟨_, rfl, _, rfl, _, _, rfl, rfl, (by show 0 < m; omega), ?_⟩
          dsimp only
          have e : z % m = ((z % m).toNat : Int) := (Int.toNat_of_nonneg (Int.emod_nonneg _ (by omega))).symm
          have lt := Int.emod_lt_of_pos z (show 0 < m by omega)
          rw [e]
          refine q _ _ (by omega) ⟨⟨mx, pl, ns.set (pl % M).toNat (z / m), ?_, ?_, m0, m1, p0, by rw [List.length_set]; exact hl⟩, nhc⟩ fun b o eb n1 n2 => ?_
          · rw [upd_ne nhc]
            exact eh1
          · rw [upd_same, List.map_set]
          · rw [upd_ne n2]
            exact sp _ _ eb
      · rw [decide_eq_false big]
        refine iteF ?_
        refine ⟨_, rfl, h, _, _, _, rfl, rfl, SqL.of eh1, a0, _, _, rfl, rfl, .inl (le64 m0 (by omega)), _, rfl, _, _, rfl, rfl, .inr ⟨by decide, by decide⟩, _, _, rfl, rfl, _, _, rfl, rfl, _, _, rfl, rfl, (by show (0 : Int) < 2147483647; decide),
          _, rfl, h, _, _, 0, rfl, rfl, eh1, rfl, ?_⟩
        refine ⟨_, rfl, h, _, _, _, rfl, rfl, SqL.of upd_same, atI_nat (j := 2) rfl, _, _, rfl, rfl, _, rfl, h, _, _, 2, rfl, rfl, upd_same, rfl, ?_⟩
        refine ⟨_, rfl, h, _, _, _, rfl, rfl, SqL.of upd_same, atI_nat (j := 0) rfl, _, _, rfl, rfl, ⟨by decide, by decide⟩, _, rfl, _, _, rfl, rfl, (by show 0 < m; omega), ?_⟩
        dsimp only
        have n0 := Int.emod_nonneg (mx * 48271 + z * 69621 + 11) (show (2147483647 : Int) ≠ 0 by decide)
        have n1 := Int.emod_lt_of_pos (mx * 48271 + z * 69621 + 11) (show (0 : Int) < 2147483647 by decide)
        generalize (mx * 48271 + z * 69621 + 11) % 2147483647 = y at n0 n1 ⊢
        have e : y / 7 % m = ((y / 7 % m).toNat : Int) := (Int.toNat_of_nonneg (Int.emod_nonneg _ (by omega))).symm
        have lt := Int.emod_lt_of_pos (y / 7) (show 0 < m by omega)
        rw [e]
        refine q _ _ (by omega) ⟨⟨y, pl + 1, ns, ?_, ?_, n0, n1, by omega, hl⟩, nhc⟩ fun b o eb n1 n2 => ?_
        · rw [upd_same]
          rfl
        · rw [upd_ne nhc.symm, upd_ne nhc.symm]
          exact ec1
        · rw [upd_ne n1, upd_ne n1]
          exact sp _ _ eb
    · intro e
      have hn : ns ≠ [] := by
        intro z
        subst z
        cases e
      have hj : (pl % M).toNat < ns.length := by
        have := hM2 hn
        omega
      exact ⟨.int ns[(pl % M).toNat], _, fun Q q => ⟨_, rfl, h, _, _, _, rfl, rfl, SqL.of eh1, a1, _, rfl, c, _, _, _, rfl, rfl, SqL.of ec1, at_of (j := (pl % M).toNat) (by omega) (by rw [List.getElem?_map, List.getElem?_eq_getElem hj]; rfl), q⟩, _, rfl, rfl, fun _ => hn⟩
    · intro e
      exact ⟨.int 0, _, fun Q q => q, 0, rfl, rfl, fun h => absurd h (by decide)⟩
end
def Ru.small : Ru → Prop
  | .cnt b s => b ≤ 4 ∧ s ≤ 6
  | .shf b s => b ≤ 5 ∧ s ≤ 6
  | .rgh _ => True
def spRule : Sp := fun vs H Q _ => ∃ (h c : Addr) (sm : Int), vs = [.ref h, .int sm] ∧ (sm = 0 ∨ sm = 1) ∧ HAt H h c ∧ ∀ (R : Ru) H' p, R.ok → (sm = 1 → R.small) → HAt H' h c → Kp2 h c H H' → RuAt H' p R → Q (.ref p) H'
def spEnd : Sp := fun vs H Q _ => ∃ (p : Addr) (R : Ru), vs = [.ref p] ∧ RuAt H p R ∧ R.ok ∧ ∀ H', Same H H' → Q (.int (R.fin : Int)) H'
def spTick : Sp := fun vs H Q _ => ∃ (p : Addr) (R : Ru) (m t : Nat) (i1 i2 : Int), vs = [.ref p, .int i1, .int i2] ∧ i1 = (m : Int) ∧ i2 = (t : Int) ∧ RuAt H p R ∧ R.ok ∧ m ≤ R.most ∧ ∀ H', Same H H' → Q (.int (tick R m t : Int)) H'
theorem fin_at {b : Nat} (h1 : 1 ≤ b) (h2 : b ≤ 6) : atI [V.int 1, V.int 3, V.int 7, V.int 15, V.int 31, V.int 63] ((b : Int) - 1) = some (.int ((2 ^ b - 1 : Nat) : Int)) := by
  have : b = 1 ∨ b = 2 ∨ b = 3 ∨ b = 4 ∨ b = 5 ∨ b = 6 := by omega
  rcases this with rfl | rfl | rfl | rfl | rfl | rfl
  · exact atI_nat (j := 0) rfl
  · exact atI_nat (j := 1) rfl
  · exact atI_nat (j := 2) rfl
  · exact atI_nat (j := 3) rfl
  · exact atI_nat (j := 4) rfl
  · exact atI_nat (j := 5) rfl
theorem pow_at {m : Nat} (h : m ≤ 7) : atI [V.int 1, V.int 2, V.int 4, V.int 8, V.int 16, V.int 32, V.int 64, V.int 128] (m : Int) = some (.int ((2 ^ m : Nat) : Int)) := by
  have : m = 0 ∨ m = 1 ∨ m = 2 ∨ m = 3 ∨ m = 4 ∨ m = 5 ∨ m = 6 ∨ m = 7 := by omega
  rcases this with rfl | rfl | rfl | rfl | rfl | rfl | rfl | rfl
  · exact atI_nat (j := 0) rfl
  · exact atI_nat (j := 1) rfl
  · exact atI_nat (j := 2) rfl
  · exact atI_nat (j := 3) rfl
  · exact atI_nat (j := 4) rfl
  · exact atI_nat (j := 5) rfl
  · exact atI_nat (j := 6) rfl
  · exact atI_nat (j := 7) rfl
section
variable {P : Program} {w : World} {K : PySem.W.Frag} {mg : Str → Option Value} {base : Heap}
theorem sc_rule : FnScope ["_law_h", "_law_small", "_law_kind", "_law_step"] ["_law_h", "_law_small"] (defScope s_L_rule) := ⟨rfl, rfl, rfl, by decide +kernel, rfl, by decide +kernel, by decide +kernel⟩
theorem ok_rule (D : DefAt K mg "_law_rule" s_L_rule ["_law_h", "_law_small"]) (m_int : mg "int" = none) (C1 : Cl P w K mg base 1 "_law_next" ["_law_h", "_law_many"] spNext) : Cl P w K mg base 2 "_law_rule" ["_law_h", "_law_small"] spRule := by
  refine D.cl fun f fd F => ?_
  refine F.ok sc_rule (fun vs H Q E h => ?_) (fun cdv A outer s H vs Q E hr h => ?_)
  · obtain ⟨h, c, sm, rfl, _⟩ := h
    rfl
  · obtain ⟨h, c, sm, rfl, hsm, ha, q⟩ := h
    refine ⟨_, pss_cons (ps_set (i := 2) sc_rule.nd rfl (Or.inl rfl) (pe_ix ix_list (pe_lst (pa_cons pe_str (pa_cons pe_str (pa_cons pe_str pa_nil)))) (pe_cl C1 hr (pa_cons (pv 0) (pa_cons pe_int pa_nil))) (fun _ _ => rfl)))
      (pss_cons (ps_if (pt_cmpR op_eq (pv 2) pe_str (nomark _)) (pss_one (ps_ret (pe_tup (pa_cons (pv 2) (pa_cons (pe_op op_add pe_int (pe_cl C1 hr (pa_cons (pv 0) (pa_cons pe_int pa_nil)))) pa_nil))))) pss_nil)
      (pss_cons (ps_set (i := 3) sc_rule.nd rfl (Or.inl rfl) (pe_op op_add pe_int (pe_cl C1 hr (pa_cons (pv 0) (pa_cons (pe_ix ix_list (pe_lst (pa_cons pe_int (pa_cons pe_int pa_nil))) (pv 1) (fun _ _ => rfl)) pa_nil)))))
      (pss_one (ps_ret (pe_tup (pa_cons (pv 2) (pa_cons (pe_op op_add pe_int (pe_cl C1 hr (pa_cons (pv 0) (pa_cons (pe_ix ix_list (pe_ix ix_list (pe_lst (pa_cons (pe_lst (pa_cons pe_int (pa_cons pe_int pa_nil))) (pa_cons (pe_lst (pa_cons pe_int (pa_cons pe_int pa_nil))) pa_nil)))
        (pe_callTy call_int1 (by rfl) m_int (by decide +kernel) (pa_cons (pe_cmpR op_eq (pv 2) pe_str (nomark _)) pa_nil)) (fun _ _ => rfl)) (pv 1) (fun _ _ => rfl)) pa_nil)))) (pa_cons (pv 3) pa_nil)))))))), ?_⟩
    refine ⟨(by show 3 ≤ sizeLine; decide), fun l0 n0 => ?_⟩
    have s0 : Same H (upd H l0 (.lst [.str "count", .str "shift", .str "rough"])) := same_upd n0
    refine ⟨_, rfl, h, c, 3, rfl, by decide, by decide, ha.same s0, fun r0 H1 r0l ha1 k1 => ?_⟩
    have el : (upd H l0 (.lst [.str "count", .str "shift", .str "rough"])) l0 = some (.lst [.str "count", .str "shift", .str "rough"]) := upd_same
    have nl : l0 ≠ h ∧ l0 ≠ c := by
      obtain ⟨⟨mx, pl, ns, e1, e2, _⟩, _⟩ := ha
      exact ⟨(ne_of_none e1 n0).symm, (ne_of_none e2 n0).symm⟩
    have el1 := k1 _ _ el nl.1 nl.2
    have K1 : Kp2 h c H H1 := (Same.kp2 s0).trans k1
    have hr0 : r0 = 0 ∨ r0 = 1 ∨ r0 = 2 := by omega
    obtain ⟨kd, ek, hk⟩ : ∃ kd : Str, atI [V.str "count", V.str "shift", V.str "rough"] (r0 : Int) = some (.str kd) ∧ (kd = "count" ∨ kd = "shift" ∨ kd = "rough") := by
      rcases hr0 with rfl | rfl | rfl
      · exact ⟨"count", atI_nat (j := 0) rfl, .inl rfl⟩
      · exact ⟨"shift", atI_nat (j := 1) rfl, .inr (.inl rfl)⟩
      · exact ⟨"rough", atI_nat (j := 2) rfl, .inr (.inr rfl)⟩
    refine ⟨l0, _, _, _, rfl, rfl, SqL.of el1, ek, ?_⟩
    refine ⟨_, rfl, rfl, _, rfl, ?_⟩
    by_cases er : kd = "rough"
    · subst er
      rw [dec_str, decide_eq_true rfl]
      refine iteT ?_
      refine ⟨_, rfl, _, rfl, h, c, 3, rfl, by decide, by decide, ha1, fun r H2 rl ha2 k2 => ?_⟩
      refine ⟨_, _, rfl, rfl, (by show 2 ≤ sizeLine; decide), fun p np => ?_⟩
      refine q (.rgh (1 + r)) _ p ⟨by omega, by omega⟩ (fun _ => trivial) (ha2.same (same_upd np)) ((K1.trans k2).trans (Same.kp2 (same_upd np))) ?_
      exact upd_same
    · rw [dec_str, decide_eq_false er]
      refine iteF ?_
      refine ⟨_, rfl, (by show 2 ≤ sizeLine; decide), fun l1 n1 => ?_⟩
      have s1 : Same H1 (upd H1 l1 (.lst [.int 20, .int 6])) := same_upd n1
      obtain ⟨m1, em1, h11, h12, h13⟩ : ∃ m1 : Int, atI [V.int 20, V.int 6] sm = some (.int m1) ∧ 1 ≤ m1 ∧ m1 ≤ 20 ∧ (sm = 1 → m1 ≤ 6) := by
        rcases hsm with rfl | rfl
        · exact ⟨20, atI_nat (j := 0) rfl, by decide, by decide, fun e => nomatch e⟩
        · exact ⟨6, atI_nat (j := 1) rfl, by decide, by decide, fun _ => by decide⟩
      refine ⟨_, rfl, l1, _, _, _, rfl, rfl, SqL.of upd_same, em1, h, c, m1, rfl, h11, by omega, ha1.same s1, fun r2 H2 r2l ha2 k2 => ?_⟩
      refine ⟨_, _, rfl, rfl, ?_⟩
      refine ⟨_, rfl, _, rfl, (by show 2 ≤ sizeLine; decide), fun l2 n2 => ?_⟩
      have s2 : Same H2 (upd H2 l2 (.lst [.int 6, .int 4])) := same_upd n2
      refine ⟨(by show 2 ≤ sizeLine; decide), fun l3 n3 => ?_⟩
      have s3 : Same (upd H2 l2 (.lst [.int 6, .int 4])) (upd (upd H2 l2 (.lst [.int 6, .int 4])) l3 (.lst [.int 10, .int 5])) := same_upd n3
      refine ⟨(by show 2 ≤ sizeLine; decide), fun l4 n4 => ?_⟩
      have s4 : Same (upd (upd H2 l2 (.lst [.int 6, .int 4])) l3 (.lst [.int 10, .int 5])) (upd (upd (upd H2 l2 (.lst [.int 6, .int 4])) l3 (.lst [.int 10, .int 5])) l4 (.lst [.ref l2, .ref l3])) := same_upd n4
      have e2 := s4 _ _ (s3 _ _ (show (upd H2 l2 (.lst [.int 6, .int 4])) l2 = some (.lst [.int 6, .int 4]) from upd_same))
      have e3 := s4 _ _ (show (upd (upd H2 l2 (.lst [.int 6, .int 4])) l3 (.lst [.int 10, .int 5])) l3 = some (.lst [.int 10, .int 5]) from upd_same)
      have sa := (s2.trans s3).trans s4
      refine ⟨_, rfl, rfl, .inr ⟨_, rfl, ?_⟩⟩
      rw [dec_str]
      have hkd : kd = "count" ∨ kd = "shift" := by
        rcases hk with z | z | z
        · exact .inl z
        · exact .inr z
        · exact absurd z er
      obtain ⟨lx, elx, hlx⟩ : ∃ lx, atI [V.ref l2, V.ref l3] (if decide (kd = "shift") = true then 1 else 0) = some (.ref lx) ∧ (kd = "count" ∧ lx = l2 ∨ kd = "shift" ∧ lx = l3) := by
        rcases hkd with rfl | rfl
        · refine ⟨l2, ?_, .inl ⟨rfl, rfl⟩⟩
          rw [decide_eq_false k_cs]
          exact atI_nat (j := 0) rfl
        · refine ⟨l3, ?_, .inr ⟨rfl, rfl⟩⟩
          rw [decide_eq_true rfl]
          exact atI_nat (j := 1) rfl
      obtain ⟨u, v, euv, hu⟩ : ∃ u v : Int, (upd (upd (upd H2 l2 (.lst [.int 6, .int 4])) l3 (.lst [.int 10, .int 5])) l4 (.lst [.ref l2, .ref l3])) lx = some (.lst [.int u, .int v]) ∧ (kd = "count" ∧ u = 6 ∧ v = 4 ∨ kd = "shift" ∧ u = 10 ∧ v = 5) := by
        rcases hlx with ⟨z, rfl⟩ | ⟨z, rfl⟩
        · exact ⟨6, 4, e2, .inl ⟨z, rfl, rfl⟩⟩
        · exact ⟨10, 5, e3, .inr ⟨z, rfl, rfl⟩⟩
      obtain ⟨m2, em2, hm2⟩ : ∃ m2 : Int, atI [V.int u, V.int v] sm = some (.int m2) ∧ (sm = 0 ∧ m2 = u ∨ sm = 1 ∧ m2 = v) := by
        rcases hsm with rfl | rfl
        · exact ⟨u, atI_nat (j := 0) rfl, .inl ⟨rfl, rfl⟩⟩
        · exact ⟨v, atI_nat (j := 1) rfl, .inr ⟨rfl, rfl⟩⟩
      have b2 : 1 ≤ m2 ∧ m2 ≤ 10 := by
        rcases hu with ⟨_, rfl, rfl⟩ | ⟨_, rfl, rfl⟩ <;> rcases hm2 with ⟨_, rfl⟩ | ⟨_, rfl⟩ <;> decide
      refine ⟨l4, _, _, _, rfl, rfl, SqL.of upd_same, elx, _, rfl, lx, _, _, _, rfl, rfl, SqL.of euv, em2, h, c, m2, rfl, b2.1, by omega, ha2.same sa, fun r5 H5 r5l ha5 k5 => ?_⟩
      refine ⟨_, _, rfl, rfl, _, rfl, (by show 3 ≤ sizeLine; decide), fun p np => ?_⟩
      have KK : Kp2 h c H (upd H5 p (.tup [.str kd, .int (1 + (r5 : Int)), .int (1 + (r2 : Int))])) := (((K1.trans (Same.kp2 s1)).trans k2).trans (Same.kp2 sa)).trans (k5.trans (Same.kp2 (same_upd np)))
      rcases hu with ⟨rfl, rfl, rfl⟩ | ⟨rfl, rfl, rfl⟩
      · have x1 : (r5 : Int) < 6 ∧ (sm = 1 → (r5 : Int) < 4) := by
          rcases hm2 with ⟨z, rfl⟩ | ⟨z, rfl⟩
          · exact ⟨r5l, fun z' => by omega⟩
          · exact ⟨by omega, fun _ => r5l⟩
        exact q (.cnt (1 + r5) (1 + r2)) _ p ⟨by omega, by omega, by omega, by omega⟩ (fun z => by have := h13 z; have := x1.2 z; exact ⟨by omega, by omega⟩) (ha5.same (same_upd np)) KK upd_same
      · have x1 : (r5 : Int) < 10 ∧ (sm = 1 → (r5 : Int) < 5) := by
          rcases hm2 with ⟨z, rfl⟩ | ⟨z, rfl⟩
          · exact ⟨r5l, fun z' => by omega⟩
          · exact ⟨by omega, fun _ => r5l⟩
        exact q (.shf (1 + r5) (1 + r2)) _ p ⟨by omega, by omega, by omega, by omega⟩ (fun z => by have := h13 z; have := x1.2 z; exact ⟨by omega, by omega⟩) (ha5.same (same_upd np)) KK upd_same
theorem sc_end : FnScope ["_law_rule_here"] ["_law_rule_here"] (defScope s_L_end) := ⟨rfl, rfl, rfl, by decide +kernel, rfl, by decide +kernel, by decide +kernel⟩
theorem ok_end (D : DefAt K mg "_law_end" s_L_end ["_law_rule_here"]) : Cl P w K mg base 1 "_law_end" ["_law_rule_here"] spEnd := by
  refine D.cl fun f fd F => ?_
  refine F.ok sc_end (fun vs H Q E h => ?_) (fun cdv A outer s H vs Q E hr h => ?_)
  · obtain ⟨p, R, rfl, _⟩ := h
    rfl
  · obtain ⟨p, R, rfl, hp, ok, q⟩ := h
    refine ⟨_, pss_one (ps_ret (pe_ifExp (pt_cmpR op_ne (pe_ix ix_tup (pv 0) pe_int (fun _ _ => rfl)) pe_str (nomark _)) (pe_ix ix_list (pe_lst (pa_cons pe_int (pa_cons pe_int (pa_cons pe_int (pa_cons pe_int (pa_cons pe_int (pa_cons pe_int pa_nil))))))) (pe_op op_sub (pe_ix ix_tup (pv 0) pe_int (fun _ _ => rfl)) pe_int) (fun _ _ => rfl)) pe_int)), ?_⟩
    refine ⟨_, rfl, p, _, _, _, rfl, rfl, SqT.of hp, R.at0, rfl, _, rfl, ?_⟩
    rw [dec_str]
    by_cases hk : R.kind = "shift"
    · rw [decide_eq_true hk]
      refine iteF ?_
      cases R with
      | cnt b s => exact absurd hk k_cs
      | rgh b => exact absurd hk k_rs
      | shf b s => exact q H (Same.refl H)
    · rw [decide_eq_false hk]
      have eb : R.fin = 2 ^ R.bits - 1 ∧ R.bits ≤ 6 := by
        cases R with
        | cnt b s => exact ⟨rfl, ok.2.1⟩
        | rgh b => exact ⟨rfl, Nat.le_trans ok.2 (by decide)⟩
        | shf b s => exact absurd rfl hk
      refine iteT ⟨(by show 6 ≤ sizeLine; decide), fun l nl => ?_⟩
      have sl : Same H (upd H l (.lst [.int 1, .int 3, .int 7, .int 15, .int 31, .int 63])) := same_upd nl
      refine ⟨_, rfl, p, _, _, _, rfl, rfl, SqT.of (sl _ _ hp), R.at1, _, _, rfl, rfl, l, _, _, _, rfl, rfl, SqL.of upd_same, fin_at (R.bits_pos ok).1 eb.2, ?_⟩
      rw [← eb.1]
      exact q _ sl
theorem sc_most : FnScope ["_law_rule_here", "_law_most_here", "_law_turn"] ["_law_rule_here"] (defScope s_L_most) := ⟨rfl, rfl, rfl, by decide +kernel, rfl, by decide +kernel, by decide +kernel⟩
theorem ok_most (D : DefAt K mg "_law_most" s_L_most ["_law_rule_here"]) (m_range : mg "range" = none) (m_int : mg "int" = none) : Cl P w K mg base 1 "_law_most" ["_law_rule_here"] spTopMark := by
  refine D.cl fun f fd F => ?_
  refine F.ok sc_most (fun vs H Q E h => ?_) (fun cdv A outer s H vs Q E hr h => ?_)
  · obtain ⟨p, R, rfl, _⟩ := h
    rfl
  · obtain ⟨p, R, rfl, hp, ok, q⟩ := h
    refine ⟨_, pss_cons (ps_set (i := 1) sc_most.nd rfl (Or.inl rfl) pe_int)
      (pss_cons (ps_for PassesOwn.never rfl (pi_range1 (by rfl) m_range (pa_cons (pe_op op_add (pe_ix ix_tup (pv 0) pe_int (fun _ _ => rfl)) (pe_callTy call_int1 (by rfl) m_int (by decide +kernel) (pa_cons (pe_cmpR op_eq (pe_ix ix_tup (pv 0) pe_int (fun _ _ => rfl)) pe_str (nomark _)) pa_nil))) pa_nil))
        (pg_name (i := 2) sc_most.nd rfl (Or.inl rfl)) (pss_one (ps_set (i := 1) sc_most.nd rfl (Or.inl rfl) (pe_op op_mul (pv 1) pe_int))))
      (pss_one (ps_ret (pe_op op_sub (pv 1) pe_int)))), ?_⟩
    refine ⟨_, rfl, p, _, _, _, rfl, rfl, SqT.of hp, R.at1, _, rfl, p, _, _, _, rfl, rfl, SqT.of hp, R.at0, rfl, .inr ⟨_, rfl, ?_⟩⟩
    rw [dec_str]
    obtain ⟨n, en, hn, hm⟩ : ∃ n : Nat, (R.bits : Int) + (if decide (R.kind = "shift") = true then 1 else 0) = (n : Int) ∧ n ≤ 11 ∧ R.most = 2 ^ n - 1 := by
      have hb := R.bits_pos ok
      cases R with
      | cnt b s =>
        refine ⟨b, ?_, by have : b ≤ 10 := hb.2; omega, rfl⟩
        rw [decide_eq_false (show ¬ (Ru.cnt b s).kind = "shift" from k_cs)]
        rfl
      | rgh b =>
        refine ⟨b, ?_, by have : b ≤ 10 := hb.2; omega, rfl⟩
        rw [decide_eq_false (show ¬ (Ru.rgh b).kind = "shift" from k_rs)]
        rfl
      | shf b s =>
        refine ⟨b + 1, ?_, by have : b ≤ 10 := hb.2; omega, rfl⟩
        rw [decide_eq_true (show (Ru.shf b s).kind = "shift" from rfl)]
        rfl
    refine ⟨_, _, rfl, rfl, _, rfl, by omega, by omega, ?_⟩
    rw [en, Int.toNat_natCast]
    refine for_range (lo := 0) (n := n) (fun i σ H' => ∃ v : Option V, σ = [some (.ref p), some (.int ((2 ^ i : Nat) : Int)), v] ∧ H' = H ∧ i ≤ n) ⟨none, rfl, rfl, Nat.zero_le _⟩ ?_ ?_
    · rintro i σ H' hi ⟨v, rfl, rfl, _⟩
      have pw : 2 ^ i ≤ 2 ^ 11 := Nat.pow_le_pow_right (by decide) (by omega)
      refine ⟨_, rfl, _, _, rfl, rfl, .inl (le64 (Int.natCast_nonneg _) (by omega)), some (.int (0 + (i : Int))), ?_, rfl, hi⟩
      rw [Nat.pow_succ]
      rfl
    · rintro σ H' ⟨v, rfl, rfl, _⟩
      refine ⟨_, rfl, _, _, rfl, rfl, ?_⟩
      dsimp only
      have pp := Nat.two_pow_pos n
      rw [show ((2 ^ n : Nat) : Int) - 1 = (R.most : Int) by rw [hm]; omega]
      exact q
theorem sc_tick : FnScope ["_law_rule_here", "_law_mark", "_law_moment"] ["_law_rule_here", "_law_mark", "_law_moment"] (defScope s_L_tick) := ⟨rfl, rfl, rfl, by decide +kernel, rfl, by decide +kernel, by decide +kernel⟩
theorem ok_tick (D : DefAt K mg "_law_tick" s_L_tick ["_law_rule_here", "_law_mark", "_law_moment"]) (m_int : mg "int" = none) (m_min : mg "min" = none) (C1 : Cl P w K mg base 1 "_law_end" ["_law_rule_here"] spEnd) :
    Cl P w K mg base 2 "_law_tick" ["_law_rule_here", "_law_mark", "_law_moment"] spTick := by
  refine D.cl fun f fd F => ?_
  refine F.ok sc_tick (fun vs H Q E h => ?_) (fun cdv A outer s H vs Q E hr h => ?_)
  · obtain ⟨p, R, m, t, i1, i2, rfl, _⟩ := h
    rfl
  · obtain ⟨p, R, m, t, i1, i2, rfl, rfl, rfl, hp, ok, hm, q⟩ := h
    refine ⟨_, pss_cons (ps_if (pt_cmpR op_eq (pe_ix ix_tup (pv 0) pe_int (fun _ _ => rfl)) pe_str (nomark _)) (pss_one (ps_ret (pe_op op_add (pv 1) (pe_callTy call_int1 (by rfl) m_int (by decide +kernel) (pa_cons (pe_and (pe_cmpR op_ne (pv 1) (pe_cl C1 hr (pa_cons (pv 0) pa_nil)) (nomark _))
        (pe_one (pe_cmpR op_eq (pe_op op_mod (pv 2) (pe_ix ix_list (pe_lst (pa_cons pe_int (pa_cons pe_int (pa_cons pe_int (pa_cons pe_int (pa_cons pe_int (pa_cons pe_int (pa_cons pe_int (pa_cons pe_int pa_nil))))))))) (pv 1) (fun _ _ => rfl))) pe_int (nomark _)))) pa_nil))))) pss_nil)
      (pss_cons (ps_if (pt_cmpR op_ne (pe_op op_mod (pv 2) (pe_ix ix_tup (pv 0) pe_int (fun _ _ => rfl))) pe_int (nomark _)) (pss_one (ps_ret (pv 1))) pss_nil)
      (pss_one (ps_ret (pe_ifExp (pt_cmpR op_eq (pe_ix ix_tup (pv 0) pe_int (fun _ _ => rfl)) pe_str (nomark _)) (pe_op op_fdiv (pv 1) pe_int) (pe_callB (call_min2 rfl) (by rfl) m_min (by decide +kernel) (pa_cons (pe_op op_add (pv 1) pe_int) (pa_cons (pe_cl C1 hr (pa_cons (pv 0) pa_nil)) pa_nil))))))), ?_⟩
    refine ⟨_, rfl, p, _, _, _, rfl, rfl, SqT.of hp, R.at0, rfl, _, rfl, ?_⟩
    rw [dec_str]
    by_cases hk : R.kind = "rough"
    · rw [decide_eq_true hk]
      refine iteT ?_
      cases R with
      | cnt b s => exact absurd hk k_cr
      | shf b s => exact absurd hk k_sr
      | rgh b =>
        obtain ⟨b1, b3⟩ : 1 ≤ b ∧ b ≤ 3 := ok
        have p8 : 2 ^ b ≤ 2 ^ 3 := Nat.pow_le_pow_right (by decide) b3
        have hm' : m ≤ 2 ^ b - 1 := hm
        refine ⟨_, rfl, _, rfl, _, rfl, p, .rgh b, rfl, hp, ⟨b1, b3⟩, fun H1 s1 => ?_⟩
        refine ⟨rfl, _, rfl, ?_⟩
        rw [dec_int]
        by_cases e : m = 2 ^ b - 1
        · rw [decide_eq_true (show (m : Int) = ((Ru.rgh b).fin : Int) by rw [e]; rfl)]
          refine iteF (.inr ⟨_, rfl, _, _, rfl, rfl, ?_⟩)
          have q' := q H1 s1
          rw [show tick (.rgh b) m t = m from if_neg (fun z => z.1 e)] at q'
          exact q'
        · rw [decide_eq_false (show ¬ (m : Int) = ((Ru.rgh b).fin : Int) from fun z => e (Int.ofNat.inj z))]
          refine iteT ⟨_, rfl, (by show 8 ≤ sizeLine; decide), fun l nl => ?_⟩
          refine ⟨_, rfl, l, _, _, _, rfl, rfl, SqL.of upd_same, pow_at (by omega), _, _, rfl, rfl, ?_, rfl, ?_⟩
          · have := Nat.two_pow_pos m
            show (0 : Int) < ((2 ^ m : Nat) : Int)
            omega
          · refine .inr ⟨_, rfl, _, _, rfl, rfl, ?_⟩
            have q' := q _ (s1.trans (same_upd (o := .lst [V.int 1, V.int 2, V.int 4, V.int 8, V.int 16, V.int 32, V.int 64, V.int 128]) nl))
            rw [dec_int]
            have em : (t : Int) % ((2 ^ m : Nat) : Int) = ((t % 2 ^ m : Nat) : Int) := rfl
            dsimp only
            by_cases z : t % 2 ^ m = 0
            · rw [show tick (.rgh b) m t = m + 1 from if_pos ⟨e, z⟩] at q'
              rw [decide_eq_true (show (t : Int) % ((2 ^ m : Nat) : Int) = 0 by rw [em, z]; rfl)]
              exact q'
            · rw [show tick (.rgh b) m t = m from if_neg (fun x => z x.2)] at q'
              rw [decide_eq_false (show ¬ (t : Int) % ((2 ^ m : Nat) : Int) = 0 by rw [em]; omega)]
              exact q'
    · rw [decide_eq_false hk]
      refine iteF ?_
      have hs := R.step_ok ok
      refine ⟨_, rfl, _, rfl, p, _, _, _, rfl, rfl, SqT.of hp, R.at2 hk, _, _, rfl, rfl, (by show (0 : Int) < (R.step : Int); omega), rfl, _, rfl, ?_⟩
      rw [dec_int]
      have em : (t : Int) % (R.step : Int) = ((t % R.step : Nat) : Int) := rfl
      have q' := q H (Same.refl H)
      by_cases z : t % R.step = 0
      · rw [decide_eq_true (show (t : Int) % (R.step : Int) = 0 by rw [em, z]; rfl)]
        refine iteF ?_
        refine ⟨_, rfl, p, _, _, _, rfl, rfl, SqT.of hp, R.at0, rfl, _, rfl, ?_⟩
        rw [dec_str]
        by_cases hk2 : R.kind = "shift"
        · rw [decide_eq_true hk2]
          refine iteT ⟨_, rfl, _, _, rfl, rfl, ⟨by decide, by decide⟩, ?_⟩
          cases R with
          | cnt b s => exact absurd hk2 k_cs
          | rgh b => exact absurd rfl hk
          | shf b s =>
            rw [show tick (.shf b s) m t = m / 2 from if_pos z] at q'
            exact q'
        · rw [decide_eq_false hk2]
          refine iteF ⟨_, rfl, _, _, rfl, rfl, _, rfl, p, R, rfl, hp, ok, fun H1 s1 => ?_⟩
          refine ⟨_, _, rfl, ?_⟩
          have q'' := q H1 s1
          cases R with
          | shf b s => exact absurd rfl hk2
          | rgh b => exact absurd rfl hk
          | cnt b s =>
            rw [show tick (.cnt b s) m t = min (m + 1) (2 ^ b - 1) from if_pos z] at q''
            have e : (if ((Ru.cnt b s).fin : Int) < (m : Int) + 1 then ((Ru.cnt b s).fin : Int) else (m : Int) + 1) = ((min (m + 1) (2 ^ b - 1) : Nat) : Int) := by
              show (if ((2 ^ b - 1 : Nat) : Int) < (m : Int) + 1 then ((2 ^ b - 1 : Nat) : Int) else (m : Int) + 1) = _
              split <;> omega
            rw [e]
            exact q''
      · rw [decide_eq_false (show ¬ (t : Int) % (R.step : Int) = 0 by rw [em]; omega)]
        refine iteT ⟨_, rfl, ?_⟩
        cases R with
        | rgh b => exact absurd rfl hk
        | cnt b s =>
          rw [show tick (.cnt b s) m t = m from if_neg z] at q'
          exact q'
        | shf b s =>
          rw [show tick (.shf b s) m t = m from if_neg z] at q'
          exact q'
end
/-! ### the law's own look at spans -/
def spTop : Sp := fun vs H Q _ => ∃ (p : Addr) (R : Ru), vs = [.ref p] ∧ RuAt H p R ∧ R.ok ∧ R.isShf = true ∧ Q (.int (R.top : Int)) H
theorem Ru.shift_iff (R : Ru) : (R.kind = "shift") ↔ R.isShf = true := by
  cases R with
  | cnt b s => exact ⟨fun h => absurd h k_cs, fun h => nomatch h⟩
  | shf b s => exact ⟨fun _ => rfl, fun _ => rfl⟩
  | rgh b => exact ⟨fun h => absurd h k_rs, fun h => nomatch h⟩
section
variable {P : Program} {w : World} {K : PySem.W.Frag} {mg : Str → Option Value} {base : Heap}
theorem sc_top : FnScope ["_law_rule_here"] ["_law_rule_here"] (defScope s_L_top) := ⟨rfl, rfl, rfl, by decide +kernel, rfl, by decide +kernel, by decide +kernel⟩
theorem ok_top (D : DefAt K mg "_law_top" s_L_top ["_law_rule_here"]) (C1 : Cl P w K mg base 1 "_law_most" ["_law_rule_here"] spTopMark) : Cl P w K mg base 2 "_law_top" ["_law_rule_here"] spTop := by
  refine D.cl fun f fd F => ?_
  refine F.ok sc_top (fun vs H Q E h => ?_) (fun cdv A outer s H vs Q E hr h => ?_)
  · obtain ⟨p, R, rfl, _⟩ := h
    rfl
  · obtain ⟨p, R, rfl, hp, ok, hs, q⟩ := h
    refine ⟨_, pss_one (ps_ret (pe_op op_fdiv (pe_op op_add (pe_cl C1 hr (pa_cons (pv 0) pa_nil)) pe_int) pe_int)), ?_⟩
    refine ⟨_, rfl, p, R, rfl, hp, ok, _, _, rfl, rfl, _, _, rfl, rfl, ⟨by decide, by decide⟩, ?_⟩
    cases R with
    | cnt b s => cases hs
    | rgh b => cases hs
    | shf b s =>
      have e : (((Ru.shf b s).most : Int) + 1) / 2 = ((Ru.shf b s).top : Int) := by
        show (((2 ^ (b + 1) - 1 : Nat) : Int) + 1) / 2 = ((2 ^ b : Nat) : Int)
        have pb := Nat.two_pow_pos b
        rw [Nat.pow_succ]
        omega
      dsimp only
      rw [e]
      exact q
end
/-! ### the law's own: a thing that is seen -/
section
variable {P : Program} {w : World} {K : PySem.W.Frag} {mg : Str → Option Value} {base : Heap}
theorem seen_shf {b s m : Nat} : seenM (.shf b s) m = if m < 2 ^ b then m + 2 ^ b else m := rfl
theorem seen_fresh {R : Ru} {m : Nat} (hm : m ≤ R.most) : Fresh R (seenM R m) := by
  cases R with
  | cnt b s => exact (rfl : (0 : Nat) = 0)
  | rgh b => exact (rfl : (0 : Nat) = 0)
  | shf b s =>
    have hm' : m ≤ 2 ^ (b + 1) - 1 := hm
    have pb := Nat.two_pow_pos b
    rw [Nat.pow_succ] at hm'
    show 2 ^ b ≤ seenM (.shf b s) m ∧ seenM (.shf b s) m < 2 * 2 ^ b
    rw [seen_shf]
    split <;> omega
theorem sc_Lseen : FnScope ["_law_rule_here", "_law_mark"] ["_law_rule_here", "_law_mark"] (defScope s_L_seen) := ⟨rfl, rfl, rfl, by decide +kernel, rfl, by decide +kernel, by decide +kernel⟩
theorem ok_Lseen (D : DefAt K mg "_law_seen" s_L_seen ["_law_rule_here", "_law_mark"]) (C1 : Cl P w K mg base 2 "_law_top" ["_law_rule_here"] spTop) : Cl P w K mg base 3 "_law_seen" ["_law_rule_here", "_law_mark"] spSeen := by
  refine D.cl fun f fd F => ?_
  refine F.ok sc_Lseen (fun vs H Q E h => ?_) (fun cdv A outer s H vs Q E hr h => ?_)
  · obtain ⟨p, R, m, i, rfl, _⟩ := h
    rfl
  · obtain ⟨p, R, m, i, rfl, rfl, hp, ok, q⟩ := h
    refine ⟨_, pss_cons (ps_if (pt_cmpR op_ne (pe_ix ix_tup (pv 0) pe_int (fun _ _ => rfl)) pe_str (nomark _)) (pss_one (ps_ret pe_int)) pss_nil)
      (pss_one (ps_ret (pe_ifExp (pt_cmpR op_ge (pv 1) (pe_cl C1 hr (pa_cons (pv 0) pa_nil)) (nomark _)) (pv 1) (pe_op op_add (pv 1) (pe_cl C1 hr (pa_cons (pv 0) pa_nil)))))), ?_⟩
    refine ⟨_, rfl, p, _, _, _, rfl, rfl, SqT.of hp, R.at0, rfl, _, rfl, ?_⟩
    rw [dec_str]
    by_cases hk : R.kind = "shift"
    · rw [decide_eq_true hk]
      refine iteF ?_
      cases R with
      | cnt b s => exact absurd hk k_cs
      | rgh b => exact absurd hk k_rs
      | shf b s =>
        refine ⟨_, rfl, _, rfl, p, .shf b s, rfl, hp, ok, rfl, _, _, rfl, rfl, _, rfl, ?_⟩
        rw [seen_shf] at q
        by_cases c : m < 2 ^ b
        · rw [if_pos c] at q
          rw [decide_eq_false (show ¬ ((Ru.shf b s).top : Int) ≤ (m : Int) by show ¬ ((2 ^ b : Nat) : Int) ≤ (m : Int); omega)]
          exact iteF ⟨_, rfl, _, rfl, p, .shf b s, rfl, hp, ok, rfl, _, _, rfl, rfl, q⟩
        · rw [if_neg c] at q
          rw [decide_eq_true (show ((Ru.shf b s).top : Int) ≤ (m : Int) by show ((2 ^ b : Nat) : Int) ≤ (m : Int); omega)]
          exact iteT ⟨_, rfl, q⟩
    · rw [decide_eq_false hk]
      refine iteT ?_
      cases R with
      | cnt b s => exact q
      | rgh b => exact q
      | shf b s => exact absurd rfl hk
end
/-! ### the law's own trial of a whole round -/
def spTried : Sp := fun vs H Q _ => ∃ (p : Addr) (R : Ru) (v u : Nat) (i1 : Int), vs = [.ref p, .int i1] ∧ i1 = (R.arnd : Int) ∧ RuAt H p R ∧ R.ok ∧ IsOff R v ∧ IsReach R u ∧ ∀ H' T, H T = none → Same H H' → H' T = some (.tup [.int (v : Int), .int (u : Int)]) → Q (.ref T) H'
theorem seen0 {R : Ru} : seenM R 0 = R.top := by
  cases R with
  | cnt b s => rfl
  | rgh b => rfl
  | shf b s =>
    have p := Nat.two_pow_pos b
    exact (if_pos p).trans (Nat.zero_add _)
/-- the soonest end so far -/
def Soon (R : Ru) (i : Nat) (o : Option Nat) : Prop := match o with
  | none => i = 0
  | some s => (∀ b n, b < i → ag R R.top b n = R.fin → s ≤ n) ∧ ∃ b, b < i ∧ ag R R.top b s = R.fin
theorem soon_next {R : Ru} {i n : Nat} {o : Option Nat} (h : Soon R i o) (e : ag R R.top i n = R.fin) (f : ∀ j, j < n → ag R R.top i j ≠ R.fin) : Soon R (i + 1) (some (match o with | none => n | some s => min s n)) := by
  have first : ∀ k, ag R R.top i k = R.fin → n ≤ k := fun k hk => by
    by_cases c : n ≤ k
    · exact c
    · exact absurd hk (f k (by omega))
  cases o with
  | none =>
    have h' : i = 0 := h
    refine ⟨fun b k hb hk => ?_, i, Nat.lt_succ_self i, e⟩
    have : b = i := by omega
    subst this
    exact first k hk
  | some s =>
    obtain ⟨h1, b0, h2, h3⟩ : (∀ b n, b < i → ag R R.top b n = R.fin → s ≤ n) ∧ ∃ b, b < i ∧ ag R R.top b s = R.fin := h
    refine ⟨fun b k hb hk => ?_, ?_⟩
    · by_cases c : b = i
      · subst c
        exact Nat.le_trans (Nat.min_le_right _ _) (first k hk)
      · exact Nat.le_trans (Nat.min_le_left _ _) (h1 b k (by omega) hk)
    · by_cases c : s ≤ n
      · exact ⟨b0, by omega, by show ag R R.top b0 (min s n) = _; rw [Nat.min_eq_left c]; exact h3⟩
      · exact ⟨i, Nat.lt_succ_self i, by show ag R R.top i (min s n) = _; rw [Nat.min_eq_right (by omega)]; exact e⟩
theorem fin_first {R : Ru} (hR : R.ok) (t : Nat) : ag R R.top t 1300 = R.fin := ag_far R hR _ t 1300 (top_le R) (Nat.le_refl _)
section
variable {P : Program} {w : World} {K : PySem.W.Frag} {mg : Str → Option Value} {base : Heap}
theorem sc_tried : FnScope ["_law_rule_here", "_law_around", "_law_known", "_law_soonest", "_law_begin", "_law_mark", "_law_here", "_law_name"] ["_law_rule_here", "_law_around"] (defScope s_L_tried) := ⟨rfl, rfl, rfl, by decide +kernel, rfl, by decide +kernel, by decide +kernel⟩
theorem ok_tried (D : DefAt K mg "_law_tried" s_L_tried ["_law_rule_here", "_law_around"]) (m_range : mg "range" = none) (m_min : mg "min" = none) (m_max : mg "max" = none) (C1 : Cl P w K mg base 3 "_law_seen" ["_law_rule_here", "_law_mark"] spSeen) (C2 : Cl P w K mg base 1 "_law_end" ["_law_rule_here"] spEnd)
    (C3 : Cl P w K mg base 2 "_law_tick" ["_law_rule_here", "_law_mark", "_law_moment"] spTick) : Cl P w K mg base 4 "_law_tried" ["_law_rule_here", "_law_around"] spTried := by
  refine D.cl fun f fd F => ?_
  refine F.ok sc_tried (fun vs H Q E h => ?_) (fun cdv A outer s H vs Q E hr h => ?_)
  · obtain ⟨p, R, v, u, i1, rfl, _⟩ := h
    rfl
  · obtain ⟨p, R, v, u, i1, rfl, rfl, hp, ok, iv, iu, q⟩ := h
    obtain ⟨ar1, ar2⟩ := arnd_le ok
    refine ⟨_, pss_cons (ps_set (i := 2) sc_tried.nd rfl (Or.inr rfl) pe_dnewT)
      (pss_cons (ps_set (i := 3) sc_tried.nd rfl (Or.inl rfl) pe_non)
      (pss_cons (ps_for PassesOwn.never rfl (pi_range1 (by rfl) m_range (pa_cons (pe_op op_mul pe_int (pv 1)) pa_nil)) (pg_name (i := 4) sc_tried.nd rfl (Or.inl rfl))
        (pss_cons (ps_set (i := 5) sc_tried.nd rfl (Or.inl rfl) (pe_cl C1 hr (pa_cons (pv 0) (pa_cons pe_int pa_nil))))
        (pss_cons (ps_set (i := 6) sc_tried.nd rfl (Or.inl rfl) (pv 4))
        (pss_cons (ps_while PassesOwn.never (pt_cmpR op_ne (pv 5) (pe_cl C2 hr (pa_cons (pv 0) pa_nil)) (nomark _))
          (pss_cons (ps_if (pt_chain op_le op_lt (pe_op op_mul pe_int (pv 1)) (pv 6) (pe_op op_mul pe_int (pv 1))) (pss_one (ps_expr (pe_bm PySem.F.plainAttrs_list PySem.F.slot_list_append PySem.F.type_list_append mt_append (pe_setdT (hu_of hr) (pv 2) (pe_tup (pa_cons (pv 6) (pa_cons (pv 5) pa_nil))) (pe_lst pa_nil) ⟨rfl, rfl, rfl, rfl⟩) (pa_cons (pv 4) pa_nil)))) pss_nil)
          (pss_cons (ps_set (i := 6) sc_tried.nd rfl (Or.inl rfl) (pe_op op_add (pv 6) pe_int))
          (pss_one (ps_set (i := 5) sc_tried.nd rfl (Or.inl rfl) (pe_cl C3 hr (pa_cons (pv 0) (pa_cons (pv 5) (pa_cons (pv 6) pa_nil)))))))))
        (pss_one (ps_set (i := 3) sc_tried.nd rfl (Or.inl rfl) (pe_ifExp (pt_cmp (pc_isN (pv 3)) rfl) (pe_op op_sub (pv 6) (pv 4)) (pe_callB (call_min2 rfl) (by rfl) m_min (by decide +kernel) (pa_cons (pv 3) (pa_cons (pe_op op_sub (pv 6) (pv 4)) pa_nil))))))))))
      (pss_one (ps_ret (pe_tup (pa_cons (pe_callB (cr_max rfl) (by rfl) m_max (by decide +kernel) (pa_cons (pe_lock (pe_lc (own := [("_law_name", 7)]) (g := gName 7) (tt := tYes) (te := tOp (rI0 fun i j => .int (i - j)) (tCB (rMax K) (tCons (tDGet (tVar 2) (tVar 7)) tNil)) (tCB (rMin K) (tCons (tDGet (tVar 2) (tVar 7)) tNil))) rfl sc_tried.nd (pi_keys (pv 2))
          (blkOk_by (N := ["_law_rule_here", "_law_around", "_law_known", "_law_soonest", "_law_begin", "_law_mark", "_law_here", "_law_name"]) (sc := defScope s_L_tried) (by decide +kernel)) (fun _ _ _ _ _ => by exact pg_name (i := 7) sc_tried.nd rfl (Or.inl rfl)) (fun _ _ _ _ _ => by exact pts_nil)
          (fun _ _ _ _ _ => by exact pe_op op_sub (pe_callB (cr_max rfl) (by rfl) m_max (by decide +kernel) (pa_cons (pe_dget (hu_of hr) (pv 2) (pv 7) (fun _ _ => rfl)) pa_nil)) (pe_callB (cr_min rfl) (by rfl) m_min (by decide +kernel) (pa_cons (pe_dget (hu_of hr) (pv 2) (pv 7) (fun _ _ => rfl)) pa_nil))))) pa_nil))
        (pa_cons (pe_op op_sub (pv 3) pe_int) pa_nil))))))), ?_⟩
    intro d nd
    have sd := same_upd (o := .dT []) nd
    refine ⟨_, rfl, _, _, rfl, rfl, .inl ⟨by decide, by decide⟩, _, rfl, by omega, by omega, ?_⟩
    rw [show (6 * (R.arnd : Int)).toNat = 6 * R.arnd by omega]
    refine for_range (lo := 0) (n := 6 * R.arnd) (fun i σ H' => ∃ (o : Option Nat) (es : List Ent) (v4 v5 v6 : Option V), σ = [some (.ref p), some (.int (R.arnd : Int)), some (.ref d), some (oV o), v4, v5, v6, none] ∧ Same H H' ∧ Soon R i o ∧ KI R H H' d es i 0)
      ⟨none, [], none, none, none, rfl, sd, rfl, ⟨upd_same, fun e m => (nomatch m), .nil, .nil, fun e m => (nomatch m), fun e m => (nomatch m), fun b k hb => by omega, Nat.zero_le _, fun e m => (nomatch m)⟩⟩ ?_ ?_
    · rintro i σ H1 hi ⟨o, es, v4, v5, v6, rfl, s1, so, ki⟩
      refine ⟨_, rfl, p, R, 0, _, rfl, rfl, s1 _ _ hp, ok, ?_⟩
      refine ⟨_, rfl, ?_⟩
      rw [seen0]
      refine while_by (fun σ H' => ∃ (n : Nat) (es : List Ent), σ = [some (.ref p), some (.int (R.arnd : Int)), some (.ref d), some (oV o), some (.int (0 + (i : Int))), some (.int (ag R R.top i n : Int)), some (.int ((i + n : Nat) : Int)), none] ∧ Same H H' ∧ (∀ j, j < n → ag R R.top i j ≠ R.fin) ∧ KI R H H' d es i n)
        (fun σ H' => match σ with | [_, _, _, _, _, _, some (.int h), _] => (((i + 1300 : Nat) : Int) - h).toNat | _ => 0) ⟨0, es, by rw [Int.zero_add]; rfl, s1, fun j hj => absurd hj (Nat.not_lt_zero j), ki⟩ ?_ ?_
      · rintro σ H2 ⟨n, es, rfl, s2, nf, ki⟩
        refine ⟨_, rfl, _, rfl, p, R, rfl, s2 _ _ hp, ok, fun H3 s3 => ⟨rfl, _, rfl, ?_⟩⟩
        have ki3 := ki.same s3
        have s23 := s2.trans s3
        rw [dec_int]
        by_cases e : ag R R.top i n = R.fin
        · rw [decide_eq_true (show (ag R R.top i n : Int) = (R.fin : Int) by rw [e])]
          refine iteF ?_
          have n13 : n ≤ 1300 := by
            by_cases c : n ≤ 1300
            · exact c
            · exact absurd (fin_first ok i) (nf 1300 (by omega))
          have sn := soon_next so e nf
          have ki4 := ki3.next e n13
          refine ⟨_, rfl, _, rfl, ?_⟩
          cases o with
          | none =>
            rw [decide_eq_true (show oV none = V.non from rfl)]
            refine iteT ⟨_, rfl, _, rfl, _, _, rfl, rfl, some n, es, some (.int (0 + (i : Int))), some (.int (ag R R.top i n : Int)), some (.int ((i + n : Nat) : Int)), ?_, s23, sn, ki4⟩
            have : ((i + n : Nat) : Int) - (0 + (i : Int)) = (n : Int) := by omega
            show _ = [some (.ref p), some (.int (R.arnd : Int)), some (.ref d), some (V.int (n : Int)), some (.int (0 + (i : Int))), some (.int (ag R R.top i n : Int)), some (.int ((i + n : Nat) : Int)), none]
            rw [← this]
            rfl
          | some sv =>
            rw [decide_eq_false (show ¬ oV (some sv) = V.non from fun z => nomatch z)]
            refine iteF ⟨_, rfl, _, rfl, _, rfl, _, _, rfl, rfl, _, _, rfl, some (min sv n), es, some (.int (0 + (i : Int))), some (.int (ag R R.top i n : Int)), some (.int ((i + n : Nat) : Int)), ?_, s23, sn, ki4⟩
            have : (if ((i + n : Nat) : Int) - (0 + (i : Int)) < (sv : Int) then ((i + n : Nat) : Int) - (0 + (i : Int)) else (sv : Int)) = ((min sv n : Nat) : Int) := by split <;> omega
            show _ = [some (.ref p), some (.int (R.arnd : Int)), some (.ref d), some (V.int ((min sv n : Nat) : Int)), some (.int (0 + (i : Int))), some (.int (ag R R.top i n : Int)), some (.int ((i + n : Nat) : Int)), none]
            rw [← this]
            rfl
        · rw [decide_eq_false (show ¬ (ag R R.top i n : Int) = (R.fin : Int) from fun z => e (Int.ofNat.inj z))]
          refine iteT ?_
          have n13 : n < 1300 := by
            by_cases c : n < 1300
            · exact c
            · exact absurd (fin_le (fin_first ok i) (show 1300 ≤ n by omega)) e
          have hi' : i < 6 * R.arnd := hi
          dsimp only [tSeq]
          refine abs_nx (t := tIfS _ _ _) (fun σ' H' => σ' = [some (.ref p), some (.int (R.arnd : Int)), some (.ref d), some (oV o), some (.int (0 + (i : Int))), some (.int (ag R R.top i n : Int)), some (.int ((i + n : Nat) : Int)), none] ∧ Same H H' ∧ ∃ es, KI R H H' d es i (n + 1)) (fun nx' hnx => ?_) ?_
          · refine ⟨_, rfl, _, _, rfl, rfl, .inl ⟨by decide, by decide⟩, _, rfl, _, _, rfl, rfl, _, rfl, ?_⟩
            by_cases c1 : 4 * R.arnd ≤ i + n
            · rw [decide_eq_true (show 4 * (R.arnd : Int) ≤ ((i + n : Nat) : Int) by omega)]
              refine iteT ⟨_, rfl, _, _, rfl, rfl, .inl ⟨by decide, by decide⟩, _, _, rfl, rfl, _, rfl, ?_⟩
              by_cases c2 : i + n < 5 * R.arnd
              · rw [decide_eq_true (show ((i + n : Nat) : Int) < 5 * (R.arnd : Int) by omega)]
                refine iteT ⟨_, rfl, d, rfl, .inr ⟨_, .inl ki3.at_⟩, ?_⟩
                refine ⟨_, rfl, _, rfl, (by show 2 ≤ sizeLine; decide), fun b nb => ?_⟩
                have sb := same_upd (o := .tup [V.int ((i + n : Nat) : Int), V.int (ag R R.top i n : Int)]) nb
                refine ⟨Nat.zero_le _, fun l nl => ?_⟩
                have sl := same_upd (o := .lst []) nl
                have s5 := (s23.trans sb).trans sl
                have ki5 := (ki3.same sb).same sl
                have bz : i * 1300 + n < sizeLine := Nat.lt_of_le_of_lt (show i * 1300 + n ≤ 9999999 by omega) (by decide)
                refine ⟨_, [.inl ((i + n : Nat) : Int), .inl (ag R R.top i n : Int)], b, ki5.at_, rfl, sl _ _ upd_same, ?_, fun v hv => ?_, fun hn => ?_⟩
                · rw [List.length_map]
                  exact Nat.lt_of_le_of_lt ki5.sz bz
                · obtain ⟨e0, m0, k0, rfl⟩ := val_some hv
                  obtain ⟨k1, k2⟩ := key_inj k0
                  have el := ki5.lst e0 m0
                  refine ⟨.inl ⟨rfl, _, SqL.of el⟩, _, rfl, e0.l, _, _, rfl, rfl, el, ?_, ?_⟩
                  · rw [List.length_map, List.length_map]
                    exact Nat.lt_of_le_of_lt (ki5.szb e0 m0) bz
                  · have kk := ki5.add m0 k1 k2
                    rw [← Int.zero_add (i : Int)] at kk
                    refine hnx _ _ ⟨rfl, fun x o' eo => ?_, _, kk⟩
                    rw [upd_ne (ne_of_none eo (ki5.fr e0 m0))]
                    exact s5 _ _ eo
                · rw [put_new hn]
                  have dl : d ≠ l := ne_of ki5.at_ upd_same (fun z => nomatch z)
                  have el : (upd (upd (upd H3 b (.tup [V.int ((i + n : Nat) : Int), V.int (ag R R.top i n : Int)])) l (.lst [])) d (.dT ((es ++ [Ent.mk (i + n) (ag R R.top i n) l []]).map Ent.kv))) l = some (.lst []) := by
                    rw [upd_ne dl.symm, upd_same]
                  refine ⟨.inl ⟨rfl, _, SqL.of el⟩, _, rfl, l, _, _, rfl, rfl, el, (by show 0 < sizeLine; decide), ?_⟩
                  have fl0 : H l = none := (s23.trans sb).free nl
                  have kk := ki5.fresh upd_same fl0 (fun e m q => by
                    have := (ki3.same sb).lst e m
                    rw [q, nl] at this
                    cases this) e c1 c2 hn
                  rw [← Int.zero_add (i : Int)] at kk
                  refine hnx _ _ ⟨rfl, fun x o' eo => ?_, _, kk⟩
                  rw [upd_ne (ne_of_none eo fl0), upd_ne (ne_of_none eo nd)]
                  exact s5 _ _ eo
              · rw [decide_eq_false (show ¬ ((i + n : Nat) : Int) < 5 * (R.arnd : Int) by omega)]
                exact iteF (hnx _ _ ⟨rfl, s23, es, ki3.skip (fun z => c2 z.2)⟩)
            · rw [decide_eq_false (show ¬ 4 * (R.arnd : Int) ≤ ((i + n : Nat) : Int) by omega)]
              exact iteF ⟨_, rfl, iteF (hnx _ _ ⟨rfl, s23, es, ki3.skip (fun z => c1 z.1)⟩)⟩
          · rintro σ' H4 ⟨rfl, s4, es', ki4⟩
            refine ⟨_, rfl, _, _, rfl, rfl, ?_⟩
            refine ⟨_, rfl, _, rfl, _, rfl, p, R, ag R R.top i n, i + n + 1, _, _, rfl, rfl, rfl, s4 _ _ hp, ok, ag_le R _ _ (top_le R) n, fun H5 s5 => ?_⟩
            refine ⟨⟨n + 1, es', rfl, s4.trans s5, fun j hj => ?_, ki4.same s5⟩, ?_⟩
            · by_cases c : j = n
              · rw [c]; exact e
              · exact nf j (by omega)
            · show (((i + 1300 : Nat) : Int) - (((i + n : Nat) : Int) + 1)).toNat < (((i + 1300 : Nat) : Int) - ((i + n : Nat) : Int)).toNat
              omega
      · rintro σ H2 Q1 Q2 imp ⟨x, hx, y, hy, p', R', e1, e2, e3, k⟩
        refine ⟨x, hx, y, hy, p', R', e1, e2, e3, fun H' s' => ?_⟩
        obtain ⟨g1, k', g2, qq⟩ := k H' s'
        exact ⟨g1, k', g2, imp _ _ qq⟩
    · rintro σ H1 ⟨o, es, v4, v5, v6, rfl, s1, so, ki⟩
      -- off
      obtain ⟨h0, m0, c1, c2, g1, g2, g3, g4, g5, g6, g7, g8⟩ := off_met ok iv
      obtain ⟨e1, me1, he1, mm1, be1⟩ := ki.co c1 (h0 - c1) (.inl (by omega)) (by rw [g5]; exact g7) (by omega) (by omega)
      obtain ⟨e2, me2, he2, mm2, be2⟩ := ki.co c2 (h0 - c2) (.inl (by omega)) (by rw [g6]; exact g7) (by omega) (by omega)
      obtain ⟨j1, hj1⟩ := List.mem_iff_getElem?.mp me1
      have same12 : e2 = e1 := by
        obtain ⟨j2, hj2⟩ := List.mem_iff_getElem?.mp me2
        have : j1 = j2 := nd_ix ki.nk (x := (h0, m0)) (by rw [List.getElem?_map, hj1]; exact congrArg some (by show (e1.h, e1.m) = (h0, m0); rw [he1, mm1, g5]; congr 1; omega))
          (by rw [List.getElem?_map, hj2]; exact congrArg some (by show (e2.h, e2.m) = (h0, m0); rw [he2, mm2, g6]; congr 1; omega))
        subst this
        exact Option.some.inj (hj2.symm.trans hj1)
      subst same12
      refine ⟨d, _, ki.at_, trivial, fun od => ?_⟩
      have nod : ∀ e, e ∈ es → e.l ≠ d := fun e m => ne_of (ki.lst e m) ki.at_ (fun z => nomatch z)
      refine ⟨_, rfl, d, od, rfl, .inr ⟨_, upd_same, fun D nD => ?_⟩⟩
      have dD : d ≠ D := ne_of_none upd_same nD
      have fD : H1 D = none := by
        rw [upd_ne dD.symm] at nD
        exact nD
      refine lc_keysT (d := d) (o := od) (kvs := es.map Ent.kv) (fun i H' => H' d = some (.frz od (.dT (es.map Ent.kv))) ∧ (∀ x o', H1 x = some o' → x ≠ d → H' x = some o') ∧ ∃ ws : List Int, ws.length = i ∧ H' D = some (.lst (ws.map V.int)) ∧ ∀ j, j < i → ∃ e mx mn, es[j]? = some e ∧ mx ∈ e.bs ∧ mn ∈ e.bs ∧ (∀ y, y ∈ e.bs → mn ≤ y ∧ y ≤ mx) ∧ ws[j]? = some ((mx : Int) - (mn : Int)))
        ⟨by rw [upd_ne dD]; exact upd_same, fun x o' eo nx => by rw [upd_ne (ne_of_none eo fD), upd_ne nx]; exact eo, [], rfl, upd_same, fun j hj => absurd hj (Nat.not_lt_zero j)⟩ (fun i H' h => h.1) ?_ ?_
      · rintro i k v q' H2 hk hq ⟨ed, kx, ws, lw, eD, hw⟩
        rw [List.getElem?_map] at hk
        cases eg : es[i]? with
        | none =>
          rw [eg] at hk
          cases hk
        | some e =>
        rw [eg] at hk
        obtain ⟨rfl, rfl⟩ := Prod.mk.inj (Option.some.inj hk)
        have me := List.mem_of_getElem? eg
        have el : H2 e.l = some (.lst ((e.bs.map Int.ofNat).map V.int)) := kx _ _ (ki.lst e me) (nod e me)
        have gv := val_at ki.nk e me
        have hd : DGet H2 d (.ref q') (some (.ref e.l)) := .inr ⟨_, e.key, q', .inr ⟨od, ed⟩, rfl, hq, gv.symm⟩
        have b0 : 0 < (e.bs.map Int.ofNat).length := by
          rw [List.length_map]
          exact List.length_pos_iff.mpr (ki.so e me).1
        refine ⟨rfl, _, rfl, _, rfl, d, _, rfl, hd, e.l, e.bs.map Int.ofNat, rfl, SqL.of el, b0, fun mx hmx bmx => ?_⟩
        refine ⟨_, rfl, _, rfl, d, _, rfl, hd, e.l, e.bs.map Int.ofNat, rfl, SqL.of el, b0, fun mn hmn bmn => ?_⟩
        obtain ⟨mx', hmx', rfl⟩ := List.mem_map.mp hmx
        obtain ⟨mn', hmn', rfl⟩ := List.mem_map.mp hmn
        have iz : i < sizeLine := by
          have l1 := (List.getElem?_eq_some_iff.mp eg).1
          have l2 := ki.sz
          exact Nat.lt_of_lt_of_le l1 (Nat.le_trans l2 (Nat.le_trans (show 6 * R.arnd * 1300 + 0 ≤ 9984000 by omega) (by decide)))
        refine ⟨_, _, rfl, rfl, _, eD, ?_, ?_, fun x o' eo nx => ?_, ws ++ [Int.ofNat mx' - Int.ofNat mn'], ?_, ?_, fun j hj => ?_⟩
        · rw [List.length_map, lw]
          exact iz
        · rw [upd_ne dD]; exact ed
        · rw [upd_ne (ne_of_none eo fD)]
          exact kx x o' eo nx
        · rw [List.length_append, lw]
          rfl
        · rw [upd_same, List.map_append]
          rfl
        · by_cases c : j = i
          · subst c
            refine ⟨e, mx', mn', eg, hmx', hmn', fun y hy => ?_, by rw [← lw]; simp⟩
            have a1 : (mn' : Int) ≤ (y : Int) := bmn _ (List.mem_map.mpr ⟨y, hy, rfl⟩)
            have a2 : (y : Int) ≤ (mx' : Int) := bmx _ (List.mem_map.mpr ⟨y, hy, rfl⟩)
            omega
          · obtain ⟨e', x', n', z1, z2, z3, z4, z5⟩ := hw j (by omega)
            exact ⟨e', x', n', z1, z2, z3, z4, by rw [List.getElem?_append_left (by omega)]; exact z5⟩
      · rintro H2 ⟨ed, kx, ws, lw, eD, hw⟩
        rw [List.length_map] at lw hw
        refine ⟨ed, ?_⟩
        have eD' : (upd H2 d (.dT (es.map Ent.kv))) D = some (.lst (ws.map V.int)) := by
          rw [upd_ne dD.symm]; exact eD
        have jl := (List.getElem?_eq_some_iff.mp hj1).1
        refine ⟨D, ws, rfl, SqL.of eD', by omega, fun M hM bM => ?_⟩
        have eM : M = (v : Int) := by
          obtain ⟨j, hj⟩ := List.mem_iff_getElem?.mp hM
          have jl2 : j < es.length := by
            have := (List.getElem?_eq_some_iff.mp hj).1
            omega
          obtain ⟨e', x', n', z1, z2, z3, z4, z5⟩ := hw j jl2
          have eM : M = (x' : Int) - (n' : Int) := Option.some.inj (hj.symm.trans z5)
          obtain ⟨t1, t2, t3, t4, t5⟩ := ki.so e' (List.mem_of_getElem? z1)
          obtain ⟨p1, p2⟩ := t5 x' z2
          obtain ⟨p3, p4⟩ := t5 n' z3
          have le := begins_off ok iv p3 p1 p4 p2 t4
          have nx := (z4 n' z3).2
          obtain ⟨e3, x3, n3, y1, y2, y3, y4, y5⟩ := hw j1 jl
          have ee : e3 = e2 := Option.some.inj (y1.symm.trans hj1)
          subst ee
          have lb : (x3 : Int) - (n3 : Int) ≤ M := bM _ (List.mem_of_getElem? y5)
          have w1 := y4 c1 be1
          have w2 := y4 c2 be2
          omega
        subst eM
        -- reach
        obtain ⟨b9, l9, f9⟩ := reach_met ok iu
        cases o with
        | none =>
          have h6 : 6 * R.arnd = 0 := so
          omega
        | some sv =>
          obtain ⟨u1, b8, l8, f8⟩ : (∀ b n, b < 6 * R.arnd → ag R R.top b n = R.fin → sv ≤ n) ∧ ∃ b, b < 6 * R.arnd ∧ ag R R.top b sv = R.fin := so
          have q1 := u1 b9 (u + 1) l9 f9
          have q2 := begins_reach ok iu f8
          refine ⟨_, rfl, _, _, rfl, rfl, (by show 2 ≤ sizeLine; decide), fun T nT => ?_⟩
          have st : Same H (upd H2 d (.dT (es.map Ent.kv))) := fun x o' eo => by
            have nx : x ≠ d := ne_of_none eo nd
            rw [upd_ne nx]
            exact kx _ _ (s1 _ _ eo) nx
          refine q _ T (st.free nT) (st.trans (same_upd nT)) ?_
          rw [upd_same]
          dsimp only
          rw [show (sv : Int) - 1 = (u : Int) by omega]
end
/-! ### the law -/
def spLaw (K : PySem.W.Frag) : Sp := fun vs H Q _ => ∃ (a : Addr) (ns : List Int), vs = [.ref a] ∧ SqL K H a (ns.map V.int) ∧ ns.length ≤ 63 ∧ ∀ H', Q (.bl true) H'
theorem many_is {R : Ru} (hR : R.ok) (nr : R.isRgh = false) : (R.isShf = true → R.ags R.fin = R.bits + 1) ∧ (R.isShf = false → R.ags R.fin = R.fin) := by
  cases R with
  | cnt b s => exact ⟨(fun h => nomatch h), fun _ => rfl⟩
  | shf b s => exact ⟨(fun _ => rfl), (fun h => nomatch h)⟩
  | rgh b => cases nr
theorem two_dp {K : PySem.W.Frag} {H : Hp} {a : Addr} {x y : Int} (e : H a = some (.lst [.int x, .int y])) : Dp K H (.ref a) (.list [.int x, .int y]) := Dp.lst (SqL.of e) (.cons (.int x) (.cons (.int y) .nil))
theorem two_dpt {K : PySem.W.Frag} {H : Hp} {a : Addr} {x y : Int} (e : H a = some (.tup [.int x, .int y])) : Dp K H (.ref a) (.tuple [.int x, .int y]) := Dp.tup (SqT.of e) (.cons (.int x) (.cons (.int y) .nil))
theorem arnd_cast {R : Ru} (nr : R.isRgh = false) : ((R.step : Int) * (1 + (if R.isShf = true then (R.bits : Int) + 1 else (R.fin : Int))) = (R.arnd : Int)) := by
  cases R with
  | cnt b s =>
    rw [if_neg (show ¬ (Ru.cnt b s).isShf = true from fun h => nomatch h)]
    show (s : Int) * (1 + ((2 ^ b - 1 : Nat) : Int)) = ((s * (1 + (2 ^ b - 1)) : Nat) : Int)
    rw [Int.natCast_mul]
    rfl
  | shf b s =>
    rw [if_pos (show (Ru.shf b s).isShf = true from rfl)]
    show (s : Int) * (1 + ((b : Int) + 1)) = ((s * (1 + (b + 1)) : Nat) : Int)
    rw [Int.natCast_mul]
    rfl
  | rgh b => cases nr
section
variable {P : Program} {w : World} {K : PySem.W.Frag} {mg : Str → Option Value} {base : Heap}
theorem sc_law : FnScope ["_law_script", "_law_h", "_law_turn", "_law_rule_here", "_law_many", "_law_small", "_law_around"] ["_law_script"] (defScope s_law) := ⟨rfl, rfl, rfl, by decide +kernel, rfl, by decide +kernel, by decide +kernel⟩
theorem ok_law {f : Addr} {fd : FuncData} (F : Fun K "law" "law" s_law f fd) (m_range : mg "range" = none)
    (C_mix : Cl P w K mg base 1 "_law_mix" ["_law_script", "_law_seed"] (spMix K)) (C_rule : Cl P w K mg base 2 "_law_rule" ["_law_h", "_law_small"] spRule) (C_end : Cl P w K mg base 1 "_law_end" ["_law_rule_here"] spEnd)
    (C_off : Cl P w K mg base 5 "off" ["rule"] spOff) (C_reach : Cl P w K mg base 4 "reach" ["rule"] spReach) (C_tried : Cl P w K mg base 4 "_law_tried" ["_law_rule_here", "_law_around"] spTried) (C_alike : Cl P w K mg base 2 "_law_alike" ["_law_found", "_law_due"] (spAlike K 1)) :
    FnOk P w K mg base CX0 6 f fd ["_law_script"] (spLaw K) := by
  refine F.ok sc_law (fun vs H Q E h => ?_) (fun cdv A outer s H vs Q E hr h => ?_)
  · obtain ⟨a, ns, rfl, _⟩ := h
    rfl
  · obtain ⟨a, ns, rfl, hS, hl, q⟩ := h
    refine ⟨_, pss_cons (ps_set (i := 1) sc_law.nd rfl (Or.inl rfl) (pe_cl C_mix hr (pa_cons (pv 0) (pa_cons pe_int pa_nil))))
      (pss_cons (ps_for PassesOwn.never rfl (pi_range1 (by rfl) m_range (pa_cons pe_int pa_nil)) (pg_name (i := 2) sc_law.nd rfl (Or.inl rfl))
        (pss_cons (ps_set (i := 3) sc_law.nd rfl (Or.inl rfl) (pe_cl C_rule hr (pa_cons (pv 1) (pa_cons pe_int pa_nil))))
        (pss_one (ps_if (pt_cmpR op_ne (pe_ix ix_tup (pv 3) pe_int (fun _ _ => rfl)) pe_str (nomark _))
          (pss_cons (ps_set (i := 4) sc_law.nd rfl (Or.inl rfl) (pe_ifExp (pt_cmpR op_eq (pe_ix ix_tup (pv 3) pe_int (fun _ _ => rfl)) pe_str (nomark _)) (pe_ix ix_tup (pv 3) pe_int (fun _ _ => rfl)) (pe_op op_sub (pe_cl C_end hr (pa_cons (pv 3) pa_nil)) pe_int)))
          (pss_one (ps_if (pt_not (pt_val (pe_cl C_alike hr (pa_cons (pe_lst (pa_cons (pe_cl C_off hr (pa_cons (pv 3) pa_nil)) (pa_cons (pe_cl C_reach hr (pa_cons (pv 3) pa_nil)) pa_nil))) (pa_cons (pe_lst (pa_cons (pe_op op_sub (pe_ix ix_tup (pv 3) pe_int (fun _ _ => rfl)) pe_int) (pa_cons (pe_op op_mul (pv 4) (pe_ix ix_tup (pv 3) pe_int (fun _ _ => rfl))) pa_nil))) pa_nil))))) pss_never pss_nil))) pss_nil))))
      (pss_cons (ps_set (i := 5) sc_law.nd rfl (Or.inl rfl) (pe_cl C_rule hr (pa_cons (pv 1) (pa_cons pe_int pa_nil))))
      (pss_cons (ps_set (i := 6) sc_law.nd rfl (Or.inl rfl) pe_int)
      (pss_cons (ps_if (pt_cmpR op_ne (pe_ix ix_tup (pv 5) pe_int (fun _ _ => rfl)) pe_str (nomark _)) (pss_one (ps_set (i := 6) sc_law.nd rfl (Or.inl rfl) (pe_op op_mul (pe_ix ix_tup (pv 5) pe_int (fun _ _ => rfl)) (pe_op op_add pe_int (pe_ifExp (pt_cmpR op_eq (pe_ix ix_tup (pv 5) pe_int (fun _ _ => rfl)) pe_str (nomark _)) (pe_op op_add (pe_ix ix_tup (pv 5) pe_int (fun _ _ => rfl)) pe_int) (pe_cl C_end hr (pa_cons (pv 5) pa_nil))))))) pss_nil)
      (pss_one (ps_ret (pe_cl C_alike hr (pa_cons (pe_tup (pa_cons (pe_cl C_off hr (pa_cons (pv 5) pa_nil)) (pa_cons (pe_cl C_reach hr (pa_cons (pv 5) pa_nil)) pa_nil))) (pa_cons (pe_cl C_tried hr (pa_cons (pv 5) (pa_cons (pv 6) pa_nil))) pa_nil))))))))), ?_⟩
    refine ⟨_, rfl, a, 13, ns, rfl, hS, hl, by decide, by decide, fun H0 h c ha0 _ _ s0 => ?_⟩
    refine ⟨6, rfl, by decide, by decide, for_range (lo := 0) (n := 6) (fun i σ H' => ∃ v2 v3 v4 : Option V, σ = [some (.ref a), some (.ref h), v2, v3, v4, none, none] ∧ HAt H' h c)
      ⟨none, none, none, rfl, ha0⟩ ?_ ?_⟩
    · rintro i σ H1 hi ⟨v2, v3, v4, rfl, ha1⟩
      refine ⟨_, rfl, h, c, 0, rfl, .inl rfl, ha1, fun R H2 p ok _ ha2 k2 hp2 => ?_⟩
      refine ⟨_, rfl, p, _, _, _, rfl, rfl, SqT.of hp2, R.at0, rfl, _, rfl, ?_⟩
      rw [dec_str]
      by_cases hk : R.kind = "rough"
      · rw [decide_eq_true hk]
        exact iteF ⟨_, _, _, rfl, ha2⟩
      · rw [decide_eq_false hk]
        have nr : R.isRgh = false := by
          cases e : R.isRgh with
          | false => rfl
          | true => exact absurd ((R.rough_iff).mpr e) hk
        have hs := R.step_ok ok
        have a1 := ags_fin ok nr
        obtain ⟨my1, my2⟩ := many_is ok nr
        refine iteT ⟨_, rfl, p, _, _, _, rfl, rfl, SqT.of hp2, R.at0, rfl, _, rfl, ?_⟩
        rw [dec_str]
        refine join_ifA (fun v' H3 => ∃ mv : Int, v' = .int mv ∧ mv = (R.ags R.fin : Int) - 1 ∧ Same H2 H3) ?_ (fun e Q' hQ => ?_) (fun e Q' hQ => ?_)
        · rintro v' H3 ⟨mv, rfl, emv, s3⟩
          refine ⟨_, rfl, p, R, rfl, s3 _ _ hp2, ok, fun v H4 iv s4 => ?_⟩
          refine ⟨_, rfl, p, R, rfl, s4 _ _ (s3 _ _ hp2), ok, fun u H5 iu s5 => ?_⟩
          have s35 := (s3.trans s4).trans s5
          refine ⟨(by show 2 ≤ sizeLine; decide), fun l1 n1 => ?_⟩
          have sl1 := same_upd (o := .lst [V.int (v : Int), V.int (u : Int)]) n1
          have hp6 := sl1 _ _ (s35 _ _ hp2)
          refine ⟨_, rfl, p, _, _, _, rfl, rfl, SqT.of hp6, R.at2 hk, _, _, rfl, rfl, _, rfl, _, rfl, p, _, _, _, rfl, rfl, SqT.of hp6, R.at2 hk, _, _, rfl, rfl, .inr (le64 (by omega) (by omega)), (by show 2 ≤ sizeLine; decide), fun l2 n2 => ?_⟩
          have ev : v = R.step - 1 := by
            rcases iv with ⟨z, _⟩ | ⟨_, z⟩
            · rw [nr] at z
              cases z
            · exact z
          have eu : u = (R.ags R.fin - 1) * R.step := by
            rcases iu with ⟨z, _⟩ | ⟨_, z⟩
            · rw [nr] at z
              cases z
            · exact z
          have e1 : (R.step : Int) - 1 = (v : Int) := by omega
          have e2 : mv * (R.step : Int) = (u : Int) := by
            rw [emv, eu, Int.natCast_mul]
            congr 1
            omega
          have sl2 := same_upd (o := .lst [V.int ((R.step : Int) - 1), V.int (mv * (R.step : Int))]) n2
          have d2 : (upd (upd H5 l1 (.lst [V.int (v : Int), V.int (u : Int)])) l2 (.lst [V.int ((R.step : Int) - 1), V.int (mv * (R.step : Int))])) l2 = some (.lst [V.int (v : Int), V.int (u : Int)]) := by
            rw [upd_same, e1, e2]
          refine ⟨_, _, .list [.int (v : Int), .int (u : Int)], rfl, two_dp (sl2 _ _ upd_same), two_dp d2, (by simp [PyData.depth, PyData.depthAll]), (by simp [szOk, szAll]), fun Hf sf => ⟨_, rfl, ?_⟩⟩
          exact iteF ⟨_, _, _, rfl, ha2.same (((s35.trans sl1).trans sl2).trans sf)⟩
        · have is := (R.shift_iff).mp (of_decide_eq_true e)
          have ea := my1 is
          exact ⟨_, rfl, p, _, _, _, rfl, rfl, SqT.of hp2, R.at1, hQ _ _ ⟨_, rfl, by omega, Same.refl H2⟩⟩
        · have is : R.isShf = false := by
            cases e2 : R.isShf with
            | false => rfl
            | true => exact absurd ((R.shift_iff).mpr e2) (of_decide_eq_false e)
          have ea := my2 is
          exact ⟨_, rfl, p, R, rfl, hp2, ok, fun H3 s3 => ⟨_, _, rfl, rfl, hQ _ _ ⟨_, rfl, by omega, s3⟩⟩⟩
    · rintro σ H1 ⟨v2, v3, v4, rfl, ha1⟩
      refine ⟨_, rfl, h, c, 1, rfl, .inr rfl, ha1, fun R H2 p ok _ ha2 k2 hp2 => ?_⟩
      dsimp only [gName, tSeq, tAsg, tC]
      refine abs_nx (t := tIfS _ _ _) (fun σ' H' => σ' = [some (.ref a), some (.ref h), v2, v3, v4, some (.ref p), some (.int (R.arnd : Int))] ∧ RuAt H' p R) (fun nx' hnx => ?_) ?_
      · refine ⟨_, rfl, p, _, _, _, rfl, rfl, SqT.of hp2, R.at0, rfl, _, rfl, ?_⟩
        rw [dec_str]
        by_cases hk : R.kind = "rough"
        · rw [decide_eq_true hk]
          refine iteF (hnx _ _ ⟨?_, hp2⟩)
          cases R with
          | cnt b s => exact absurd hk k_cr
          | shf b s => exact absurd hk k_sr
          | rgh b => rfl
        · rw [decide_eq_false hk]
          have nr : R.isRgh = false := by
            cases e : R.isRgh with
            | false => rfl
            | true => exact absurd ((R.rough_iff).mpr e) hk
          have hs := R.step_ok ok
          have ac := arnd_cast nr
          refine iteT ⟨_, rfl, p, _, _, _, rfl, rfl, SqT.of hp2, R.at2 hk, _, rfl, p, _, _, _, rfl, rfl, SqT.of hp2, R.at0, rfl, _, rfl, ?_⟩
          rw [dec_str]
          by_cases hk2 : R.kind = "shift"
          · have is := (R.shift_iff).mp hk2
            rw [is, if_pos rfl] at ac
            rw [decide_eq_true hk2]
            refine iteT ⟨_, rfl, p, _, _, _, rfl, rfl, SqT.of hp2, R.at1, _, _, rfl, rfl, _, _, rfl, rfl, _, _, rfl, rfl, .inl (le64 (by omega) (by omega)), hnx _ _ ⟨?_, hp2⟩⟩
            rw [← ac]
            rfl
          · rw [decide_eq_false hk2]
            have is : R.isShf = false := by
              cases e : R.isShf with
              | false => rfl
              | true => exact absurd ((R.shift_iff).mpr e) hk2
            rw [is, if_neg Bool.false_ne_true] at ac
            refine iteF ⟨_, rfl, p, R, rfl, hp2, ok, fun H3 s3 => ⟨_, _, rfl, rfl, _, _, rfl, rfl, .inl (le64 (by omega) (by omega)), hnx _ _ ⟨?_, s3 _ _ hp2⟩⟩⟩
            rw [← ac]
            rfl
      · rintro σ' H3 ⟨rfl, hp3⟩
        refine ⟨_, rfl, p, R, rfl, hp3, ok, fun v H4 iv s4 => ?_⟩
        refine ⟨_, rfl, p, R, rfl, s4 _ _ hp3, ok, fun u H5 iu s5 => ?_⟩
        refine ⟨(by show 2 ≤ sizeLine; decide), fun l1 n1 => ?_⟩
        have sl1 := same_upd (o := .tup [V.int (v : Int), V.int (u : Int)]) n1
        have hp6 := sl1 _ _ (s5 _ _ (s4 _ _ hp3))
        refine ⟨_, rfl, _, rfl, p, R, v, u, _, rfl, rfl, hp6, ok, iv, iu, fun H7 T nT s7 eT => ?_⟩
        refine ⟨_, _, .tuple [.int (v : Int), .int (u : Int)], rfl, two_dpt (s7 _ _ upd_same), two_dpt eT, (by simp [PyData.depth, PyData.depthAll]), (by simp [szOk, szAll]), fun Hf sf => q Hf⟩
end
theorem lims_mk {K : PySem.W.Frag} {w : World} {h : Heap} {mg : Str → Option Value} {d d1 d2 d3 : Addr} {es : Array DictEntry} {n n1 n2 n3 : Nat} {od1 od2 od3 : Option Addr} {sl1 sl2 sl3 : Array (Option Value)} {x1 x2 x3 x4 x5 : Tok} (X : K.In h) (G : h.Ns mainGlobals mg)
    (aL : PySem.W.nsIn K mainGlobals "LIMITS" = some (some (.ref d))) (lL : K.lookup d = some ⟨.type "dict", none, .dict es n, #[]⟩) (kL : PySem.W.KeysLit w.params es.toList) (sL : (d == sysModules) = false)
    (e1 : PySem.W.nsIn K d "count" = some (some (.ref d1))) (t1 : K.lookup d1 = some ⟨.type "tuple", od1, .seq #[.int 6 x1, .int 20 x2] n1, sl1⟩)
    (e2 : PySem.W.nsIn K d "shift" = some (some (.ref d2))) (t2 : K.lookup d2 = some ⟨.type "tuple", od2, .seq #[.int 10 x3, .int 20 x4] n2, sl2⟩)
    (e3 : PySem.W.nsIn K d "rough" = some (some (.ref d3))) (t3 : K.lookup d3 = some ⟨.type "tuple", od3, .seq #[.int 3 x5] n3, sl3⟩) : Lims K w mg := by
  refine ⟨d, es, n, PySem.W.mg_of X G aL, ⟨lL, kL, sL⟩, fun R => ?_⟩
  cases R with
  | cnt b s => exact ⟨d1, e1, _, _, _, t1, rfl, rfl, (by show 2 ≤ sizeLine; decide), .cons ⟨_, rfl⟩ (.cons ⟨_, rfl⟩ .nil)⟩
  | shf b s => exact ⟨d2, e2, _, _, _, t2, rfl, rfl, (by show 2 ≤ sizeLine; decide), .cons ⟨_, rfl⟩ (.cons ⟨_, rfl⟩ .nil)⟩
  | rgh b => exact ⟨d3, e3, _, _, _, t3, rfl, rfl, (by show 1 ≤ sizeLine; decide), .cons ⟨_, rfl⟩ .nil⟩
theorem all_mk {l : PySem.W.OpenLaw} {w : World} {K : PySem.W.Frag} {h : Heap} {mg : Str → Option Value} {fa : Addr} (X : K.In h) (G : h.Ns mainGlobals mg) (hfa : mg "law" = some (.ref fa))
    (d_is_rule : DefAt K mg "is_rule" s_is_rule ["rule"])
    (d_check_rule : DefAt K mg "check_rule" s_check_rule ["rule"])
    (d_top_mark : DefAt K mg "top_mark" s_top_mark ["rule"])
    (d_end_mark : DefAt K mg "end_mark" s_end_mark ["rule"])
    (d_seen : DefAt K mg "seen" s_seen ["rule", "mark"])
    (d_aged_on : DefAt K mg "aged_on" s_aged_on ["rule", "mark", "begin", "end"])
    (d_aged_roughly : DefAt K mg "_aged_roughly" s_aged_roughly ["last", "mark", "begin", "end"])
    (d_off : DefAt K mg "off" s_off ["rule"])
    (d_reach : DefAt K mg "reach" s_reach ["rule"])
    (d_agings : DefAt K mg "_agings" s_agings ["rule", "mark"])
    (d_rough_span : DefAt K mg "_rough_span" s_rough_span ["rule", "now", "mark"])
    (d_rough_moments : DefAt K mg "_rough_moments" s_rough_moments ["rule"])
    (d_rough_width : DefAt K mg "_rough_width" s_rough_width ["rule", "now"])
    (d_L_mix : DefAt K mg "_law_mix" s_L_mix ["_law_script", "_law_seed"])
    (d_L_next : DefAt K mg "_law_next" s_L_next ["_law_h", "_law_many"])
    (d_L_alike : DefAt K mg "_law_alike" s_L_alike ["_law_found", "_law_due"])
    (d_L_rule : DefAt K mg "_law_rule" s_L_rule ["_law_h", "_law_small"])
    (d_L_end : DefAt K mg "_law_end" s_L_end ["_law_rule_here"])
    (d_L_most : DefAt K mg "_law_most" s_L_most ["_law_rule_here"])
    (d_L_top : DefAt K mg "_law_top" s_L_top ["_law_rule_here"])
    (d_L_tick : DefAt K mg "_law_tick" s_L_tick ["_law_rule_here", "_law_mark", "_law_moment"])
    (d_L_seen : DefAt K mg "_law_seen" s_L_seen ["_law_rule_here", "_law_mark"])
    (d_L_tried : DefAt K mg "_law_tried" s_L_tried ["_law_rule_here", "_law_around"])
    (d_law : DefAt K mg "law" s_law ["_law_script"])
    (m_len : mg "len" = none) (m_all : mg "all" = none) (m_zip : mg "zip" = none) (m_min : mg "min" = none) (m_max : mg "max" = none) (m_list : mg "list" = none) (m_range : mg "range" = none) (m_int : mg "int" = none) (m_isi : mg "isinstance" = none) (m_tuple : mg "tuple" = none) (m_str : mg "str" = none) (m_bool : mg "bool" = none)
    {d dd1 dd2 dd3 : Addr} {es : Array DictEntry} {n n1 n2 n3 : Nat} {od1 od2 od3 : Option Addr} {sl1 sl2 sl3 : Array (Option Value)} {x1 x2 x3 x4 x5 : Tok}
    (aL : PySem.W.nsIn K mainGlobals "LIMITS" = some (some (.ref d))) (lL : K.lookup d = some ⟨.type "dict", none, .dict es n, #[]⟩) (kL : PySem.W.KeysLit w.params es.toList) (sL : (d == sysModules) = false)
    (e1 : PySem.W.nsIn K d "count" = some (some (.ref dd1))) (t1 : K.lookup dd1 = some ⟨.type "tuple", od1, .seq #[.int 6 x1, .int 20 x2] n1, sl1⟩)
    (e2 : PySem.W.nsIn K d "shift" = some (some (.ref dd2))) (t2 : K.lookup dd2 = some ⟨.type "tuple", od2, .seq #[.int 10 x3, .int 20 x4] n2, sl2⟩)
    (e3 : PySem.W.nsIn K d "rough" = some (some (.ref dd3))) (t3 : K.lookup dd3 = some ⟨.type "tuple", od3, .seq #[.int 3 x5] n3, sl3⟩)
    : ∃ fd : FuncData, (∀ (s : Shared) (v : Value), BindsTo s fd ⟨[v], []⟩ [("_law_script", v)]) ∧ ∀ base : Heap, K.In base → base.Ns mainGlobals mg → FnOk l.prog w K mg base CX0 6 fa fd ["_law_script"] (spLaw K) := by
  obtain ⟨f, fd, F, g, b⟩ := d_law
  have e := hfa.symm.trans g
  cases e
  have F' := F
  obtain ⟨⟨oc, od, kV, doc, pm, an, cdv, ct, osl, rfl, lk, hcd⟩, kp⟩ := F'
  refine ⟨PySem.W.fnOf "law" "law" (defArgs s_law) (defBody s_law) (defScope s_law) .none kV doc pm an cdv ct, fun s v => .of_eq rfl, fun base _ _ => ?_⟩
  have LI : Lims K w mg := lims_mk X G aL lL kL sL e1 t1 e2 t2 e3 t3

  have C_is : Cl l.prog w K mg base 1 "is_rule" ["rule"] spIsRule := ok_is_rule d_is_rule LI m_len m_all m_zip
  have C_cr := ok_check_rule d_check_rule C_is
  have C_tm : Cl l.prog w K mg base 1 "top_mark" ["rule"] spTopMark := ok_top_mark d_top_mark
  have C_ro : Cl l.prog w K mg base 1 "_aged_roughly" ["last", "mark", "begin", "end"] spRoughly := ok_roughly d_aged_roughly
  have C_ao := ok_aged_on d_aged_on m_min C_tm C_ro
  have C_em := ok_end_mark d_end_mark C_tm
  have C_se : Cl l.prog w K mg base 1 "seen" ["rule", "mark"] spSeen := ok_seen d_seen
  have C_gs := ok_agings d_agings C_se C_em
  have C_rs := ok_rough d_rough_span m_range C_em C_se C_ao
  have C_ms := ok_moments d_rough_moments m_list m_range C_em
  have C_wd := ok_width d_rough_width m_max m_range C_em C_rs
  have C_off := ok_off d_off m_max C_cr C_ms C_wd
  have C_re := ok_reach d_reach m_min C_cr C_ms C_rs C_em C_gs
  have C_mix : Cl l.prog w K mg base 1 "_law_mix" ["_law_script", "_law_seed"] (spMix K) := ok_mix d_L_mix m_list
  have C_next : Cl l.prog w K mg base 1 "_law_next" ["_law_h", "_law_many"] spNext := ok_next d_L_next m_max m_len
  have C_al0 : Cl l.prog w K mg base 1 "_law_alike" ["_law_found", "_law_due"] (spAlike K 0) := ok_alike0 d_L_alike m_isi m_tuple m_list m_str m_bool m_int
  have C_al := ok_alikeS d_L_alike m_isi m_tuple m_list m_str m_bool m_int m_len m_range C_al0
  have C_rule := ok_rule d_L_rule m_int C_next
  have C_end : Cl l.prog w K mg base 1 "_law_end" ["_law_rule_here"] spEnd := ok_end d_L_end
  have C_most : Cl l.prog w K mg base 1 "_law_most" ["_law_rule_here"] spTopMark := ok_most d_L_most m_range m_int
  have C_tick := ok_tick d_L_tick m_int m_min C_end
  have C_top := ok_top d_L_top C_most
  have C_ls := ok_Lseen d_L_seen C_top
  have C_tr := ok_tried d_L_tried m_range m_min m_max C_ls C_end C_tick
  exact ok_law F m_range C_mix C_rule C_end C_off C_re C_tr C_al
end LS
open PySem PySem.W PyProof.Rows
set_option maxHeartbeats 0 in
theorem PySem.Challenge.cw_lastseen_k05_how_far_off_and_how_long_holds : PySem.Challenge.rw_lastseen_k05_how_far_off_and_how_long.Holds := by
  w_on; o_law; k_head; (case hw => w_witness2)
  k_fill
  refine L2.walk_of (l := PySem.Challenge.rw_lastseen_k05_how_far_off_and_how_long) (n := 63) (k := 6) (x := "_law_script") (CX := fun _ => L2.CX0) (sp := fun w => LS.spLaw _) rfl (by decide) rfl ⟨rfl, by decide, by decide⟩ (fun w h Y => PySem.W.kIn_of Y) ?F (fun _ _ a ns hl _ hS => ⟨a, ns, rfl, hS, hl, fun _ => rfl⟩) (fun _ _ _ _ _ h => h)
  case F =>
    intro w mg fa h KX G hmg
    refine' LS.all_mk KX G hmg (LS.defAt_mk (st := LS.s_is_rule) (ps := ["rule"]) KX G ?a0 ?l0 ?c0 ?k0 (fun _ _ _ _ _ _ us hl => match us, hl with | [_], _ => rfl)) (LS.defAt_mk (st := LS.s_check_rule) (ps := ["rule"]) KX G ?a1 ?l1 ?c1 ?k1 (fun _ _ _ _ _ _ us hl => match us, hl with | [_], _ => rfl)) (LS.defAt_mk (st := LS.s_top_mark) (ps := ["rule"]) KX G ?a2 ?l2 ?c2 ?k2 (fun _ _ _ _ _ _ us hl => match us, hl with | [_], _ => rfl)) (LS.defAt_mk (st := LS.s_end_mark) (ps := ["rule"]) KX G ?a3 ?l3 ?c3 ?k3 (fun _ _ _ _ _ _ us hl => match us, hl with | [_], _ => rfl)) (LS.defAt_mk (st := LS.s_seen) (ps := ["rule", "mark"]) KX G ?a4 ?l4 ?c4 ?k4 (fun _ _ _ _ _ _ us hl => match us, hl with | [_, _], _ => rfl)) (LS.defAt_mk (st := LS.s_aged_on) (ps := ["rule", "mark", "begin", "end"]) KX G ?a5 ?l5 ?c5 ?k5 (fun _ _ _ _ _ _ us hl => match us, hl with | [_, _, _, _], _ => rfl)) (LS.defAt_mk (st := LS.s_aged_roughly) (ps := ["last", "mark", "begin", "end"]) KX G ?a6 ?l6 ?c6 ?k6 (fun _ _ _ _ _ _ us hl => match us, hl with | [_, _, _, _], _ => rfl)) (LS.defAt_mk (st := LS.s_off) (ps := ["rule"]) KX G ?a7 ?l7 ?c7 ?k7 (fun _ _ _ _ _ _ us hl => match us, hl with | [_], _ => rfl)) (LS.defAt_mk (st := LS.s_reach) (ps := ["rule"]) KX G ?a8 ?l8 ?c8 ?k8 (fun _ _ _ _ _ _ us hl => match us, hl with | [_], _ => rfl)) (LS.defAt_mk (st := LS.s_agings) (ps := ["rule", "mark"]) KX G ?a9 ?l9 ?c9 ?k9 (fun _ _ _ _ _ _ us hl => match us, hl with | [_, _], _ => rfl)) (LS.defAt_mk (st := LS.s_rough_span) (ps := ["rule", "now", "mark"]) KX G ?a10 ?l10 ?c10 ?k10 (fun _ _ _ _ _ _ us hl => match us, hl with | [_, _, _], _ => rfl)) (LS.defAt_mk (st := LS.s_rough_moments) (ps := ["rule"]) KX G ?a11 ?l11 ?c11 ?k11 (fun _ _ _ _ _ _ us hl => match us, hl with | [_], _ => rfl)) (LS.defAt_mk (st := LS.s_rough_width) (ps := ["rule", "now"]) KX G ?a12 ?l12 ?c12 ?k12 (fun _ _ _ _ _ _ us hl => match us, hl with | [_, _], _ => rfl)) (LS.defAt_mk (st := LS.s_L_mix) (ps := ["_law_script", "_law_seed"]) KX G ?a13 ?l13 ?c13 ?k13 (fun _ _ _ _ _ _ us hl => match us, hl with | [_, _], _ => rfl)) (LS.defAt_mk (st := LS.s_L_next) (ps := ["_law_h", "_law_many"]) KX G ?a14 ?l14 ?c14 ?k14 (fun _ _ _ _ _ _ us hl => match us, hl with | [_, _], _ => rfl)) (LS.defAt_mk (st := LS.s_L_alike) (ps := ["_law_found", "_law_due"]) KX G ?a15 ?l15 ?c15 ?k15 (fun _ _ _ _ _ _ us hl => match us, hl with | [_, _], _ => rfl)) (LS.defAt_mk (st := LS.s_L_rule) (ps := ["_law_h", "_law_small"]) KX G ?a16 ?l16 ?c16 ?k16 (fun _ _ _ _ _ _ us hl => match us, hl with | [_, _], _ => rfl)) (LS.defAt_mk (st := LS.s_L_end) (ps := ["_law_rule_here"]) KX G ?a17 ?l17 ?c17 ?k17 (fun _ _ _ _ _ _ us hl => match us, hl with | [_], _ => rfl)) (LS.defAt_mk (st := LS.s_L_most) (ps := ["_law_rule_here"]) KX G ?a18 ?l18 ?c18 ?k18 (fun _ _ _ _ _ _ us hl => match us, hl with | [_], _ => rfl)) (LS.defAt_mk (st := LS.s_L_top) (ps := ["_law_rule_here"]) KX G ?a19 ?l19 ?c19 ?k19 (fun _ _ _ _ _ _ us hl => match us, hl with | [_], _ => rfl)) (LS.defAt_mk (st := LS.s_L_tick) (ps := ["_law_rule_here", "_law_mark", "_law_moment"]) KX G ?a20 ?l20 ?c20 ?k20 (fun _ _ _ _ _ _ us hl => match us, hl with | [_, _, _], _ => rfl)) (LS.defAt_mk (st := LS.s_L_seen) (ps := ["_law_rule_here", "_law_mark"]) KX G ?a21 ?l21 ?c21 ?k21 (fun _ _ _ _ _ _ us hl => match us, hl with | [_, _], _ => rfl)) (LS.defAt_mk (st := LS.s_L_tried) (ps := ["_law_rule_here", "_law_around"]) KX G ?a22 ?l22 ?c22 ?k22 (fun _ _ _ _ _ _ us hl => match us, hl with | [_, _], _ => rfl)) (LS.defAt_mk (st := LS.s_law) (ps := ["_law_script"]) KX G ?a23 ?l23 ?c23 ?k23 (fun _ _ _ _ _ _ us hl => match us, hl with | [_], _ => rfl)) (PySem.W.mg_none_of KX G ?z0) (PySem.W.mg_none_of KX G ?z1) (PySem.W.mg_none_of KX G ?z2) (PySem.W.mg_none_of KX G ?z3) (PySem.W.mg_none_of KX G ?z4) (PySem.W.mg_none_of KX G ?z5) (PySem.W.mg_none_of KX G ?z6) (PySem.W.mg_none_of KX G ?z7) (PySem.W.mg_none_of KX G ?z8) (PySem.W.mg_none_of KX G ?z9) (PySem.W.mg_none_of KX G ?z10) (PySem.W.mg_none_of KX G ?z11) ?aL ?lL ?kL ?sL ?e1 ?t1 ?e2 ?t2 ?e3 ?t3
    (case a0 => k_is)
    (case l0 => k_is)
    (case c0 => k_is)
    (case k0 => k_is)
    (case a1 => k_is)
    (case l1 => k_is)
    (case c1 => k_is)
    (case k1 => k_is)
    (case a2 => k_is)
    (case l2 => k_is)
    (case c2 => k_is)
    (case k2 => k_is)
    (case a3 => k_is)
    (case l3 => k_is)
    (case c3 => k_is)
    (case k3 => k_is)
    (case a4 => k_is)
    (case l4 => k_is)
    (case c4 => k_is)
    (case k4 => k_is)
    (case a5 => k_is)
    (case l5 => k_is)
    (case c5 => k_is)
    (case k5 => k_is)
    (case a6 => k_is)
    (case l6 => k_is)
    (case c6 => k_is)
    (case k6 => k_is)
    (case a7 => k_is)
    (case l7 => k_is)
    (case c7 => k_is)
    (case k7 => k_is)
    (case a8 => k_is)
    (case l8 => k_is)
    (case c8 => k_is)
    (case k8 => k_is)
    (case a9 => k_is)
    (case l9 => k_is)
    (case c9 => k_is)
    (case k9 => k_is)
    (case a10 => k_is)
    (case l10 => k_is)
    (case c10 => k_is)
    (case k10 => k_is)
    (case a11 => k_is)
    (case l11 => k_is)
    (case c11 => k_is)
    (case k11 => k_is)
    (case a12 => k_is)
    (case l12 => k_is)
    (case c12 => k_is)
    (case k12 => k_is)
    (case a13 => k_is)
    (case l13 => k_is)
    (case c13 => k_is)
    (case k13 => k_is)
    (case a14 => k_is)
    (case l14 => k_is)
    (case c14 => k_is)
    (case k14 => k_is)
    (case a15 => k_is)
    (case l15 => k_is)
    (case c15 => k_is)
    (case k15 => k_is)
    (case a16 => k_is)
    (case l16 => k_is)
    (case c16 => k_is)
    (case k16 => k_is)
    (case a17 => k_is)
    (case l17 => k_is)
    (case c17 => k_is)
    (case k17 => k_is)
    (case a18 => k_is)
    (case l18 => k_is)
    (case c18 => k_is)
    (case k18 => k_is)
    (case a19 => k_is)
    (case l19 => k_is)
    (case c19 => k_is)
    (case k19 => k_is)
    (case a20 => k_is)
    (case l20 => k_is)
    (case c20 => k_is)
    (case k20 => k_is)
    (case a21 => k_is)
    (case l21 => k_is)
    (case c21 => k_is)
    (case k21 => k_is)
    (case a22 => k_is)
    (case l22 => k_is)
    (case c22 => k_is)
    (case k22 => k_is)
    (case a23 => k_is)
    (case l23 => k_is)
    (case c23 => k_is)
    (case k23 => k_is)
    (case z0 => k_is)
    (case z1 => k_is)
    (case z2 => k_is)
    (case z3 => k_is)
    (case z4 => k_is)
    (case z5 => k_is)
    (case z6 => k_is)
    (case z7 => k_is)
    (case z8 => k_is)
    (case z9 => k_is)
    (case z10 => k_is)
    (case z11 => k_is)
    (case aL => k_is)
    (case lL => k_is)
    (case kL => k_keys)
    (case sL => decide)
    (case e1 => k_is)
    (case t1 => k_is)
    (case e2 => k_is)
    (case t2 => k_is)
    (case e3 => k_is)
    (case t3 => k_is)
