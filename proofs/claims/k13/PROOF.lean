import PyProof.Rows.All
import Wide.All
import OpenK.AllK
import Wide.FinOn
import HandS.ForMost
import HandS.IsInst
import HandS.Zip
import HandS.More
import HandS.WideBits
import HandS.Conv
import HandS.SetFor
import HandS.ExcIs
import HandS.Lambda
import HandS.ForExc
import HandS.EndTab
import PyProof.DictMoreH
import HandS.Style
import PySem.Challenge.RW_lastseen_k13_whole_shift_and_count_alike
set_option Elab.async false
set_option linter.all false
set_option maxRecDepth 100000
set_option maxHeartbeats 4000000
namespace LS
/-- a rule: its kind, bits, step -/
inductive Ru where
  | cnt (b s : Nat)
  | shf (b s : Nat)
  | rgh (b : Nat)
def Ru.ok : Ru → Prop
  | .cnt b s => 1 ≤ b ∧ b ≤ 6 ∧ 1 ≤ s ∧ s ≤ 20
  | .shf b s => 1 ≤ b ∧ b ≤ 10 ∧ 1 ≤ s ∧ s ≤ 20
  | .rgh b => 1 ≤ b ∧ b ≤ 3
def Ru.bits : Ru → Nat
  | .cnt b _ => b
  | .shf b _ => b
  | .rgh b => b
/-- the greatest mark -/
def Ru.most : Ru → Nat
  | .cnt b _ => 2 ^ b - 1
  | .shf b _ => 2 ^ (b + 1) - 1
  | .rgh b => 2 ^ b - 1
/-- the mark that ageing leaves -/
def Ru.fin : Ru → Nat
  | .cnt b _ => 2 ^ b - 1
  | .shf _ _ => 0
  | .rgh b => 2 ^ b - 1
/-- the mark of a thing that was just seen for the first time -/
def Ru.top : Ru → Nat
  | .shf b _ => 2 ^ b
  | _ => 0
/-- the beginning of a moment -/
def tick : Ru → Nat → Nat → Nat
  | .cnt b s, m, t => if t % s = 0 then min (m + 1) (2 ^ b - 1) else m
  | .shf _ s, m, t => if t % s = 0 then m / 2 else m
  | .rgh b, m, t => if m ≠ 2 ^ b - 1 ∧ t % 2 ^ m = 0 then m + 1 else m
/-- n moments behind moment t -/
def ag (R : Ru) (m t : Nat) : Nat → Nat
  | 0 => m
  | n + 1 => tick R (ag R m t n) (t + n + 1)
theorem ag_add (R : Ru) (m t n : Nat) : ∀ k, ag R m t (n + k) = ag R (ag R m t n) (t + n) k
  | 0 => rfl
  | k + 1 => by
    show tick R (ag R m t (n + k)) (t + (n + k) + 1) = tick R (ag R (ag R m t n) (t + n) k) (t + n + k + 1)
    rw [ag_add R m t n k, Nat.add_assoc t n k]
theorem succ_div (k s : Nat) (hs : 0 < s) : (k + 1) / s = k / s + (if (k + 1) % s = 0 then 1 else 0) := by
  have e := Nat.div_add_mod k s
  have hr : k % s < s := Nat.mod_lt k hs
  by_cases h : k % s + 1 < s
  · have e1 : k + 1 = s * (k / s) + (k % s + 1) := by omega
    have d : (k + 1) / s = k / s := by
      have := congrArg (· / s) e1
      simp only [Nat.mul_add_div hs, Nat.div_eq_of_lt h, Nat.add_zero] at this
      exact this
    have m : (k + 1) % s = k % s + 1 := by
      have := congrArg (· % s) e1
      simp only [Nat.mul_add_mod] at this
      rw [this, Nat.mod_eq_of_lt h]
    rw [d, if_neg (by omega), Nat.add_zero]
  · have e2 : k % s + 1 = s := by omega
    have e1 : k + 1 = s * (k / s + 1) := by rw [Nat.mul_add, Nat.mul_one]; omega
    have d : (k + 1) / s = k / s + 1 := by
      have := congrArg (· / s) e1
      simp only [Nat.mul_div_cancel_left _ hs] at this
      exact this
    have m : (k + 1) % s = 0 := by
      have := congrArg (· % s) e1
      simp only [Nat.mul_mod_right] at this
      exact this
    rw [d, if_pos m]
theorem div_mono {a b : Nat} (s : Nat) (h : a ≤ b) : a / s ≤ b / s := Nat.div_le_div_right h
theorem ag_cnt (b s m t : Nat) (hs : 0 < s) (hm : m ≤ 2 ^ b - 1) : ∀ n, ag (.cnt b s) m t n = min (m + ((t + n) / s - t / s)) (2 ^ b - 1)
  | 0 => by
    show m = _
    rw [Nat.add_zero, Nat.sub_self, Nat.add_zero, Nat.min_eq_left hm]
  | n + 1 => by
    show (if (t + n + 1) % s = 0 then min (ag (.cnt b s) m t n + 1) (2 ^ b - 1) else ag (.cnt b s) m t n) = _
    rw [ag_cnt b s m t hs hm n]
    have e := succ_div (t + n) s hs
    have g := div_mono s (Nat.le_add_right t n)
    rw [show t + (n + 1) = t + n + 1 from rfl, e]
    by_cases h : (t + n + 1) % s = 0
    · rw [if_pos h, if_pos h]; omega
    · rw [if_neg h, if_neg h, Nat.add_zero]
theorem ag_shf (b s m t : Nat) (hs : 0 < s) : ∀ n, ag (.shf b s) m t n = m / 2 ^ ((t + n) / s - t / s)
  | 0 => by
    show m = _
    rw [Nat.add_zero, Nat.sub_self, Nat.pow_zero, Nat.div_one]
  | n + 1 => by
    show (if (t + n + 1) % s = 0 then ag (.shf b s) m t n / 2 else ag (.shf b s) m t n) = _
    rw [ag_shf b s m t hs n]
    have e := succ_div (t + n) s hs
    have g := div_mono s (Nat.le_add_right t n)
    rw [show t + (n + 1) = t + n + 1 from rfl, e]
    by_cases h : (t + n + 1) % s = 0
    · rw [if_pos h, if_pos h, Nat.div_div_eq_div_mul, ← Nat.pow_succ]
      congr 2; omega
    · rw [if_neg h, if_neg h, Nat.add_zero]
/-- where rough stands still -/
theorem ag_rgh_fin (b t : Nat) : ∀ n, ag (.rgh b) (2 ^ b - 1) t n = 2 ^ b - 1
  | 0 => rfl
  | n + 1 => by
    show (if ag (.rgh b) (2 ^ b - 1) t n ≠ 2 ^ b - 1 ∧ _ then _ else _) = _
    rw [ag_rgh_fin b t n, if_neg (fun h => h.1 rfl)]
theorem ag_rgh_still (b m t : Nat) : ∀ n, n < (t / 2 ^ m + 1) * 2 ^ m - t → ag (.rgh b) m t n = m
  | 0, _ => rfl
  | n + 1, h => by
    show (if ag (.rgh b) m t n ≠ 2 ^ b - 1 ∧ (t + n + 1) % 2 ^ ag (.rgh b) m t n = 0 then ag (.rgh b) m t n + 1 else ag (.rgh b) m t n) = _
    rw [ag_rgh_still b m t n (by omega)]
    refine if_neg fun ⟨_, h2⟩ => ?_
    have hp : 0 < 2 ^ m := Nat.two_pow_pos m
    have e := Nat.div_add_mod t (2 ^ m)
    have e2 := Nat.div_add_mod (t + n + 1) (2 ^ m)
    have h3 : t + n + 1 < (t / 2 ^ m + 1) * 2 ^ m := by omega
    have h4 : (t + n + 1) / 2 ^ m < t / 2 ^ m + 1 := (Nat.div_lt_iff_lt_mul hp).mpr h3
    have h5 := div_mono (2 ^ m) (show t ≤ t + n + 1 by omega)
    have h6 : (t + n + 1) / 2 ^ m = t / 2 ^ m := by omega
    rw [h6, h2] at e2
    have h7 : 2 ^ m * (t / 2 ^ m) ≤ t := by omega
    omega
theorem next_gt (m t : Nat) : t < (t / 2 ^ m + 1) * 2 ^ m := by
  have hp : 0 < 2 ^ m := Nat.two_pow_pos m
  have e := Nat.div_add_mod t (2 ^ m)
  have := Nat.mod_lt t hp
  rw [Nat.add_mul, Nat.one_mul, Nat.mul_comm]
  omega
theorem next_le (m t : Nat) : (t / 2 ^ m + 1) * 2 ^ m ≤ t + 2 ^ m := by
  have e := Nat.div_add_mod t (2 ^ m)
  rw [Nat.add_mul, Nat.one_mul, Nat.mul_comm]
  omega
theorem ag_rgh_next (b m t : Nat) (hm : m ≠ 2 ^ b - 1) : ag (.rgh b) m t ((t / 2 ^ m + 1) * 2 ^ m - t) = m + 1 := by
  have g := next_gt m t
  obtain ⟨n, hn⟩ : ∃ n, (t / 2 ^ m + 1) * 2 ^ m - t = n + 1 := ⟨(t / 2 ^ m + 1) * 2 ^ m - t - 1, by omega⟩
  rw [hn]
  show (if ag (.rgh b) m t n ≠ 2 ^ b - 1 ∧ (t + n + 1) % 2 ^ ag (.rgh b) m t n = 0 then ag (.rgh b) m t n + 1 else ag (.rgh b) m t n) = _
  have e3 : (t + n + 1) % 2 ^ m = 0 := by
    rw [show t + n + 1 = (t / 2 ^ m + 1) * 2 ^ m by omega]
    exact Nat.mul_mod_left _ _
  rw [ag_rgh_still b m t n (by omega), if_pos ⟨hm, e3⟩]
theorem tick_le (R : Ru) (m t : Nat) (h : m ≤ R.most) : tick R m t ≤ R.most := by
  cases R with
  | cnt b s =>
    show (if t % s = 0 then min (m + 1) (2 ^ b - 1) else m) ≤ 2 ^ b - 1
    have h' : m ≤ 2 ^ b - 1 := h
    split <;> omega
  | shf b s =>
    show (if t % s = 0 then m / 2 else m) ≤ 2 ^ (b + 1) - 1
    have h' : m ≤ 2 ^ (b + 1) - 1 := h
    split <;> omega
  | rgh b =>
    show (if m ≠ 2 ^ b - 1 ∧ t % 2 ^ m = 0 then m + 1 else m) ≤ 2 ^ b - 1
    have h' : m ≤ 2 ^ b - 1 := h
    split
    · rename_i c
      have := c.1
      omega
    · exact h'
theorem ag_le (R : Ru) (m t : Nat) (h : m ≤ R.most) : ∀ n, ag R m t n ≤ R.most
  | 0 => h
  | n + 1 => tick_le R _ _ (ag_le R m t h n)
/-- the length of a round -/
def Ru.round : Ru → Nat
  | .cnt _ s => s
  | .shf _ s => s
  | .rgh _ => 64
theorem pow_div64 {m : Nat} (h : m ≤ 6) (t k : Nat) : (t + 64 * k) % 2 ^ m = t % 2 ^ m := by
  have : m = 0 ∨ m = 1 ∨ m = 2 ∨ m = 3 ∨ m = 4 ∨ m = 5 ∨ m = 6 := by omega
  rcases this with rfl | rfl | rfl | rfl | rfl | rfl | rfl <;> simp only [Nat.reducePow] <;> omega
theorem tick_round (R : Ru) (hR : R.ok) (m t k : Nat) (h : m ≤ R.most) : tick R m (t + R.round * k) = tick R m t := by
  cases R with
  | cnt b s =>
    show (if (t + s * k) % s = 0 then min (m + 1) (2 ^ b - 1) else m) = if t % s = 0 then min (m + 1) (2 ^ b - 1) else m
    rw [Nat.add_mul_mod_self_left]
  | shf b s =>
    show (if (t + s * k) % s = 0 then m / 2 else m) = if t % s = 0 then m / 2 else m
    rw [Nat.add_mul_mod_self_left]
  | rgh b =>
    show (if m ≠ 2 ^ b - 1 ∧ (t + 64 * k) % 2 ^ m = 0 then m + 1 else m) = if m ≠ 2 ^ b - 1 ∧ t % 2 ^ m = 0 then m + 1 else m
    by_cases e : m = 2 ^ b - 1
    · rw [if_neg (fun h => h.1 e), if_neg (fun h => h.1 e)]
    · have h' : m ≤ 2 ^ b - 1 := h
      obtain ⟨h1, h2⟩ : 1 ≤ b ∧ b ≤ 3 := hR
      have hb : b = 1 ∨ b = 2 ∨ b = 3 := by omega
      have h6 : m ≤ 6 := by
        rcases hb with rfl | rfl | rfl <;> simp only [Nat.reducePow] at h' e <;> omega
      rw [pow_div64 h6]
theorem ag_round (R : Ru) (hR : R.ok) (m t k : Nat) (h : m ≤ R.most) : ∀ n, ag R m (t + R.round * k) n = ag R m t n
  | 0 => rfl
  | n + 1 => by
    show tick R (ag R m (t + R.round * k) n) (t + R.round * k + n + 1) = tick R (ag R m t n) (t + n + 1)
    rw [ag_round R hR m t k h n, show t + R.round * k + n + 1 = (t + n + 1) + R.round * k by omega]
    exact tick_round R hR _ _ k (ag_le R m t h n)
theorem ag_rgh_mono1 (b m t n : Nat) : ag (.rgh b) m t n ≤ ag (.rgh b) m t (n + 1) := by
  show ag (.rgh b) m t n ≤ (if ag (.rgh b) m t n ≠ 2 ^ b - 1 ∧ (t + n + 1) % 2 ^ ag (.rgh b) m t n = 0 then ag (.rgh b) m t n + 1 else ag (.rgh b) m t n)
  split <;> omega
theorem ag_rgh_mono (b m t n : Nat) : ∀ k, ag (.rgh b) m t n ≤ ag (.rgh b) m t (n + k)
  | 0 => Nat.le_refl _
  | k + 1 => Nat.le_trans (ag_rgh_mono b m t n k) (ag_rgh_mono1 b m t (n + k))
theorem rgh_reach (b m t : Nat) : ∀ e, e ≤ 2 ^ b - 1 → e ≤ ag (.rgh b) m t (2 ^ e - 1)
  | 0, _ => Nat.zero_le _
  | e + 1, he => by
    have ih := rgh_reach b m t e (by omega)
    have hp := Nat.two_pow_pos e
    have e2 : 2 ^ (e + 1) - 1 = (2 ^ e - 1) + 2 ^ e := by rw [Nat.pow_succ]; omega
    rw [e2]
    by_cases c : e + 1 ≤ ag (.rgh b) m t (2 ^ e - 1)
    · exact Nat.le_trans c (ag_rgh_mono b m t _ _)
    · have ee : ag (.rgh b) m t (2 ^ e - 1) = e := by omega
      rw [ag_add, ee]
      have nx := next_le e (t + (2 ^ e - 1))
      have gx := next_gt e (t + (2 ^ e - 1))
      have r := ag_rgh_next b e (t + (2 ^ e - 1)) (by omega)
      obtain ⟨k, hk⟩ : ∃ k, 2 ^ e = ((t + (2 ^ e - 1)) / 2 ^ e + 1) * 2 ^ e - (t + (2 ^ e - 1)) + k :=
        ⟨2 ^ e - (((t + (2 ^ e - 1)) / 2 ^ e + 1) * 2 ^ e - (t + (2 ^ e - 1))), by omega⟩
      have mo := ag_rgh_mono b e (t + (2 ^ e - 1)) (((t + (2 ^ e - 1)) / 2 ^ e + 1) * 2 ^ e - (t + (2 ^ e - 1))) k
      rw [r, ← hk] at mo
      exact mo
theorem div_add_ge (t n s : Nat) (hs : 0 < s) : n / s ≤ (t + n) / s - t / s := by
  have h1 := Nat.div_mul_le_self t s
  have h2 := Nat.div_mul_le_self n s
  have : t / s + n / s ≤ (t + n) / s := (Nat.le_div_iff_mul_le hs).mpr (by rw [Nat.add_mul]; omega)
  omega
/-- far behind: the end -/
theorem ag_far (R : Ru) (hR : R.ok) (m t n : Nat) (h : m ≤ R.most) (hn : 1300 ≤ n) : ag R m t n = R.fin := by
  cases R with
  | cnt b s =>
    obtain ⟨h1, h2, h3, h4⟩ : 1 ≤ b ∧ b ≤ 6 ∧ 1 ≤ s ∧ s ≤ 20 := hR
    have h' : m ≤ 2 ^ b - 1 := h
    rw [ag_cnt b s m t h3 h' n]
    show _ = 2 ^ b - 1
    have g := div_add_ge t n s h3
    have : 65 ≤ n / s := (Nat.le_div_iff_mul_le h3).mpr (Nat.le_trans (Nat.mul_le_mul_left 65 h4) hn)
    have : 2 ^ b ≤ 2 ^ 6 := Nat.pow_le_pow_right (by decide) h2
    omega
  | shf b s =>
    obtain ⟨h1, h2, h3, h4⟩ : 1 ≤ b ∧ b ≤ 10 ∧ 1 ≤ s ∧ s ≤ 20 := hR
    have h' : m ≤ 2 ^ (b + 1) - 1 := h
    rw [ag_shf b s m t h3 n]
    show _ = 0
    have g := div_add_ge t n s h3
    have : 65 ≤ n / s := (Nat.le_div_iff_mul_le h3).mpr (Nat.le_trans (Nat.mul_le_mul_left 65 h4) hn)
    have : 2 ^ (b + 1) ≤ 2 ^ ((t + n) / s - t / s) := Nat.pow_le_pow_right (by decide) (by omega)
    have := Nat.two_pow_pos (b + 1)
    exact Nat.div_eq_of_lt (by omega)
  | rgh b =>
    obtain ⟨h1, h2⟩ : 1 ≤ b ∧ b ≤ 3 := hR
    have le := ag_le (.rgh b) m t h n
    have r := rgh_reach b m t (2 ^ b - 1) (Nat.le_refl _)
    have hb : b = 1 ∨ b = 2 ∨ b = 3 := by omega
    have h7 : 2 ^ (2 ^ b - 1) - 1 ≤ 127 := by rcases hb with rfl | rfl | rfl <;> decide
    obtain ⟨k, hk⟩ : ∃ k, n = 2 ^ (2 ^ b - 1) - 1 + k := ⟨n - (2 ^ (2 ^ b - 1) - 1), by omega⟩
    have mo := ag_rgh_mono b m t (2 ^ (2 ^ b - 1) - 1) k
    rw [← hk] at mo
    show _ = 2 ^ b - 1
    have le' : ag (.rgh b) m t n ≤ 2 ^ b - 1 := le
    omega
end LS
namespace LS
def Ru.isShf : Ru → Bool
  | .shf _ _ => true
  | _ => false
def Ru.isRgh : Ru → Bool
  | .rgh _ => true
  | _ => false
/-- what the mark of a thing that was seen so many moments ago comes to -/
def one (R : Ru) (now a : Nat) : Nat := ag R R.top (now - a) a
/-- it may have such a mark -/
def poss (R : Ru) (now mark a : Nat) : Bool :=
  if R.isShf && decide (0 < one R now a) then decide (one R now a ≤ mark) && decide (mark < 2 * one R now a) else decide (one R now a = mark)
def IsSpan (R : Ru) (now mark : Nat) (x y : Option Nat) : Prop :=
  (x = none ∧ y = none ∧ ∀ a, a ≤ now → poss R now mark a = false) ∨
  (∃ lo, x = some lo ∧ lo ≤ now ∧ poss R now mark lo = true ∧ (∀ a, a ≤ now → poss R now mark a = true → lo ≤ a) ∧
    ((mark = R.fin ∧ y = none) ∨ (mark ≠ R.fin ∧ ∃ hi, y = some hi ∧ hi ≤ now ∧ poss R now mark hi = true ∧ ∀ a, a ≤ now → poss R now mark a = true → a ≤ hi)))
theorem IsSpan.uniq {R : Ru} {now mark : Nat} {x y x' y' : Option Nat} (h : IsSpan R now mark x y) (h' : IsSpan R now mark x' y') : x = x' ∧ y = y' := by
  rcases h with ⟨rfl, rfl, h⟩ | ⟨lo, rfl, h1, h2, h3, h4⟩
  · rcases h' with ⟨rfl, rfl, _⟩ | ⟨lo', rfl, k1, k2, _⟩
    · exact ⟨rfl, rfl⟩
    · rw [h lo' k1] at k2
      cases k2
  · rcases h' with ⟨rfl, rfl, h'⟩ | ⟨lo', rfl, k1, k2, k3, k4⟩
    · rw [h' lo h1] at h2
      cases h2
    · have e : lo = lo' := Nat.le_antisymm (h3 _ k1 k2) (k3 _ h1 h2)
      refine ⟨by rw [e], ?_⟩
      rcases h4 with ⟨e1, rfl⟩ | ⟨e1, hi, rfl, a1, a2, a3⟩
      · rcases k4 with ⟨_, rfl⟩ | ⟨n1, _⟩
        · rfl
        · exact absurd e1 n1
      · rcases k4 with ⟨n1, rfl⟩ | ⟨_, hi', rfl, b1, b2, b3⟩
        · exact absurd n1 e1
        · rw [Nat.le_antisymm (b3 _ a1 a2) (a3 _ b1 b2)]
/-! ### the lists that are found -/
def fl (R : Ru) (now mark n : Nat) : List Nat := (List.range n).filter (poss R now mark)
theorem fl_succ (R : Ru) (now mark n : Nat) : fl R now mark (n + 1) = if poss R now mark n = true then fl R now mark n ++ [n] else fl R now mark n := by
  unfold fl
  rw [List.range_succ, List.filter_append]
  by_cases h : poss R now mark n = true
  · rw [if_pos h, List.filter_cons_of_pos h]
    rfl
  · rw [if_neg h, List.filter_cons_of_neg h, List.filter_nil, List.append_nil]
theorem mem_fl {R : Ru} {now mark n a : Nat} : a ∈ fl R now mark n ↔ a < n ∧ poss R now mark a = true := by
  unfold fl
  rw [List.mem_filter, List.mem_range]
theorem fl_len (R : Ru) (now mark n : Nat) : (fl R now mark n).length ≤ n := by
  unfold fl
  exact Nat.le_trans (List.length_filter_le _ _) (by rw [List.length_range]; exact Nat.le_refl n)
/-- the tried ones do -/
def Cov (R : Ru) (now mark cnt : Nat) : Prop := cnt ≤ now + 1 ∧ ∀ a, cnt ≤ a → a ≤ now → poss R now mark a = true → mark = R.fin ∧ ∃ a', a' < cnt ∧ poss R now mark a' = true
theorem span_nil {R : Ru} {now mark cnt : Nat} (c : Cov R now mark cnt) (h : fl R now mark cnt = []) : IsSpan R now mark none none := by
  have no : ∀ a, a < cnt → poss R now mark a = false := fun a ha => by
    cases e : poss R now mark a with
    | false => rfl
    | true =>
      have : a ∈ fl R now mark cnt := mem_fl.mpr ⟨ha, e⟩
      rw [h] at this
      cases this
  refine .inl ⟨rfl, rfl, fun a ha => ?_⟩
  by_cases hc : a < cnt
  · exact no a hc
  · cases e : poss R now mark a with
    | false => rfl
    | true =>
      obtain ⟨_, a', l, p⟩ := c.2 a (by omega) ha e
      rw [no a' l] at p
      cases p
theorem span_some {R : Ru} {now mark cnt lo : Nat} {y : Option Nat} (c : Cov R now mark cnt) (h1 : lo ∈ fl R now mark cnt) (h2 : ∀ a, a ∈ fl R now mark cnt → lo ≤ a)
    (h3 : (mark = R.fin ∧ y = none) ∨ (mark ≠ R.fin ∧ ∃ hi, y = some hi ∧ hi ∈ fl R now mark cnt ∧ ∀ a, a ∈ fl R now mark cnt → a ≤ hi)) : IsSpan R now mark (some lo) y := by
  obtain ⟨l1, l2⟩ := mem_fl.mp h1
  have c1 := c.1
  refine .inr ⟨lo, rfl, by omega, l2, fun a ha hp => ?_, ?_⟩
  · by_cases hc : a < cnt
    · exact h2 a (mem_fl.mpr ⟨hc, hp⟩)
    · omega
  · rcases h3 with h3 | ⟨n1, hi, rfl, m1, m2⟩
    · exact .inl h3
    · obtain ⟨q1, q2⟩ := mem_fl.mp m1
      refine .inr ⟨n1, hi, rfl, by omega, q2, fun a ha hp => ?_⟩
      by_cases hc : a < cnt
      · exact m2 a (mem_fl.mpr ⟨hc, hp⟩)
      · exact absurd (c.2 a (by omega) ha hp).1 n1
theorem fl_pair (R : Ru) (now mark n : Nat) : (fl R now mark n).Pairwise (· < ·) := List.Pairwise.filter _ List.pairwise_lt_range
theorem fl_head {R : Ru} {now mark n lo : Nat} {r : List Nat} (e : fl R now mark n = lo :: r) : lo ∈ fl R now mark n ∧ ∀ a, a ∈ fl R now mark n → lo ≤ a := by
  have p := fl_pair R now mark n
  rw [e] at p ⊢
  refine ⟨List.mem_cons_self, fun a ha => ?_⟩
  rcases List.mem_cons.mp ha with rfl | ha
  · exact Nat.le_refl _
  · exact Nat.le_of_lt ((List.pairwise_cons.mp p).1 a ha)
theorem fl_last {R : Ru} {now mark n hi : Nat} {r : List Nat} (e : fl R now mark n = r ++ [hi]) : hi ∈ fl R now mark n ∧ ∀ a, a ∈ fl R now mark n → a ≤ hi := by
  have p := fl_pair R now mark n
  rw [e] at p ⊢
  refine ⟨List.mem_append_right _ List.mem_cons_self, fun a ha => ?_⟩
  rcases List.mem_append.mp ha with ha | ha
  · exact Nat.le_of_lt ((List.pairwise_append.mp p).2.2 a ha hi List.mem_cons_self)
  · rcases List.mem_cons.mp ha with rfl | ha
    · exact Nat.le_refl _
    · cases ha
/-! ### rough: later is less -/
theorem tick_rgh_mono (b t : Nat) {m m' : Nat} (h : m ≤ m') : tick (.rgh b) m t ≤ tick (.rgh b) m' t := by
  by_cases e : m = m'
  · rw [e]; exact Nat.le_refl _
  · have h1 : tick (.rgh b) m t ≤ m + 1 := by
      show (if m ≠ 2 ^ b - 1 ∧ t % 2 ^ m = 0 then m + 1 else m) ≤ m + 1
      split <;> omega
    have h2 : m' ≤ tick (.rgh b) m' t := by
      show m' ≤ (if m' ≠ 2 ^ b - 1 ∧ t % 2 ^ m' = 0 then m' + 1 else m')
      split <;> omega
    omega
theorem ag_rgh_mark (b t : Nat) {m m' : Nat} (h : m ≤ m') : ∀ n, ag (.rgh b) m t n ≤ ag (.rgh b) m' t n
  | 0 => h
  | n + 1 => tick_rgh_mono b _ (ag_rgh_mark b t h n)
theorem one_rgh_step (b now a : Nat) (h : a + 1 ≤ now) : one (.rgh b) now a ≤ one (.rgh b) now (a + 1) := by
  show ag (.rgh b) 0 (now - a) a ≤ ag (.rgh b) 0 (now - (a + 1)) (a + 1)
  rw [Nat.add_comm a 1, ag_add]
  rw [show now - (1 + a) + 1 = now - a by omega]
  exact ag_rgh_mark b _ (Nat.zero_le _) a
theorem one_rgh_mono (b now a : Nat) : ∀ k, a + k ≤ now → one (.rgh b) now a ≤ one (.rgh b) now (a + k)
  | 0, _ => Nat.le_refl _
  | k + 1, h => Nat.le_trans (one_rgh_mono b now a k (by omega)) (one_rgh_step b now (a + k) (by omega))
theorem one_le (R : Ru) (now a : Nat) (h : R.top ≤ R.most) : one R now a ≤ R.most := ag_le R _ _ h a
theorem top_le (R : Ru) : R.top ≤ R.most := by
  cases R with
  | cnt b s => exact Nat.zero_le _
  | rgh b => exact Nat.zero_le _
  | shf b s =>
    show 2 ^ b ≤ 2 ^ (b + 1) - 1
    have := Nat.two_pow_pos b
    rw [Nat.pow_succ]
    omega
/-- the end is kept -/
theorem one_rgh_fin {b now a a' : Nat} (h : one (.rgh b) now a = 2 ^ b - 1) (h1 : a ≤ a') (h2 : a' ≤ now) : one (.rgh b) now a' = 2 ^ b - 1 := by
  obtain ⟨k, rfl⟩ : ∃ k, a' = a + k := ⟨a' - a, by omega⟩
  have m := one_rgh_mono b now a k h2
  have l : one (.rgh b) now (a + k) ≤ 2 ^ b - 1 := one_le (.rgh b) now (a + k) (top_le _)
  omega
theorem one_rgh_far {b now a : Nat} (hb : b ≤ 3) (ha : 127 ≤ a) : one (.rgh b) now a = 2 ^ b - 1 := by
  have p3 : 2 ^ b ≤ 2 ^ 3 := Nat.pow_le_pow_right (by decide) hb
  have h7 : 2 ^ (2 ^ b - 1) ≤ 2 ^ 7 := Nat.pow_le_pow_right (by decide) (by omega)
  have r := rgh_reach b 0 (now - a) (2 ^ b - 1) (Nat.le_refl _)
  obtain ⟨k, hk⟩ : ∃ k, a = (2 ^ (2 ^ b - 1) - 1) + k := ⟨a - (2 ^ (2 ^ b - 1) - 1), by omega⟩
  have mo := ag_rgh_mono b 0 (now - a) (2 ^ (2 ^ b - 1) - 1) k
  rw [← hk] at mo
  have l : one (.rgh b) now a ≤ 2 ^ b - 1 := one_le (.rgh b) now a (top_le _)
  have l2 : 2 ^ b - 1 ≤ one (.rgh b) now a := Nat.le_trans r mo
  omega
theorem poss_rgh (b now mark a : Nat) : poss (.rgh b) now mark a = decide (one (.rgh b) now a = mark) := rfl
theorem poss_cnt (b s now mark a : Nat) : poss (.cnt b s) now mark a = decide (one (.cnt b s) now a = mark) := rfl
theorem cov_end (R : Ru) (now mark : Nat) : Cov R now mark (now + 1) := ⟨Nat.le_refl _, fun a h1 h2 _ => by omega⟩
theorem cov_rgh {b now mark c : Nat} (h : one (.rgh b) now c = 2 ^ b - 1) (hc : c ≤ now) : Cov (.rgh b) now mark (c + 1) := by
  refine ⟨by omega, fun a h1 h2 h3 => ?_⟩
  have e := one_rgh_fin h (show c ≤ a by omega) h2
  rw [poss_rgh, e] at h3
  have e2 : 2 ^ b - 1 = mark := of_decide_eq_true h3
  exact ⟨e2.symm, c, by omega, by rw [poss_rgh, h, decide_eq_true e2]⟩
/-! ### count and shift: by how often a thing was aged -/
def bl (n : Nat) : Nat := if n = 0 then 0 else n.log2 + 1
theorem bl_pos {n : Nat} (h : n ≠ 0) : 2 ^ (bl n - 1) ≤ n ∧ n < 2 ^ bl n ∧ 1 ≤ bl n := by
  unfold bl
  rw [if_neg h]
  exact ⟨Nat.log2_self_le h, Nat.lt_log2_self, by omega⟩
theorem pow_uniq {i j n : Nat} (h1 : 2 ^ i ≤ n) (h2 : n < 2 ^ (i + 1)) (h3 : 2 ^ j ≤ n) (h4 : n < 2 ^ (j + 1)) : i = j := by
  have a : i < j + 1 := (Nat.pow_lt_pow_iff_right (by decide : 1 < 2)).mp (Nat.lt_of_le_of_lt h1 h4)
  have b : j < i + 1 := (Nat.pow_lt_pow_iff_right (by decide : 1 < 2)).mp (Nat.lt_of_le_of_lt h3 h2)
  omega
theorem bl_le {n b : Nat} (h : n < 2 ^ b) : bl n ≤ b := by
  by_cases e : n = 0
  · unfold bl; rw [if_pos e]; exact Nat.zero_le _
  · obtain ⟨h1, h2, h3⟩ := bl_pos e
    have : bl n - 1 < b := (Nat.pow_lt_pow_iff_right (by decide : 1 < 2)).mp (Nat.lt_of_le_of_lt h1 h)
    omega
/-- how often it was aged, for the end at the least -/
def Ru.ags : Ru → Nat → Nat
  | .cnt _ _, m => m
  | .shf b _, m => b + 1 - bl m
  | .rgh _, _ => 0
def Ru.step : Ru → Nat
  | .cnt _ s => s
  | .shf _ s => s
  | .rgh _ => 1
def dd (s now a : Nat) : Nat := now / s - (now - a) / s
theorem one_cnt (b s now a : Nat) (hs : 0 < s) (h : a ≤ now) : one (.cnt b s) now a = min (dd s now a) (2 ^ b - 1) := by
  show ag (.cnt b s) 0 (now - a) a = _
  rw [ag_cnt b s 0 (now - a) hs (Nat.zero_le _) a, Nat.zero_add, show now - a + a = now by omega]
  rfl
theorem one_shf (b s now a : Nat) (hs : 0 < s) (h : a ≤ now) : one (.shf b s) now a = 2 ^ b / 2 ^ dd s now a := by
  show ag (.shf b s) (2 ^ b) (now - a) a = _
  rw [ag_shf b s (2 ^ b) (now - a) hs a, show now - a + a = now by omega]
  rfl
theorem two_div {b d : Nat} (h : d ≤ b) : 2 ^ b / 2 ^ d = 2 ^ (b - d) := Nat.pow_div h (by decide)
theorem two_div0 {b d : Nat} (h : b < d) : 2 ^ b / 2 ^ d = 0 := Nat.div_eq_of_lt (Nat.pow_lt_pow_right (by decide) h)
theorem poss_stp {R : Ru} (hR : R.isRgh = false) (hs : 0 < R.step) {now mark a : Nat} (hm : mark ≤ R.most) (h : a ≤ now) : poss R now mark a = true ↔ (if mark = R.fin then R.ags mark ≤ dd R.step now a else dd R.step now a = R.ags mark) := by
  cases R with
  | rgh b => cases hR
  | cnt b s =>
    have hm' : mark ≤ 2 ^ b - 1 := hm
    rw [poss_cnt, one_cnt b s now a hs h, decide_eq_true_iff]
    show _ ↔ (if mark = 2 ^ b - 1 then mark ≤ dd s now a else dd s now a = mark)
    split <;> omega
  | shf b s =>
    have hm' : mark ≤ 2 ^ (b + 1) - 1 := hm
    have pb := Nat.two_pow_pos (b + 1)
    show (if (true && decide (0 < one (.shf b s) now a)) = true then decide (one (.shf b s) now a ≤ mark) && decide (mark < 2 * one (.shf b s) now a) else decide (one (.shf b s) now a = mark)) = true ↔ (if mark = 0 then b + 1 - bl mark ≤ dd s now a else dd s now a = b + 1 - bl mark)
    rw [one_shf b s now a hs h, Bool.true_and]
    by_cases hd : dd s now a ≤ b
    · rw [two_div hd]
      have p := Nat.two_pow_pos (b - dd s now a)
      rw [decide_eq_true p, if_pos rfl, Bool.and_eq_true, decide_eq_true_iff, decide_eq_true_iff, Nat.mul_comm, ← Nat.pow_succ]
      by_cases e : mark = 0
      · rw [if_pos e, e, show bl 0 = 0 from rfl]
        omega
      · rw [if_neg e]
        obtain ⟨h1, h2, h3⟩ := bl_pos e
        have h4 : bl mark ≤ b + 1 := bl_le (by omega)
        constructor
        · rintro ⟨q1, q2⟩
          have := pow_uniq q1 q2 h1 (by rw [show bl mark - 1 + 1 = bl mark by omega]; exact h2)
          omega
        · intro q
          have : b - dd s now a = bl mark - 1 := by omega
          rw [this, show (bl mark - 1).succ = bl mark by omega]
          exact ⟨h1, h2⟩
    · rw [two_div0 (by omega), if_neg (by decide)]
      rw [decide_eq_true_iff]
      by_cases e : mark = 0
      · rw [if_pos e, e]
        constructor
        · intro _
          rw [show bl 0 = 0 from rfl]
          omega
        · intro _
          rfl
      · rw [if_neg e]
        obtain ⟨h1, h2, h3⟩ := bl_pos e
        constructor
        · intro q
          exact absurd q.symm e
        · intro q
          omega
theorem span_stp_none {R : Ru} (hR : R.isRgh = false) (hs : 0 < R.step) {now mark : Nat} (hm : mark ≤ R.most) (h : now / R.step < R.ags mark) : IsSpan R now mark none none := by
  refine .inl ⟨rfl, rfl, fun a ha => ?_⟩
  cases e : poss R now mark a with
  | false => rfl
  | true =>
    have p := (poss_stp hR hs hm ha).mp e
    have : dd R.step now a ≤ now / R.step := Nat.sub_le _ _
    split at p <;> omega
theorem span_stp_some {R : Ru} (hR : R.isRgh = false) (hs : 0 < R.step) {now mark run first latest : Nat} (hm : mark ≤ R.most) (h : now / R.step = R.ags mark + run) (hf : first = run * R.step) (hl : latest = min now (first + R.step - 1)) :
    IsSpan R now mark (some (now - latest)) (if mark = R.fin then none else some (now - first)) ∧ first ≤ now := by
  have f1 : first ≤ now := by
    rw [hf]
    have := Nat.div_mul_le_self now R.step
    exact Nat.le_trans (Nat.mul_le_mul_right _ (by omega)) this
  have l1 : first ≤ latest := by omega
  have l2 : latest ≤ first + R.step - 1 := by omega
  have l3 : latest ≤ now := by omega
  have dl : latest / R.step = run := by
    refine Nat.div_eq_of_lt_le (by rw [← hf]; exact l1) ?_
    rw [Nat.add_mul, Nat.one_mul, ← hf]
    omega
  have df : first / R.step = run := by rw [hf]; exact Nat.mul_div_cancel _ hs
  refine ⟨.inr ⟨now - latest, rfl, by omega, ?_, fun a ha hp => ?_, ?_⟩, f1⟩
  · refine (poss_stp hR hs hm (by omega)).mpr ?_
    have : dd R.step now (now - latest) = R.ags mark := by
      unfold dd
      rw [show now - (now - latest) = latest by omega, dl]
      omega
    rw [this]
    split
    · exact Nat.le_refl _
    · rfl
  · have p := (poss_stp hR hs hm ha).mp hp
    have q : R.ags mark ≤ dd R.step now a := by split at p <;> omega
    have dm := div_mono R.step (show now - a ≤ now by omega)
    have q2 : (now - a) / R.step ≤ run := by
      unfold dd at q
      omega
    have q3 : now - a < (run + 1) * R.step := (Nat.div_lt_iff_lt_mul hs).mp (by omega)
    rw [Nat.add_mul, Nat.one_mul, ← hf] at q3
    omega
  · by_cases e : mark = R.fin
    · exact .inl ⟨e, if_pos e⟩
    · refine .inr ⟨e, now - first, if_neg e, by omega, ?_, fun a ha hp => ?_⟩
      · refine (poss_stp hR hs hm (by omega)).mpr ?_
        rw [if_neg e]
        unfold dd
        rw [show now - (now - first) = first by omega, df]
        omega
      · have p := (poss_stp hR hs hm ha).mp hp
        rw [if_neg e] at p
        have dm := div_mono R.step (show now - a ≤ now by omega)
        have q2 : (now - a) / R.step = run := by
          unfold dd at p
          omega
        have := Nat.div_mul_le_self (now - a) R.step
        rw [q2, ← hf] at this
        omega
/-- as far back as the law tries -/
def Ru.far : Ru → Nat
  | .cnt b s => s * (2 + max b (2 ^ b - 1))
  | .shf b s => s * (2 + max b 0)
  | .rgh _ => 140
theorem cov_far {R : Ru} (hR : R.ok) {now mark : Nat} (hm : mark ≤ R.most) : Cov R now mark (min now R.far + 1) := by
  by_cases hn : now ≤ R.far
  · rw [Nat.min_eq_left hn]
    exact cov_end R now mark
  · rw [Nat.min_eq_right (by omega)]
    cases R with
    | rgh b => exact cov_rgh (one_rgh_far hR.2 (show 127 ≤ 140 by decide)) (by omega)
    | cnt b s =>
      obtain ⟨h1, h2, h3, h4⟩ : 1 ≤ b ∧ b ≤ 6 ∧ 1 ≤ s ∧ s ≤ 20 := hR
      have hn' : s * (2 + max b (2 ^ b - 1)) ≤ now := by
        have : ¬ now ≤ s * (2 + max b (2 ^ b - 1)) := hn
        omega
      have big : ∀ a, s * (2 + max b (2 ^ b - 1)) ≤ a → a ≤ now → one (.cnt b s) now a = 2 ^ b - 1 := fun a l1 l2 => by
        rw [one_cnt b s now a h3 l2]
        have g := div_add_ge (now - a) a s h3
        rw [show now - a + a = now by omega] at g
        have : 2 + max b (2 ^ b - 1) ≤ a / s := (Nat.le_div_iff_mul_le h3).mpr (by rw [Nat.mul_comm]; exact l1)
        unfold dd
        omega
      refine ⟨Nat.succ_le_succ hn', fun a l1 l2 l3 => ?_⟩
      have e := big a (Nat.le_of_lt l1) l2
      rw [poss_cnt, e] at l3
      have e2 : 2 ^ b - 1 = mark := of_decide_eq_true l3
      exact ⟨e2.symm, s * (2 + max b (2 ^ b - 1)), Nat.lt_succ_self _, by rw [poss_cnt, big _ (Nat.le_refl _) hn', decide_eq_true e2]⟩
    | shf b s =>
      obtain ⟨h1, h2, h3, h4⟩ : 1 ≤ b ∧ b ≤ 10 ∧ 1 ≤ s ∧ s ≤ 20 := hR
      have hn' : s * (2 + max b 0) ≤ now := by
        have : ¬ now ≤ s * (2 + max b 0) := hn
        omega
      have big : ∀ a, s * (2 + max b 0) ≤ a → a ≤ now → one (.shf b s) now a = 0 := fun a l1 l2 => by
        rw [one_shf b s now a h3 l2]
        have g := div_add_ge (now - a) a s h3
        rw [show now - a + a = now by omega] at g
        have : 2 + max b 0 ≤ a / s := (Nat.le_div_iff_mul_le h3).mpr (by rw [Nat.mul_comm]; exact l1)
        refine two_div0 ?_
        unfold dd
        omega
      have ps : ∀ a, one (.shf b s) now a = 0 → poss (.shf b s) now mark a = decide (0 = mark) := fun a e => by
        unfold poss
        rw [e]
        rfl
      refine ⟨Nat.succ_le_succ hn', fun a l1 l2 l3 => ?_⟩
      have e := big a (Nat.le_of_lt l1) l2
      rw [ps a e] at l3
      have e2 : 0 = mark := of_decide_eq_true l3
      exact ⟨e2.symm, s * (2 + max b 0), Nat.lt_succ_self _, by rw [ps _ (big _ (Nat.le_refl _) hn'), decide_eq_true e2]⟩
theorem far_le {R : Ru} (hR : R.ok) : R.far ≤ 1300 := by
  cases R with
  | rgh b => exact (by decide : 140 ≤ 1300)
  | cnt b s =>
    obtain ⟨h1, h2, h3, h4⟩ : 1 ≤ b ∧ b ≤ 6 ∧ 1 ≤ s ∧ s ≤ 20 := hR
    have : 2 ^ b ≤ 2 ^ 6 := Nat.pow_le_pow_right (by decide) h2
    exact Nat.mul_le_mul h4 (show 2 + max b (2 ^ b - 1) ≤ 65 by omega)
  | shf b s =>
    obtain ⟨h1, h2, h3, h4⟩ : 1 ≤ b ∧ b ≤ 10 ∧ 1 ≤ s ∧ s ≤ 20 := hR
    exact Nat.mul_le_mul h4 (show 2 + max b 0 ≤ 65 by omega)
end LS
namespace LS
/-- a turn of rough -/
def tT (b : Nat) : Nat := 2 ^ (2 ^ b - 2)
theorem two_T {b : Nat} (hb : 1 ≤ b) : 2 ^ (2 ^ b - 1) = 2 * tT b := by
  have : 2 ^ 1 ≤ 2 ^ b := Nat.pow_le_pow_right (by decide) hb
  unfold tT
  rw [show 2 ^ b - 1 = (2 ^ b - 2) + 1 by omega, Nat.pow_succ, Nat.mul_comm]
theorem T_pos (b : Nat) : 1 ≤ tT b := Nat.two_pow_pos _
theorem T_le {b : Nat} (hb : b ≤ 3) : tT b ≤ 64 := by
  have : 2 ^ b ≤ 2 ^ 3 := Nat.pow_le_pow_right (by decide) hb
  have : tT b ≤ 2 ^ 6 := Nat.pow_le_pow_right (by decide) (by omega)
  exact this
theorem tick_T (b m t k : Nat) (h : m ≤ 2 ^ b - 1) : tick (.rgh b) m (t + tT b * k) = tick (.rgh b) m t := by
  show (if m ≠ 2 ^ b - 1 ∧ (t + tT b * k) % 2 ^ m = 0 then m + 1 else m) = if m ≠ 2 ^ b - 1 ∧ t % 2 ^ m = 0 then m + 1 else m
  by_cases e : m = 2 ^ b - 1
  · rw [if_neg (fun h => h.1 e), if_neg (fun h => h.1 e)]
  · have ed : tT b = 2 ^ m * 2 ^ (2 ^ b - 2 - m) := by
      unfold tT
      rw [← Nat.pow_add]
      congr 1
      omega
    rw [ed, Nat.mul_assoc, Nat.add_mul_mod_self_left]
theorem ag_T (b m t k : Nat) (h : m ≤ 2 ^ b - 1) : ∀ n, ag (.rgh b) m (t + tT b * k) n = ag (.rgh b) m t n
  | 0 => rfl
  | n + 1 => by
    show tick (.rgh b) (ag (.rgh b) m (t + tT b * k) n) (t + tT b * k + n + 1) = tick (.rgh b) (ag (.rgh b) m t n) (t + n + 1)
    rw [ag_T b m t k h n, show t + tT b * k + n + 1 = (t + n + 1) + tT b * k by omega]
    exact tick_T b _ _ k (ag_le (.rgh b) m t h n)
theorem one_T (b now k a : Nat) (h : a ≤ now) : one (.rgh b) (now + tT b * k) a = one (.rgh b) now a := by
  show ag (.rgh b) 0 (now + tT b * k - a) a = ag (.rgh b) 0 (now - a) a
  rw [show now + tT b * k - a = (now - a) + tT b * k by omega]
  exact ag_T b 0 (now - a) k (Nat.zero_le _) a
/-- a moment of the third turn that stands for another one -/
def rep (b now : Nat) : Nat := 2 * tT b + now % tT b
theorem rep_in (b now : Nat) : 2 * tT b ≤ rep b now ∧ rep b now < 3 * tT b := by
  have := Nat.mod_lt now (T_pos b)
  unfold rep
  omega
theorem rep_same (b now a : Nat) (h : a ≤ now) (h2 : a ≤ rep b now) : one (.rgh b) (rep b now) a = one (.rgh b) now a := by
  have e := Nat.div_add_mod now (tT b)
  by_cases c : now / tT b ≤ 2
  · obtain ⟨k, hk⟩ : ∃ k, 2 = now / tT b + k := ⟨2 - now / tT b, by omega⟩
    have : rep b now = now + tT b * k := by
      unfold rep
      have : 2 * tT b = tT b * (now / tT b) + tT b * k := by rw [← Nat.mul_add, ← hk, Nat.mul_comm]
      omega
    rw [this]
    exact one_T b now k a h
  · obtain ⟨k, hk⟩ : ∃ k, now / tT b = 2 + k := ⟨now / tT b - 2, by omega⟩
    have : now = rep b now + tT b * k := by
      unfold rep
      have : tT b * (now / tT b) = 2 * tT b + tT b * k := by rw [hk, Nat.mul_add, Nat.mul_comm]
      omega
    have q := one_T b (rep b now) k a h2
    rw [← this] at q
    exact q.symm
theorem one_far2 {b now a : Nat} (hb : 1 ≤ b) (ha : 2 * tT b - 1 ≤ a) : one (.rgh b) now a = 2 ^ b - 1 := by
  have r := rgh_reach b 0 (now - a) (2 ^ b - 1) (Nat.le_refl _)
  rw [two_T hb] at r
  obtain ⟨k, hk⟩ : ∃ k, a = (2 * tT b - 1) + k := ⟨a - (2 * tT b - 1), by omega⟩
  have mo := ag_rgh_mono b 0 (now - a) (2 * tT b - 1) k
  rw [← hk] at mo
  have l : one (.rgh b) now a ≤ 2 ^ b - 1 := one_le (.rgh b) now a (top_le _)
  have l2 : 2 ^ b - 1 ≤ one (.rgh b) now a := Nat.le_trans r mo
  omega
theorem exists_span (R : Ru) (now m : Nat) : ∃ x y, IsSpan R now m x y := by
  have c := cov_end R now m
  cases ef : fl R now m (now + 1) with
  | nil => exact ⟨none, none, span_nil c ef⟩
  | cons lo r =>
    obtain ⟨f1, f2⟩ := fl_head ef
    by_cases e : m = R.fin
    · exact ⟨some lo, none, span_some c f1 f2 (.inl ⟨e, rfl⟩)⟩
    · have hl : lo :: r = (lo :: r).dropLast ++ [(lo :: r).getLast (List.cons_ne_nil _ _)] := (List.dropLast_concat_getLast _).symm
      have g := fl_last (ef.trans hl)
      exact ⟨some lo, some _, span_some c f1 f2 (.inr ⟨e, _, rfl, g.1, g.2⟩)⟩
theorem IsSpan.lo_le {R : Ru} {now m a : Nat} {x y : Option Nat} (h : IsSpan R now m x y) (ha : a ≤ now) (hp : poss R now m a = true) : ∃ lo, x = some lo ∧ lo ≤ a ∧ lo ≤ now ∧ poss R now m lo = true := by
  rcases h with ⟨_, _, h⟩ | ⟨lo, rfl, h1, h2, h3, _⟩
  · rw [h a ha] at hp
    cases hp
  · exact ⟨lo, rfl, h3 a ha hp, h1, h2⟩
theorem IsSpan.hi_ge {R : Ru} {now m a : Nat} {x y : Option Nat} (h : IsSpan R now m x y) (ha : a ≤ now) (hp : poss R now m a = true) (hm : m ≠ R.fin) : ∃ hi, y = some hi ∧ a ≤ hi ∧ hi ≤ now ∧ poss R now m hi = true := by
  rcases h with ⟨_, _, h⟩ | ⟨lo, rfl, h1, h2, h3, h4⟩
  · rw [h a ha] at hp
    cases hp
  · rcases h4 with ⟨e, _⟩ | ⟨_, hi, rfl, k1, k2, k3⟩
    · exact absurd e hm
    · exact ⟨hi, rfl, k3 a ha hp, k1, k2⟩
theorem IsSpan.hi_none {R : Ru} {now m : Nat} {x y : Option Nat} (h : IsSpan R now m x y) (hm : m = R.fin) : y = none := by
  rcases h with ⟨_, e, _⟩ | ⟨lo, rfl, h1, h2, h3, h4⟩
  · exact e
  · rcases h4 with ⟨_, e⟩ | ⟨n, _⟩
    · exact e
    · exact absurd hm n
theorem IsSpan.both {R : Ru} {now m lo hi : Nat} (h : IsSpan R now m (some lo) (some hi)) : lo ≤ now ∧ hi ≤ now ∧ poss R now m lo = true ∧ poss R now m hi = true ∧ lo ≤ hi ∧ m ≠ R.fin := by
  rcases h with ⟨e, _⟩ | ⟨lo', e, h1, h2, h3, h4⟩
  · cases e
  · cases e
    rcases h4 with ⟨_, e⟩ | ⟨n, hi', e, k1, k2, k3⟩
    · cases e
    · cases e
      exact ⟨h1, k1, h2, k2, h3 _ k1 k2, n⟩
def wset (b d : Nat) : Prop := ∃ now m lo hi, 2 * tT b ≤ now ∧ now < 3 * tT b ∧ m < 2 ^ b - 1 ∧ IsSpan (.rgh b) now m (some lo) (some hi) ∧ d = hi - lo
def OffR (b v : Nat) : Prop := (∀ d, wset b d → d ≤ v) ∧ (v = 0 ∨ wset b v)
def lset (b l : Nat) : Prop := ∃ now, 2 * tT b ≤ now ∧ now < 3 * tT b ∧ IsSpan (.rgh b) now (2 ^ b - 1) (some l) none
def ReachR (b v : Nat) : Prop := (∀ l, lset b l → v + 1 ≤ l) ∧ lset b (v + 1)
def IsOff (R : Ru) (v : Nat) : Prop := (R.isRgh = true ∧ OffR R.bits v) ∨ (R.isRgh = false ∧ v = R.step - 1)
def IsReach (R : Ru) (v : Nat) : Prop := (R.isRgh = true ∧ ReachR R.bits v) ∨ (R.isRgh = false ∧ v = (R.ags R.fin - 1) * R.step)
theorem step_pos {R : Ru} (h : R.ok) : 0 < R.step := by
  cases R with
  | cnt b s => exact h.2.2.1
  | shf b s => exact h.2.2.1
  | rgh b => exact Nat.one_pos
theorem dd_lt {s now a k : Nat} (hs : 0 < s) (ha : a ≤ now) (h : k + 1 ≤ dd s now a) : k * s < a := by
  unfold dd at h
  have h1 := Nat.div_mul_le_self now s
  have h2 : now - a < ((now - a) / s + 1) * s := by
    have := Nat.lt_mul_div_succ (now - a) hs
    rw [Nat.mul_comm] at this
    exact this
  have h3 : ((now - a) / s + (k + 1)) * s ≤ now / s * s := Nat.mul_le_mul_right s (by omega)
  rw [Nat.add_mul] at h2 h3
  rw [Nat.add_mul k 1 s] at h3
  omega
theorem dd_eq {s now a c : Nat} (hs : 0 < s) (ha : a ≤ now) (hc : c ≤ now) (h : dd s now a = dd s now c) : c ≤ a + (s - 1) := by
  unfold dd at h
  have m1 := div_mono s (show now - a ≤ now by omega)
  have m2 := div_mono s (show now - c ≤ now by omega)
  have e : (now - a) / s = (now - c) / s := by omega
  have h1 := Nat.div_mul_le_self (now - c) s
  have h2 : now - a < ((now - a) / s + 1) * s := by
    have := Nat.lt_mul_div_succ (now - a) hs
    rw [Nat.mul_comm] at this
    exact this
  rw [e, Nat.add_mul] at h2
  omega
/-- by how much it can be too much -/
theorem off_all {R : Ru} {v now m lo hi : Nat} (hR : R.ok) (hv : IsOff R v) (hm : m ≤ R.most) (h : IsSpan R now m (some lo) (some hi)) : hi ≤ lo + v := by
  obtain ⟨l1, l2, p1, p2, lh, nf⟩ := h.both
  rcases hv with ⟨ir, hv⟩ | ⟨nr, rfl⟩
  · cases R with
    | cnt b s => cases ir
    | shf b s => cases ir
    | rgh b =>
      have b1 : 1 ≤ b := hR.1
      have hm' : m ≤ 2 ^ b - 1 := hm
      have nf' : m ≠ 2 ^ b - 1 := nf
      have lt : ∀ a, poss (.rgh b) now m a = true → a < 2 * tT b := fun a p => by
        by_cases c : a < 2 * tT b
        · exact c
        · rw [poss_rgh, one_far2 b1 (by omega)] at p
          exact absurd (of_decide_eq_true p).symm nf'
      obtain ⟨r1, r2⟩ := rep_in b now
      have tr : ∀ a, a ≤ now → poss (.rgh b) now m a = true → a ≤ rep b now ∧ poss (.rgh b) (rep b now) m a = true := fun a ha p => by
        have := lt a p
        refine ⟨by omega, ?_⟩
        rw [poss_rgh] at p ⊢
        rw [rep_same b now a ha (by omega)]
        exact p
      obtain ⟨x, y, sp⟩ := exists_span (.rgh b) (rep b now) m
      obtain ⟨q1, q2⟩ := tr lo l1 p1
      obtain ⟨q3, q4⟩ := tr hi l2 p2
      obtain ⟨lo', rfl, e1, _⟩ := sp.lo_le q1 q2
      obtain ⟨hi', rfl, e2, _⟩ := sp.hi_ge q3 q4 nf
      have := hv.1 (hi' - lo') ⟨rep b now, m, lo', hi', r1, r2, Nat.lt_of_le_of_ne hm' nf', sp, rfl⟩
      omega
  · have hs := step_pos hR
    have a1 := (poss_stp nr hs hm l1).mp p1
    have a2 := (poss_stp nr hs hm l2).mp p2
    rw [if_neg nf] at a1 a2
    exact dd_eq hs l1 l2 (a1.trans a2.symm)
theorem fin_most (R : Ru) : R.fin ≤ R.most := by
  cases R with
  | cnt b s => exact Nat.le_refl _
  | shf b s => exact Nat.zero_le _
  | rgh b => exact Nat.le_refl _
theorem ags_fin {R : Ru} (hR : R.ok) (nr : R.isRgh = false) : 1 ≤ R.ags R.fin := by
  cases R with
  | cnt b s =>
    have : 2 ^ 1 ≤ 2 ^ b := Nat.pow_le_pow_right (by decide) hR.1
    show 1 ≤ 2 ^ b - 1
    omega
  | shf b s => exact Nat.succ_le_succ (Nat.zero_le b)
  | rgh b => cases nr
/-- within reach no mark is the end -/
theorem reach_all {R : Ru} {v now a : Nat} (hR : R.ok) (hv : IsReach R v) (ha : a ≤ now) (hp : poss R now R.fin a = true) : v < a := by
  rcases hv with ⟨ir, hv⟩ | ⟨nr, rfl⟩
  · cases R with
    | cnt b s => cases ir
    | shf b s => cases ir
    | rgh b =>
      have b1 : 1 ≤ b := hR.1
      obtain ⟨r1, r2⟩ := rep_in b now
      have tp := T_pos b
      obtain ⟨x, y, sp⟩ := exists_span (.rgh b) (rep b now) (2 ^ b - 1)
      have pe : poss (.rgh b) (rep b now) (2 ^ b - 1) (2 * tT b - 1) = true := by
        rw [poss_rgh, one_far2 b1 (Nat.le_refl _), decide_eq_true rfl]
      have yn : y = none := sp.hi_none rfl
      subst yn
      obtain ⟨lo, rfl, e1, e3, _⟩ := sp.lo_le (show 2 * tT b - 1 ≤ rep b now by omega) pe
      have lb := hv.1 lo ⟨rep b now, r1, r2, sp⟩
      by_cases c : a ≤ rep b now
      · have hp' : poss (.rgh b) (rep b now) (2 ^ b - 1) a = true := by
          rw [poss_rgh, rep_same b now a ha c, ← poss_rgh]
          exact hp
        obtain ⟨lo', e, l, _⟩ := sp.lo_le c hp'
        cases e
        omega
      · omega
  · have hs := step_pos hR
    have a1 := (poss_stp nr hs (fin_most R) ha).mp hp
    rw [if_pos rfl] at a1
    have := ags_fin hR nr
    exact dd_lt hs ha (by omega)
/-- the marks of a thing that was just seen -/
def Fresh (R : Ru) (m : Nat) : Prop := if R.isShf = true then R.top ≤ m ∧ m < 2 * R.top else m = 0
/-- a thing that was truly seen may have been seen then -/
theorem poss_true {R : Ru} (hR : R.ok) {m last n : Nat} (h : Fresh R m) : poss R (last + n) (ag R m last n) n = true := by
  cases R with
  | cnt b s =>
    have e : m = 0 := h
    subst e
    rw [poss_cnt]
    refine decide_eq_true ?_
    show ag (.cnt b s) 0 (last + n - n) n = _
    rw [Nat.add_sub_cancel]
  | rgh b =>
    have e : m = 0 := h
    subst e
    rw [poss_rgh]
    refine decide_eq_true ?_
    show ag (.rgh b) 0 (last + n - n) n = _
    rw [Nat.add_sub_cancel]
  | shf b s =>
    obtain ⟨h1, h2⟩ : 2 ^ b ≤ m ∧ m < 2 * 2 ^ b := h
    have hs : 0 < s := hR.2.2.1
    have e1 : one (.shf b s) (last + n) n = 2 ^ b / 2 ^ ((last + n) / s - last / s) := by
      show ag (.shf b s) (2 ^ b) (last + n - n) n = _
      rw [Nat.add_sub_cancel]
      exact ag_shf b s _ last hs n
    rw [ag_shf b s m last hs n]
    generalize (last + n) / s - last / s = d at e1
    have pd := Nat.two_pow_pos d
    unfold poss
    rw [e1]
    by_cases hd : d ≤ b
    · have p := Nat.two_pow_pos (b - d)
      have es : 2 ^ b = 2 ^ (b - d) * 2 ^ d := by rw [← Nat.pow_add]; congr 1; omega
      rw [two_div hd, decide_eq_true p]
      have q1 : 2 ^ (b - d) ≤ m / 2 ^ d := (Nat.le_div_iff_mul_le pd).mpr (by rw [← es]; exact h1)
      have q2 : m / 2 ^ d < 2 * 2 ^ (b - d) := (Nat.div_lt_iff_lt_mul pd).mpr (by rw [Nat.mul_assoc, ← es]; exact h2)
      rw [decide_eq_true q1, decide_eq_true q2]
      rfl
    · have z : m / 2 ^ d = 0 := by
        refine Nat.div_eq_of_lt (Nat.lt_of_lt_of_le h2 ?_)
        rw [Nat.mul_comm, ← Nat.pow_succ]
        exact Nat.pow_le_pow_right (by decide) (by omega)
      rw [two_div0 (by omega), z]
      rfl
theorem fresh_most {R : Ru} {m : Nat} (h : Fresh R m) : m ≤ R.most := by
  cases R with
  | cnt b s =>
    have e : m = 0 := h
    rw [e]; exact Nat.zero_le _
  | rgh b =>
    have e : m = 0 := h
    rw [e]; exact Nat.zero_le _
  | shf b s =>
    obtain ⟨h1, h2⟩ : 2 ^ b ≤ m ∧ m < 2 * 2 ^ b := h
    show m ≤ 2 ^ (b + 1) - 1
    rw [Nat.pow_succ]
    omega
end LS
namespace LS
/-- a round that is tried throughout -/
def Ru.arnd : Ru → Nat
  | .cnt b s => s * (1 + (2 ^ b - 1))
  | .shf b s => s * (1 + (b + 1))
  | .rgh _ => 64
theorem ag_fin (R : Ru) (t : Nat) : ∀ n, ag R R.fin t n = R.fin
  | 0 => rfl
  | n + 1 => by
    show tick R (ag R R.fin t n) (t + n + 1) = R.fin
    rw [ag_fin R t n]
    cases R with
    | cnt b s =>
      show (if _ then min (2 ^ b - 1 + 1) (2 ^ b - 1) else 2 ^ b - 1) = 2 ^ b - 1
      split
      · exact Nat.min_eq_right (Nat.le_succ _)
      · rfl
    | shf b s =>
      show (if _ then 0 / 2 else 0) = 0
      split <;> rfl
    | rgh b => exact if_neg fun h => h.1 rfl
theorem fin_le {R : Ru} {t n n' : Nat} (h : ag R R.top t n = R.fin) (l : n ≤ n') : ag R R.top t n' = R.fin := by
  obtain ⟨k, rfl⟩ : ∃ k, n' = n + k := ⟨n' - n, by omega⟩
  rw [ag_add, h, ag_fin]
theorem one_at {R : Ru} {h b : Nat} (l : b ≤ h) : one R h (h - b) = ag R R.top b (h - b) := by
  show ag R R.top (h - (h - b)) (h - b) = _
  rw [show h - (h - b) = b by omega]
theorem poss_exact {R : Ru} {now m a : Nat} (e : one R now a = m) (h : m ≠ R.fin) : poss R now m a = true := by
  cases R with
  | cnt b s => rw [poss_cnt, decide_eq_true e]
  | rgh b => rw [poss_rgh, decide_eq_true e]
  | shf b s =>
    have h' : m ≠ 0 := h
    unfold poss
    rw [e, decide_eq_true (show 0 < m by omega), decide_eq_true (Nat.le_refl m), decide_eq_true (show m < 2 * m by omega)]
    rfl
theorem poss_fin {R : Ru} {now a : Nat} (e : one R now a = R.fin) : poss R now R.fin a = true := by
  cases R with
  | cnt b s => rw [poss_cnt, decide_eq_true e]
  | rgh b => rw [poss_rgh, decide_eq_true e]
  | shf b s =>
    unfold poss
    rw [e]
    rfl
/-- two begins of one mark -/
theorem begins_off {R : Ru} {v h m b1 b2 : Nat} (hR : R.ok) (hv : IsOff R v) (l1 : b1 ≤ h) (l2 : b2 ≤ h) (e1 : ag R R.top b1 (h - b1) = m) (e2 : ag R R.top b2 (h - b2) = m) (nf : m ≠ R.fin) : b2 ≤ b1 + v := by
  have p1 := poss_exact ((one_at l1).trans e1) nf
  have p2 := poss_exact ((one_at l2).trans e2) nf
  obtain ⟨x, y, sp⟩ := exists_span R h m
  obtain ⟨lo, rfl, e3, _⟩ := sp.lo_le (show h - b2 ≤ h by omega) p2
  obtain ⟨hi, rfl, e4, _⟩ := sp.hi_ge (show h - b1 ≤ h by omega) p1 nf
  have mm : m ≤ R.most := by rw [← e1]; exact ag_le R _ _ (top_le R) _
  have := off_all hR hv mm sp
  omega
theorem begins_reach {R : Ru} {u b n : Nat} (hR : R.ok) (hu : IsReach R u) (e : ag R R.top b n = R.fin) : u + 1 ≤ n := by
  have o : one R (b + n) n = R.fin := by
    show ag R R.top (b + n - n) n = _
    rw [Nat.add_sub_cancel]
    exact e
  exact reach_all hR hu (Nat.le_add_left n b) (poss_fin o)
theorem arnd_step {R : Ru} (hR : R.ok) (nr : R.isRgh = false) : ∃ k, R.arnd = R.step * k ∧ 2 ≤ k := by
  cases R with
  | cnt b s =>
    have : 2 ^ 1 ≤ 2 ^ b := Nat.pow_le_pow_right (by decide) hR.1
    exact ⟨1 + (2 ^ b - 1), rfl, by omega⟩
  | shf b s => exact ⟨1 + (b + 1), rfl, by omega⟩
  | rgh b => cases nr
theorem arnd_le {R : Ru} (hR : R.ok) : 1 ≤ R.arnd ∧ R.arnd ≤ 1280 := by
  cases R with
  | cnt b s =>
    obtain ⟨h1, h2, h3, h4⟩ : 1 ≤ b ∧ b ≤ 6 ∧ 1 ≤ s ∧ s ≤ 20 := hR
    have : 2 ^ b ≤ 2 ^ 6 := Nat.pow_le_pow_right (by decide) h2
    exact ⟨Nat.mul_le_mul h3 (show 1 ≤ 1 + (2 ^ b - 1) by omega), Nat.mul_le_mul h4 (show 1 + (2 ^ b - 1) ≤ 64 by omega)⟩
  | shf b s =>
    obtain ⟨h1, h2, h3, h4⟩ : 1 ≤ b ∧ b ≤ 10 ∧ 1 ≤ s ∧ s ≤ 20 := hR
    exact ⟨Nat.mul_le_mul h3 (show 1 ≤ 1 + (b + 1) by omega), Nat.mul_le_mul h4 (show 1 + (b + 1) ≤ 64 by omega)⟩
  | rgh b => exact ⟨(by decide : 1 ≤ 64), (by decide : 64 ≤ 1280)⟩
/-- by how often it was aged: count and shift -/
theorem ag_dd0 {R : Ru} (hR : R.ok) (nr : R.isRgh = false) {t n : Nat} (h : (t + n) / R.step - t / R.step = 0) : ag R R.top t n = R.top ∧ R.top ≠ R.fin := by
  have hs := step_pos hR
  cases R with
  | cnt b s =>
    have h' : (t + n) / s - t / s = 0 := h
    refine ⟨?_, ?_⟩
    · show ag (.cnt b s) 0 t n = 0
      rw [ag_cnt b s 0 t hs (Nat.zero_le _) n, h']
      omega
    · show 0 ≠ 2 ^ b - 1
      have : 2 ^ 1 ≤ 2 ^ b := Nat.pow_le_pow_right (by decide) hR.1
      omega
  | shf b s =>
    have h' : (t + n) / s - t / s = 0 := h
    refine ⟨?_, ?_⟩
    · show ag (.shf b s) (2 ^ b) t n = 2 ^ b
      rw [ag_shf b s _ t hs n, h', Nat.pow_zero, Nat.div_one]
    · show 2 ^ b ≠ 0
      have := Nat.two_pow_pos b
      omega
  | rgh b => cases nr
theorem ag_ddk {R : Ru} (hR : R.ok) (nr : R.isRgh = false) {t n : Nat} (h : (t + n) / R.step - t / R.step = R.ags R.fin) : ag R R.top t n = R.fin := by
  have hs := step_pos hR
  cases R with
  | cnt b s =>
    have h' : (t + n) / s - t / s = 2 ^ b - 1 := h
    show ag (.cnt b s) 0 t n = 2 ^ b - 1
    rw [ag_cnt b s 0 t hs (Nat.zero_le _) n, h']
    omega
  | shf b s =>
    have h' : (t + n) / s - t / s = b + 1 := h
    show ag (.shf b s) (2 ^ b) t n = 0
    rw [ag_shf b s _ t hs n, h']
    exact two_div0 (Nat.lt_succ_self b)
  | rgh b => cases nr
/-- the widest is met -/
theorem off_met {R : Ru} {v : Nat} (hR : R.ok) (hv : IsOff R v) : ∃ h m b1 b2, 4 * R.arnd ≤ h ∧ h < 5 * R.arnd ∧ b1 ≤ h ∧ b2 ≤ h ∧ ag R R.top b1 (h - b1) = m ∧ ag R R.top b2 (h - b2) = m ∧ m ≠ R.fin ∧ v ≤ b2 - b1 := by
  rcases hv with ⟨ir, hv⟩ | ⟨nr, rfl⟩
  · cases R with
    | cnt b s => cases ir
    | shf b s => cases ir
    | rgh b =>
      obtain ⟨b1, b3⟩ : 1 ≤ b ∧ b ≤ 3 := hR
      have p2 : 2 ^ 1 ≤ 2 ^ b := Nat.pow_le_pow_right (by decide) b1
      have tl := T_le b3
      have tp := T_pos b
      rcases hv.2 with rfl | ⟨now, m, lo, hi, n1, n2, hm, sp, rfl⟩
      · refine ⟨256, 0, 256, 256, Nat.le_refl _, (by decide : 256 < 320), Nat.le_refl _, Nat.le_refl _, rfl, rfl, ?_, Nat.zero_le _⟩
        show 0 ≠ 2 ^ b - 1
        omega
      · have n1' : 2 * tT b ≤ now := n1
        have n2' : now < 3 * tT b := n2
        have hm' : m < 2 ^ b - 1 := hm
        obtain ⟨c1, c2, c3, c4, c5, c6⟩ := sp.both
        have td : 64 % tT b = 0 := by
          have hb : b = 1 ∨ b = 2 ∨ b = 3 := by omega
          rcases hb with rfl | rfl | rfl <;> decide
        have hb0 : b = 1 ∨ b = 2 ∨ b = 3 := by omega
        have hr : rep b (256 + now % tT b) = now := by
          have hmod : (256 + now % tT b) % tT b = now % tT b := by
            rcases hb0 with rfl | rfl | rfl
            · show (256 + now % 1) % 1 = now % 1; omega
            · show (256 + now % 4) % 4 = now % 4; omega
            · show (256 + now % 64) % 64 = now % 64; omega
          unfold rep
          rw [hmod]
          have e := Nat.div_add_mod now (tT b)
          have q : now / tT b = 2 := by
            refine Nat.div_eq_of_lt_le n1' ?_
            exact n2'
          rw [q, Nat.mul_comm] at e
          exact e
        have ml := Nat.mod_lt now tp
        have tr : ∀ a, a ≤ now → poss (.rgh b) now m a = true → a ≤ 256 + now % tT b ∧ ag (.rgh b) 0 (256 + now % tT b - a) a = m := fun a ha p => by
          rw [poss_rgh] at p
          have p' := of_decide_eq_true p
          have al : a < 2 * tT b := by
            by_cases c : a < 2 * tT b
            · exact c
            · rw [one_far2 b1 (by omega)] at p'
              exact absurd p'.symm (Nat.ne_of_lt hm')
          have hle : a ≤ 256 + now % tT b := by omega
          have s := rep_same b (256 + now % tT b) a hle (by rw [hr]; exact ha)
          rw [hr] at s
          exact ⟨hle, s.symm.trans p'⟩
        obtain ⟨q1, q2⟩ := tr lo c1 c3
        obtain ⟨q3, q4⟩ := tr hi c2 c4
        refine ⟨256 + now % tT b, m, 256 + now % tT b - hi, 256 + now % tT b - lo, Nat.le_add_right _ _, ?_, Nat.sub_le _ _, Nat.sub_le _ _, ?_, ?_, Nat.ne_of_lt hm', ?_⟩
        · show 256 + now % tT b < 320
          omega
        · show ag (.rgh b) 0 (256 + now % tT b - hi) (256 + now % tT b - (256 + now % tT b - hi)) = m
          rw [show 256 + now % tT b - (256 + now % tT b - hi) = hi by omega]
          exact q4
        · show ag (.rgh b) 0 (256 + now % tT b - lo) (256 + now % tT b - (256 + now % tT b - lo)) = m
          rw [show 256 + now % tT b - (256 + now % tT b - lo) = lo by omega]
          exact q2
        · omega
  · obtain ⟨k, ek, k2⟩ := arnd_step hR nr
    have hs := step_pos hR
    have sk : R.step * 2 ≤ R.step * k := Nat.mul_le_mul_left _ k2
    have z : ∀ n, n < R.step → (4 * R.arnd + n) / R.step - 4 * R.arnd / R.step = 0 := fun n hn => by
      have e : 4 * R.arnd = R.step * (4 * k) := by rw [ek, Nat.mul_left_comm]
      rw [e, Nat.mul_add_div hs, Nat.div_eq_of_lt hn, Nat.mul_div_cancel_left _ hs]
      omega
    obtain ⟨a1, a2⟩ := ag_dd0 hR nr (z (R.step - 1) (by omega))
    refine ⟨4 * R.arnd + (R.step - 1), R.top, 4 * R.arnd, 4 * R.arnd + (R.step - 1), by omega, by omega, by omega, by omega, ?_, ?_, a2, by omega⟩
    · rw [Nat.add_sub_cancel_left]
      exact a1
    · rw [Nat.sub_self]
      rfl
/-- the soonest end is met -/
theorem reach_met {R : Ru} {u : Nat} (hR : R.ok) (hu : IsReach R u) : ∃ b, b < 6 * R.arnd ∧ ag R R.top b (u + 1) = R.fin := by
  rcases hu with ⟨ir, hu⟩ | ⟨nr, rfl⟩
  · cases R with
    | cnt b s => cases ir
    | shf b s => cases ir
    | rgh b =>
      obtain ⟨b1, b3⟩ : 1 ≤ b ∧ b ≤ 3 := hR
      have tl := T_le b3
      obtain ⟨now, n1, n2, sp⟩ := hu.2
      have n2' : now < 3 * tT b := n2
      rcases sp with ⟨e, _⟩ | ⟨lo, e, h1, h2, _⟩
      · cases e
      · cases e
        rw [poss_rgh] at h2
        exact ⟨now - (u + 1), by show now - (u + 1) < 384; omega, of_decide_eq_true h2⟩
  · obtain ⟨k, ek, k2⟩ := arnd_step hR nr
    have hs := step_pos hR
    have sk : R.step * 2 ≤ R.step * k := Nat.mul_le_mul_left _ k2
    have a1 := ags_fin hR nr
    refine ⟨R.step - 1, by omega, ag_ddk hR nr ?_⟩
    have e : R.step - 1 + ((R.ags R.fin - 1) * R.step + 1) = R.step * R.ags R.fin := by
      obtain ⟨j, hj⟩ : ∃ j, R.ags R.fin = j + 1 := ⟨R.ags R.fin - 1, by omega⟩
      rw [hj, Nat.add_sub_cancel, Nat.mul_add, Nat.mul_one, Nat.mul_comm j]
      omega
    rw [e, Nat.mul_div_cancel_left _ hs, Nat.div_eq_of_lt (show R.step - 1 < R.step by omega), Nat.sub_zero]
end LS
namespace LS
open PySem PySem.Spec PyProof.Rows L2 RZ
/-! ### calls by a promise alone -/
def Cl (P : Program) (w : World) (K : PySem.W.Frag) (mg : Str → Option Value) (base : Heap) (k : Nat) (x : Str) (ps : List Str) (sp : Sp) : Prop :=
  ∃ (f : Addr) (fd : FuncData), FnOk P w K mg base CX0 k f fd ps sp ∧ mg x = some (.ref f) ∧ PySem.W.keepIn K (.ref f) = true ∧ Binds K fd ps []
theorem pe_cl {X : Cx} {j k : Nat} {x : Str} {ps : List Str} {sp : Sp} {e : Expr} {es : List Expr} {t : TA} {p pos : Pos} (D : Cl X.prog X.w X.K X.mg X.base k x ps sp) (hr : Room j X.A) (ha : PA X (e :: es) t) (hk : k ≤ j := by decide) (hg : Gl X x := by rfl)
    (hdb : (x == ("__debug__" : Str)) = false := by decide) (he : starEach (e :: es) X.env = (false, eval e X.env) :: starEach es X.env := by rfl) (hpl : (backTo pos (starEach es X.env)).any (·.1) = false := by rfl) :
    PE X (.Call (.Name x p) (e :: es) [] pos) (tCall sp [] E0 t) := by
  obtain ⟨f, fd, G, g, kp, b⟩ := D
  exact pe_call G (hr.mono hk) hg g kp b .nil pass0 ha hdb he hpl
/-- a def as the top has left it -/
def DefAt (K : PySem.W.Frag) (mg : Str → Option Value) (x : Str) (st : Stmt) (ps : List Str) : Prop :=
  ∃ (f : Addr) (fd : FuncData), Fun K x x st f fd ∧ mg x = some (.ref f) ∧ Binds K fd ps []
theorem DefAt.cl {P : Program} {w : World} {K : PySem.W.Frag} {mg : Str → Option Value} {base : Heap} {k : Nat} {x : Str} {st : Stmt} {ps : List Str} {sp : Sp} (D : DefAt K mg x st ps)
    (h : ∀ f fd, Fun K x x st f fd → FnOk P w K mg base CX0 k f fd ps sp) : Cl P w K mg base k x ps sp := by
  obtain ⟨f, fd, F, g, b⟩ := D
  exact ⟨f, fd, h f fd F, g, F.kp, b⟩
theorem defAt_mk {K : PySem.W.Frag} {h : Heap} {mg : Str → Option Value} {x : Str} {st : Stmt} {ps : List Str} {f : Addr} {od an : Option Addr} {sl : Array (Option Value)} {oc kV dc pm cd ct : Value} (X : K.In h) (G : h.Ns mainGlobals mg)
    (a : PySem.W.nsIn K mainGlobals x = some (some (.ref f))) (l : K.lookup f = some ⟨oc, od, .func (PySem.W.fnOf x x (defArgs st) (defBody st) (defScope st) .none kV dc pm an cd ct), sl⟩) (c : PySem.W.codeIn K cd x = true) (k : PySem.W.keepIn K (.ref f) = true)
    (hb : ∀ (kV doc pm : Value) (an : Option Addr) (cdv ct : Value) (us : List Value), us.length = ps.length → bindArgs (PySem.W.fnOf x x (defArgs st) (defBody st) (defScope st) .none kV doc pm an cdv ct) ⟨us, []⟩ = pure (ps.zip us)) : DefAt K mg x st ps := by
  have F := fun_mk (st := st) l c k
  exact ⟨f, _, F, PySem.W.mg_of X G a, F.binds hb⟩
/-! ### heaps -/
theorem same_upd {H : Hp} {p : Addr} {o : HO} (h : H p = none) : Same H (upd H p o) := fun b x e => by
  rw [upd_ne (ne_of_none e h)]
  exact e
/-- all but two objects stands as it was -/
def Kp2 (h c : Addr) (H H' : Hp) : Prop := ∀ b o, H b = some o → b ≠ h → b ≠ c → H' b = some o
theorem Kp2.refl (h c : Addr) (H : Hp) : Kp2 h c H H := fun _ _ e _ _ => e
theorem Kp2.trans {h c : Addr} {H H1 H2 : Hp} (a : Kp2 h c H H1) (b : Kp2 h c H1 H2) : Kp2 h c H H2 := fun x o e n1 n2 => b x o (a x o e n1 n2) n1 n2
theorem Same.kp2 {h c : Addr} {H H1 : Hp} (a : Same H H1) : Kp2 h c H H1 := fun b o e _ _ => a b o e
/-- the list that is drawn from stands at h, its cells at c -/
structure HAt (H : Hp) (h c : Addr) : Prop where
  ex : ∃ (mx pl : Int) (ns : List Int), H h = some (.lst [.int mx, .ref c, .int pl]) ∧ H c = some (.lst (ns.map V.int)) ∧ 0 ≤ mx ∧ mx < 2147483647 ∧ 0 ≤ pl ∧ ns.length ≤ 63
  ne : h ≠ c
theorem HAt.same {H H' : Hp} {h c : Addr} (a : HAt H h c) (s : Same H H') : HAt H' h c := by
  obtain ⟨⟨mx, pl, ns, e1, e2, e3⟩, n⟩ := a
  exact ⟨⟨mx, pl, ns, s _ _ e1, s _ _ e2, e3⟩, n⟩
theorem HAt.neT {H : Hp} {h c p : Addr} {xs : List V} (a : HAt H h c) (e : H p = some (.tup xs)) : p ≠ h ∧ p ≠ c := by
  obtain ⟨⟨mx, pl, ns, e1, e2, e3⟩, n⟩ := a
  exact ⟨ne_of e e1 (by intro q; cases q), ne_of e e2 (by intro q; cases q)⟩
/-- a tuple stands behind a draw -/
theorem Kp2.tup {H H' : Hp} {h c p : Addr} {xs : List V} (k : Kp2 h c H H') (a : HAt H h c) (e : H p = some (.tup xs)) : H' p = some (.tup xs) := k p _ e (a.neT e).1 (a.neT e).2
/-! ### rules as tuples -/
def Ru.kind : Ru → Str
  | .cnt _ _ => "count"
  | .shf _ _ => "shift"
  | .rgh _ => "rough"
def Ru.nums : Ru → List Int
  | .cnt b s => [(b : Int), (s : Int)]
  | .shf b s => [(b : Int), (s : Int)]
  | .rgh b => [(b : Int)]
def Ru.tup (R : Ru) : List V := .str R.kind :: R.nums.map V.int
def Ru.lim : Ru → List Int
  | .cnt _ _ => [6, 20]
  | .shf _ _ => [10, 20]
  | .rgh _ => [3]
abbrev RuAt (H : Hp) (p : Addr) (R : Ru) : Prop := H p = some (.tup R.tup)
theorem Ru.at0 (R : Ru) : atI R.tup 0 = some (.str R.kind) := atI_nat (j := 0) rfl
theorem Ru.at1 (R : Ru) : atI R.tup 1 = some (.int (R.bits : Int)) := by
  cases R <;> exact atI_nat (j := 1) rfl
theorem Ru.bits_pos {R : Ru} (h : R.ok) : 1 ≤ R.bits ∧ R.bits ≤ 10 := by
  cases R with
  | cnt b s => obtain ⟨h1, h2, h3, h4⟩ : 1 ≤ b ∧ b ≤ 6 ∧ 1 ≤ s ∧ s ≤ 20 := h; exact ⟨h1, by show b ≤ 10; omega⟩
  | shf b s => obtain ⟨h1, h2, h3, h4⟩ : 1 ≤ b ∧ b ≤ 10 ∧ 1 ≤ s ∧ s ≤ 20 := h; exact ⟨h1, h2⟩
  | rgh b => obtain ⟨h1, h2⟩ : 1 ≤ b ∧ b ≤ 3 := h; exact ⟨h1, by show b ≤ 10; omega⟩
theorem cut1 (xs : List V) : cutV xs (some 1) none = xs.drop 1 := by
  unfold cutV
  rw [show HT.sIx xs.length 0 (some 1) = min 1 xs.length from HT.sIx_nat xs.length 0 1, HT.sIx_none]
  cases xs with
  | nil => rfl
  | cons x r =>
    rw [show min 1 (x :: r).length = 1 by
      rw [List.length_cons]
      omega]
    show (List.take ((x :: r).length - 1) r) = r
    rw [List.length_cons, Nat.add_sub_cancel]
    exact List.take_length
/-! ### whether texts are alike -/
theorem dec_str {a b : Str} : decide (V.str a = V.str b) = decide (a = b) := by
  by_cases h : a = b
  · subst h; rw [decide_eq_true rfl, decide_eq_true rfl]
  · rw [decide_eq_false h, decide_eq_false (fun q => h (V.str.inj q))]
theorem dec_int {a b : Int} : decide (V.int a = V.int b) = decide (a = b) := by
  by_cases h : a = b
  · subst h; rw [decide_eq_true rfl, decide_eq_true rfl]
  · rw [decide_eq_false h, decide_eq_false (fun q => h (V.int.inj q))]
/-! ### a comprehension over zip of two tuples -/
theorem lc_zipT {K : PySem.W.Frag} {a b : Addr} {xs ys : List V} {g : TG} {tt : TT} {te : TE} {vs : List Nat} {σ : L2.St} {H1 : Hp} {D : Addr} {Qd : Hp → Prop} (hl : xs.length = ys.length) (Pv : Nat → Hp → Prop) (h0 : Pv 0 (upd H1 D (.lst []))) (hq : ∀ i H, Pv i H → SqT K H a xs ∧ SqT K H b ys)
    (hs : ∀ i x y T H, xs[i]? = some x → ys[i]? = some y → Pv i H → H T = none → g (.ref T) (wipe σ vs) (upd H T (.tup [x, y])) fun σ2 H2 => wipe σ2 vs = wipe σ vs ∧ tt σ2 H2 fun b H3 =>
      if b = true then te σ2 H3 fun y H4 => ∃ acc, H4 D = some (.lst acc) ∧ acc.length < sizeLine ∧ Pv (i + 1) (upd H4 D (.lst (acc ++ [y]))) else Pv (i + 1) H3) (hd : ∀ H, Pv xs.length H → Qd H) :
    ∃ W : Nat → Nat → Hp → Prop, (∃ m, W 0 m (upd H1 D (.lst []))) ∧ ∀ i m H, W i m H →
      ((ItzT K a b).stop i H ∧ Qd H) ∨ ((ItzT K a b).go i H ∧ ∃ Nx : Hp → Prop, (∀ H', Nx H' → ∃ m', m' < m ∧ W (i + 1) m' H') ∧ ∀ x H', (ItzT K a b).yld i H x H' → g x (wipe σ vs) H' fun σ2 H2 => wipe σ2 vs = wipe σ vs ∧ tt σ2 H2 fun b H3 =>
        if b = true then te σ2 H3 fun y H4 => ∃ acc, H4 D = some (.lst acc) ∧ acc.length < sizeLine ∧ Nx (upd H4 D (.lst (acc ++ [y]))) else Nx H3) := by
  refine ⟨fun i m H => m = xs.length - i ∧ i ≤ xs.length ∧ Pv i H, ⟨xs.length, by simp, Nat.zero_le _, h0⟩, ?_⟩
  rintro i m H ⟨rfl, hi, p⟩
  obtain ⟨qx, qy⟩ := hq i H p
  by_cases hlt : i < xs.length
  · have hx : xs[i]? = some xs[i] := List.getElem?_eq_getElem hlt
    have hlt2 : i < ys.length := by omega
    have hy : ys[i]? = some ys[i] := List.getElem?_eq_getElem hlt2
    refine .inr ⟨⟨xs, ys, _, _, qx, qy, hx, hy⟩, Pv (i + 1), fun H' p' => ⟨xs.length - (i + 1), by omega, rfl, hlt, p'⟩, fun x H' y => ?_⟩
    obtain ⟨T, x', y', rfl, hT, rfl, f1, f2⟩ := y
    exact hs i x' y' T H (f1 xs qx) (f2 ys qy) p hT
  · have e : i = xs.length := by omega
    subst e
    exact .inl ⟨⟨xs, ys, qx, qy, Or.inl (Nat.le_refl _)⟩, hd H p⟩
/-! ### lists of ints against the empty list -/
theorem dpAll_ints {K : PySem.W.Frag} {H : Hp} : ∀ ns : List Int, DpAll K H (ns.map V.int) (ns.map PyData.int)
  | [] => .nil
  | n :: r => .cons (.int n) (dpAll_ints r)
theorem eqv_nil (ns : List Int) : PyData.eqv (.list (ns.map PyData.int)) (.list []) = ns.isEmpty := by
  cases ns with
  | nil => simp [PyData.eqv, PyData.eqvAll]
  | cons n r => simp [PyData.eqv, PyData.eqvAll]
theorem ixN_nn {n : Nat} {i : Int} (h0 : 0 ≤ i) (h1 : i < n) : ixN n i = some i.toNat := by
  unfold ixN
  rw [if_pos h0, if_pos h1]
/-- two ways to one value -/
theorem join_if {te1 te2 : TE} {σ : L2.St} {H1 : Hp} {Q' : VK} {c : Bool} (G : V → Hp → Prop) (hG : ∀ v H', G v H' → Q' v H') (h1 : c = true → ∃ v H', (∀ Q : VK, Q v H' → te1 σ H1 Q) ∧ G v H')
    (h2 : c = false → ∃ v H', (∀ Q : VK, Q v H' → te2 σ H1 Q) ∧ G v H') : if c = true then te1 σ H1 Q' else te2 σ H1 Q' := by
  cases c with
  | true =>
    obtain ⟨v, H', e, g⟩ := h1 rfl
    rw [if_pos rfl]
    exact e _ (hG _ _ g)
  | false =>
    obtain ⟨v, H', e, g⟩ := h2 rfl
    rw [if_neg Bool.false_ne_true]
    exact e _ (hG _ _ g)
/-- over a range, with a break -/
theorem for_rangeB {lo : Int} {n : Nat} {g : TG} {tb : TS} {D : Ends} {σ : L2.St} {H : Hp} (Pv : Nat → L2.St → Hp → Prop) (Post : L2.St → Hp → Prop) (h0 : Pv 0 σ H)
    (hs : ∀ (bk : L2.St → Hp → Prop), (∀ σ H, Post σ H → bk σ H) → ∀ i σ H, i < n → Pv i σ H → g (.int (lo + i)) σ H fun σ2 H2 => tb { D with nx := Pv (i + 1), ct := Pv (i + 1), bk := bk } σ2 H2) (hd : ∀ σ H, Pv n σ H → Post σ H) (hp : ∀ σ H, Post σ H → D.nx σ H) :
    ∃ W : Nat → Nat → L2.St → Hp → Prop, (∃ m, W 0 m σ H) ∧ ∀ i m σ H, W i m σ H →
      ((Itr lo n).stop i H ∧ D.nx σ H) ∨ ((Itr lo n).go i H ∧ ∃ N : L2.St → Hp → Prop, (∀ σ' H', N σ' H' → ∃ m', m' < m ∧ W (i + 1) m' σ' H') ∧ ∀ x H', (Itr lo n).yld i H x H' → g x σ H' fun σ2 H2 => tb { D with nx := N, ct := N, bk := D.nx } σ2 H2) :=
  for_range Pv h0 (hs D.nx hp) fun σ H h => hp σ H (hd σ H h)
/-- two ways to values of one kind -/
theorem join_ifA {te1 te2 : TE} {σ : L2.St} {H1 : Hp} {Q' : VK} {c : Bool} (G : V → Hp → Prop) (hG : ∀ v H', G v H' → Q' v H') (h1 : c = true → ∀ Q : VK, (∀ v H', G v H' → Q v H') → te1 σ H1 Q)
    (h2 : c = false → ∀ Q : VK, (∀ v H', G v H' → Q v H') → te2 σ H1 Q) : if c = true then te1 σ H1 Q' else te2 σ H1 Q' := by
  cases c with
  | true =>
    rw [if_pos rfl]
    exact h1 rfl Q' hG
  | false =>
    rw [if_neg Bool.false_ne_true]
    exact h2 rfl Q' hG
/-- a statement by what holds behind it -/
theorem abs_nx {t : TS} {D : Ends} {σ : L2.St} {H : Hp} (G : L2.St → Hp → Prop) (h : ∀ nx' : L2.St → Hp → Prop, (∀ σ' H', G σ' H' → nx' σ' H') → t { D with nx := nx' } σ H) (hG : ∀ σ' H', G σ' H' → D.nx σ' H') : t D σ H := h D.nx hG
theorem le64 {i : Int} (h0 : 0 ≤ i) (h : i < 18446744073709551616) : -(2 ^ 64) < i ∧ i < 2 ^ 64 := by
  constructor <;> omega
end LS
namespace LS
open PySem PySem.Spec PyProof.Rows L2 RZ
def top (i : Nat) : Stmt := PySem.Challenge.pw_lastseen_k13_whole_shift_and_count_alike.main.body.getD i (.Pass ⟨0, 0, 0, 0⟩)
abbrev s_is_rule : Stmt := top 10
abbrev s_check_rule : Stmt := top 11
abbrev s_check_mark : Stmt := top 12
abbrev s_check_moment : Stmt := top 13
abbrev s_top_mark : Stmt := top 14
abbrev s_end_mark : Stmt := top 15
abbrev s_seen : Stmt := top 16
abbrev s_aged_on : Stmt := top 17
abbrev s_aged_roughly : Stmt := top 18
abbrev s_span : Stmt := top 20
abbrev s_agings : Stmt := top 21
abbrev s_stepped_span : Stmt := top 22
abbrev s_rough_span : Stmt := top 23
abbrev m_Board_init : Stmt := inClass (top 27) 0
abbrev m_Board_see : Stmt := inClass (top 27) 1
abbrev m_Board_pass_by : Stmt := inClass (top 27) 2
abbrev m_Board_marks : Stmt := inClass (top 27) 3
abbrev m_Board_age : Stmt := inClass (top 27) 4
abbrev m_Board_ages : Stmt := inClass (top 27) 5
abbrev m_Board_oldest : Stmt := inClass (top 27) 6
abbrev m_Board_now : Stmt := inClass (top 27) 7
abbrev m_Board_check_thing : Stmt := inClass (top 27) 8
abbrev s_surely_older : Stmt := top 28
abbrev s_L_mix : Stmt := top 30
abbrev s_L_next : Stmt := top 31
abbrev s_L_alike : Stmt := top 32
abbrev s_law : Stmt := top 33
/-! ### the program: rules -/
theorem k_cs : ¬ (("count" : Str) = "shift") := by decide +kernel
theorem k_cr : ¬ (("count" : Str) = "rough") := by decide +kernel
theorem k_sc : ¬ (("shift" : Str) = "count") := by decide +kernel
theorem k_sr : ¬ (("shift" : Str) = "rough") := by decide +kernel
theorem k_rc : ¬ (("rough" : Str) = "count") := by decide +kernel
theorem k_rs : ¬ (("rough" : Str) = "shift") := by decide +kernel

/-- what the top has written of the limits, at d -/
def WrT (K : PySem.W.Frag) (a : Addr) (xs : List V) : Prop := ∃ (o : Obj) (its : Array Value) (n : Nat), K.lookup a = some o ∧ o.cls = .type "tuple" ∧ o.data = .seq its n ∧ its.size ≤ sizeLine ∧ Vals xs its.toList
structure Lims (K : PySem.W.Frag) (w : World) (mg : Str → Option Value) : Prop where
  ex : ∃ (d : Addr) (es : Array DictEntry) (n : Nat), mg "LIMITS" = some (.ref d) ∧ KDict K w d es n ∧ ∀ R : Ru, ∃ t, PySem.W.nsIn K d R.kind = some (some (.ref t)) ∧ WrT K t (R.lim.map V.int)
theorem nums_ok {R : Ru} (h : R.ok) {i : Nat} {x y : V} (hx : (R.nums.map V.int)[i]? = some x) (hy : (R.lim.map V.int)[i]? = some y) : ∃ n m : Int, x = .int n ∧ y = .int m ∧ 1 ≤ n ∧ n ≤ m := by
  cases R with
  | cnt b s =>
    obtain ⟨h1, h2, h3, h4⟩ : 1 ≤ b ∧ b ≤ 6 ∧ 1 ≤ s ∧ s ≤ 20 := h
    match i, hx, hy with
    | 0, hx, hy => exact ⟨b, 6, (Option.some.inj hx).symm, (Option.some.inj hy).symm, by omega, by omega⟩
    | 1, hx, hy => exact ⟨s, 20, (Option.some.inj hx).symm, (Option.some.inj hy).symm, by omega, by omega⟩
    | i + 2, hx, hy => simp [Ru.nums] at hx
  | shf b s =>
    obtain ⟨h1, h2, h3, h4⟩ : 1 ≤ b ∧ b ≤ 10 ∧ 1 ≤ s ∧ s ≤ 20 := h
    match i, hx, hy with
    | 0, hx, hy => exact ⟨b, 10, (Option.some.inj hx).symm, (Option.some.inj hy).symm, by omega, by omega⟩
    | 1, hx, hy => exact ⟨s, 20, (Option.some.inj hx).symm, (Option.some.inj hy).symm, by omega, by omega⟩
    | i + 2, hx, hy => simp [Ru.nums] at hx
  | rgh b =>
    obtain ⟨h1, h2⟩ : 1 ≤ b ∧ b ≤ 3 := h
    match i, hx, hy with
    | 0, hx, hy => exact ⟨b, 3, (Option.some.inj hx).symm, (Option.some.inj hy).symm, by omega, by omega⟩
    | i + 1, hx, hy => simp [Ru.nums] at hx
theorem nums_lim (R : Ru) : (R.nums.map V.int).length = (R.lim.map V.int).length := by cases R <;> rfl
theorem lim_short (R : Ru) : (R.lim.map V.int).length ≤ 2 := by
  cases R with
  | cnt b s => exact Nat.le_refl 2
  | shf b s => exact Nat.le_refl 2
  | rgh b => exact (by decide : 1 ≤ 2)
def spIsRule : Sp := fun vs H Q _ => ∃ (p : Addr) (R : Ru), vs = [.ref p] ∧ RuAt H p R ∧ R.ok ∧ ∀ H', Same H H' → Q (.bl true) H'
section
variable {P : Program} {w : World} {K : PySem.W.Frag} {mg : Str → Option Value} {base : Heap}
theorem sc_is_rule : FnScope ["rule", "limits", "numbers", "number", "most"] ["rule"] (defScope s_is_rule) := ⟨rfl, rfl, rfl, by decide +kernel, rfl, by decide +kernel, by decide +kernel⟩
theorem ok_is_rule (D : DefAt K mg "is_rule" s_is_rule ["rule"]) (LI : Lims K w mg) (m_len : mg "len" = none) (m_all : mg "all" = none) (m_zip : mg "zip" = none) : Cl P w K mg base 1 "is_rule" ["rule"] spIsRule := by
  refine D.cl fun f fd F => ?_
  obtain ⟨d, es, n, gL, kd, lt⟩ := LI.ex
  refine F.ok sc_is_rule (fun vs H Q E h => ?_) (fun cdv A outer s H vs Q E hr h => ?_)
  · obtain ⟨p, R, rfl, _⟩ := h
    rfl
  · obtain ⟨p, R, rfl, hp, ok, q⟩ := h
    obtain ⟨t, ht, wt⟩ := lt R
    refine ⟨_, pss_cons (ps_if (pt_cmpR (op_notIn_kd kd) (pe_ix ix_tup (pv 0) pe_int (fun _ _ => rfl)) (pe_glob (v := .ref d) (by rfl) gL rfl) (by rfl)) (pss_one ps_never) pss_nil)
      (pss_cons (ps_set (i := 1) sc_is_rule.nd rfl (Or.inl rfl) (pe_ix ix_kdict (pe_glob (v := .ref d) (by rfl) gL rfl) (pe_ix ix_tup (pv 0) pe_int (fun _ _ => rfl)) (fun _ _ => rfl)))
      (pss_cons (ps_set (i := 2) sc_is_rule.nd rfl (Or.inl rfl) (pe_slice sl_tup (pv 0) (po_some pe_int) po_none))
      (pss_cons (ps_if (pt_cmpR op_ne (pe_callB call_len_seq (by rfl) m_len PySem.boot_len (pa_cons (pv 2) pa_nil)) (pe_callB call_len_seq (by rfl) m_len PySem.boot_len (pa_cons (pv 1) pa_nil)) (nomark _)) (pss_one ps_never) pss_nil)
      (pss_one (ps_ret (pe_callB (cr_all rfl) (by rfl) m_all (by decide +kernel) (pa_cons
        (pe_lc (own := [("number", 3), ("most", 4)]) (g := gTup K 2 (gCons (gName 3) (gCons (gName 4) gNil))) (tt := tYes) rfl sc_is_rule.nd (pi_zipA (by rfl) m_zip (pa_cons (pv 2) (pa_cons (pv 1) pa_nil))) (blkOk_by (N := ["rule", "limits", "numbers", "number", "most"]) (sc := defScope s_is_rule) (by decide +kernel))
          (fun _ _ _ _ _ => by exact pg_tup rfl (pgs_cons (pg_name (i := 3) sc_is_rule.nd rfl (Or.inl rfl)) (pgs_cons (pg_name (i := 4) sc_is_rule.nd rfl (Or.inl rfl)) pgs_nil))) (fun _ _ _ _ _ => by exact pts_nil)
          (fun _ _ _ _ _ => by exact pe_chain op_le op_le pe_int (pv 3) (pv 4))) pa_nil))))))), ?_⟩
    refine ⟨_, rfl, p, _, _, _, rfl, rfl, SqT.of hp, R.at0, R.kind, _, rfl, rfl, ht, _, rfl, iteF ?_⟩
    refine ⟨_, rfl, p, _, _, _, rfl, rfl, SqT.of hp, R.at0, d, R.kind, .ref t, rfl, rfl, ⟨es, n, _, kd.at_, kd.lit, ht, rfl⟩, ?_⟩
    refine ⟨_, rfl, 1, rfl, p, R.tup, rfl, SqT.of hp, ?_, fun u nu => ?_⟩
    · have h1 : R.tup.length = (R.nums.map V.int).length + 1 := rfl
      have h2 : 1 ≤ (R.nums.map V.int).length := by cases R <;> exact Nat.succ_le_succ (Nat.zero_le _)
      rintro ⟨e, _⟩
      rw [show HT.sIx R.tup.length 0 (some 1) = min 1 R.tup.length from HT.sIx_nat _ 0 1] at e
      omega
    have su : Same H (upd H u (.tup (cutV R.tup (some 1) none))) := same_upd nu
    have eu : (upd H u (.tup (cutV R.tup (some 1) none))) u = some (.tup (R.nums.map V.int)) := by
      rw [upd_same, cut1]; rfl
    refine ⟨_, rfl, u, R.nums.map V.int, rfl, .inr (SqT.of eu), _, rfl, t, R.lim.map V.int, rfl, .inr (.inr wt), rfl, _, rfl, ?_⟩
    rw [nums_lim]
    refine iteNS rfl ?_
    refine ⟨_, rfl, _, rfl, u, t, R.nums.map V.int, R.lim.map V.int, rfl, .inr ⟨SqT.of eu, .inr wt, fun D nD => ?_⟩⟩
    refine lc_zipT (K := K) (xs := R.nums.map V.int) (ys := R.lim.map V.int) (nums_lim R) (fun i H' => Same (upd H u (.tup (cutV R.tup (some 1) none))) H' ∧ H' D = some (.lst ((List.replicate i true).map V.bl)))
      ⟨same_upd nD, upd_same⟩ (fun i H' h => ⟨SqT.of (h.1 _ _ eu), .inr wt⟩) ?_ ?_
    · rintro i x y T H' hx hy ⟨sm, hD⟩ hT
      obtain ⟨a, b, rfl, rfl, h1, h2⟩ := nums_ok ok hx hy
      have nT : D ≠ T := ne_of_none hD hT
      refine ⟨T, [.int a, .int b], rfl, .inl (.inl upd_same), rfl, .int a, [.int b], rfl, .int b, [], rfl, rfl, rfl, ?_⟩
      refine ⟨_, rfl, _, _, rfl, rfl, _, rfl, ?_⟩
      rw [decide_eq_true h1]
      refine iteT ?_
      refine ⟨_, rfl, _, _, rfl, rfl, ?_⟩
      dsimp only
      rw [decide_eq_true h2]
      refine ⟨_, (by rw [upd_ne nT]; exact hD), ?_, ?_, ?_⟩
      · rw [List.length_map, List.length_replicate]
        have : i < (R.lim.map V.int).length := (List.getElem?_eq_some_iff.mp hy).1
        have := lim_short R
        exact small1000 (by omega)
      · intro z o e
        rw [upd_ne (show z ≠ D from ne_of_none e nD), upd_ne (ne_of_none (sm _ _ e) hT)]
        exact sm _ _ e
      · rw [upd_same, List.replicate_succ', List.map_append]
        rfl
    · rintro H' ⟨sm, hD⟩
      refine ⟨D, List.replicate _ true, rfl, SqL.of hD, ?_⟩
      rw [show (List.replicate (R.nums.map V.int).length true).all id = true by simp]
      exact q H' (su.trans sm)
end
/-! ### the program: marks and ageing -/
def spCheckRule : Sp := fun vs H Q _ => ∃ (p : Addr) (R : Ru), vs = [.ref p] ∧ RuAt H p R ∧ R.ok ∧ ∀ H', Same H H' → Q .non H'
def spTopMark : Sp := fun vs H Q _ => ∃ (p : Addr) (R : Ru), vs = [.ref p] ∧ RuAt H p R ∧ R.ok ∧ Q (.int (R.most : Int)) H
def spCheckMark : Sp := fun vs H Q _ => ∃ (p : Addr) (R : Ru) (i : Int), vs = [.ref p, .int i] ∧ RuAt H p R ∧ R.ok ∧ 0 ≤ i ∧ i ≤ (R.most : Int) ∧ Q .non H
def spCheckMoment : Sp := fun vs H Q _ => ∃ (i : Int), vs = [.int i] ∧ 0 ≤ i ∧ i ≤ 1000000000 ∧ Q .non H
def spRoughly : Sp := fun vs H Q _ => ∃ (b m t n : Nat) (i1 i2 i3 i4 : Int), vs = [.int i1, .int i2, .int i3, .int i4] ∧ i1 = ((2 ^ b - 1 : Nat) : Int) ∧ i2 = (m : Int) ∧ i3 = (t : Int) ∧ i4 = ((t + n : Nat) : Int) ∧
  1 ≤ b ∧ b ≤ 3 ∧ m ≤ 2 ^ b - 1 ∧ t + n ≤ 1000000000 ∧ Q (.int (ag (.rgh b) m t n : Int)) H
def spAged : Sp := fun vs H Q _ => ∃ (p : Addr) (R : Ru) (m t n : Nat) (i1 i2 i3 : Int), vs = [.ref p, .int i1, .int i2, .int i3] ∧ i1 = (m : Int) ∧ i2 = (t : Int) ∧ i3 = ((t + n : Nat) : Int) ∧
  RuAt H p R ∧ R.ok ∧ m ≤ R.most ∧ t + n ≤ 1000000000 ∧ ∀ H', Same H H' → Q (.int (ag R m t n : Int)) H'
theorem pow_sub (k : Nat) : (2 : Int) ^ k - 1 = ((2 ^ k - 1 : Nat) : Int) := by
  have := Nat.two_pow_pos k
  have e : ((2 ^ k : Nat) : Int) = (2 : Int) ^ k := by rw [Int.natCast_pow]; rfl
  omega
theorem top_is {i : Int} {k : Nat} (h : i = (k : Int)) : (1 : Int) * 2 ^ i.toNat - 1 = ((2 ^ k - 1 : Nat) : Int) := by
  rw [h, Int.toNat_natCast, Int.one_mul, pow_sub]
theorem Ru.most_lt {R : Ru} (h : R.ok) : R.most < 2048 := by
  cases R with
  | cnt b s =>
    obtain ⟨h1, h2, h3, h4⟩ : 1 ≤ b ∧ b ≤ 6 ∧ 1 ≤ s ∧ s ≤ 20 := h
    have : 2 ^ b ≤ 2 ^ 6 := Nat.pow_le_pow_right (by decide) h2
    show 2 ^ b - 1 < 2048
    omega
  | shf b s =>
    obtain ⟨h1, h2, h3, h4⟩ : 1 ≤ b ∧ b ≤ 10 ∧ 1 ≤ s ∧ s ≤ 20 := h
    have : 2 ^ (b + 1) ≤ 2 ^ 11 := Nat.pow_le_pow_right (by decide) (by omega)
    show 2 ^ (b + 1) - 1 < 2048
    omega
  | rgh b =>
    obtain ⟨h1, h2⟩ : 1 ≤ b ∧ b ≤ 3 := h
    have : 2 ^ b ≤ 2 ^ 3 := Nat.pow_le_pow_right (by decide) h2
    show 2 ^ b - 1 < 2048
    omega
theorem next_cast (t m : Nat) : ((t : Int) / 2 ^ (m : Int).toNat + 1) * 2 ^ (m : Int).toNat = (((t / 2 ^ m + 1) * 2 ^ m : Nat) : Int) := by
  rw [Int.toNat_natCast, Int.natCast_mul, Int.natCast_add, Int.natCast_ediv, Int.natCast_pow]
  rfl
theorem kind_ne {R : Ru} {x : Str} (h : R.kind ≠ x) : decide (V.str R.kind = V.str x) = false := by rw [dec_str, decide_eq_false h]
section
variable {P : Program} {w : World} {K : PySem.W.Frag} {mg : Str → Option Value} {base : Heap}
theorem sc_check_rule : FnScope ["rule"] ["rule"] (defScope s_check_rule) := ⟨rfl, rfl, rfl, by decide +kernel, rfl, by decide +kernel, by decide +kernel⟩
theorem ok_check_rule (D : DefAt K mg "check_rule" s_check_rule ["rule"]) (C1 : Cl P w K mg base 1 "is_rule" ["rule"] spIsRule) : Cl P w K mg base 2 "check_rule" ["rule"] spCheckRule := by
  refine D.cl fun f fd F => ?_
  refine F.ok sc_check_rule (fun vs H Q E h => ?_) (fun cdv A outer s H vs Q E hr h => ?_)
  · obtain ⟨p, R, rfl, _⟩ := h
    rfl
  · obtain ⟨p, R, rfl, hp, ok, q⟩ := h
    refine ⟨_, pss_one (ps_if (pt_not (pt_val (pe_cl C1 hr (pa_cons (pv 0) pa_nil)))) (pss_one ps_never) pss_nil), ?_⟩
    exact ⟨_, rfl, p, R, rfl, hp, ok, fun H' sm => ⟨true, rfl, iteF (q H' sm)⟩⟩
theorem sc_top_mark : FnScope ["rule"] ["rule"] (defScope s_top_mark) := ⟨rfl, rfl, rfl, by decide +kernel, rfl, by decide +kernel, by decide +kernel⟩
theorem ok_top_mark (D : DefAt K mg "top_mark" s_top_mark ["rule"]) : Cl P w K mg base 1 "top_mark" ["rule"] spTopMark := by
  refine D.cl fun f fd F => ?_
  refine F.ok sc_top_mark (fun vs H Q E h => ?_) (fun cdv A outer s H vs Q E hr h => ?_)
  · obtain ⟨p, R, rfl, _⟩ := h
    rfl
  · obtain ⟨p, R, rfl, hp, ok, q⟩ := h
    have hb := R.bits_pos ok
    refine ⟨_, pss_cons (ps_if (pt_cmpR op_eq (pe_ix ix_tup (pv 0) pe_int (fun _ _ => rfl)) pe_str (nomark _)) (pss_one (ps_ret (pe_op op_sub (pe_op op_shl pe_int (pe_op op_add (pe_ix ix_tup (pv 0) pe_int (fun _ _ => rfl)) pe_int)) pe_int))) pss_nil)
      (pss_one (ps_ret (pe_op op_sub (pe_op op_shl pe_int (pe_ix ix_tup (pv 0) pe_int (fun _ _ => rfl))) pe_int))), ?_⟩
    refine ⟨_, rfl, p, _, _, _, rfl, rfl, SqT.of hp, R.at0, rfl, _, rfl, ?_⟩
    have low : ∀ _ : R.kind ≠ "shift", R.most = 2 ^ R.bits - 1 := by
      intro hk
      cases R with
      | cnt b s => rfl
      | shf b s => exact absurd rfl hk
      | rgh b => rfl
    by_cases hk : R.kind = "shift"
    · rw [dec_str, decide_eq_true hk]
      refine iteT ?_
      refine ⟨_, rfl, p, _, _, _, rfl, rfl, SqT.of hp, R.at1, _, _, rfl, rfl, _, _, rfl, rfl, ⟨by omega, by omega, by decide⟩, _, _, rfl, rfl, ?_⟩
      have e : (1 : Int) * 2 ^ ((R.bits : Int) + 1).toNat - 1 = (R.most : Int) := by
        rw [top_is (i := (R.bits : Int) + 1) (k := R.bits + 1) rfl]
        cases R with
        | cnt b s => exact absurd hk k_cs
        | shf b s => rfl
        | rgh b => exact absurd hk k_rs
      dsimp only
      rw [e]
      exact q
    · rw [dec_str, decide_eq_false hk]
      refine iteF ?_
      refine ⟨_, rfl, p, _, _, _, rfl, rfl, SqT.of hp, R.at1, _, _, rfl, rfl, ⟨by omega, by omega, by decide⟩, _, _, rfl, rfl, ?_⟩
      dsimp only
      rw [top_is (i := (R.bits : Int)) (k := R.bits) rfl, ← low hk]
      exact q
theorem sc_roughly : FnScope ["last", "mark", "begin", "end", "moment"] ["last", "mark", "begin", "end"] (defScope s_aged_roughly) := ⟨rfl, rfl, rfl, by decide +kernel, rfl, by decide +kernel, by decide +kernel⟩
theorem ok_roughly (D : DefAt K mg "_aged_roughly" s_aged_roughly ["last", "mark", "begin", "end"]) : Cl P w K mg base 1 "_aged_roughly" ["last", "mark", "begin", "end"] spRoughly := by
  refine D.cl fun f fd F => ?_
  refine F.ok sc_roughly (fun vs H Q E h => ?_) (fun cdv A outer s H vs Q E hr h => ?_)
  · obtain ⟨b, m, t, n, i1, i2, i3, i4, rfl, _⟩ := h
    rfl
  · obtain ⟨b, m, t, n, i1, i2, i3, i4, rfl, rfl, rfl, rfl, rfl, b1, b3, hm, ht, q⟩ := h
    refine ⟨_, pss_cons (ps_set (i := 4) sc_roughly.nd rfl (Or.inl rfl) (pv 2))
      (pss_cons (ps_while PassesOwn.never (pt_cmpR op_lt (pv 1) (pv 0) (nomark _))
        (pss_cons (ps_set (i := 4) sc_roughly.nd rfl (Or.inl rfl) (pe_op op_shl (pe_op op_add (pe_op op_shr (pv 4) (pv 1)) pe_int) (pv 1)))
        (pss_cons (ps_if (pt_cmpR op_gt (pv 4) (pv 3) (nomark _)) (pss_one ps_break) pss_nil)
        (pss_one (ps_aug (i := 1) sc_roughly.nd rfl (Or.inl rfl) pe_int ip_add)))))
      (pss_one (ps_ret (pv 1)))), ?_⟩
    refine ⟨_, rfl, ?_⟩
    refine while_by (fun σ H' => ∃ m' t' n' : Nat, σ = [some (.int ((2 ^ b - 1 : Nat) : Int)), some (.int (m' : Int)), some (.int (t : Int)), some (.int ((t + n : Nat) : Int)), some (.int (t' : Int))] ∧ H' = H ∧ t' + n' = t + n ∧ m' ≤ 2 ^ b - 1 ∧ ag (.rgh b) m t n = ag (.rgh b) m' t' n')
      (fun σ H' => match σ with | [_, some (.int i), _, _, _] => (((2 ^ b - 1 : Nat) : Int) - i).toNat | _ => 0) ⟨m, t, n, rfl, rfl, rfl, hm, rfl⟩ ?_ ?_
    · rintro σ H' ⟨m', t', n', rfl, rfl, e, hm', ea⟩
      have p3 : 2 ^ b ≤ 2 ^ 3 := Nat.pow_le_pow_right (by decide) b3
      refine ⟨_, rfl, _, rfl, _, _, rfl, rfl, _, rfl, ?_⟩
      by_cases c : m' < 2 ^ b - 1
      · rw [decide_eq_true (show (m' : Int) < ((2 ^ b - 1 : Nat) : Int) by omega)]
        refine iteT ?_
        have g1 := next_gt m' t'
        have g2 := next_le m' t'
        have p7 : 2 ^ m' ≤ 2 ^ 7 := Nat.pow_le_pow_right (by decide) (by omega)
        have hdiv : t' / 2 ^ m' ≤ t' := Nat.div_le_self _ _
        refine ⟨_, rfl, _, rfl, _, _, rfl, rfl, Int.natCast_nonneg _, _, _, rfl, rfl, _, rfl, _, _, rfl, rfl, ⟨Int.natCast_nonneg _, by omega, ?_⟩, ?_⟩
        · rw [Int.toNat_natCast]
          have e2 : ((t' : Int) / 2 ^ m' + 1) = ((t' / 2 ^ m' + 1 : Nat) : Int) := by
            rw [Int.natCast_add, Int.natCast_ediv, Int.natCast_pow]; rfl
          rw [e2]
          show t' / 2 ^ m' + 1 < 2 ^ 64
          have : t' ≤ 1000000000 := by omega
          have : (2 : Nat) ^ 64 = 18446744073709551616 := by decide
          omega
        · dsimp only
          rw [next_cast]
          refine ⟨_, rfl, _, rfl, _, _, rfl, rfl, _, rfl, ?_⟩
          by_cases c2 : t + n < (t' / 2 ^ m' + 1) * 2 ^ m'
          · rw [decide_eq_true (show ((t + n : Nat) : Int) < (((t' / 2 ^ m' + 1) * 2 ^ m' : Nat) : Int) by omega)]
            refine iteT ?_
            have es : ag (.rgh b) m t n = m' := by
              rw [ea]
              exact ag_rgh_still b m' t' n' (by omega)
            rw [es] at q
            exact ⟨_, rfl, q⟩
          · rw [decide_eq_false (show ¬ ((t + n : Nat) : Int) < (((t' / 2 ^ m' + 1) * 2 ^ m' : Nat) : Int) by omega)]
            refine iteF ?_
            refine ⟨_, rfl, _, _, rfl, rfl, ⟨m' + 1, (t' / 2 ^ m' + 1) * 2 ^ m', t + n - (t' / 2 ^ m' + 1) * 2 ^ m', rfl, rfl, by omega, by omega, ?_⟩, ?_⟩
            · obtain ⟨k, hk⟩ : ∃ k, n' = ((t' / 2 ^ m' + 1) * 2 ^ m' - t') + k := ⟨n' - ((t' / 2 ^ m' + 1) * 2 ^ m' - t'), by omega⟩
              rw [ea, hk, ag_add, ag_rgh_next b m' t' (by omega)]
              rw [show t' + ((t' / 2 ^ m' + 1) * 2 ^ m' - t') = (t' / 2 ^ m' + 1) * 2 ^ m' by omega]
              rw [show t + n - (t' / 2 ^ m' + 1) * 2 ^ m' = k by omega]
            · show (((2 ^ b - 1 : Nat) : Int) - ((m' : Int) + 1)).toNat < (((2 ^ b - 1 : Nat) : Int) - (m' : Int)).toNat
              omega
      · rw [decide_eq_false (show ¬ (m' : Int) < ((2 ^ b - 1 : Nat) : Int) by omega)]
        refine iteF ?_
        have es : ag (.rgh b) m t n = m' := by
          have : m' = 2 ^ b - 1 := by omega
          rw [ea, this]
          exact ag_rgh_fin b t' n'
        rw [es] at q
        exact ⟨_, rfl, q⟩
    · rintro σ H' Q1 Q2 i ⟨x, hx, y, hy, i', j', e1, e2, k, ek, qq⟩
      exact ⟨x, hx, y, hy, i', j', e1, e2, k, ek, i _ _ qq⟩
theorem sc_aged_on : FnScope ["rule", "mark", "begin", "end", "step", "times"] ["rule", "mark", "begin", "end"] (defScope s_aged_on) := ⟨rfl, rfl, rfl, by decide +kernel, rfl, by decide +kernel, by decide +kernel⟩
theorem Ru.at2 {R : Ru} (h : R.kind ≠ "rough") : atI R.tup 2 = some (.int (R.step : Int)) := by
  cases R with
  | cnt b s => exact atI_nat (j := 2) rfl
  | shf b s => exact atI_nat (j := 2) rfl
  | rgh b => exact absurd rfl h
theorem Ru.step_ok {R : Ru} (h : R.ok) : 1 ≤ R.step ∧ R.step ≤ 20 := by
  cases R with
  | cnt b s => obtain ⟨h1, h2, h3, h4⟩ : 1 ≤ b ∧ b ≤ 6 ∧ 1 ≤ s ∧ s ≤ 20 := h; exact ⟨h3, h4⟩
  | shf b s => obtain ⟨h1, h2, h3, h4⟩ : 1 ≤ b ∧ b ≤ 10 ∧ 1 ≤ s ∧ s ≤ 20 := h; exact ⟨h3, h4⟩
  | rgh b => exact ⟨Nat.le_refl 1, (by decide : 1 ≤ 20)⟩
theorem times_cast (t n s : Nat) : ((t + n : Nat) : Int) / (s : Int) - (t : Int) / (s : Int) = (((t + n) / s - t / s : Nat) : Int) := by
  have g := div_mono s (Nat.le_add_right t n)
  rw [← Int.natCast_ediv, ← Int.natCast_ediv]
  omega
theorem ok_aged_on (D : DefAt K mg "aged_on" s_aged_on ["rule", "mark", "begin", "end"]) (m_min : mg "min" = none) (C1 : Cl P w K mg base 1 "top_mark" ["rule"] spTopMark) (C2 : Cl P w K mg base 1 "_aged_roughly" ["last", "mark", "begin", "end"] spRoughly) :
    Cl P w K mg base 2 "aged_on" ["rule", "mark", "begin", "end"] spAged := by
  refine D.cl fun f fd F => ?_
  refine F.ok sc_aged_on (fun vs H Q E h => ?_) (fun cdv A outer s H vs Q E hr h => ?_)
  · obtain ⟨p, R, m, t, n, i1, i2, i3, rfl, _⟩ := h
    rfl
  · obtain ⟨p, R, m, t, n, i1, i2, i3, rfl, rfl, rfl, rfl, hp, ok, hm, ht, q⟩ := h
    have hs := R.step_ok ok
    refine ⟨_, pss_cons (ps_if (pt_cmpR op_eq (pe_ix ix_tup (pv 0) pe_int (fun _ _ => rfl)) pe_str (nomark _)) (pss_one (ps_ret (pe_cl C2 hr (pa_cons (pe_cl C1 hr (pa_cons (pv 0) pa_nil)) (pa_cons (pv 1) (pa_cons (pv 2) (pa_cons (pv 3) pa_nil))))))) pss_nil)
      (pss_cons (ps_set (i := 4) sc_aged_on.nd rfl (Or.inl rfl) (pe_ix ix_tup (pv 0) pe_int (fun _ _ => rfl)))
      (pss_cons (ps_set (i := 5) sc_aged_on.nd rfl (Or.inl rfl) (pe_op op_sub (pe_op op_fdiv (pv 3) (pv 4)) (pe_op op_fdiv (pv 2) (pv 4))))
      (pss_cons (ps_if (pt_cmpR op_eq (pe_ix ix_tup (pv 0) pe_int (fun _ _ => rfl)) pe_str (nomark _)) (pss_one (ps_ret (pe_op op_shr (pv 1) (pv 5)))) pss_nil)
      (pss_one (ps_ret (pe_callB (call_min2 rfl) (by rfl) m_min (by decide +kernel) (pa_cons (pe_op op_add (pv 1) (pv 5)) (pa_cons (pe_cl C1 hr (pa_cons (pv 0) pa_nil)) pa_nil)))))))), ?_⟩
    refine ⟨_, rfl, p, _, _, _, rfl, rfl, SqT.of hp, R.at0, rfl, _, rfl, ?_⟩
    by_cases hk : R.kind = "rough"
    · rw [dec_str, decide_eq_true hk]
      refine iteT ?_
      cases R with
      | cnt b s => exact absurd hk k_cr
      | shf b s => exact absurd hk k_sr
      | rgh b =>
        obtain ⟨b1, b3⟩ : 1 ≤ b ∧ b ≤ 3 := ok
        exact ⟨_, rfl, p, .rgh b, rfl, hp, ⟨b1, b3⟩, _, rfl, _, rfl, _, rfl, b, m, t, n, _, _, _, _, rfl, rfl, rfl, rfl, rfl, b1, b3, hm, ht, q H (Same.refl H)⟩
    · rw [dec_str, decide_eq_false hk]
      refine iteF ?_
      refine ⟨_, rfl, p, _, _, _, rfl, rfl, SqT.of hp, R.at2 hk, ?_⟩
      refine ⟨_, rfl, _, rfl, _, _, rfl, rfl, ⟨by omega, by omega⟩, _, rfl, _, rfl, _, _, rfl, rfl, ⟨by omega, by omega⟩, _, _, rfl, rfl, ?_⟩
      dsimp only
      rw [times_cast]
      refine ⟨_, rfl, p, _, _, _, rfl, rfl, SqT.of hp, R.at0, rfl, _, rfl, ?_⟩
      by_cases hk2 : R.kind = "shift"
      · rw [dec_str, decide_eq_true hk2]
        refine iteT ?_
        refine ⟨_, rfl, _, rfl, _, _, rfl, rfl, Int.natCast_nonneg _, ?_⟩
        have q' := q H (Same.refl H)
        cases R with
        | cnt b s => exact absurd hk2 k_cs
        | rgh b => exact absurd rfl hk
        | shf b s =>
          rw [ag_shf b s m t hs.1 n, Int.natCast_ediv, Int.natCast_pow] at q'
          dsimp only
          rw [Int.toNat_natCast]
          exact q'
      · rw [dec_str, decide_eq_false hk2]
        refine iteF ?_
        refine ⟨_, rfl, _, rfl, _, _, rfl, rfl, _, rfl, p, R, rfl, hp, ok, _, _, rfl, ?_⟩
        have q' := q H (Same.refl H)
        cases R with
        | shf b s => exact absurd rfl hk2
        | rgh b => exact absurd rfl hk
        | cnt b s =>
          rw [ag_cnt b s m t hs.1 hm n] at q'
          have e : (if ((Ru.cnt b s).most : Int) < (m : Int) + (((t + n) / (Ru.cnt b s).step - t / (Ru.cnt b s).step : Nat) : Int) then ((Ru.cnt b s).most : Int) else (m : Int) + (((t + n) / (Ru.cnt b s).step - t / (Ru.cnt b s).step : Nat) : Int)) =
              ((min (m + ((t + n) / s - t / s)) (2 ^ b - 1) : Nat) : Int) := by
            show (if ((2 ^ b - 1 : Nat) : Int) < (m : Int) + (((t + n) / s - t / s : Nat) : Int) then ((2 ^ b - 1 : Nat) : Int) else (m : Int) + (((t + n) / s - t / s : Nat) : Int)) = _
            split <;> omega
          rw [e]
          exact q'
end
section
variable {P : Program} {w : World} {K : PySem.W.Frag} {mg : Str → Option Value} {base : Heap}
theorem sc_check_mark : FnScope ["rule", "mark"] ["rule", "mark"] (defScope s_check_mark) := ⟨rfl, rfl, rfl, by decide +kernel, rfl, by decide +kernel, by decide +kernel⟩
theorem ok_check_mark (D : DefAt K mg "check_mark" s_check_mark ["rule", "mark"]) (C1 : Cl P w K mg base 1 "top_mark" ["rule"] spTopMark) : Cl P w K mg base 2 "check_mark" ["rule", "mark"] spCheckMark := by
  refine D.cl fun f fd F => ?_
  refine F.ok sc_check_mark (fun vs H Q E h => ?_) (fun cdv A outer s H vs Q E hr h => ?_)
  · obtain ⟨p, R, i, rfl, _⟩ := h
    rfl
  · obtain ⟨p, R, i, rfl, hp, ok, h0, h1, q⟩ := h
    refine ⟨_, pss_one (ps_if (PW.pt (pw_or (pt_cmpR op_lt (pv 1) pe_int (nomark _)) (pw_or1 (pt_cmpR op_gt (pv 1) (pe_cl C1 hr (pa_cons (pv 0) pa_nil)) (nomark _))))) (pss_one ps_never) pss_nil), ?_⟩
    refine ⟨_, rfl, _, _, rfl, rfl, _, rfl, ?_⟩
    rw [decide_eq_false (show ¬ i < 0 by omega)]
    refine iteF ⟨_, rfl, _, rfl, p, R, rfl, hp, ok, _, _, rfl, rfl, _, rfl, ?_⟩
    rw [decide_eq_false (show ¬ (R.most : Int) < i by omega)]
    exact iteF q
theorem sc_check_moment : FnScope ["moment"] ["moment"] (defScope s_check_moment) := ⟨rfl, rfl, rfl, by decide +kernel, rfl, by decide +kernel, by decide +kernel⟩
theorem ok_check_moment (D : DefAt K mg "check_moment" s_check_moment ["moment"]) {tk : Tok} (gl : mg "LAST_MOMENT" = some (.int 1000000000 tk)) : Cl P w K mg base 1 "check_moment" ["moment"] spCheckMoment := by
  refine D.cl fun f fd F => ?_
  refine F.ok sc_check_moment (fun vs H Q E h => ?_) (fun cdv A outer s H vs Q E hr h => ?_)
  · obtain ⟨i, rfl, _⟩ := h
    rfl
  · obtain ⟨i, rfl, h0, h1, q⟩ := h
    refine ⟨_, pss_one (ps_if (PW.pt (pw_or (pt_cmpR op_lt (pv 0) pe_int (nomark _)) (pw_or1 (pt_cmpR op_gt (pv 0) (pe_glob (v := .int 1000000000) (by rfl) gl ⟨_, rfl⟩) (nomark _))))) (pss_one ps_never) pss_nil), ?_⟩
    refine ⟨_, rfl, _, _, rfl, rfl, _, rfl, ?_⟩
    rw [decide_eq_false (show ¬ i < 0 by omega)]
    refine iteF ⟨_, rfl, _, _, rfl, rfl, _, rfl, ?_⟩
    rw [decide_eq_false (show ¬ (1000000000 : Int) < i by omega)]
    exact iteF q
end
/-! ### the program: what a mark tells -/
def oV : Option Nat → V
  | none => .non
  | some n => .int (n : Int)
/-- the mark of a thing that is seen -/
def seenM : Ru → Nat → Nat
  | .shf b _, m => if m < 2 ^ b then m + 2 ^ b else m
  | _, _ => 0
def spEndMark : Sp := fun vs H Q _ => ∃ (p : Addr) (R : Ru), vs = [.ref p] ∧ RuAt H p R ∧ R.ok ∧ Q (.int (R.fin : Int)) H
def spSeen : Sp := fun vs H Q _ => ∃ (p : Addr) (R : Ru) (m : Nat) (i : Int), vs = [.ref p, .int i] ∧ i = (m : Int) ∧ RuAt H p R ∧ R.ok ∧ Q (.int (seenM R m : Int)) H
def spAgings : Sp := fun vs H Q _ => ∃ (p : Addr) (R : Ru) (m : Nat) (i : Int), vs = [.ref p, .int i] ∧ i = (m : Int) ∧ RuAt H p R ∧ R.ok ∧ R.isRgh = false ∧ m ≤ R.most ∧ Q (.int (R.ags m : Int)) H
def spStepped : Sp := fun vs H Q _ => ∃ (p : Addr) (R : Ru) (now m : Nat) (i1 i2 : Int), vs = [.ref p, .int i1, .int i2] ∧ i1 = (now : Int) ∧ i2 = (m : Int) ∧ RuAt H p R ∧ R.ok ∧ R.isRgh = false ∧ m ≤ R.most ∧
  ∀ H' T x y, IsSpan R now m x y → H T = none → Same H H' → H' T = some (.tup [oV x, oV y]) → Q (.ref T) H'
def spRoughSpan : Sp := fun vs H Q _ => ∃ (p : Addr) (R : Ru) (now m : Nat) (i1 i2 : Int), vs = [.ref p, .int i1, .int i2] ∧ i1 = (now : Int) ∧ i2 = (m : Int) ∧ RuAt H p R ∧ R.ok ∧ R.isRgh = true ∧ m ≤ R.most ∧ now ≤ 1000000000 ∧
  ∀ H' T x y, IsSpan R now m x y → H T = none → Same H H' → H' T = some (.tup [oV x, oV y]) → Q (.ref T) H'
def spSpan : Sp := fun vs H Q _ => ∃ (p : Addr) (R : Ru) (now m : Nat) (i1 i2 : Int), vs = [.ref p, .int i1, .int i2] ∧ i1 = (now : Int) ∧ i2 = (m : Int) ∧ RuAt H p R ∧ R.ok ∧ m ≤ R.most ∧ now ≤ 1000000000 ∧
  ∀ H' T x y, IsSpan R now m x y → H T = none → Same H H' → H' T = some (.tup [oV x, oV y]) → Q (.ref T) H'
theorem bits_bl (n : Nat) : Builtin.Int.intBits (n : Int) = bl n := by
  unfold Builtin.Int.intBits bl
  by_cases h : n = 0
  · subst h; rfl
  · rw [if_neg h, if_neg (by simpa using h)]
    rfl
theorem bl_two (b : Nat) : bl (2 ^ b) = b + 1 := by
  have p := Nat.two_pow_pos b
  obtain ⟨h1, h2, h3⟩ := bl_pos (show 2 ^ b ≠ 0 by omega)
  have := pow_uniq h1 (show 2 ^ b < 2 ^ (bl (2 ^ b) - 1 + 1) by rw [show bl (2 ^ b) - 1 + 1 = bl (2 ^ b) by omega]; exact h2) (Nat.le_refl _) (show 2 ^ b < 2 ^ (b + 1) by rw [Nat.pow_succ]; omega)
  omega
theorem Ru.rough_iff (R : Ru) : (R.kind = "rough") ↔ R.isRgh = true := by
  cases R with
  | cnt b s => exact ⟨fun h => absurd h k_cr, fun h => nomatch h⟩
  | shf b s => exact ⟨fun h => absurd h k_sr, fun h => nomatch h⟩
  | rgh b => exact ⟨fun _ => rfl, fun _ => rfl⟩
theorem shl_is {i : Int} {k : Nat} (h : i = (k : Int)) : (1 : Int) * 2 ^ i.toNat = ((2 ^ k : Nat) : Int) := by
  rw [h, Int.toNat_natCast, Int.one_mul, Int.natCast_pow]
  rfl
section
variable {P : Program} {w : World} {K : PySem.W.Frag} {mg : Str → Option Value} {base : Heap}
theorem sc_end_mark : FnScope ["rule"] ["rule"] (defScope s_end_mark) := ⟨rfl, rfl, rfl, by decide +kernel, rfl, by decide +kernel, by decide +kernel⟩
theorem ok_end_mark (D : DefAt K mg "end_mark" s_end_mark ["rule"]) (C1 : Cl P w K mg base 1 "top_mark" ["rule"] spTopMark) : Cl P w K mg base 2 "end_mark" ["rule"] spEndMark := by
  refine D.cl fun f fd F => ?_
  refine F.ok sc_end_mark (fun vs H Q E h => ?_) (fun cdv A outer s H vs Q E hr h => ?_)
  · obtain ⟨p, R, rfl, _⟩ := h
    rfl
  · obtain ⟨p, R, rfl, hp, ok, q⟩ := h
    refine ⟨_, pss_cons (ps_if (pt_cmpR op_eq (pe_ix ix_tup (pv 0) pe_int (fun _ _ => rfl)) pe_str (nomark _)) (pss_one (ps_ret pe_int)) pss_nil) (pss_one (ps_ret (pe_cl C1 hr (pa_cons (pv 0) pa_nil)))), ?_⟩
    refine ⟨_, rfl, p, _, _, _, rfl, rfl, SqT.of hp, R.at0, rfl, _, rfl, ?_⟩
    rw [dec_str]
    by_cases hk : R.kind = "shift"
    · rw [decide_eq_true hk]
      refine iteT ?_
      cases R with
      | cnt b s => exact absurd hk k_cs
      | rgh b => exact absurd hk k_rs
      | shf b s => exact q
    · rw [decide_eq_false hk]
      refine iteF ⟨_, rfl, p, R, rfl, hp, ok, ?_⟩
      cases R with
      | cnt b s => exact q
      | rgh b => exact q
      | shf b s => exact absurd rfl hk
theorem sc_seen : FnScope ["rule", "mark", "highest_bit"] ["rule", "mark"] (defScope s_seen) := ⟨rfl, rfl, rfl, by decide +kernel, rfl, by decide +kernel, by decide +kernel⟩
theorem ok_seen (D : DefAt K mg "seen" s_seen ["rule", "mark"]) : Cl P w K mg base 1 "seen" ["rule", "mark"] spSeen := by
  refine D.cl fun f fd F => ?_
  refine F.ok sc_seen (fun vs H Q E h => ?_) (fun cdv A outer s H vs Q E hr h => ?_)
  · obtain ⟨p, R, m, i, rfl, _⟩ := h
    rfl
  · obtain ⟨p, R, m, i, rfl, rfl, hp, ok, q⟩ := h
    refine ⟨_, pss_cons (ps_if (pt_cmpR op_ne (pe_ix ix_tup (pv 0) pe_int (fun _ _ => rfl)) pe_str (nomark _)) (pss_one (ps_ret pe_int)) pss_nil)
      (pss_cons (ps_set (i := 2) sc_seen.nd rfl (Or.inl rfl) (pe_op op_shl pe_int (pe_ix ix_tup (pv 0) pe_int (fun _ _ => rfl))))
      (pss_cons (ps_if (pt_cmpR op_lt (pv 1) (pv 2) (nomark _)) (pss_one (ps_ret (pe_op op_add (pv 1) (pv 2)))) pss_nil)
      (pss_one (ps_ret (pv 1))))), ?_⟩
    refine ⟨_, rfl, p, _, _, _, rfl, rfl, SqT.of hp, R.at0, rfl, _, rfl, ?_⟩
    rw [dec_str]
    by_cases hk : R.kind = "shift"
    · rw [decide_eq_true hk]
      refine iteF ?_
      cases R with
      | cnt b s => exact absurd hk k_cs
      | rgh b => exact absurd hk k_rs
      | shf b s =>
        have hb : b ≤ 10 := ok.2.1
        refine ⟨_, rfl, p, _, _, _, rfl, rfl, SqT.of hp, Ru.at1 (.shf b s), _, _, rfl, rfl, ⟨Int.natCast_nonneg _, (by show (b : Int) ≤ 1000000; omega), by decide⟩, ?_⟩
        dsimp only
        rw [show (1 : Int) * 2 ^ (((Ru.shf b s).bits : Nat) : Int).toNat = ((2 ^ b : Nat) : Int) from shl_is (k := b) rfl]
        refine ⟨_, rfl, _, rfl, _, _, rfl, rfl, _, rfl, ?_⟩
        by_cases c : m < 2 ^ b
        · rw [decide_eq_true (show (m : Int) < ((2 ^ b : Nat) : Int) by omega)]
          refine iteT ⟨_, rfl, _, rfl, _, _, rfl, rfl, ?_⟩
          rw [show seenM (.shf b s) m = m + 2 ^ b from if_pos c] at q
          exact q
        · rw [decide_eq_false (show ¬ (m : Int) < ((2 ^ b : Nat) : Int) by omega)]
          refine iteF ⟨_, rfl, ?_⟩
          rw [show seenM (.shf b s) m = m from if_neg c] at q
          exact q
    · rw [decide_eq_false hk]
      refine iteT ?_
      cases R with
      | cnt b s => exact q
      | rgh b => exact q
      | shf b s => exact absurd rfl hk
theorem sc_agings : FnScope ["rule", "mark", "fresh"] ["rule", "mark"] (defScope s_agings) := ⟨rfl, rfl, rfl, by decide +kernel, rfl, by decide +kernel, by decide +kernel⟩
theorem ok_agings (D : DefAt K mg "_agings" s_agings ["rule", "mark"]) (C1 : Cl P w K mg base 1 "seen" ["rule", "mark"] spSeen) (C2 : Cl P w K mg base 2 "end_mark" ["rule"] spEndMark) : Cl P w K mg base 3 "_agings" ["rule", "mark"] spAgings := by
  refine D.cl fun f fd F => ?_
  refine F.ok sc_agings (fun vs H Q E h => ?_) (fun cdv A outer s H vs Q E hr h => ?_)
  · obtain ⟨p, R, m, i, rfl, _⟩ := h
    rfl
  · obtain ⟨p, R, m, i, rfl, rfl, hp, ok, nr, hm, q⟩ := h
    refine ⟨_, pss_cons (ps_set (i := 2) sc_agings.nd rfl (Or.inl rfl) (pe_cl C1 hr (pa_cons (pv 0) (pa_cons (pe_cl C2 hr (pa_cons (pv 0) pa_nil)) pa_nil))))
      (pss_cons (ps_if (pt_cmpR op_eq (pe_ix ix_tup (pv 0) pe_int (fun _ _ => rfl)) pe_str (nomark _)) (pss_one (ps_ret (pe_op op_sub (pe_bits (pv 2)) (pe_bits (pv 1))))) pss_nil)
      (pss_one (ps_ret (pe_op op_sub (pv 1) (pv 2))))), ?_⟩
    refine ⟨_, rfl, _, rfl, p, R, rfl, hp, ok, p, R, R.fin, _, rfl, rfl, hp, ok, ?_⟩
    refine ⟨_, rfl, p, _, _, _, rfl, rfl, SqT.of hp, R.at0, rfl, _, rfl, ?_⟩
    rw [dec_str]
    cases R with
    | rgh b => cases nr
    | cnt b s =>
      rw [decide_eq_false (show ¬ (Ru.cnt b s).kind = "shift" from k_cs)]
      refine iteF ⟨_, rfl, _, rfl, _, _, rfl, rfl, ?_⟩
      have e : (m : Int) - ((seenM (.cnt b s) (Ru.cnt b s).fin : Nat) : Int) = ((Ru.cnt b s).ags m : Int) := by
        show (m : Int) - ((0 : Nat) : Int) = (m : Int)
        omega
      dsimp only
      rw [e]
      exact q
    | shf b s =>
      rw [decide_eq_true (show (Ru.shf b s).kind = "shift" from rfl)]
      refine iteT ⟨_, rfl, _, rfl, _, rfl, _, rfl, _, _, rfl, rfl, ?_⟩
      have hm' : m ≤ 2 ^ (b + 1) - 1 := hm
      have pb := Nat.two_pow_pos (b + 1)
      have pb' := Nat.two_pow_pos b
      have e1 : seenM (.shf b s) (Ru.shf b s).fin = 2 ^ b := by
        exact (if_pos (show (Ru.shf b s).fin < 2 ^ b from pb')).trans (Nat.zero_add _)
      have l := bl_le (show m < 2 ^ (b + 1) by omega)
      have e : ((Builtin.Int.intBits ((seenM (.shf b s) (Ru.shf b s).fin : Nat) : Int) : Nat) : Int) - ((Builtin.Int.intBits (m : Int) : Nat) : Int) = ((Ru.shf b s).ags m : Int) := by
        rw [e1, bits_bl, bits_bl, bl_two]
        show ((b + 1 : Nat) : Int) - (bl m : Int) = ((b + 1 - bl m : Nat) : Int)
        omega
      dsimp only
      rw [e]
      exact q
theorem sc_rough : FnScope ["rule", "now", "mark", "end", "fresh", "found", "ago", "reached"] ["rule", "now", "mark"] (defScope s_rough_span) := ⟨rfl, rfl, rfl, by decide +kernel, rfl, by decide +kernel, by decide +kernel⟩
theorem ok_rough (D : DefAt K mg "_rough_span" s_rough_span ["rule", "now", "mark"]) (m_range : mg "range" = none) (C1 : Cl P w K mg base 2 "end_mark" ["rule"] spEndMark) (C2 : Cl P w K mg base 1 "seen" ["rule", "mark"] spSeen) (C3 : Cl P w K mg base 2 "aged_on" ["rule", "mark", "begin", "end"] spAged) :
    Cl P w K mg base 3 "_rough_span" ["rule", "now", "mark"] spRoughSpan := by
  refine D.cl fun f fd F => ?_
  refine F.ok sc_rough (fun vs H Q E h => ?_) (fun cdv A outer s H vs Q E hr h => ?_)
  · obtain ⟨p, R, now, m, i1, i2, rfl, _⟩ := h
    rfl
  · obtain ⟨p, R, now, m, i1, i2, rfl, rfl, rfl, hp, ok, ir, hm, hnow, q⟩ := h
    cases R with
    | cnt b s => cases ir
    | shf b s => cases ir
    | rgh b =>
    refine ⟨_, pss_cons (ps_set (i := 3) sc_rough.nd rfl (Or.inl rfl) (pe_cl C1 hr (pa_cons (pv 0) pa_nil)))
      (pss_cons (ps_set (i := 4) sc_rough.nd rfl (Or.inl rfl) (pe_cl C2 hr (pa_cons (pv 0) (pa_cons (pv 3) pa_nil))))
      (pss_cons (ps_set (i := 5) sc_rough.nd rfl (Or.inl rfl) (pe_lst pa_nil))
      (pss_cons (ps_for PassesOwn.never rfl (pi_range1 (by rfl) m_range (pa_cons (pe_op op_add (pv 1) pe_int) pa_nil)) (pg_name (i := 6) sc_rough.nd rfl (Or.inl rfl))
        (pss_cons (ps_set (i := 7) sc_rough.nd rfl (Or.inl rfl) (pe_cl C3 hr (pa_cons (pv 0) (pa_cons (pv 4) (pa_cons (pe_op op_sub (pv 1) (pv 6)) (pa_cons (pv 1) pa_nil))))))
        (pss_cons (ps_if (pt_cmpR op_eq (pv 7) (pv 2) (nomark _)) (pss_one (ps_expr (pe_bm PySem.F.plainAttrs_list PySem.F.slot_list_append PySem.F.type_list_append mt_append (pv 5) (pa_cons (pv 6) pa_nil)))) pss_nil)
        (pss_one (ps_if (pt_cmpR op_eq (pv 7) (pv 3) (nomark _)) (pss_one ps_break) pss_nil)))))
      (pss_cons (ps_if (pt_not (pt_truth (pv 5) (by intro _; rfl))) (pss_one (ps_ret (pe_tup (pa_cons pe_non (pa_cons pe_non pa_nil))))) pss_nil)
      (pss_cons (ps_if (pt_cmpR op_eq (pv 2) (pv 3) (nomark _)) (pss_one (ps_ret (pe_tup (pa_cons (pe_ix ix_list (pv 5) pe_int (fun _ _ => rfl)) (pa_cons pe_non pa_nil))))) pss_nil)
      (pss_one (ps_ret (pe_tup (pa_cons (pe_ix ix_list (pv 5) pe_int (fun _ _ => rfl)) (pa_cons (pe_ix ix_list (pv 5) (pe_un un_neg pe_int) (fun _ _ => rfl)) pa_nil)))))))))), ?_⟩
    refine ⟨_, rfl, p, .rgh b, rfl, hp, ok, ?_⟩
    refine ⟨_, rfl, _, rfl, p, .rgh b, (Ru.rgh b).fin, _, rfl, rfl, hp, ok, ?_⟩
    refine ⟨Nat.zero_le _, fun L nL => ?_⟩
    refine ⟨_, rfl, _, _, rfl, rfl, _, rfl, by omega, by omega, ?_⟩
    rw [show ((now : Int) + 1).toNat = now + 1 by omega]
    refine for_rangeB (lo := 0) (n := now + 1)
      (fun i σ H' => ∃ v6 v7 : Option V, σ = [some (.ref p), some (.int (now : Int)), some (.int (m : Int)), some (.int ((Ru.rgh b).fin : Int)), some (.int ((0 : Nat) : Int)), some (.ref L), v6, v7] ∧ Kp2 L L (upd H L (.lst [])) H' ∧
        H' L = some (.lst ((fl (.rgh b) now m i).map fun (a : Nat) => V.int (a : Int))) ∧ ∀ a, a < i → one (.rgh b) now a ≠ 2 ^ b - 1)
      (fun σ H' => ∃ (c : Nat) (v6 v7 : Option V), σ = [some (.ref p), some (.int (now : Int)), some (.int (m : Int)), some (.int ((Ru.rgh b).fin : Int)), some (.int ((0 : Nat) : Int)), some (.ref L), v6, v7] ∧ Kp2 L L (upd H L (.lst [])) H' ∧
        H' L = some (.lst ((fl (.rgh b) now m c).map fun (a : Nat) => V.int (a : Int))) ∧ Cov (.rgh b) now m c)
      ⟨none, none, rfl, Kp2.refl _ _ _, upd_same, fun a h => absurd h (Nat.not_lt_zero a)⟩ ?_ ?_ ?_
    · rintro bk hbk i σ H' hi ⟨v6, v7, rfl, kk, eL, nf⟩
      have hp' : H' p = some (.tup (Ru.rgh b).tup) := by
        have npL : p ≠ L := ne_of_none hp nL
        exact kk _ _ (by rw [upd_ne npL]; exact hp) npL npL
      have i127 : i ≤ 127 := by
        by_cases h : i ≤ 127
        · exact h
        · exact absurd (one_rgh_far ok.2 (Nat.le_refl 127)) (nf 127 (by omega))
      refine ⟨_, rfl, _, rfl, _, rfl, _, rfl, _, _, rfl, rfl, _, rfl, p, .rgh b, 0, now - i, i, _, _, _, rfl, rfl, by omega, by omega, hp', ok, Nat.zero_le _, by omega, fun H2 s2 => ?_⟩
      have eL2 := s2 _ _ eL
      have kk2 : Kp2 L L (upd H L (.lst [])) H2 := kk.trans (Same.kp2 s2)
      have oi : ag (.rgh b) 0 (now - i) i = one (.rgh b) now i := rfl
      rw [oi]
      refine ⟨_, rfl, _, rfl, rfl, _, rfl, ?_⟩
      rw [dec_int]
      -- the second test, for any list that then stands
      have fin : ∀ (H3 : Hp), Kp2 L L (upd H L (.lst [])) H3 → H3 L = some (.lst ((fl (.rgh b) now m (i + 1)).map fun (a : Nat) => V.int (a : Int))) →
          (if decide (V.int (one (.rgh b) now i : Int) = V.int ((Ru.rgh b).fin : Int)) = true then bk [some (.ref p), some (.int (now : Int)), some (.int (m : Int)), some (.int ((Ru.rgh b).fin : Int)), some (.int ((0 : Nat) : Int)), some (.ref L), some (.int (0 + (i : Int))), some (.int (one (.rgh b) now i : Int))] H3
            else ∃ v6 v7 : Option V, [some (.ref p), some (.int (now : Int)), some (.int (m : Int)), some (.int ((Ru.rgh b).fin : Int)), some (.int ((0 : Nat) : Int)), some (.ref L), some (V.int (0 + (i : Int))), some (V.int (one (.rgh b) now i : Int))] = [some (.ref p), some (.int (now : Int)), some (.int (m : Int)), some (.int ((Ru.rgh b).fin : Int)), some (.int ((0 : Nat) : Int)), some (.ref L), v6, v7] ∧ Kp2 L L (upd H L (.lst [])) H3 ∧
              H3 L = some (.lst ((fl (.rgh b) now m (i + 1)).map fun (a : Nat) => V.int (a : Int))) ∧ ∀ a, a < i + 1 → one (.rgh b) now a ≠ 2 ^ b - 1) := by
        intro H3 k3 e3
        rw [dec_int]
        by_cases z : one (.rgh b) now i = 2 ^ b - 1
        · rw [decide_eq_true (show (one (.rgh b) now i : Int) = ((Ru.rgh b).fin : Int) by rw [z]; rfl), if_pos rfl]
          exact hbk _ _ ⟨i + 1, _, _, rfl, k3, e3, cov_rgh z (by omega)⟩
        · rw [decide_eq_false (show ¬ (one (.rgh b) now i : Int) = ((Ru.rgh b).fin : Int) from fun y => z (Int.ofNat.inj y)), if_neg Bool.false_ne_true]
          refine ⟨_, _, rfl, k3, e3, fun a ha => ?_⟩
          by_cases ea : a = i
          · rw [ea]; exact z
          · exact nf a (by omega)
      by_cases c : one (.rgh b) now i = m
      · rw [decide_eq_true (show (one (.rgh b) now i : Int) = (m : Int) by omega)]
        refine iteT ⟨_, rfl, .inl ⟨rfl, _, SqL.of eL2⟩, _, rfl, L, _, _, rfl, rfl, eL2, ?_, ?_⟩
        · rw [List.length_map]
          exact small1000 (Nat.le_trans (fl_len _ _ _ _) (by omega))
        · have e3 : (upd H2 L (.lst ((fl (.rgh b) now m i).map (fun (a : Nat) => V.int (a : Int)) ++ [V.int (0 + (i : Int))]))) L = some (.lst ((fl (.rgh b) now m (i + 1)).map fun (a : Nat) => V.int (a : Int))) := by
            rw [upd_same, fl_succ, if_pos (by rw [poss_rgh, decide_eq_true c]), List.map_append, Int.zero_add]
            rfl
          exact ⟨_, rfl, _, rfl, rfl, _, rfl, fin _ (fun x o e n1 n2 => by rw [upd_ne n1]; exact kk2 x o e n1 n2) e3⟩
      · rw [decide_eq_false (show ¬ (one (.rgh b) now i : Int) = (m : Int) by omega)]
        refine iteF ?_
        refine ⟨_, rfl, _, rfl, rfl, _, rfl, fin _ kk2 ?_⟩
        rw [fl_succ, if_neg (by rw [poss_rgh, decide_eq_false c]; exact Bool.false_ne_true)]
        exact eL2
    · rintro σ H' ⟨v6, v7, rfl, kk, eL, nf⟩
      exact ⟨now + 1, v6, v7, rfl, kk, eL, cov_end _ _ _⟩
    · rintro σ H' ⟨c, v6, v7, rfl, kk, eL, cov⟩
      have sm : Same H H' := fun x o e => by
        have nx : x ≠ L := ne_of_none e nL
        exact kk x o (by rw [upd_ne nx]; exact e) nx nx
      refine ⟨_, rfl, _, .inl ⟨_, SqL.of eL, rfl⟩, ?_⟩
      cases ef : fl (.rgh b) now m c with
      | nil =>
        refine iteT ⟨(by show 2 ≤ sizeLine; decide), fun T nT => ?_⟩
        exact q _ T none none (span_nil cov ef) (sm.free nT) (sm.trans (same_upd nT)) upd_same
      | cons lo r =>
        rw [ef] at eL
        obtain ⟨f1, f2⟩ := fl_head ef
        have a0 : atI ((lo :: r).map fun (a : Nat) => V.int (a : Int)) 0 = some (.int (lo : Int)) := atI_nat (j := 0) rfl
        refine iteF ⟨_, rfl, _, rfl, rfl, _, rfl, ?_⟩
        rw [dec_int]
        by_cases e : m = 2 ^ b - 1
        · rw [decide_eq_true (show (m : Int) = ((Ru.rgh b).fin : Int) by rw [e]; rfl)]
          refine iteT ⟨_, rfl, L, _, _, _, rfl, rfl, SqL.of eL, a0, (by show 2 ≤ sizeLine; decide), fun T nT => ?_⟩
          exact q _ T (some lo) none (span_some cov f1 f2 (.inl ⟨e, rfl⟩)) (sm.free nT) (sm.trans (same_upd nT)) upd_same
        · rw [decide_eq_false (show ¬ (m : Int) = ((Ru.rgh b).fin : Int) from fun y => e (Int.ofNat.inj y))]
          have hl : lo :: r = (lo :: r).dropLast ++ [(lo :: r).getLast (List.cons_ne_nil _ _)] := (List.dropLast_concat_getLast _).symm
          generalize (lo :: r).dropLast = ini at hl
          generalize (lo :: r).getLast (List.cons_ne_nil _ _) = hi at hl
          have al : atI ((lo :: r).map fun (a : Nat) => V.int (a : Int)) (-1) = some (.int (hi : Int)) := by
            rw [hl, List.map_append]
            exact atI_last _ _
          have g := fl_last (ef.trans hl)
          refine iteF ⟨_, rfl, L, _, _, _, rfl, rfl, SqL.of eL, a0, _, rfl, 1, rfl, L, _, _, _, rfl, rfl, SqL.of eL, al, (by show 2 ≤ sizeLine; decide), fun T nT => ?_⟩
          exact q _ T (some lo) (some hi) (span_some cov f1 f2 (.inr ⟨e, hi, rfl, g.1, g.2⟩)) (sm.free nT) (sm.trans (same_upd nT)) upd_same
end
section
variable {P : Program} {w : World} {K : PySem.W.Frag} {mg : Str → Option Value} {base : Heap}
theorem sc_stepped : FnScope ["rule", "now", "mark", "step", "run", "first", "latest"] ["rule", "now", "mark"] (defScope s_stepped_span) := ⟨rfl, rfl, rfl, by decide +kernel, rfl, by decide +kernel, by decide +kernel⟩
theorem ok_stepped (D : DefAt K mg "_stepped_span" s_stepped_span ["rule", "now", "mark"]) (m_min : mg "min" = none) (C1 : Cl P w K mg base 3 "_agings" ["rule", "mark"] spAgings) (C2 : Cl P w K mg base 2 "end_mark" ["rule"] spEndMark) :
    Cl P w K mg base 4 "_stepped_span" ["rule", "now", "mark"] spStepped := by
  refine D.cl fun f fd F => ?_
  refine F.ok sc_stepped (fun vs H Q E h => ?_) (fun cdv A outer s H vs Q E hr h => ?_)
  · obtain ⟨p, R, now, m, i1, i2, rfl, _⟩ := h
    rfl
  · obtain ⟨p, R, now, m, i1, i2, rfl, rfl, rfl, hp, ok, nr, hm, q⟩ := h
    have hs := R.step_ok ok
    have hk : R.kind ≠ "rough" := fun z => by
      rw [(R.rough_iff).mp z] at nr
      cases nr
    refine ⟨_, pss_cons (ps_set (i := 3) sc_stepped.nd rfl (Or.inl rfl) (pe_ix ix_tup (pv 0) pe_int (fun _ _ => rfl)))
      (pss_cons (ps_set (i := 4) sc_stepped.nd rfl (Or.inl rfl) (pe_op op_sub (pe_op op_fdiv (pv 1) (pv 3)) (pe_cl C1 hr (pa_cons (pv 0) (pa_cons (pv 2) pa_nil)))))
      (pss_cons (ps_if (pt_cmpR op_lt (pv 4) pe_int (nomark _)) (pss_one (ps_ret (pe_tup (pa_cons pe_non (pa_cons pe_non pa_nil))))) pss_nil)
      (pss_cons (ps_set (i := 5) sc_stepped.nd rfl (Or.inl rfl) (pe_op op_mul (pv 4) (pv 3)))
      (pss_cons (ps_set (i := 6) sc_stepped.nd rfl (Or.inl rfl) (pe_callB (call_min2 rfl) (by rfl) m_min (by decide +kernel) (pa_cons (pv 1) (pa_cons (pe_op op_sub (pe_op op_add (pv 5) (pv 3)) pe_int) pa_nil))))
      (pss_cons (ps_if (pt_cmpR op_eq (pv 2) (pe_cl C2 hr (pa_cons (pv 0) pa_nil)) (nomark _)) (pss_one (ps_ret (pe_tup (pa_cons (pe_op op_sub (pv 1) (pv 6)) (pa_cons pe_non pa_nil))))) pss_nil)
      (pss_one (ps_ret (pe_tup (pa_cons (pe_op op_sub (pv 1) (pv 6)) (pa_cons (pe_op op_sub (pv 1) (pv 5)) pa_nil)))))))))), ?_⟩
    refine ⟨_, rfl, p, _, _, _, rfl, rfl, SqT.of hp, R.at2 hk, ?_⟩
    refine ⟨_, rfl, _, rfl, _, _, rfl, rfl, ⟨by omega, by omega⟩, _, rfl, _, rfl, p, R, m, _, rfl, rfl, hp, ok, nr, hm, _, _, rfl, rfl, ?_⟩
    refine ⟨_, rfl, _, _, rfl, rfl, _, rfl, ?_⟩
    have en : (now : Int) / (R.step : Int) = ((now / R.step : Nat) : Int) := rfl
    rw [en]
    by_cases c : now / R.step < R.ags m
    · rw [decide_eq_true (show ((now / R.step : Nat) : Int) - (R.ags m : Int) < 0 by omega)]
      refine iteT ⟨(by show 2 ≤ sizeLine; decide), fun T nT => ?_⟩
      exact q _ T none none (span_stp_none nr hs.1 hm c) nT (same_upd nT) upd_same
    · rw [decide_eq_false (show ¬ ((now / R.step : Nat) : Int) - (R.ags m : Int) < 0 by omega)]
      refine iteF ?_
      obtain ⟨run, hrun⟩ : ∃ run, now / R.step = R.ags m + run := ⟨now / R.step - R.ags m, by omega⟩
      obtain ⟨sp, f1⟩ := span_stp_some nr hs.1 hm hrun rfl rfl
      dsimp only
      rw [show ((now / R.step : Nat) : Int) - (R.ags m : Int) = (run : Int) by omega]
      refine ⟨_, rfl, _, rfl, _, _, rfl, rfl, .inr (le64 (by omega) (by omega)), ?_⟩
      refine ⟨_, rfl, _, rfl, _, rfl, _, _, rfl, rfl, _, _, rfl, rfl, _, _, rfl, ?_⟩
      have em : (if (run : Int) * (R.step : Int) + (R.step : Int) - 1 < (now : Int) then (run : Int) * (R.step : Int) + (R.step : Int) - 1 else (now : Int)) = ((min now (run * R.step + R.step - 1) : Nat) : Int) := by
        rw [show (run : Int) * (R.step : Int) = ((run * R.step : Nat) : Int) from rfl]
        split <;> omega
      dsimp only
      rw [em]
      refine ⟨_, rfl, _, rfl, p, R, rfl, hp, ok, rfl, _, rfl, ?_⟩
      rw [dec_int]
      have lx : ((now : Int) - ((min now (run * R.step + R.step - 1) : Nat) : Int)) = ((now - min now (run * R.step + R.step - 1) : Nat) : Int) := by omega
      by_cases e : m = R.fin
      · rw [decide_eq_true (show (m : Int) = (R.fin : Int) by omega)]
        refine iteT ⟨_, rfl, _, rfl, _, _, rfl, rfl, (by show 2 ≤ sizeLine; decide), fun T nT => ?_⟩
        rw [if_pos e] at sp
        refine q _ T _ _ sp nT (same_upd nT) ?_
        rw [upd_same]
        dsimp only
        rw [lx]
        rfl
      · rw [decide_eq_false (show ¬ (m : Int) = (R.fin : Int) by omega)]
        refine iteF ⟨_, rfl, _, rfl, _, _, rfl, rfl, _, rfl, _, rfl, _, _, rfl, rfl, (by show 2 ≤ sizeLine; decide), fun T nT => ?_⟩
        rw [if_neg e] at sp
        refine q _ T _ _ sp nT (same_upd nT) ?_
        rw [upd_same]
        dsimp only
        rw [lx, show (now : Int) - (run : Int) * (R.step : Int) = ((now - run * R.step : Nat) : Int) by
          rw [show (run : Int) * (R.step : Int) = ((run * R.step : Nat) : Int) from rfl]
          omega]
        rfl
theorem sc_span : FnScope ["rule", "now", "mark"] ["rule", "now", "mark"] (defScope s_span) := ⟨rfl, rfl, rfl, by decide +kernel, rfl, by decide +kernel, by decide +kernel⟩
theorem ok_span (D : DefAt K mg "span" s_span ["rule", "now", "mark"]) (C1 : Cl P w K mg base 2 "check_rule" ["rule"] spCheckRule) (C2 : Cl P w K mg base 1 "check_moment" ["moment"] spCheckMoment) (C3 : Cl P w K mg base 2 "check_mark" ["rule", "mark"] spCheckMark)
    (C4 : Cl P w K mg base 3 "_rough_span" ["rule", "now", "mark"] spRoughSpan) (C5 : Cl P w K mg base 4 "_stepped_span" ["rule", "now", "mark"] spStepped) : Cl P w K mg base 5 "span" ["rule", "now", "mark"] spSpan := by
  refine D.cl fun f fd F => ?_
  refine F.ok sc_span (fun vs H Q E h => ?_) (fun cdv A outer s H vs Q E hr h => ?_)
  · obtain ⟨p, R, now, m, i1, i2, rfl, _⟩ := h
    rfl
  · obtain ⟨p, R, now, m, i1, i2, rfl, rfl, rfl, hp, ok, hm, hnow, q⟩ := h
    refine ⟨_, pss_cons (ps_expr (pe_cl C1 hr (pa_cons (pv 0) pa_nil)))
      (pss_cons (ps_expr (pe_cl C2 hr (pa_cons (pv 1) pa_nil)))
      (pss_cons (ps_expr (pe_cl C3 hr (pa_cons (pv 0) (pa_cons (pv 2) pa_nil))))
      (pss_cons (ps_if (pt_cmpR op_eq (pe_ix ix_tup (pv 0) pe_int (fun _ _ => rfl)) pe_str (nomark _)) (pss_one (ps_ret (pe_cl C4 hr (pa_cons (pv 0) (pa_cons (pv 1) (pa_cons (pv 2) pa_nil)))))) pss_nil)
      (pss_one (ps_ret (pe_cl C5 hr (pa_cons (pv 0) (pa_cons (pv 1) (pa_cons (pv 2) pa_nil))))))))), ?_⟩
    refine ⟨_, rfl, p, R, rfl, hp, ok, fun H1 s1 => ?_⟩
    have hp1 := s1 _ _ hp
    refine ⟨_, rfl, _, rfl, by omega, by omega, ?_⟩
    refine ⟨_, rfl, _, rfl, p, R, _, rfl, hp1, ok, by omega, by omega, ?_⟩
    refine ⟨_, rfl, p, _, _, _, rfl, rfl, SqT.of hp1, R.at0, rfl, _, rfl, ?_⟩
    rw [dec_str]
    cases er : R.isRgh with
    | true =>
      rw [decide_eq_true ((R.rough_iff).mpr er)]
      exact iteT ⟨_, rfl, _, rfl, _, rfl, p, R, now, m, _, _, rfl, rfl, rfl, hp1, ok, er, hm, hnow, fun H' T x y i n s2 e => q H' T x y i (s1.free n) (s1.trans s2) e⟩
    | false =>
      rw [decide_eq_false (fun z => by rw [(R.rough_iff).mp z] at er; cases er)]
      exact iteF ⟨_, rfl, _, rfl, _, rfl, p, R, now, m, _, _, rfl, rfl, rfl, hp1, ok, er, hm, fun H' T x y i n s2 e => q H' T x y i (s1.free n) (s1.trans s2) e⟩
end
/-! ### a seen mark is fresh -/
theorem seen_shf {b s m : Nat} : seenM (.shf b s) m = if m < 2 ^ b then m + 2 ^ b else m := rfl
theorem seen_fresh {R : Ru} {m : Nat} (hm : m ≤ R.most) : Fresh R (seenM R m) := by
  cases R with
  | cnt b s => exact (rfl : (0 : Nat) = 0)
  | rgh b => exact (rfl : (0 : Nat) = 0)
  | shf b s =>
    have hm' : m ≤ 2 ^ (b + 1) - 1 := hm
    have pb := Nat.two_pow_pos b
    rw [Nat.pow_succ] at hm'
    show 2 ^ b ≤ seenM (.shf b s) m ∧ seenM (.shf b s) m < 2 * 2 ^ b
    rw [seen_shf]
    split <;> omega
/-! ### what stands behind a change; lists of marks -/
/-- all but some objects stands as it was -/
def KpL (L : List Addr) (H H' : Hp) : Prop := ∀ b o, H b = some o → ¬ b ∈ L → H' b = some o
theorem KpL.refl (L : List Addr) (H : Hp) : KpL L H H := fun _ _ e _ => e
theorem KpL.trans {L : List Addr} {H H1 H2 : Hp} (a : KpL L H H1) (b : KpL L H1 H2) : KpL L H H2 := fun x o e n => b x o (a x o e n) n
theorem KpL.mono {L L' : List Addr} {H H1 : Hp} (a : KpL L H H1) (h : ∀ x, x ∈ L → x ∈ L') : KpL L' H H1 := fun x o e n => a x o e fun z => n (h x z)
theorem Same.kpL {L : List Addr} {H H1 : Hp} (a : Same H H1) : KpL L H H1 := fun b o e _ => a b o e
theorem KpL.free {L : List Addr} {H H1 : Hp} (a : KpL L H H1) {x : Addr} (h : H1 x = none) (n : ¬ x ∈ L) : H x = none := by
  cases q : H x with
  | none => rfl
  | some o =>
    rw [a x o q n] at h
    cases h
def nvs (ms : List Nat) : List V := (ms.map Int.ofNat).map V.int
theorem rep_one (k : Nat) (v : V) : (List.replicate k [v]).flatten = List.replicate k v := by
  induction k with
  | zero => rfl
  | succ k ih => rw [List.replicate_succ, List.flatten_cons, ih, List.replicate_succ]; rfl
theorem nvs_len (ms : List Nat) : (nvs ms).length = ms.length := by
  unfold nvs
  rw [List.length_map, List.length_map]
theorem nvs_get {ms : List Nat} {j : Nat} (h : j < ms.length) : (nvs ms)[j]? = some (.int ((ms.getD j 0 : Nat) : Int)) := by
  unfold nvs
  rw [List.getElem?_map, List.getElem?_map, List.getElem?_eq_getElem h, List.getD_eq_getElem?_getD, List.getElem?_eq_getElem h]
  rfl
theorem nvs_set (ms : List Nat) (j x : Nat) : (nvs ms).set j (.int (x : Int)) = nvs (ms.set j x) := by
  unfold nvs
  rw [List.map_set, List.map_set]
  rfl
theorem getD_mem {ms : List Nat} {j : Nat} (h : j < ms.length) : ms.getD j 0 ∈ ms := by
  rw [List.getD_eq_getElem?_getD, List.getElem?_eq_getElem h]
  exact List.getElem_mem h
theorem Kp2.kpL {h c : Addr} {H H' : Hp} (k : Kp2 h c H H') : KpL [h, c] H H' := fun b o e n => k b o e (fun z => n (by rw [z]; simp)) (fun z => n (by rw [z]; simp))
theorem nin2 {x a b : Addr} (h1 : x ≠ a) (h2 : x ≠ b) : ¬ x ∈ [a, b] := by
  intro z
  rcases List.mem_cons.mp z with z | z
  · exact h1 z
  · exact h2 (List.mem_singleton.mp z)
/-! ### methods and errors by their promises -/
/-- a method by its promise alone -/
def ClM (P : Program) (w : World) (K : PySem.W.Frag) (mg : Str → Option Value) (base : Heap) (CX : CXT) (k : Nat) (C : Addr) (m : Str) (ps : List Str) (sp : Sp) : Prop :=
  ∃ (f : Addr) (fd : FuncData), FnOk P w K mg base CX k f fd ps sp ∧ Meth K C m f ∧ Binds K fd ps []
theorem pe_cm {X : Cx} {CX : CXT} {E : XK} {j k : Nat} {C : Addr} {m : Str} {ps : List Str} {sp : Sp} {o e : Expr} {es : List Expr} {ta : TE} {t : TA} {apos pos : Pos} {pl : Sem Bool} (D : ClM X.prog X.w X.K X.mg X.base CX k C m ps sp) (c : Cls X.K C)
    (hx : Passes CX X E) (hr : Room j X.A) (he : PE X o ta) (ha : PA X (e :: es) t) (hk : k ≤ j := by decide)
    (hst : starEach (e :: es) X.env = (false, eval e X.env) :: starEach es X.env := by rfl) (hpl : (backTo pos (starEach es X.env)).any (·.1) = false := by rfl)
    (ht : eval (.Call (.Attribute o m apos) (e :: es) [] pos) X.env = (do
      let ov ← eval o X.env
      standAt apos.atName
      let (f, first) ← holding [ov] (getMethod ov m pl)
      callWith pos f first (backTo pos (starEach (e :: es) X.env)) (backToKw pos (keywordEach [] X.env))) := by rfl) :
    PE X (.Call (.Attribute o m apos) (e :: es) [] pos) (tMeth C m sp [] E ta t) := by
  obtain ⟨f, fd, G, M, b⟩ := D
  exact pe_meth he c M G (hr.mono hk) b .nil hx ha hst hpl ht
theorem pe_cm0 {X : Cx} {CX : CXT} {E : XK} {j k : Nat} {C : Addr} {m : Str} {ps : List Str} {sp : Sp} {o : Expr} {ta : TE} {apos pos : Pos} {pl : Sem Bool} (D : ClM X.prog X.w X.K X.mg X.base CX k C m ps sp) (c : Cls X.K C)
    (hx : Passes CX X E) (hr : Room j X.A) (he : PE X o ta) (hk : k ≤ j := by decide)
    (ht : eval (.Call (.Attribute o m apos) [] [] pos) X.env = (do
      let ov ← eval o X.env
      standAt apos.atName
      let (f, first) ← holding [ov] (getMethod ov m pl)
      callWith pos f first (backTo pos (starEach [] X.env)) (backToKw pos (keywordEach [] X.env))) := by rfl) :
    PE X (.Call (.Attribute o m apos) [] [] pos) (tMeth C m sp [] E ta tNil) := by
  obtain ⟨f, fd, G, M, b⟩ := D
  exact pe_meth0 he c M G (hr.mono hk) b .nil hx ht
/-- a method as the top has left it -/
def DefM (K : PySem.W.Frag) (C : Addr) (m q : Str) (st : Stmt) (ps : List Str) : Prop :=
  ∃ (f : Addr) (fd : FuncData), Fun K m q st f fd ∧ Meth K C m f ∧ Binds K fd ps []
theorem DefM.cl {P : Program} {w : World} {K : PySem.W.Frag} {mg : Str → Option Value} {base : Heap} {CX : CXT} {k : Nat} {C : Addr} {m q : Str} {st : Stmt} {ps : List Str} {sp : Sp} (D : DefM K C m q st ps)
    (h : ∀ f fd, Fun K m q st f fd → FnOk P w K mg base CX k f fd ps sp) : ClM P w K mg base CX k C m ps sp := by
  obtain ⟨f, fd, F, g, b⟩ := D
  exact ⟨f, fd, h f fd F, g, b⟩
theorem defM_mk {K : PySem.W.Frag} {C : Addr} {m q : Str} {st : Stmt} {ps : List Str} {f : Addr} {od an : Option Addr} {sl : Array (Option Value)} {oc kV dc pm cd ct : Value}
    (a : PySem.W.findIn K (.ref C) m = some (some (.ref f))) (i : PySem.W.isFn K (.ref f) = true) (l : K.lookup f = some ⟨oc, od, .func (PySem.W.fnOf m q (defArgs st) (defBody st) (defScope st) .none kV dc pm an cd ct), sl⟩) (c : PySem.W.codeIn K cd q = true) (k : PySem.W.keepIn K (.ref f) = true)
    (hb : ∀ (kV doc pm : Value) (an : Option Addr) (cdv ct : Value) (us : List Value), us.length = ps.length → bindArgs (PySem.W.fnOf m q (defArgs st) (defBody st) (defScope st) .none kV doc pm an cdv ct) ⟨us, []⟩ = pure (ps.zip us)) : DefM K C m q st ps := by
  have F := fun_mk (st := st) l c k
  exact ⟨f, _, F, ⟨a, i, k⟩, F.binds hb⟩
/-- an own error's class -/
structure ErrC (K : PySem.W.Frag) (mg : Str → Option Value) (x : Str) (c : Addr) : Prop where
  g : mg x = some (.ref c)
  x : PySem.W.excIn K c [.type "ValueError", .type "Exception", .type "BaseException", .type "object"] "ValueError.__new__" = true
  k : PySem.W.keepIn K (.ref c) = true
  b : PySem.W.subIn K (.ref c) (.type "BaseException") = some true
  t : PySem.W.typeIn K (.ref c) = some (.type "type")
theorem ps_err {X : Cx} {W : WX} {x m : Str} {c : Addr} {j : Nat} {p p2 pos pos2 : Pos} (hc : X.calm = true) (tk : Takes X W) (e : ErrC X.K X.mg x c) (hg : Gl X x) (hdb : (x == ("__debug__" : Str)) = false := by decide) :
    PS X (.Raise (some (.Call (.Name x p) [.Constant (.str m) j p2] [] pos)) none pos2) (fun _ σ H => W (.ref c) none σ H) :=
  ps_raise hc tk (pmk_own PySem.F.excBase_ValueError e.x e.g e.k (raises_own e.b e.t) hg hdb)
/-- a def that may raise, by its promise -/
def ClX (P : Program) (w : World) (K : PySem.W.Frag) (mg : Str → Option Value) (base : Heap) (k : Nat) (x : Str) (ps : List Str) (sp : Sp) : Prop :=
  ∃ (f : Addr) (fd : FuncData), FnOk P w K mg base (L2.CX P w) k f fd ps sp ∧ mg x = some (.ref f) ∧ PySem.W.keepIn K (.ref f) = true ∧ Binds K fd ps []
theorem pe_clx {X : Cx} {E : XK} {j k : Nat} {x : Str} {ps : List Str} {sp : Sp} {e : Expr} {es : List Expr} {t : TA} {p pos : Pos} (D : ClX X.prog X.w X.K X.mg X.base k x ps sp) (hx : Passes (L2.CX X.prog X.w) X E) (hr : Room j X.A) (ha : PA X (e :: es) t) (hk : k ≤ j := by decide) (hg : Gl X x := by rfl)
    (hdb : (x == ("__debug__" : Str)) = false := by decide) (he : starEach (e :: es) X.env = (false, eval e X.env) :: starEach es X.env := by rfl) (hpl : (backTo pos (starEach es X.env)).any (·.1) = false := by rfl) :
    PE X (.Call (.Name x p) (e :: es) [] pos) (tCall sp [] E t) := by
  obtain ⟨f, fd, G, g, kp, b⟩ := D
  exact pe_call G (hr.mono hk) hg g kp b .nil hx ha hdb he hpl
theorem DefAt.clx {P : Program} {w : World} {K : PySem.W.Frag} {mg : Str → Option Value} {base : Heap} {k : Nat} {x : Str} {st : Stmt} {ps : List Str} {sp : Sp} (D : DefAt K mg x st ps)
    (h : ∀ f fd, Fun K x x st f fd → FnOk P w K mg base (L2.CX P w) k f fd ps sp) : ClX P w K mg base k x ps sp := by
  obtain ⟨f, fd, F, g, b⟩ := D
  exact ⟨f, fd, h f fd F, g, F.kp, b⟩
/-! ### the program: boards -/
theorem kRM : ¬ (("_rule" : Str) = "_marks") := by decide +kernel
theorem kRT : ¬ (("_rule" : Str) = "_moment") := by decide +kernel
theorem kMT : ¬ (("_marks" : Str) = "_moment") := by decide +kernel
def bfl (p am : Addr) (now : Nat) : List (Str × V) := putF "_moment" (.int (now : Int)) (putF "_marks" (.ref am) (putF "_rule" (.ref p) []))
theorem bfl_eq (p am : Addr) (now : Nat) : bfl p am now = ([("_rule", V.ref p), ("_marks", V.ref am), ("_moment", V.int (now : Int))] : List (Str × V)) := by
  have e : putF "_marks" (.ref am) ([("_rule", V.ref p)] : List (Str × V)) = ([("_rule", V.ref p), ("_marks", V.ref am)] : List (Str × V)) := by
    show (if ("_rule" : Str) = "_marks" then [(("_rule" : Str), V.ref am)] else (("_rule" : Str), V.ref p) :: putF "_marks" (V.ref am) []) = ([("_rule", V.ref p), ("_marks", V.ref am)] : List (Str × V))
    rw [if_neg kRM]
    rfl
  show putF "_moment" (.int (now : Int)) (putF "_marks" (.ref am) ([("_rule", V.ref p)] : List (Str × V))) = ([("_rule", V.ref p), ("_marks", V.ref am), ("_moment", V.int (now : Int))] : List (Str × V))
  rw [e]
  show (if ("_rule" : Str) = "_moment" then _ else (("_rule" : Str), V.ref p) :: (if ("_marks" : Str) = "_moment" then _ else (("_marks" : Str), V.ref am) :: putF "_moment" (V.int (now : Int)) [])) = ([("_rule", V.ref p), ("_marks", V.ref am), ("_moment", V.int (now : Int))] : List (Str × V))
  rw [if_neg kRT, if_neg kMT]
  rfl
theorem bfl_rule (p am : Addr) (now : Nat) : (bfl p am now).lookup ("_rule" : Str) = some (.ref p) := by
  unfold bfl
  rw [lookup_putF, if_neg kRT, lookup_putF, if_neg kRM, lookup_putF, if_pos rfl]
theorem bfl_marks (p am : Addr) (now : Nat) : (bfl p am now).lookup ("_marks" : Str) = some (.ref am) := by
  unfold bfl
  rw [lookup_putF, if_neg kMT, lookup_putF, if_pos rfl]
theorem bfl_moment (p am : Addr) (now : Nat) : (bfl p am now).lookup ("_moment" : Str) = some (.int (now : Int)) := by
  unfold bfl
  rw [lookup_putF, if_pos rfl]
theorem bfl_no (p am : Addr) (now : Nat) {m : Str} (h1 : ¬ m = "_moment") (h2 : ¬ m = "_marks") (h3 : ¬ m = "_rule") : (bfl p am now).lookup m = none := by
  unfold bfl
  rw [lookup_putF, if_neg h1, lookup_putF, if_neg h2, lookup_putF, if_neg h3]
  rfl
theorem bfl_put_marks (p am am' : Addr) (now : Nat) : putF "_marks" (.ref am') (bfl p am now) = bfl p am' now := by
  rw [bfl_eq, bfl_eq]
  show (if ("_rule" : Str) = "_marks" then _ else (("_rule" : Str), V.ref p) :: (if ("_marks" : Str) = "_marks" then (("_marks" : Str), V.ref am') :: [(("_moment" : Str), V.int (now : Int))] else _)) = ([("_rule", V.ref p), ("_marks", V.ref am'), ("_moment", V.int (now : Int))] : List (Str × V))
  rw [if_neg kRM, if_pos rfl]
theorem bfl_put_moment (p am : Addr) (now t : Nat) : putF "_moment" (.int (t : Int)) (bfl p am now) = bfl p am t := by
  rw [bfl_eq, bfl_eq]
  show (if ("_rule" : Str) = "_moment" then _ else (("_rule" : Str), V.ref p) :: (if ("_marks" : Str) = "_moment" then _ else (("_marks" : Str), V.ref am) :: (if ("_moment" : Str) = "_moment" then (("_moment" : Str), V.int (t : Int)) :: [] else _))) = ([("_rule", V.ref p), ("_marks", V.ref am), ("_moment", V.int (t : Int))] : List (Str × V))
  rw [if_neg kRT, if_neg kMT, if_pos rfl]
/-- a board stands at b, its marks at am -/
structure BAt (C : Addr) (H : Hp) (b p am : Addr) (R : Ru) (ms : List Nat) (now : Nat) : Prop where
  ob : ∃ dx, H b = some (.ins C dx (bfl p am now))
  rl : RuAt H p R
  mrk : H am = some (.lst (nvs ms))
  few : ms.length ≤ 8
  bd : ∀ x, x ∈ ms → x ≤ R.most
  ok : R.ok
theorem BAt.kp {C : Addr} {H H' : Hp} {b p am : Addr} {R : Ru} {ms : List Nat} {now : Nat} (a : BAt C H b p am R ms now) {L : List Addr} (k : KpL L H H') (n1 : ¬ b ∈ L) (n2 : ¬ p ∈ L) (n3 : ¬ am ∈ L) : BAt C H' b p am R ms now :=
  ⟨let ⟨dx, e⟩ := a.ob; ⟨dx, k _ _ e n1⟩, k _ _ a.rl n2, k _ _ a.mrk n3, a.few, a.bd, a.ok⟩
theorem BAt.same {C : Addr} {H H' : Hp} {b p am : Addr} {R : Ru} {ms : List Nat} {now : Nat} (a : BAt C H b p am R ms now) (k : Same H H') : BAt C H' b p am R ms now :=
  ⟨let ⟨dx, e⟩ := a.ob; ⟨dx, k _ _ e⟩, k _ _ a.rl, k _ _ a.mrk, a.few, a.bd, a.ok⟩
structure Bcl (K : PySem.W.Frag) (mg : Str → Option Value) (C : Addr) : Prop where
  cl : Cls K C
  nR : NoAttr K C "_rule"
  nM : NoAttr K C "_marks"
  nT : NoAttr K C "_moment"
def spInit (C : Addr) : Sp := fun vs H Q _ => ∃ (b dx p : Addr) (R : Ru) (n : Nat) (i : Int), vs = [.ref b, .ref p, .int i] ∧ i = (n : Int) ∧ H b = some (.ins C dx []) ∧ RuAt H p R ∧ R.ok ∧ 1 ≤ n ∧ n ≤ 8 ∧
  ∀ H' am, BAt C H' b p am R (List.replicate n R.fin) 0 → H am = none → KpL [b] H H' → Q .non H'
def spChk (C cN : Addr) : Sp := fun vs H Q E => ∃ (b p am : Addr) (R : Ru) (ms : List Nat) (now : Nat) (i : Int), vs = [.ref b, .int i] ∧ BAt C H b p am R ms now ∧
  ((0 ≤ i ∧ i < (ms.length : Int) ∧ Q .non H) ∨ (¬ (0 ≤ i ∧ i < (ms.length : Int)) ∧ E (.ref cN) none H))
def spSee (C cN : Addr) : Sp := fun vs H Q E => ∃ (b p am : Addr) (R : Ru) (ms : List Nat) (now : Nat) (i : Int), vs = [.ref b, .int i] ∧ BAt C H b p am R ms now ∧
  ((∃ k : Nat, i = (k : Int) ∧ k < ms.length ∧ ∀ H', BAt C H' b p am R (ms.set k (seenM R (ms.getD k 0))) now → KpL [am] H H' → Q .non H') ∨ (¬ (0 ≤ i ∧ i < (ms.length : Int)) ∧ E (.ref cN) none H))
def spPass (C cM : Addr) : Sp := fun vs H Q E => ∃ (b p am : Addr) (R : Ru) (ms : List Nat) (now : Nat) (i : Int), vs = [.ref b, .int i] ∧ BAt C H b p am R ms now ∧
  ((∃ k : Nat, i = (k : Int) ∧ 1 ≤ k ∧ k ≤ 1000 ∧ now + k ≤ 1000000000 ∧ ∀ H' am', BAt C H' b p am' R (ms.map fun x => ag R x now k) (now + k) → H am' = none → KpL [b] H H' → Q (.int ((now + k : Nat) : Int)) H') ∨
   (¬ (1 ≤ i ∧ i ≤ 1000) ∧ E (.ref cM) none H))
def spMarks (C : Addr) : Sp := fun vs H Q _ => ∃ (b p am : Addr) (R : Ru) (ms : List Nat) (now : Nat), vs = [.ref b] ∧ BAt C H b p am R ms now ∧ ∀ H' l, H l = none → Same H H' → H' l = some (.lst (nvs ms)) → Q (.ref l) H'
def spNow (C : Addr) : Sp := fun vs H Q _ => ∃ (b p am : Addr) (R : Ru) (ms : List Nat) (now : Nat), vs = [.ref b] ∧ BAt C H b p am R ms now ∧ Q (.int (now : Int)) H
def spAge (C cN : Addr) : Sp := fun vs H Q E => ∃ (b p am : Addr) (R : Ru) (ms : List Nat) (now : Nat) (i : Int), vs = [.ref b, .int i] ∧ BAt C H b p am R ms now ∧ now ≤ 1000000000 ∧
  ((∃ k : Nat, i = (k : Int) ∧ k < ms.length ∧ ∀ H' T x y, IsSpan R now (ms.getD k 0) x y → H T = none → Same H H' → H' T = some (.tup [oV x, oV y]) → Q (.ref T) H') ∨ (¬ (0 ≤ i ∧ i < (ms.length : Int)) ∧ E (.ref cN) none H))
section
variable {P : Program} {w : World} {K : PySem.W.Frag} {mg : Str → Option Value} {base : Heap} {C : Addr}
theorem sc_init : FnScope ["self", "rule", "things"] ["self", "rule", "things"] (defScope m_Board_init) := ⟨rfl, rfl, rfl, by decide +kernel, rfl, by decide +kernel, by decide +kernel⟩
theorem ok_init (D : DefM K C "__init__" "Board.__init__" m_Board_init ["self", "rule", "things"]) (T : Bcl K mg C) {tk : Tok} (gT : mg "MOST_THINGS" = some (.int 8 tk)) (C1 : Cl P w K mg base 2 "check_rule" ["rule"] spCheckRule) (C2 : Cl P w K mg base 2 "end_mark" ["rule"] spEndMark) :
    ClM P w K mg base CX0 3 C "__init__" ["self", "rule", "things"] (spInit C) := by
  refine D.cl fun f fd F => ?_
  refine F.ok sc_init (fun vs H Q E h => ?_) (fun cdv A outer s H vs Q E hr h => ?_)
  · obtain ⟨b, dx, p, R, n, i, rfl, _⟩ := h
    rfl
  · obtain ⟨b, dx, p, R, n, i, rfl, rfl, hb, hp, ok, n1, n8, q⟩ := h
    refine ⟨_, pss_cons (ps_expr (pe_cl C1 hr (pa_cons (pv 1) pa_nil)))
      (pss_cons (ps_if (PW.pt (pw_or (pt_cmpR op_lt (pv 2) pe_int (nomark _)) (pw_or1 (pt_cmpR op_gt (pv 2) (pe_glob (v := .int 8) (by rfl) gT ⟨_, rfl⟩) (nomark _))))) (pss_one ps_never) pss_nil)
      (pss_cons (ps_fld (pv 0) (pv 1) rfl)
      (pss_cons (ps_fld (pv 0) (pe_op op_rep (pe_lst (pa_cons (pe_cl C2 hr (pa_cons (pv 1) pa_nil)) pa_nil)) (pv 2)) rfl)
      (pss_one (ps_fld (pv 0) pe_int rfl))))), ?_⟩
    refine ⟨_, rfl, p, R, rfl, hp, ok, fun H1 s1 => ?_⟩
    have hb1 := s1 _ _ hb
    have hp1 := s1 _ _ hp
    refine ⟨_, rfl, _, _, rfl, rfl, _, rfl, ?_⟩
    rw [decide_eq_false (show ¬ (n : Int) < 1 by omega)]
    refine iteF ⟨_, rfl, _, _, rfl, rfl, _, rfl, ?_⟩
    rw [decide_eq_false (show ¬ (8 : Int) < (n : Int) by omega)]
    refine iteF ?_
    have npb : p ≠ b := ne_of hp1 hb1 (fun z => nomatch z)
    refine ⟨_, rfl, _, rfl, b, C, dx, [], rfl, hb1, T.cl, T.nR, (by show 0 < 1000; decide), ?_⟩
    have hp2 : (upd H1 b (.ins C dx (putF "_rule" (.ref p) []))) p = some (.tup R.tup) := by rw [upd_ne npb]; exact hp1
    refine ⟨_, rfl, p, R, rfl, hp2, ok, ?_⟩
    refine ⟨(by show 1 ≤ sizeLine; decide), fun l1 nl1 => ?_⟩
    refine ⟨_, rfl, l1, _, _, rfl, rfl, upd_same, by omega, by omega, ?_, fun am nam => ?_⟩
    · rw [Int.toNat_natCast]
      exact Nat.le_trans (show 1 * n ≤ 8 by omega) (by decide)
    rw [Int.toNat_natCast, rep_one]
    have b2 : (upd H1 b (.ins C dx (putF "_rule" (.ref p) []))) b = some (.ins C dx (putF "_rule" (.ref p) [])) := upd_same
    have b3 := same_upd (o := .lst [V.int (R.fin : Int)]) nl1 _ _ b2
    have b4 := same_upd (o := .lst (List.replicate n (V.int (R.fin : Int)))) nam _ _ b3
    refine ⟨_, rfl, b, C, dx, _, rfl, b4, T.cl, T.nM, (by show 1 < 1000; decide), ?_⟩
    have e2 : putF "_marks" (.ref am) (putF "_rule" (.ref p) []) = ([("_rule", V.ref p), ("_marks", V.ref am)] : List (Str × V)) := by
      show (if ("_rule" : Str) = "_marks" then [(("_rule" : Str), V.ref am)] else (("_rule" : Str), V.ref p) :: putF "_marks" (V.ref am) []) = ([("_rule", V.ref p), ("_marks", V.ref am)] : List (Str × V))
      rw [if_neg kRM]
      rfl
    refine ⟨_, rfl, b, C, dx, _, rfl, upd_same, T.cl, T.nT, (by rw [e2]; show 2 < 1000; decide), ?_⟩
    have nba : b ≠ am := ne_of_none b3 nam
    refine q _ am ⟨⟨dx, upd_same⟩, ?_, ?_, ?_, fun x hx => ?_, ok⟩ ?_ fun x o e n => ?_
    · unfold RuAt
      rw [upd_ne npb, upd_ne npb]
      exact same_upd nam _ _ (same_upd nl1 _ _ hp2)
    · rw [upd_ne nba.symm, upd_ne nba.symm, upd_same]
      unfold nvs
      rw [List.map_replicate, List.map_replicate]
      rfl
    · rw [List.length_replicate]; exact n8
    · rw [List.eq_of_mem_replicate hx]
      exact fin_most R
    · refine s1.free ?_
      have z := (same_upd (o := .lst [V.int (R.fin : Int)]) nl1).free nam
      rw [upd_ne nba.symm] at z
      exact z
    · have nx : x ≠ b := fun z => n (by rw [z]; simp)
      rw [upd_ne nx, upd_ne nx]
      refine same_upd nam _ _ (same_upd nl1 _ _ ?_)
      rw [upd_ne nx]
      exact s1 _ _ e
theorem sc_chk : FnScope ["self", "thing"] ["self", "thing"] (defScope m_Board_check_thing) := ⟨rfl, rfl, rfl, by decide +kernel, rfl, by decide +kernel, by decide +kernel⟩
theorem ok_chk {cN : Addr} (D : DefM K C "_check_thing" "Board._check_thing" m_Board_check_thing ["self", "thing"]) (T : Bcl K mg C) (m_len : mg "len" = none) (eN : ErrC K mg "NoThing" cN) : ClM P w K mg base (L2.CX P w) 1 C "_check_thing" ["self", "thing"] (spChk C cN) := by
  refine D.cl fun f fd F => ?_
  refine F.okX sc_chk (fun vs H Q E h => ?_) (fun cdv A outer s H vs Q E hr h => ?_)
  · obtain ⟨b, p, am, R, ms, now, i, rfl, _⟩ := h
    rfl
  · obtain ⟨b, p, am, R, ms, now, i, rfl, ba, q⟩ := h
    obtain ⟨dx, ob⟩ := ba.ob
    refine ⟨_, pss_one (ps_if (PW.pt (pw_or (pt_cmpR op_lt (pv 1) pe_int (nomark _)) (pw_or1 (pt_cmpR op_ge (pv 1) (pe_callB call_len_seq (by rfl) m_len PySem.boot_len (pa_cons (pe_fld (pv 0) rfl) pa_nil)) (nomark _))))) (pss_one (ps_err rfl (takes_of rfl rfl rfl rfl) eN rfl)) pss_nil), ?_⟩
    refine ⟨_, rfl, _, _, rfl, rfl, _, rfl, ?_⟩
    have ln : ((nvs ms).length : Int) = (ms.length : Int) := by rw [nvs_len]
    by_cases h0 : i < 0
    · rw [decide_eq_true h0]
      refine iteT ?_
      rcases q with ⟨a, _⟩ | ⟨_, e⟩
      · exact absurd h0 (by omega)
      · exact e
    · rw [decide_eq_false h0]
      refine iteF ⟨_, rfl, _, rfl, b, C, dx, _, _, rfl, ob, T.cl, T.nM, bfl_marks _ _ _, am, _, rfl, .inl (SqL.of ba.mrk), _, _, rfl, rfl, _, rfl, ?_⟩
      by_cases h1 : (ms.length : Int) ≤ i
      · rw [decide_eq_true (show ((nvs ms).length : Int) ≤ i by rw [ln]; exact h1)]
        refine iteT ?_
        rcases q with ⟨_, a, _⟩ | ⟨_, e⟩
        · exact absurd a (by omega)
        · exact e
      · rw [decide_eq_false (show ¬ ((nvs ms).length : Int) ≤ i by rw [ln]; exact h1)]
        refine iteF ?_
        rcases q with ⟨_, _, e⟩ | ⟨n, _⟩
        · exact e
        · exact absurd ⟨by omega, by omega⟩ n
theorem sc_see : FnScope ["self", "thing"] ["self", "thing"] (defScope m_Board_see) := ⟨rfl, rfl, rfl, by decide +kernel, rfl, by decide +kernel, by decide +kernel⟩
theorem ok_see {cN : Addr} (D : DefM K C "see" "Board.see" m_Board_see ["self", "thing"]) (T : Bcl K mg C) (CK : ClM P w K mg base (L2.CX P w) 1 C "_check_thing" ["self", "thing"] (spChk C cN)) (C1 : Cl P w K mg base 1 "seen" ["rule", "mark"] spSeen) :
    ClM P w K mg base (L2.CX P w) 2 C "see" ["self", "thing"] (spSee C cN) := by
  refine D.cl fun f fd F => ?_
  refine F.okX sc_see (fun vs H Q E h => ?_) (fun cdv A outer s H vs Q E hr h => ?_)
  · obtain ⟨b, p, am, R, ms, now, i, rfl, _⟩ := h
    rfl
  · obtain ⟨b, p, am, R, ms, now, i, rfl, ba, q⟩ := h
    obtain ⟨dx, ob⟩ := ba.ob
    refine ⟨_, pss_cons (ps_expr (pe_cm (E := E) CK T.cl (passes_call (takes_of rfl rfl rfl rfl) (fun _ _ _ _ h => h)) hr (pv 0) (pa_cons (pv 1) pa_nil)))
      (pss_one (ps_asg (pe_cl C1 hr (pa_cons (pe_fld (pv 0) rfl) (pa_cons (pe_ix ix_list (pe_fld (pv 0) rfl) (pv 1) (fun _ _ => rfl)) pa_nil))) (pg_sub (pe_fld (pv 0) rfl) (pv 1) set_list))), ?_⟩
    refine ⟨_, rfl, b, dx, _, rfl, ob, bfl_no _ _ _ (by decide +kernel) (by decide +kernel) (by decide +kernel), _, rfl, b, p, am, R, ms, now, i, rfl, ba, ?_⟩
    rcases q with ⟨k, rfl, kl, q⟩ | ⟨n, e⟩
    · refine .inl ⟨by omega, by omega, ?_⟩
      have kn : ixN (nvs ms).length (k : Int) = some k := by
        rw [nvs_len, ixN_nn (Int.natCast_nonneg _) (by omega), Int.toNat_natCast]
      refine ⟨_, rfl, b, C, dx, _, _, rfl, ob, T.cl, T.nR, bfl_rule _ _ _, _, rfl, b, C, dx, _, _, rfl, ob, T.cl, T.nM, bfl_marks _ _ _, _, rfl, am, _, _, _, rfl, rfl, SqL.of ba.mrk, atI_nat (nvs_get kl), p, R, ms.getD k 0, _, rfl, rfl, ba.rl, ba.ok, ?_⟩
      refine ⟨_, rfl, b, C, dx, _, _, rfl, ob, T.cl, T.nM, bfl_marks _ _ _, _, rfl, am, _, _, k, rfl, rfl, ba.mrk, kn, ?_⟩
      refine q _ ⟨⟨dx, ?_⟩, ?_, ?_, ?_, fun x hx => ?_, ba.ok⟩ fun x o e n => ?_
      · rw [upd_ne (ne_of ob ba.mrk (fun z => nomatch z))]; exact ob
      · unfold RuAt
        rw [upd_ne (ne_of ba.rl ba.mrk (fun z => nomatch z))]; exact ba.rl
      · rw [upd_same, nvs_set]
      · rw [List.length_set]; exact ba.few
      · rcases List.mem_or_eq_of_mem_set hx with hx | hx
        · exact ba.bd x hx
        · rw [hx]
          exact fresh_most (seen_fresh (ba.bd _ (getD_mem kl)))
      · rw [upd_ne (fun z => n (by rw [z]; simp))]
        exact e
    · exact .inr ⟨n, e⟩
theorem sc_pass : FnScope ["self", "many", "then", "mark"] ["self", "many"] (defScope m_Board_pass_by) := ⟨rfl, rfl, rfl, by decide +kernel, rfl, by decide +kernel, by decide +kernel⟩
theorem ok_pass {cM : Addr} (D : DefM K C "pass_by" "Board.pass_by" m_Board_pass_by ["self", "many"]) (T : Bcl K mg C) {tk : Tok} (gL : mg "LONGEST_PASS" = some (.int 1000 tk)) (eM : ErrC K mg "BadMoment" cM) (C1 : Cl P w K mg base 2 "aged_on" ["rule", "mark", "begin", "end"] spAged) :
    ClM P w K mg base (L2.CX P w) 3 C "pass_by" ["self", "many"] (spPass C cM) := by
  refine D.cl fun f fd F => ?_
  refine F.okX sc_pass (fun vs H Q E h => ?_) (fun cdv A outer s H vs Q E hr h => ?_)
  · obtain ⟨b, p, am, R, ms, now, i, rfl, _⟩ := h
    rfl
  · obtain ⟨b, p, am, R, ms, now, i, rfl, ba, q⟩ := h
    obtain ⟨dx, ob⟩ := ba.ob
    refine ⟨_, pss_cons (ps_if (PW.pt (pw_or (pt_cmpR op_lt (pv 1) pe_int (nomark _)) (pw_or1 (pt_cmpR op_gt (pv 1) (pe_glob (v := .int 1000) (by rfl) gL ⟨_, rfl⟩) (nomark _))))) (pss_one (ps_err rfl (takes_of rfl rfl rfl rfl) eM rfl)) pss_nil)
      (pss_cons (ps_set (i := 2) sc_pass.nd rfl (Or.inr rfl) (pe_op op_add (pe_fld (pv 0) rfl) (pv 1)))
      (pss_cons (ps_fld (pv 0) (pe_lc (own := [("mark", 3)]) (g := gName 3) (tt := tYes) (te := tCall spAged [] E0 (tCons (tFld K (tVar 0) "_rule") (tCons (tVar 3) (tCons (tFld K (tVar 0) "_moment") (tCons (tVar 2) tNil))))) rfl sc_pass.nd (pi_list (pe_fld (pv 0) rfl))
          (blkOk_by (N := ["self", "many", "then", "mark"]) (sc := defScope m_Board_pass_by) (by decide +kernel)) (fun _ _ _ _ _ => by exact pg_name (i := 3) sc_pass.nd rfl (Or.inl rfl)) (fun _ _ _ _ _ => by exact pts_nil)
          (fun _ _ _ _ _ => by exact pe_cl C1 hr (pa_cons (pe_fld (pv 0) rfl) (pa_cons (pv 3) (pa_cons (pe_fld (pv 0) rfl) (pa_cons (pv 2) pa_nil)))))) rfl)
      (pss_cons (ps_fld (pv 0) (pv 2) rfl)
      (pss_one (ps_ret (pv 2)))))), ?_⟩
    refine ⟨_, rfl, _, _, rfl, rfl, _, rfl, ?_⟩
    rcases q with ⟨k, rfl, k1, k2, tl, q⟩ | ⟨n, e⟩
    · rw [decide_eq_false (show ¬ (k : Int) < 1 by omega)]
      refine iteF ⟨_, rfl, _, _, rfl, rfl, _, rfl, ?_⟩
      rw [decide_eq_false (show ¬ (1000 : Int) < (k : Int) by omega)]
      refine iteF ?_
      refine ⟨_, rfl, b, C, dx, _, _, rfl, ob, T.cl, T.nT, bfl_moment _ _ _, _, rfl, _, _, rfl, rfl, ?_⟩
      refine ⟨_, rfl, b, C, dx, _, _, rfl, ob, T.cl, T.nM, bfl_marks _ _ _, am, rfl, ⟨_, SqL.of ba.mrk⟩, fun D nD => ?_⟩
      refine lc_list (K := K) (a := am) (xs := nvs ms) (fun j H' => Same H H' ∧ H' D = some (.lst (nvs ((ms.take j).map fun x => ag R x now k)))) ⟨same_upd nD, upd_same⟩ (fun j H' _ h => SqL.of (h.1 _ _ ba.mrk)) ?_ ?_
      · rintro j y H' hy ⟨sm, eD⟩
        have jl : j < ms.length := by
          have := (List.getElem?_eq_some_iff.mp hy).1
          rw [nvs_len] at this
          exact this
        have ey : y = .int ((ms.getD j 0 : Nat) : Int) := Option.some.inj (hy.symm.trans (nvs_get jl))
        subst ey
        have ob' := sm _ _ ob
        refine ⟨rfl, _, rfl, b, C, dx, _, _, rfl, ob', T.cl, T.nR, bfl_rule _ _ _, _, rfl, _, rfl, b, C, dx, _, _, rfl, ob', T.cl, T.nT, bfl_moment _ _ _, _, rfl, p, R, ms.getD j 0, now, k, _, _, _, rfl, rfl, rfl, rfl, sm _ _ ba.rl, ba.ok, ba.bd _ (getD_mem jl), tl, fun H2 s2 => ?_⟩
        refine ⟨_, s2 _ _ eD, ?_, fun x o e => ?_, ?_⟩
        · rw [nvs_len, List.length_map, List.length_take]
          exact small1000 (by have := ba.few; omega)
        · rw [upd_ne (ne_of_none e nD)]
          exact s2 _ _ (sm _ _ e)
        · rw [upd_same, List.take_add_one, List.getElem?_eq_getElem jl, List.getD_eq_getElem?_getD, List.getElem?_eq_getElem jl]
          unfold nvs
          rw [List.map_append, List.map_append, List.map_append]
          rfl
      · rintro H' ⟨sm, eD⟩
        rw [nvs_len, List.take_length] at eD
        have ob' := sm _ _ ob
        have nbD : b ≠ D := ne_of_none ob nD
        have npb : p ≠ b := ne_of ba.rl ob (fun z => nomatch z)
        refine ⟨_, rfl, b, C, dx, _, rfl, ob', T.cl, T.nM, (by rw [bfl_eq]; show 3 < 1000; decide), ?_⟩
        rw [bfl_put_marks]
        refine ⟨_, rfl, _, rfl, b, C, dx, _, rfl, upd_same, T.cl, T.nT, (by rw [bfl_eq]; show 3 < 1000; decide), ?_⟩
        have et : (now : Int) + (k : Int) = ((now + k : Nat) : Int) := rfl
        refine ⟨_, rfl, ?_⟩
        rw [upd_upd]
        refine q _ D ⟨⟨dx, ?_⟩, ?_, ?_, ?_, fun x hx => ?_, ba.ok⟩ nD fun x o e n => ?_
        · rw [upd_same]
          show some (HO.ins C dx (putF "_moment" (.int ((now + k : Nat) : Int)) (bfl p D now))) = some (HO.ins C dx (bfl p D (now + k)))
          rw [bfl_put_moment]
        · unfold RuAt
          rw [upd_ne npb]; exact sm _ _ ba.rl
        · rw [upd_ne nbD.symm]
          exact eD
        · rw [List.length_map]
          exact ba.few
        · obtain ⟨z, hz, rfl⟩ := List.mem_map.mp hx
          exact ag_le R z now (ba.bd z hz) k
        · rw [upd_ne (fun z => n (by rw [z]; simp))]
          exact sm _ _ e
    · by_cases h1 : i < 1
      · rw [decide_eq_true h1]
        exact iteT e
      · rw [decide_eq_false h1]
        refine iteF ⟨_, rfl, _, _, rfl, rfl, _, rfl, ?_⟩
        rw [decide_eq_true (show (1000 : Int) < i by omega)]
        exact iteT e
theorem sc_marks : FnScope ["self"] ["self"] (defScope m_Board_marks) := ⟨rfl, rfl, rfl, by decide +kernel, rfl, by decide +kernel, by decide +kernel⟩
theorem ok_marks (D : DefM K C "marks" "Board.marks" m_Board_marks ["self"]) (T : Bcl K mg C) (m_list : mg "list" = none) : ClM P w K mg base CX0 1 C "marks" ["self"] (spMarks C) := by
  refine D.cl fun f fd F => ?_
  refine F.ok sc_marks (fun vs H Q E h => ?_) (fun cdv A outer s H vs Q E hr h => ?_)
  · obtain ⟨b, p, am, R, ms, now, rfl, _⟩ := h
    rfl
  · obtain ⟨b, p, am, R, ms, now, rfl, ba, q⟩ := h
    obtain ⟨dx, ob⟩ := ba.ob
    refine ⟨_, pss_one (ps_ret (pe_callTy call_list_of (by rfl) m_list (by decide +kernel) (pa_cons (pe_fld (pv 0) rfl) pa_nil))), ?_⟩
    refine ⟨_, rfl, b, C, dx, _, _, rfl, ob, T.cl, T.nM, bfl_marks _ _ _, am, _, rfl, .inl (SqL.of ba.mrk), fun l hl => ?_⟩
    exact q _ l hl (same_upd hl) upd_same
theorem sc_now : FnScope ["self"] ["self"] (defScope m_Board_now) := ⟨rfl, rfl, rfl, by decide +kernel, rfl, by decide +kernel, by decide +kernel⟩
theorem ok_now (D : DefM K C "now" "Board.now" m_Board_now ["self"]) (T : Bcl K mg C) : ClM P w K mg base CX0 1 C "now" ["self"] (spNow C) := by
  refine D.cl fun f fd F => ?_
  refine F.ok sc_now (fun vs H Q E h => ?_) (fun cdv A outer s H vs Q E hr h => ?_)
  · obtain ⟨b, p, am, R, ms, now, rfl, _⟩ := h
    rfl
  · obtain ⟨b, p, am, R, ms, now, rfl, ba, q⟩ := h
    obtain ⟨dx, ob⟩ := ba.ob
    exact ⟨_, pss_one (ps_ret (pe_fld (pv 0) rfl)), _, rfl, b, C, dx, _, _, rfl, ob, T.cl, T.nT, bfl_moment _ _ _, q⟩
theorem sc_age : FnScope ["self", "thing"] ["self", "thing"] (defScope m_Board_age) := ⟨rfl, rfl, rfl, by decide +kernel, rfl, by decide +kernel, by decide +kernel⟩
theorem ok_age {cN : Addr} (D : DefM K C "age" "Board.age" m_Board_age ["self", "thing"]) (T : Bcl K mg C) (CK : ClM P w K mg base (L2.CX P w) 1 C "_check_thing" ["self", "thing"] (spChk C cN)) (C1 : Cl P w K mg base 5 "span" ["rule", "now", "mark"] spSpan) :
    ClM P w K mg base (L2.CX P w) 6 C "age" ["self", "thing"] (spAge C cN) := by
  refine D.cl fun f fd F => ?_
  refine F.okX sc_age (fun vs H Q E h => ?_) (fun cdv A outer s H vs Q E hr h => ?_)
  · obtain ⟨b, p, am, R, ms, now, i, rfl, _⟩ := h
    rfl
  · obtain ⟨b, p, am, R, ms, now, i, rfl, ba, nl, q⟩ := h
    obtain ⟨dx, ob⟩ := ba.ob
    refine ⟨_, pss_cons (ps_expr (pe_cm (E := E) CK T.cl (passes_call (takes_of rfl rfl rfl rfl) (fun _ _ _ _ h => h)) hr (pv 0) (pa_cons (pv 1) pa_nil)))
      (pss_one (ps_ret (pe_cl C1 hr (pa_cons (pe_fld (pv 0) rfl) (pa_cons (pe_fld (pv 0) rfl) (pa_cons (pe_ix ix_list (pe_fld (pv 0) rfl) (pv 1) (fun _ _ => rfl)) pa_nil)))))), ?_⟩
    refine ⟨_, rfl, b, dx, _, rfl, ob, bfl_no _ _ _ (by decide +kernel) (by decide +kernel) (by decide +kernel), _, rfl, b, p, am, R, ms, now, i, rfl, ba, ?_⟩
    rcases q with ⟨k, rfl, kl, q⟩ | ⟨n, e⟩
    · refine .inl ⟨by omega, by omega, ?_⟩
      refine ⟨_, rfl, b, C, dx, _, _, rfl, ob, T.cl, T.nR, bfl_rule _ _ _, _, rfl, b, C, dx, _, _, rfl, ob, T.cl, T.nT, bfl_moment _ _ _, _, rfl, b, C, dx, _, _, rfl, ob, T.cl, T.nM, bfl_marks _ _ _, _, rfl, am, _, _, _, rfl, rfl, SqL.of ba.mrk, atI_nat (nvs_get kl), ?_⟩
      exact ⟨p, R, now, ms.getD k 0, _, _, rfl, rfl, rfl, ba.rl, ba.ok, ba.bd _ (getD_mem kl), nl, q⟩
    · exact .inr ⟨n, e⟩
end
/-! ### whether one is surely older -/
def olderM (x y : Option Nat) : Bool := match y with
  | none => false
  | some b => match x with
    | none => true
    | some a => decide (b < a)
def spOlder : Sp := fun vs H Q _ => ∃ (a b : Addr) (x1 y1 x2 y2 : Option Nat), vs = [.ref a, .ref b] ∧ H a = some (.tup [oV x1, oV y1]) ∧ H b = some (.tup [oV x2, oV y2]) ∧ Q (.bl (olderM x1 y2)) H
/-! ### ages, the oldest -/
noncomputable def spanF (R : Ru) (now m : Nat) : Option Nat × Option Nat := ⟨(exists_span R now m).choose, (exists_span R now m).choose_spec.choose⟩
theorem spanF_is (R : Ru) (now m : Nat) : IsSpan R now m (spanF R now m).1 (spanF R now m).2 := (exists_span R now m).choose_spec.choose_spec
theorem spanF_eq {R : Ru} {now m : Nat} {x y : Option Nat} (h : IsSpan R now m x y) : spanF R now m = (x, y) := by
  obtain ⟨e1, e2⟩ := (spanF_is R now m).uniq h
  exact Prod.ext e1 e2
abbrev Sps := List (Option Nat × Option Nat)
noncomputable def agesF (R : Ru) (now : Nat) (ms : List Nat) : Sps := ms.map (spanF R now)
/-- tuples of spans stand at Ts -/
structure TupsAt (H : Hp) (Ts : List Addr) (sp : Sps) : Prop where
  len : Ts.length = sp.length
  at_ : ∀ (j : Nat) (T : Addr) (s : Option Nat × Option Nat), Ts[j]? = some T → sp[j]? = some s → H T = some (.tup [oV s.1, oV s.2])
theorem TupsAt.same {H H' : Hp} {Ts : List Addr} {sp : Sps} (a : TupsAt H Ts sp) (k : Same H H') : TupsAt H' Ts sp := ⟨a.len, fun j T s h1 h2 => k _ _ (a.at_ j T s h1 h2)⟩
theorem TupsAt.get {H : Hp} {Ts : List Addr} {sp : Sps} (a : TupsAt H Ts sp) {j : Nat} {T : Addr} (h : Ts[j]? = some T) : ∃ s, sp[j]? = some s ∧ H T = some (.tup [oV s.1, oV s.2]) := by
  have l : j < sp.length := by rw [← a.len]; exact (List.getElem?_eq_some_iff.mp h).1
  exact ⟨sp[j], List.getElem?_eq_getElem l, a.at_ j T _ h (List.getElem?_eq_getElem l)⟩
/-- one span more -/
theorem ages_more {R : Ru} {now i : Nat} {ms : List Nat} {Ts : List Addr} {H' H2 : Hp} {D T2 : Addr} {x y : Option Nat} (hi : i < ms.length) (ta : TupsAt H' Ts (agesF R now (ms.take i))) (eD : H' D = some (.lst (Ts.map V.ref))) (isp : IsSpan R now (ms.getD i 0) x y)
    (s2 : Same H' H2) (eT : H2 T2 = some (.tup [oV x, oV y])) : Ts.length ≤ i ∧ (upd H2 D (.lst (Ts.map V.ref ++ [V.ref T2]))) D = some (.lst ((Ts ++ [T2]).map V.ref)) ∧ TupsAt (upd H2 D (.lst (Ts.map V.ref ++ [V.ref T2]))) (Ts ++ [T2]) (agesF R now (ms.take (i + 1))) := by
  have tl : Ts.length = i := by
    rw [ta.len]
    unfold agesF
    rw [List.length_map, List.length_take]
    omega
  refine ⟨Nat.le_of_eq tl, ?_, ?_, fun j T s h1 h2 => ?_⟩
  · rw [upd_same, List.map_append]
    rfl
  · unfold agesF
    rw [List.length_append, List.length_map, List.length_take, tl]
    show i + 1 = min (i + 1) ms.length
    omega
  · have ne : T ≠ D := by
      by_cases jl : j < Ts.length
      · rw [List.getElem?_append_left jl] at h1
        obtain ⟨s', _, e'⟩ := ta.get h1
        exact ne_of e' eD (fun z => nomatch z)
      · have jn := (List.getElem?_eq_some_iff.mp h1).1
        rw [List.length_append] at jn
        have je : j = Ts.length := by
          have : j < Ts.length + 1 := jn
          omega
        subst je
        rw [List.getElem?_append_right (Nat.le_refl _), Nat.sub_self] at h1
        have : T2 = T := Option.some.inj h1
        rw [← this]
        exact ne_of eT (s2 _ _ eD) (fun z => nomatch z)
    rw [upd_ne ne]
    by_cases jl : j < Ts.length
    · rw [List.getElem?_append_left jl] at h1
      refine s2 _ _ (ta.at_ j T s h1 ?_)
      unfold agesF at h2 ⊢
      rw [List.getElem?_map, List.getElem?_take, if_pos (by omega)] at h2
      rw [List.getElem?_map, List.getElem?_take, if_pos (by omega)]
      exact h2
    · have jn := (List.getElem?_eq_some_iff.mp h1).1
      rw [List.length_append] at jn
      have je : j = Ts.length := by
        have : j < Ts.length + 1 := jn
        omega
      subst je
      rw [List.getElem?_append_right (Nat.le_refl _), Nat.sub_self] at h1
      have e1 : T2 = T := Option.some.inj h1
      unfold agesF at h2
      rw [tl, List.getElem?_map, List.getElem?_take, if_pos (Nat.lt_succ_self _), List.getElem?_eq_getElem hi] at h2
      have e2 : spanF R now ms[i] = s := Option.some.inj h2
      rw [List.getD_eq_getElem?_getD, List.getElem?_eq_getElem hi] at isp
      have e3 := spanF_eq isp
      rw [← e1, ← e2]
      have e4 : spanF R now ms[i] = (x, y) := e3
      rw [e4]
      exact eT
def okOld (sp : Sps) (j : Nat) : Bool := !(sp.any fun s => olderM s.1 (sp.getD j (none, none)).2)
def oldTo (sp : Sps) (n : Nat) : List Nat := (List.range n).filter (okOld sp)
def oldestF (sp : Sps) : List Nat := oldTo sp sp.length
theorem oldTo_succ (sp : Sps) (n : Nat) : oldTo sp (n + 1) = if okOld sp n = true then oldTo sp n ++ [n] else oldTo sp n := by
  unfold oldTo
  rw [List.range_succ, List.filter_append]
  by_cases h : okOld sp n = true
  · rw [if_pos h, List.filter_cons_of_pos h, List.filter_nil]
  · rw [if_neg h, List.filter_cons_of_neg h, List.filter_nil, List.append_nil]
theorem oldTo_len (sp : Sps) (n : Nat) : (oldTo sp n).length ≤ n := by
  unfold oldTo
  exact Nat.le_trans (List.length_filter_le _ _) (Nat.le_of_eq List.length_range)
theorem any_id {α : Type} (l : List α) (f : α → Bool) : (l.map f).any id = l.any f := by
  rw [List.any_map]
  rfl
/-- over enumerate of a list -/
theorem for_enum {K : PySem.W.Frag} {a : Addr} {xs : List V} {g : TG} {tb : TS} {D : Ends} {σ : L2.St} {H : Hp} (Pv : Nat → L2.St → Hp → Prop) (h0 : Pv 0 σ H) (hl : ∀ i σ H, i ≤ xs.length → Pv i σ H → SqL K H a xs)
    (hs : ∀ i x T σ H, xs[i]? = some x → Pv i σ H → H T = none → g (.ref T) σ (upd H T (.tup [.int ((i : Nat) : Int), x])) fun σ2 H2 => tb { D with nx := Pv (i + 1), ct := Pv (i + 1), bk := D.nx } σ2 H2) (hd : ∀ σ H, Pv xs.length σ H → D.nx σ H) :
    ∃ W : Nat → Nat → L2.St → Hp → Prop, (∃ m, W 0 m σ H) ∧ ∀ i m σ H, W i m σ H →
      ((Ite K a).stop i H ∧ D.nx σ H) ∨ ((Ite K a).go i H ∧ ∃ N : L2.St → Hp → Prop, (∀ σ' H', N σ' H' → ∃ m', m' < m ∧ W (i + 1) m' σ' H') ∧ ∀ x H', (Ite K a).yld i H x H' → g x σ H' fun σ2 H2 => tb { D with nx := N, ct := N, bk := D.nx } σ2 H2) := by
  refine ⟨fun i m σ H => m = xs.length - i ∧ i ≤ xs.length ∧ Pv i σ H, ⟨xs.length, by simp, Nat.zero_le _, h0⟩, ?_⟩
  rintro i m σ H ⟨rfl, hi, p⟩
  have q := hl i σ H hi p
  by_cases hlt : i < xs.length
  · refine .inr ⟨⟨xs, xs[i], q, List.getElem?_eq_getElem hlt⟩, Pv (i + 1), fun σ' H' p' => ⟨xs.length - (i + 1), by omega, rfl, hlt, p'⟩, fun x H' y => ?_⟩
    obtain ⟨T, x', rfl, hT, rfl, f⟩ := y
    exact hs i x' T σ H (f xs q) p hT
  · have e : i = xs.length := by omega
    subst e
    exact .inl ⟨⟨xs, q, Nat.le_refl _⟩, hd σ H p⟩
def spAges (C : Addr) : Sp := fun vs H Q _ => ∃ (b p am : Addr) (R : Ru) (ms : List Nat) (now : Nat), vs = [.ref b] ∧ BAt C H b p am R ms now ∧ now ≤ 1000000000 ∧
  ∀ H' l Ts, H l = none → Same H H' → H' l = some (.lst (Ts.map V.ref)) → TupsAt H' Ts (agesF R now ms) → Q (.ref l) H'
def spOldest (C : Addr) : Sp := fun vs H Q _ => ∃ (b p am : Addr) (R : Ru) (ms : List Nat) (now : Nat), vs = [.ref b] ∧ BAt C H b p am R ms now ∧ now ≤ 1000000000 ∧
  ∀ H' l, H l = none → Same H H' → H' l = some (.lst (nvs (oldestF (agesF R now ms)))) → Q (.ref l) H'
section
variable {P : Program} {w : World} {K : PySem.W.Frag} {mg : Str → Option Value} {base : Heap} {C : Addr}
theorem sc_surely : FnScope ["age", "other", "least", "_", "most"] ["age", "other"] (defScope s_surely_older) := ⟨rfl, rfl, rfl, by decide +kernel, rfl, by decide +kernel, by decide +kernel⟩
theorem ok_surely (D : DefAt K mg "_surely_older" s_surely_older ["age", "other"]) : Cl P w K mg base 1 "_surely_older" ["age", "other"] spOlder := by
  refine D.cl fun f fd F => ?_
  refine F.ok sc_surely (fun vs H Q E h => ?_) (fun cdv A outer s H vs Q E hr h => ?_)
  · obtain ⟨a, b, x1, y1, x2, y2, rfl, _⟩ := h
    rfl
  · obtain ⟨a, b, x1, y1, x2, y2, rfl, ea, eb, q⟩ := h
    refine ⟨_, pss_cons (ps_asg (pv 0) (pg_tup rfl (pgs_cons (pg_name (i := 2) sc_surely.nd rfl (Or.inl rfl)) (pgs_cons (pg_name (i := 3) sc_surely.nd rfl (Or.inl rfl)) pgs_nil))))
      (pss_cons (ps_asg (pv 1) (pg_tup rfl (pgs_cons (pg_name (i := 3) sc_surely.nd rfl (Or.inl rfl)) (pgs_cons (pg_name (i := 4) sc_surely.nd rfl (Or.inl rfl)) pgs_nil))))
      (pss_cons (ps_if (pt_cmp (pc_isN (pv 4)) rfl) (pss_one (ps_ret pe_bl)) pss_nil)
      (pss_one (ps_ret (pe_or (pe_cmp (pc_isN (pv 2)) rfl) (pe_one (pe_cmpR op_gt (pv 2) (pv 4) (nomark _)))))))), ?_⟩
    refine ⟨_, rfl, a, [oV x1, oV y1], rfl, SqT.of ea, rfl, oV x1, [oV y1], rfl, oV y1, [], rfl, rfl, ?_⟩
    refine ⟨_, rfl, b, [oV x2, oV y2], rfl, SqT.of eb, rfl, oV x2, [oV y2], rfl, oV y2, [], rfl, rfl, ?_⟩
    refine ⟨_, rfl, _, rfl, ?_⟩
    cases y2 with
    | none =>
      rw [decide_eq_true (show oV none = V.non from rfl)]
      exact iteT q
    | some bb =>
      rw [decide_eq_false (show ¬ oV (some bb) = V.non from fun z => nomatch z)]
      refine iteF ⟨_, rfl, _, rfl, ?_⟩
      cases x1 with
      | none =>
        rw [decide_eq_true (show oV none = V.non from rfl)]
        exact iteT q
      | some aa =>
        rw [decide_eq_false (show ¬ oV (some aa) = V.non from fun z => nomatch z)]
        refine iteF ⟨_, rfl, _, rfl, _, _, rfl, rfl, ?_⟩
        have e : decide ((bb : Int) < (aa : Int)) = decide (bb < aa) := by
          by_cases c : bb < aa
          · rw [decide_eq_true c, decide_eq_true (by omega)]
          · rw [decide_eq_false c, decide_eq_false (by omega)]
        have q' : Q (.bl (decide (bb < aa))) H := q
        rw [← e] at q'
        exact q'
theorem sc_ages : FnScope ["self", "thing"] ["self"] (defScope m_Board_ages) := ⟨rfl, rfl, rfl, by decide +kernel, rfl, by decide +kernel, by decide +kernel⟩
theorem ok_ages {cN : Addr} (D : DefM K C "ages" "Board.ages" m_Board_ages ["self"]) (T : Bcl K mg C) (m_len : mg "len" = none) (m_range : mg "range" = none) (C1 : ClM P w K mg base (L2.CX P w) 6 C "age" ["self", "thing"] (spAge C cN)) : ClM P w K mg base CX0 7 C "ages" ["self"] (spAges C) := by
  refine D.cl fun f fd F => ?_
  refine F.ok sc_ages (fun vs H Q E h => ?_) (fun cdv A outer s H vs Q E hr h => ?_)
  · obtain ⟨b, p, am, R, ms, now, rfl, _⟩ := h
    rfl
  · obtain ⟨b, p, am, R, ms, now, rfl, ba, nl, q⟩ := h
    obtain ⟨dx, ob⟩ := ba.ob
    refine ⟨_, pss_one (ps_ret (pe_lc (own := [("thing", 1)]) (g := gName 1) (tt := tYes) (te := tMeth C "age" (spAge C cN) [] E0 (tVar 0) (tCons (tVar 1) tNil)) rfl sc_ages.nd (pi_range1 (by rfl) m_range (pa_cons (pe_callB call_len_seq (by rfl) m_len PySem.boot_len (pa_cons (pe_fld (pv 0) rfl) pa_nil)) pa_nil))
      (blkOk_by (N := ["self", "thing"]) (sc := defScope m_Board_ages) (by decide +kernel)) (fun _ _ _ _ _ => by exact pg_name (i := 1) sc_ages.nd rfl (Or.inl rfl)) (fun _ _ _ _ _ => by exact pts_nil)
      (fun _ _ _ _ _ => by exact pe_cm C1 T.cl passL hr (pv 0) (pa_cons (pv 1) pa_nil)))), ?_⟩
    have f8 := ba.few
    refine ⟨_, rfl, b, C, dx, _, _, rfl, ob, T.cl, T.nM, bfl_marks _ _ _, am, _, rfl, .inl (SqL.of ba.mrk), _, rfl, by omega, by rw [nvs_len]; omega, fun D nD => ?_⟩
    rw [Int.toNat_natCast, nvs_len]
    refine lc_range (lo := 0) (n := ms.length) (fun i H' => Same H H' ∧ ∃ Ts : List Addr, H' D = some (.lst (Ts.map V.ref)) ∧ TupsAt H' Ts (agesF R now (ms.take i))) ⟨same_upd nD, [], upd_same, rfl, fun j T s h _ => by simp at h⟩ ?_ ?_
    · rintro i H' hi ⟨sm, Ts, eD, ta⟩
      have ob' := sm _ _ ob
      refine ⟨rfl, _, rfl, b, dx, _, rfl, ob', bfl_no _ _ _ (by decide +kernel) (by decide +kernel) (by decide +kernel), _, rfl, b, p, am, R, ms, now, _, rfl, ba.same sm, nl, .inl ⟨i, Int.zero_add _, hi, fun H2 T2 x y isp nT s2 eT => ?_⟩⟩
      obtain ⟨g1, g2, g3⟩ := ages_more hi ta eD isp s2 eT
      exact ⟨_, s2 _ _ eD, by rw [List.length_map]; exact small1000 (by omega), fun x' o e => by
        rw [upd_ne (ne_of_none e nD)]
        exact s2 _ _ (sm _ _ e), Ts ++ [T2], g2, g3⟩
    · rintro H' ⟨sm, Ts, eD, ta⟩
      rw [List.take_length] at ta
      exact q H' D Ts nD sm eD ta
theorem sc_oldest : FnScope ["self", "ages", "found", "thing", "age", "other"] ["self"] (defScope m_Board_oldest) := ⟨rfl, rfl, rfl, by decide +kernel, rfl, by decide +kernel, by decide +kernel⟩
theorem ok_oldest (D : DefM K C "oldest" "Board.oldest" m_Board_oldest ["self"]) (T : Bcl K mg C) (m_enum : mg "enumerate" = none) (m_any : mg "any" = none) (C1 : ClM P w K mg base CX0 7 C "ages" ["self"] (spAges C)) (C2 : Cl P w K mg base 1 "_surely_older" ["age", "other"] spOlder) :
    ClM P w K mg base CX0 8 C "oldest" ["self"] (spOldest C) := by
  refine D.cl fun f fd F => ?_
  refine F.ok sc_oldest (fun vs H Q E h => ?_) (fun cdv A outer s H vs Q E hr h => ?_)
  · obtain ⟨b, p, am, R, ms, now, rfl, _⟩ := h
    rfl
  · obtain ⟨b, p, am, R, ms, now, rfl, ba, nl, q⟩ := h
    obtain ⟨dx, ob⟩ := ba.ob
    refine ⟨_, pss_cons (ps_set (i := 1) sc_oldest.nd rfl (Or.inl rfl) (pe_cm0 (E := E0) C1 T.cl pass0 hr (pv 0)))
      (pss_cons (ps_set (i := 2) sc_oldest.nd rfl (Or.inl rfl) (pe_lst pa_nil))
      (pss_cons (ps_for PassesOwn.never rfl (pi_enum (by rfl) m_enum (pa_cons (pv 1) pa_nil)) (pg_tup rfl (pgs_cons (pg_name (i := 3) sc_oldest.nd rfl (Or.inl rfl)) (pgs_cons (pg_name (i := 4) sc_oldest.nd rfl (Or.inr rfl)) pgs_nil)))
        (pss_one (ps_if (pt_not (pt_val (pe_callB (cr_any rfl) (by rfl) m_any (by decide +kernel) (pa_cons
          (pe_lc (own := [("other", 5)]) (g := gName 5) (tt := tYes) (te := tCall spOlder [] E0 (tCons (tVar 5) (tCons (tVar 4) tNil))) rfl sc_oldest.nd (pi_list (pv 1)) (blkOk_by (N := ["self", "ages", "found", "thing", "age", "other"]) (sc := defScope m_Board_oldest) (by decide +kernel))
            (fun _ _ _ _ _ => by exact pg_name (i := 5) sc_oldest.nd rfl (Or.inl rfl)) (fun _ _ _ _ _ => by exact pts_nil) (fun _ _ _ _ _ => by exact pe_cl C2 hr (pa_cons (pv 5) (pa_cons (pv 4) pa_nil)))) pa_nil))))
          (pss_one (ps_expr (pe_bm PySem.F.plainAttrs_list PySem.F.slot_list_append PySem.F.type_list_append mt_append (pv 2) (pa_cons (pv 3) pa_nil)))) pss_nil)))
      (pss_one (ps_ret (pv 2))))), ?_⟩
    have f8 := ba.few
    refine ⟨_, rfl, b, dx, _, rfl, ob, bfl_no _ _ _ (by decide +kernel) (by decide +kernel) (by decide +kernel), b, p, am, R, ms, now, rfl, ba, nl, fun H1 l Ts nl1 s1 el ta => ?_⟩
    refine ⟨(by show 0 ≤ sizeLine; decide), fun L nL => ?_⟩
    have sL := same_upd (o := .lst []) nL
    have lsp : (agesF R now ms).length = ms.length := by unfold agesF; rw [List.length_map]
    have lT : Ts.length = ms.length := by rw [ta.len, lsp]
    refine ⟨_, rfl, l, _, rfl, SqL.of (sL _ _ el), for_enum (K := K) (a := l) (xs := Ts.map V.ref) (fun i σ H' => ∃ v3 v4 : Option V, σ = [some (.ref b), some (.ref l), some (.ref L), v3, v4, none] ∧ Same H1 H' ∧ H' L = some (.lst (nvs (oldTo (agesF R now ms) i))))
      ⟨none, none, rfl, sL, upd_same⟩ (fun i σ H' _ h => let ⟨_, _, _, s2, _⟩ := h; SqL.of (s2 _ _ el)) ?_ ?_⟩
    · rintro i x T2 σ H2 hx ⟨v3, v4, rfl, s2, eL⟩ nT
      have sT := same_upd (o := .tup [.int ((i : Nat) : Int), x]) nT
      have il : i < Ts.length := by
        have := (List.getElem?_eq_some_iff.mp hx).1
        rw [List.length_map] at this
        exact this
      have ex : x = .ref Ts[i] := by
        rw [List.getElem?_map, List.getElem?_eq_getElem il] at hx
        exact (Option.some.inj hx).symm
      subst ex
      obtain ⟨sx, hsx, eTx⟩ := ta.get (List.getElem?_eq_getElem il)
      have gsx : (agesF R now ms).getD i (none, none) = sx := by rw [List.getD_eq_getElem?_getD, hsx]; rfl
      refine ⟨T2, _, rfl, SqT.of upd_same, rfl, _, _, rfl, _, _, rfl, rfl, ?_⟩
      have s3 := s2.trans sT
      refine ⟨_, rfl, l, rfl, ⟨_, SqL.of (s3 _ _ el)⟩, fun D nD => ?_⟩
      refine lc_list (K := K) (a := l) (xs := Ts.map V.ref) (fun j H' => Same (upd H2 T2 (.tup [.int ((i : Nat) : Int), .ref Ts[i]])) H' ∧ H' D = some (.lst ((((agesF R now ms).take j).map fun s => olderM s.1 sx.2).map V.bl))) ⟨same_upd nD, upd_same⟩ (fun j H' _ h => SqL.of (h.1 _ _ (s3 _ _ el))) ?_ ?_
      · rintro j y H' hy ⟨sm, eD⟩
        have jl : j < Ts.length := by
          have := (List.getElem?_eq_some_iff.mp hy).1
          rw [List.length_map] at this
          exact this
        have ey : y = .ref Ts[j] := by
          rw [List.getElem?_map, List.getElem?_eq_getElem jl] at hy
          exact (Option.some.inj hy).symm
        subst ey
        obtain ⟨sy, hsy, eTy⟩ := ta.get (List.getElem?_eq_getElem jl)
        refine ⟨rfl, _, rfl, _, rfl, Ts[j], Ts[i], sy.1, sy.2, sx.1, sx.2, rfl, sm _ _ (s3 _ _ eTy), sm _ _ (s3 _ _ eTx), ?_⟩
        refine ⟨_, eD, ?_, fun x' o e => ?_, ?_⟩
        · rw [List.length_map, List.length_map, List.length_take]
          exact small1000 (by omega)
        · rw [upd_ne (ne_of_none e nD)]
          exact sm _ _ e
        · rw [upd_same, List.take_add_one, hsy]
          show some (HO.lst ((((agesF R now ms).take j).map fun s => olderM s.1 sx.2).map V.bl ++ [V.bl (olderM sy.1 sx.2)])) = some (HO.lst ((((agesF R now ms).take j ++ [sy]).map fun s => olderM s.1 sx.2).map V.bl))
          rw [List.map_append, List.map_append]
          rfl
      · rintro H' ⟨sm, eD⟩
        rw [List.length_map, ta.len, List.take_length] at eD
        refine ⟨D, _, rfl, SqL.of eD, ?_⟩
        rw [any_id]
        refine ⟨_, rfl, ?_⟩
        have eo : (!((agesF R now ms).any fun s => olderM s.1 sx.2)) = okOld (agesF R now ms) i := by unfold okOld; rw [gsx]
        dsimp only
        rw [eo]
        have s4 := s3.trans sm
        have eL4 := sm _ _ (sT _ _ eL)
        by_cases c : okOld (agesF R now ms) i = true
        · rw [c]
          refine iteT ⟨_, rfl, .inl ⟨rfl, _, SqL.of eL4⟩, _, rfl, L, _, _, rfl, rfl, eL4, ?_, ?_⟩
          · rw [nvs_len]
            exact small1000 (Nat.le_trans (oldTo_len _ _) (by omega))
          · refine ⟨_, _, rfl, fun x' o e => ?_, ?_⟩
            · rw [upd_ne (ne_of_none e nL)]
              exact s4 _ _ e
            · rw [upd_same, oldTo_succ, if_pos c]
              unfold nvs
              rw [List.map_append, List.map_append]
              rfl
        · rw [show okOld (agesF R now ms) i = false by simpa using c]
          refine iteF ⟨_, _, rfl, s4, ?_⟩
          rw [oldTo_succ, if_neg c]
          exact eL4
    · rintro σ H2 ⟨v3, v4, rfl, s2, eL⟩
      rw [List.length_map, lT, ← lsp] at eL
      refine ⟨_, rfl, ?_⟩
      exact q H2 L (s1.free nL) (s1.trans s2) eL
end
/-! ### whether two things are alike: the same data on both sides -/
theorem Same.seqT {K : PySem.W.Frag} {H H' : Hp} {a : Addr} {xs : List V} (e : Same H H') (h : SqT K H a xs) : SqT K H' a xs := by
  rcases h with (h | ⟨o, h⟩) | h
  · exact .inl (.inl (e _ _ h))
  · exact .inl (.inr ⟨o, e _ _ h⟩)
  · exact .inr h
mutual
theorem Dp.same {K : PySem.W.Frag} {H H' : Hp} (e : Same H H') : ∀ (d : PyData) (v : V), Dp K H v d → Dp K H' v d
  | .none, _, h => by cases h; exact .non
  | .bool b, _, h => by cases h; exact .bl b
  | .int i, _, h => by cases h; exact .int i
  | .str x, _, h => by cases h; exact .str x
  | .list ds, _, h => by
    cases h with
    | lst hs ha => exact .lst (Same.seq e hs) (DpAll.same e ds _ ha)
  | .tuple ds, _, h => by
    cases h with
    | tup hs ha => exact .tup (Same.seqT e hs) (DpAll.same e ds _ ha)
  | .dict _, _, h => by cases h
theorem DpAll.same {K : PySem.W.Frag} {H H' : Hp} (e : Same H H') : ∀ (ds : List PyData) (vs : List V), DpAll K H vs ds → DpAll K H' vs ds
  | [], _, h => by cases h; exact .nil
  | d :: ds, _, h => by
    cases h with
    | cons h1 h2 => exact .cons (Dp.same e d _ h1) (DpAll.same e ds _ h2)
end
theorem dpAll_len {K : PySem.W.Frag} {H : Hp} : ∀ {ds : List PyData} {vs : List V}, DpAll K H vs ds → vs.length = ds.length
  | [], _, h => by cases h; rfl
  | d :: ds, _, h => by
    cases h with
    | cons h1 h2 => exact congrArg (· + 1) (dpAll_len h2)
theorem dpAll_get {K : PySem.W.Frag} {H : Hp} : ∀ {ds : List PyData} {vs : List V} {i : Nat}, DpAll K H vs ds → i < ds.length → ∃ v d, vs[i]? = some v ∧ ds[i]? = some d ∧ Dp K H v d
  | [], _, _, _, l => absurd l (Nat.not_lt_zero _)
  | d :: ds, _, 0, h, _ => by
    cases h with
    | cons h1 h2 => exact ⟨_, d, rfl, rfl, h1⟩
  | d :: ds, _, i + 1, h, l => by
    cases h with
    | cons h1 h2 =>
      obtain ⟨v, d', e1, e2, e3⟩ := dpAll_get h2 (Nat.lt_of_succ_lt_succ l)
      exact ⟨v, d', e1, e2, e3⟩
theorem depth_get : ∀ {ds : List PyData} {i : Nat} {d : PyData}, ds[i]? = some d → PyData.depth d ≤ PyData.depthAll ds
  | [], _, _, h => by simp at h
  | x :: ds, 0, d, h => by
    have e : x = d := Option.some.inj h
    subst e
    simp only [PyData.depthAll]
    omega
  | x :: ds, i + 1, d, h => by
    have ih := depth_get (ds := ds) (i := i) (d := d) h
    simp only [PyData.depthAll]
    omega
mutual
/-- lists of at most a thousand items -/
def szOk : PyData → Bool
  | .list xs => decide (xs.length ≤ 1000) && szAll xs
  | .tuple xs => decide (xs.length ≤ 1000) && szAll xs
  | _ => true
def szAll : List PyData → Bool
  | [] => true
  | x :: r => szOk x && szAll r
end
theorem szOk_lst {ds : List PyData} (h : szOk (.list ds) = true) : ds.length ≤ 1000 ∧ szAll ds = true := by
  simp only [szOk, Bool.and_eq_true, decide_eq_true_eq] at h
  exact h
theorem szOk_tup {ds : List PyData} (h : szOk (.tuple ds) = true) : ds.length ≤ 1000 ∧ szAll ds = true := by
  simp only [szOk, Bool.and_eq_true, decide_eq_true_eq] at h
  exact h
theorem sz_get : ∀ {ds : List PyData} {i : Nat} {d : PyData}, ds[i]? = some d → szAll ds = true → szOk d = true
  | [], _, _, h, _ => by simp at h
  | x :: ds, 0, d, h, a => by
    have e : x = d := Option.some.inj h
    subst e
    simp only [szAll, Bool.and_eq_true] at a
    exact a.1
  | x :: ds, i + 1, d, h, a => by
    simp only [szAll, Bool.and_eq_true] at a
    exact sz_get (ds := ds) (i := i) (d := d) h a.2
theorem ty_list {K : PySem.W.Frag} {H : Hp} {a : Addr} {xs : List V} (h : SqL K H a xs) : TyX K H (.ref a) (.type "list") := by
  rcases h with (h | ⟨o, h⟩) | ⟨o, its, n, hk, hc, _⟩
  · exact .base (.lst h)
  · exact .base (.frz h)
  · exact .kList hk hc
theorem ty_tup {K : PySem.W.Frag} {H : Hp} {a : Addr} {xs : List V} (h : SqT K H a xs) : TyX K H (.ref a) (.type "tuple") := by
  rcases h with (h | ⟨o, h⟩) | ⟨o, its, n, hk, hc, _⟩
  · exact .base (.tup h)
  · exact .fTuple h
  · exact .kTuple hk hc
/-- alike: the same data, of small lists -/
def spAlike (K : PySem.W.Frag) (n : Nat) : Sp := fun vs H Q _ => ∃ (x y : V) (d : PyData), vs = [x, y] ∧ Dp K H x d ∧ Dp K H y d ∧ PyData.depth d ≤ n ∧ szOk d = true ∧ ∀ H', Same H H' → Q (.bl true) H'
section
variable {P : Program} {w : World} {K : PySem.W.Frag} {mg : Str → Option Value} {base : Heap}
theorem sc_alike : FnScope ["_law_found", "_law_due", "_law_k"] ["_law_found", "_law_due"] (defScope s_L_alike) := ⟨rfl, rfl, rfl, by decide +kernel, rfl, by decide +kernel, by decide +kernel⟩
theorem ok_alike0 (D : DefAt K mg "_law_alike" s_L_alike ["_law_found", "_law_due"]) (m_isi : mg "isinstance" = none) (m_tuple : mg "tuple" = none) (m_list : mg "list" = none) (m_str : mg "str" = none) (m_bool : mg "bool" = none) (m_int : mg "int" = none) :
    Cl P w K mg base 1 "_law_alike" ["_law_found", "_law_due"] (spAlike K 0) := by
  refine D.cl fun f fd F => ?_
  refine F.ok sc_alike (fun vs H Q E h => ?_) (fun cdv A outer s H vs Q E hr h => ?_)
  · obtain ⟨x, y, d, rfl, _⟩ := h
    rfl
  · obtain ⟨x, y, d, rfl, hx, hy, hd, hz, q⟩ := h
    refine ⟨_, pss_cons (ps_if (pt_val (pe_callB call_isiT (by rfl) m_isi (by decide +kernel) (pa_cons (pv 1) (pa_cons (pe_tup (pa_cons (pe_bltn (v := .ty "tuple") (u := .type "tuple") (by rfl) m_tuple (by decide +kernel) rfl) (pa_cons (pe_bltn (v := .ty "list") (u := .type "list") (by rfl) m_list (by decide +kernel) rfl) pa_nil))) pa_nil)))) pss_never pss_nil)
      (pss_cons (ps_if (pt_cmp (pc_isN (pv 1)) rfl) (pss_one (ps_ret (pe_cmp (pc_isN (pv 0)) rfl))) pss_nil)
      (pss_cons (ps_if (pt_val (pe_callB call_isi (by rfl) m_isi (by decide +kernel) (pa_cons (pv 1) (pa_cons (pe_bltn (v := .ty "str") (u := .type "str") (by rfl) m_str (by decide +kernel) rfl) pa_nil)))) (pss_one (ps_ret (pe_and (pe_callB call_isi (by rfl) m_isi (by decide +kernel) (pa_cons (pv 0) (pa_cons (pe_bltn (v := .ty "str") (u := .type "str") (by rfl) m_str (by decide +kernel) rfl) pa_nil))) (pe_one (pe_cmpR op_eq (pv 0) (pv 1) (nomark _)))))) pss_nil)
      (pss_cons (ps_if (PW.pt (pw_or (pt_val (pe_callB call_isi (by rfl) m_isi (by decide +kernel) (pa_cons (pv 1) (pa_cons (pe_bltn (v := .ty "bool") (u := .type "bool") (by rfl) m_bool (by decide +kernel) rfl) pa_nil)))) (pw_or1 (pt_val (pe_callB call_isi (by rfl) m_isi (by decide +kernel) (pa_cons (pv 0) (pa_cons (pe_bltn (v := .ty "bool") (u := .type "bool") (by rfl) m_bool (by decide +kernel) rfl) pa_nil))))))) (pss_one (ps_ret (pe_and (pe_callB call_isi (by rfl) m_isi (by decide +kernel) (pa_cons (pv 1) (pa_cons (pe_bltn (v := .ty "bool") (u := .type "bool") (by rfl) m_bool (by decide +kernel) rfl) pa_nil))) (pe_and (pe_callB call_isi (by rfl) m_isi (by decide +kernel) (pa_cons (pv 0) (pa_cons (pe_bltn (v := .ty "bool") (u := .type "bool") (by rfl) m_bool (by decide +kernel) rfl) pa_nil))) (pe_one (pe_cmpR op_eq (pv 0) (pv 1) (nomark _))))))) pss_nil)
      (pss_one (ps_ret (pe_and (pe_callB call_isi (by rfl) m_isi (by decide +kernel) (pa_cons (pv 0) (pa_cons (pe_bltn (v := .ty "int") (u := .type "int") (by rfl) m_int (by decide +kernel) rfl) pa_nil))) (pe_one (pe_cmpR op_eq (pv 0) (pv 1) (nomark _))))))))), ?_⟩
    cases hx with
    | non =>
      cases hy
      refine ⟨_, rfl, (by show 2 ≤ sizeLine; decide), fun p np => ?_⟩
      refine ⟨.non, p, _, _, _, false, rfl, upd_same, .cons (.ty "tuple") (.cons (.ty "list") .nil), .base (.non), (kitAny_cons (b := false) (kit_ty (by decide +kernel)) (fun _ => kitAny_cons (b := false) (kit_ty (by decide +kernel)) (fun _ => kitAny_nil) (fun e => nomatch e)) (fun e => nomatch e)), _, rfl, iteF ?_⟩
      refine ⟨_, rfl, _, rfl, ?_⟩
      rw [decide_eq_true rfl]
      exact iteT ⟨_, rfl, q _ (same_upd np)⟩
    | bl b =>
      cases hy
      refine ⟨_, rfl, (by show 2 ≤ sizeLine; decide), fun p np => ?_⟩
      refine ⟨.bl b, p, _, _, _, false, rfl, upd_same, .cons (.ty "tuple") (.cons (.ty "list") .nil), .base (.bl b), (kitAny_cons (b := false) (kit_ty (by decide +kernel)) (fun _ => kitAny_cons (b := false) (kit_ty (by decide +kernel)) (fun _ => kitAny_nil) (fun e => nomatch e)) (fun e => nomatch e)), _, rfl, iteF ?_⟩
      refine ⟨_, rfl, _, rfl, ?_⟩
      rw [decide_eq_false (show ¬ V.bl b = .non from fun z => nomatch z)]
      refine iteF ?_
      refine ⟨_, rfl, .bl b, _, _, _, false, rfl, .ty "str", .base (.bl b), kit_ty (by decide +kernel), _, rfl, iteF ?_⟩
      refine ⟨_, rfl, .bl b, _, _, _, true, rfl, .ty "bool", .base (.bl b), kit_ty (by decide +kernel), _, rfl, iteT ?_⟩
      refine ⟨_, rfl, .bl b, _, _, _, true, rfl, .ty "bool", .base (.bl b), kit_ty (by decide +kernel), true, rfl, iteT ?_⟩
      refine ⟨_, rfl, .bl b, _, _, _, true, rfl, .ty "bool", .base (.bl b), kit_ty (by decide +kernel), true, rfl, iteT ⟨_, rfl, _, rfl, rfl, ?_⟩⟩
      rw [decide_eq_true rfl]
      exact q _ (same_upd np)
    | int i =>
      cases hy
      refine ⟨_, rfl, (by show 2 ≤ sizeLine; decide), fun p np => ?_⟩
      refine ⟨.int i, p, _, _, _, false, rfl, upd_same, .cons (.ty "tuple") (.cons (.ty "list") .nil), .base (.int i), (kitAny_cons (b := false) (kit_ty (by decide +kernel)) (fun _ => kitAny_cons (b := false) (kit_ty (by decide +kernel)) (fun _ => kitAny_nil) (fun e => nomatch e)) (fun e => nomatch e)), _, rfl, iteF ?_⟩
      refine ⟨_, rfl, _, rfl, ?_⟩
      rw [decide_eq_false (show ¬ V.int i = .non from fun z => nomatch z)]
      refine iteF ?_
      refine ⟨_, rfl, .int i, _, _, _, false, rfl, .ty "str", .base (.int i), kit_ty (by decide +kernel), _, rfl, iteF ?_⟩
      refine ⟨_, rfl, .int i, _, _, _, false, rfl, .ty "bool", .base (.int i), kit_ty (by decide +kernel), _, rfl, iteF ?_⟩
      refine ⟨_, rfl, .int i, _, _, _, false, rfl, .ty "bool", .base (.int i), kit_ty (by decide +kernel), _, rfl, iteF ?_⟩
      refine ⟨_, rfl, .int i, _, _, _, true, rfl, .ty "int", .base (.int i), kit_ty (by decide +kernel), true, rfl, iteT ⟨_, rfl, _, rfl, rfl, ?_⟩⟩
      rw [decide_eq_true rfl]
      exact q _ (same_upd np)
    | str s =>
      cases hy
      refine ⟨_, rfl, (by show 2 ≤ sizeLine; decide), fun p np => ?_⟩
      refine ⟨.str s, p, _, _, _, false, rfl, upd_same, .cons (.ty "tuple") (.cons (.ty "list") .nil), .base (.str s), (kitAny_cons (b := false) (kit_ty (by decide +kernel)) (fun _ => kitAny_cons (b := false) (kit_ty (by decide +kernel)) (fun _ => kitAny_nil) (fun e => nomatch e)) (fun e => nomatch e)), _, rfl, iteF ?_⟩
      refine ⟨_, rfl, _, rfl, ?_⟩
      rw [decide_eq_false (show ¬ V.str s = .non from fun z => nomatch z)]
      refine iteF ?_
      refine ⟨_, rfl, .str s, _, _, _, true, rfl, .ty "str", .base (.str s), kit_ty (by decide +kernel), _, rfl, iteT ?_⟩
      refine ⟨_, rfl, .str s, _, _, _, true, rfl, .ty "str", .base (.str s), kit_ty (by decide +kernel), true, rfl, iteT ⟨_, rfl, _, rfl, rfl, ?_⟩⟩
      rw [decide_eq_true rfl]
      exact q _ (same_upd np)
    | lst hs ha => exact absurd hd (Nat.not_succ_le_zero _)
    | tup hs ha => exact absurd hd (Nat.not_succ_le_zero _)
theorem ok_alikeS {n : Nat} (D : DefAt K mg "_law_alike" s_L_alike ["_law_found", "_law_due"]) (m_isi : mg "isinstance" = none) (m_tuple : mg "tuple" = none) (m_list : mg "list" = none) (m_str : mg "str" = none) (m_bool : mg "bool" = none) (m_int : mg "int" = none) (m_len : mg "len" = none) (m_range : mg "range" = none)
    (C1 : Cl P w K mg base (n + 1) "_law_alike" ["_law_found", "_law_due"] (spAlike K n)) : Cl P w K mg base (n + 2) "_law_alike" ["_law_found", "_law_due"] (spAlike K (n + 1)) := by
  refine D.cl fun f fd F => ?_
  refine F.ok sc_alike (fun vs H Q E h => ?_) (fun cdv A outer s H vs Q E hr h => ?_)
  · obtain ⟨x, y, d, rfl, _⟩ := h
    rfl
  · obtain ⟨x, y, d, rfl, hx, hy, hd, hz, q⟩ := h
    refine ⟨_, pss_cons (ps_if (pt_val (pe_callB call_isiT (by rfl) m_isi (by decide +kernel) (pa_cons (pv 1) (pa_cons (pe_tup (pa_cons (pe_bltn (v := .ty "tuple") (u := .type "tuple") (by rfl) m_tuple (by decide +kernel) rfl) (pa_cons (pe_bltn (v := .ty "list") (u := .type "list") (by rfl) m_list (by decide +kernel) rfl) pa_nil))) pa_nil))))
        (pss_cons (ps_if (PW.pt (pw_or (pt_not (pt_val (pe_callB call_isiT (by rfl) m_isi (by decide +kernel) (pa_cons (pv 0) (pa_cons (pe_tup (pa_cons (pe_bltn (v := .ty "tuple") (u := .type "tuple") (by rfl) m_tuple (by decide +kernel) rfl) (pa_cons (pe_bltn (v := .ty "list") (u := .type "list") (by rfl) m_list (by decide +kernel) rfl) pa_nil))) pa_nil))))) (pw_or1 (pt_cmpR op_ne (pe_callB call_isi (by rfl) m_isi (by decide +kernel) (pa_cons (pv 0) (pa_cons (pe_bltn (v := .ty "list") (u := .type "list") (by rfl) m_list (by decide +kernel) rfl) pa_nil))) (pe_callB call_isi (by rfl) m_isi (by decide +kernel) (pa_cons (pv 1) (pa_cons (pe_bltn (v := .ty "list") (u := .type "list") (by rfl) m_list (by decide +kernel) rfl) pa_nil))) (nomark _))))) pss_never pss_nil)
        (pss_cons (ps_if (pt_cmpR op_ne (pe_callB call_len_seq (by rfl) m_len PySem.boot_len (pa_cons (pv 0) pa_nil)) (pe_callB call_len_seq (by rfl) m_len PySem.boot_len (pa_cons (pv 1) pa_nil)) (nomark _)) pss_never pss_nil)
        (pss_one (ps_ret (pe_cmpR (op_eqD hr.units) (pe_lc (own := [("_law_k", 2)]) (g := gName 2) (tt := tNot (tB (tCall (spAlike K n) [] E0 (tCons (tOp (rIx K) (tVar 0) (tVar 2)) (tCons (tOp (rIx K) (tVar 1) (tVar 2)) tNil))))) rfl sc_alike.nd
          (pi_range1 (by rfl) m_range (pa_cons (pe_callB call_len_seq (by rfl) m_len PySem.boot_len (pa_cons (pv 1) pa_nil)) pa_nil)) (blkOk_by (N := ["_law_found", "_law_due", "_law_k"]) (sc := defScope s_L_alike) (by decide +kernel))
          (fun _ _ _ _ _ => by exact pg_name (i := 2) sc_alike.nd rfl (Or.inl rfl)) (fun _ _ _ _ _ => by exact pts_one (pt_not (pt_val (pe_cl C1 hr (pa_cons (pe_ix ix_seq (pv 0) (pv 2) (fun _ _ => rfl)) (pa_cons (pe_ix ix_seq (pv 1) (pv 2) (fun _ _ => rfl)) pa_nil)) (Nat.le_refl _)))))
          (fun _ _ _ _ _ => by exact pv 2)) (pe_lst pa_nil) (nomark _)))))) pss_nil)
      (pss_cons (ps_if (pt_cmp (pc_isN (pv 1)) rfl) (pss_one (ps_ret (pe_cmp (pc_isN (pv 0)) rfl))) pss_nil)
      (pss_cons (ps_if (pt_val (pe_callB call_isi (by rfl) m_isi (by decide +kernel) (pa_cons (pv 1) (pa_cons (pe_bltn (v := .ty "str") (u := .type "str") (by rfl) m_str (by decide +kernel) rfl) pa_nil)))) (pss_one (ps_ret (pe_and (pe_callB call_isi (by rfl) m_isi (by decide +kernel) (pa_cons (pv 0) (pa_cons (pe_bltn (v := .ty "str") (u := .type "str") (by rfl) m_str (by decide +kernel) rfl) pa_nil))) (pe_one (pe_cmpR op_eq (pv 0) (pv 1) (nomark _)))))) pss_nil)
      (pss_cons (ps_if (PW.pt (pw_or (pt_val (pe_callB call_isi (by rfl) m_isi (by decide +kernel) (pa_cons (pv 1) (pa_cons (pe_bltn (v := .ty "bool") (u := .type "bool") (by rfl) m_bool (by decide +kernel) rfl) pa_nil)))) (pw_or1 (pt_val (pe_callB call_isi (by rfl) m_isi (by decide +kernel) (pa_cons (pv 0) (pa_cons (pe_bltn (v := .ty "bool") (u := .type "bool") (by rfl) m_bool (by decide +kernel) rfl) pa_nil))))))) (pss_one (ps_ret (pe_and (pe_callB call_isi (by rfl) m_isi (by decide +kernel) (pa_cons (pv 1) (pa_cons (pe_bltn (v := .ty "bool") (u := .type "bool") (by rfl) m_bool (by decide +kernel) rfl) pa_nil))) (pe_and (pe_callB call_isi (by rfl) m_isi (by decide +kernel) (pa_cons (pv 0) (pa_cons (pe_bltn (v := .ty "bool") (u := .type "bool") (by rfl) m_bool (by decide +kernel) rfl) pa_nil))) (pe_one (pe_cmpR op_eq (pv 0) (pv 1) (nomark _))))))) pss_nil)
      (pss_one (ps_ret (pe_and (pe_callB call_isi (by rfl) m_isi (by decide +kernel) (pa_cons (pv 0) (pa_cons (pe_bltn (v := .ty "int") (u := .type "int") (by rfl) m_int (by decide +kernel) rfl) pa_nil))) (pe_one (pe_cmpR op_eq (pv 0) (pv 1) (nomark _))))))))), ?_⟩
    cases hx with
    | non =>
      cases hy
      refine ⟨_, rfl, (by show 2 ≤ sizeLine; decide), fun p np => ?_⟩
      refine ⟨.non, p, _, _, _, false, rfl, upd_same, .cons (.ty "tuple") (.cons (.ty "list") .nil), .base (.non), (kitAny_cons (b := false) (kit_ty (by decide +kernel)) (fun _ => kitAny_cons (b := false) (kit_ty (by decide +kernel)) (fun _ => kitAny_nil) (fun e => nomatch e)) (fun e => nomatch e)), _, rfl, iteF ?_⟩
      refine ⟨_, rfl, _, rfl, ?_⟩
      rw [decide_eq_true rfl]
      exact iteT ⟨_, rfl, q _ (same_upd np)⟩
    | bl b =>
      cases hy
      refine ⟨_, rfl, (by show 2 ≤ sizeLine; decide), fun p np => ?_⟩
      refine ⟨.bl b, p, _, _, _, false, rfl, upd_same, .cons (.ty "tuple") (.cons (.ty "list") .nil), .base (.bl b), (kitAny_cons (b := false) (kit_ty (by decide +kernel)) (fun _ => kitAny_cons (b := false) (kit_ty (by decide +kernel)) (fun _ => kitAny_nil) (fun e => nomatch e)) (fun e => nomatch e)), _, rfl, iteF ?_⟩
      refine ⟨_, rfl, _, rfl, ?_⟩
      rw [decide_eq_false (show ¬ V.bl b = .non from fun z => nomatch z)]
      refine iteF ?_
      refine ⟨_, rfl, .bl b, _, _, _, false, rfl, .ty "str", .base (.bl b), kit_ty (by decide +kernel), _, rfl, iteF ?_⟩
      refine ⟨_, rfl, .bl b, _, _, _, true, rfl, .ty "bool", .base (.bl b), kit_ty (by decide +kernel), _, rfl, iteT ?_⟩
      refine ⟨_, rfl, .bl b, _, _, _, true, rfl, .ty "bool", .base (.bl b), kit_ty (by decide +kernel), true, rfl, iteT ?_⟩
      refine ⟨_, rfl, .bl b, _, _, _, true, rfl, .ty "bool", .base (.bl b), kit_ty (by decide +kernel), true, rfl, iteT ⟨_, rfl, _, rfl, rfl, ?_⟩⟩
      rw [decide_eq_true rfl]
      exact q _ (same_upd np)
    | int i =>
      cases hy
      refine ⟨_, rfl, (by show 2 ≤ sizeLine; decide), fun p np => ?_⟩
      refine ⟨.int i, p, _, _, _, false, rfl, upd_same, .cons (.ty "tuple") (.cons (.ty "list") .nil), .base (.int i), (kitAny_cons (b := false) (kit_ty (by decide +kernel)) (fun _ => kitAny_cons (b := false) (kit_ty (by decide +kernel)) (fun _ => kitAny_nil) (fun e => nomatch e)) (fun e => nomatch e)), _, rfl, iteF ?_⟩
      refine ⟨_, rfl, _, rfl, ?_⟩
      rw [decide_eq_false (show ¬ V.int i = .non from fun z => nomatch z)]
      refine iteF ?_
      refine ⟨_, rfl, .int i, _, _, _, false, rfl, .ty "str", .base (.int i), kit_ty (by decide +kernel), _, rfl, iteF ?_⟩
      refine ⟨_, rfl, .int i, _, _, _, false, rfl, .ty "bool", .base (.int i), kit_ty (by decide +kernel), _, rfl, iteF ?_⟩
      refine ⟨_, rfl, .int i, _, _, _, false, rfl, .ty "bool", .base (.int i), kit_ty (by decide +kernel), _, rfl, iteF ?_⟩
      refine ⟨_, rfl, .int i, _, _, _, true, rfl, .ty "int", .base (.int i), kit_ty (by decide +kernel), true, rfl, iteT ⟨_, rfl, _, rfl, rfl, ?_⟩⟩
      rw [decide_eq_true rfl]
      exact q _ (same_upd np)
    | str s =>
      cases hy
      refine ⟨_, rfl, (by show 2 ≤ sizeLine; decide), fun p np => ?_⟩
      refine ⟨.str s, p, _, _, _, false, rfl, upd_same, .cons (.ty "tuple") (.cons (.ty "list") .nil), .base (.str s), (kitAny_cons (b := false) (kit_ty (by decide +kernel)) (fun _ => kitAny_cons (b := false) (kit_ty (by decide +kernel)) (fun _ => kitAny_nil) (fun e => nomatch e)) (fun e => nomatch e)), _, rfl, iteF ?_⟩
      refine ⟨_, rfl, _, rfl, ?_⟩
      rw [decide_eq_false (show ¬ V.str s = .non from fun z => nomatch z)]
      refine iteF ?_
      refine ⟨_, rfl, .str s, _, _, _, true, rfl, .ty "str", .base (.str s), kit_ty (by decide +kernel), _, rfl, iteT ?_⟩
      refine ⟨_, rfl, .str s, _, _, _, true, rfl, .ty "str", .base (.str s), kit_ty (by decide +kernel), true, rfl, iteT ⟨_, rfl, _, rfl, rfl, ?_⟩⟩
      rw [decide_eq_true rfl]
      exact q _ (same_upd np)
    | @lst a xs ds hs hal =>
      cases hy with
      | @lst a2 ys _ hs2 hal2 =>
      have lx := dpAll_len hal
      have ly := dpAll_len hal2
      obtain ⟨zl, za⟩ := szOk_lst hz
      have hdd : PyData.depthAll ds ≤ n := Nat.le_of_succ_le_succ hd
      refine ⟨_, rfl, (by show 2 ≤ sizeLine; decide), fun p np => ?_⟩
      have s1 := same_upd (o := .tup [V.ty "tuple", V.ty "list"]) np
      refine ⟨.ref a2, p, _, _, _, true, rfl, upd_same, .cons (.ty "tuple") (.cons (.ty "list") .nil), ty_list (Same.seq s1 hs2), (kitAny_cons (b := false) (kit_ty (by decide +kernel)) (fun _ => kitAny_cons (b := true) (r := true) (kit_ty (by decide +kernel)) (fun e => nomatch e) (fun _ => rfl)) (fun e => nomatch e)), _, rfl, iteT ?_⟩
      refine ⟨_, rfl, (by show 2 ≤ sizeLine; decide), fun p2 np2 => ?_⟩
      have s2 := s1.trans (same_upd (o := .tup [V.ty "tuple", V.ty "list"]) np2)
      refine ⟨.ref a, p2, _, _, _, true, rfl, upd_same, .cons (.ty "tuple") (.cons (.ty "list") .nil), ty_list (Same.seq s2 hs), (kitAny_cons (b := false) (kit_ty (by decide +kernel)) (fun _ => kitAny_cons (b := true) (r := true) (kit_ty (by decide +kernel)) (fun e => nomatch e) (fun _ => rfl)) (fun e => nomatch e)), _, rfl, iteF ?_⟩
      refine ⟨_, rfl, .ref a, _, _, _, true, rfl, .ty "list", ty_list (Same.seq s2 hs), kit_ty (by decide +kernel), ?_⟩
      refine ⟨_, rfl, .ref a2, _, _, _, true, rfl, .ty "list", ty_list (Same.seq s2 hs2), kit_ty (by decide +kernel), rfl, _, rfl, iteF ?_⟩
      refine ⟨_, rfl, a, xs, rfl, .inl (Same.seq s2 hs), _, rfl, a2, ys, rfl, .inl (Same.seq s2 hs2), rfl, _, rfl, ?_⟩
      rw [lx, ly]
      refine iteNS rfl ?_
      have sz : ds.length ≤ sizeLine := by
        exact Nat.le_trans zl (by decide)
      have szn : sizeLine < 2 ^ 62 := by decide
      refine ⟨_, rfl, a2, ys, rfl, .inl (Same.seq s2 hs2), _, rfl, by omega, by omega, fun D nD => ?_⟩
      rw [Int.toNat_natCast, ly]
      refine lc_range (lo := 0) (n := ds.length) (fun i H3 => Same (upd (upd H p (.tup [V.ty "tuple", V.ty "list"])) p2 (.tup [V.ty "tuple", V.ty "list"])) H3 ∧ H3 D = some (.lst [])) ⟨same_upd nD, upd_same⟩ ?_ ?_
      · rintro i H3 hi ⟨s3, eD⟩
        have s4 := s2.trans s3
        obtain ⟨v, d, gv, gd, hv⟩ := dpAll_get hal hi
        obtain ⟨v2, d2, gv2, gd2, hv2⟩ := dpAll_get hal2 hi
        have ed : d2 = d := Option.some.inj (gd2.symm.trans gd)
        subst ed
        refine ⟨rfl, _, rfl, _, rfl, .inl ⟨a, _, _, _, rfl, rfl, Same.seq s4 hs, at_of (j := i) (Int.zero_add _) gv, ?_⟩⟩
        refine ⟨_, rfl, _, rfl, .inl ⟨a2, _, _, _, rfl, rfl, Same.seq s4 hs2, at_of (j := i) (Int.zero_add _) gv2, ?_⟩⟩
        refine ⟨v, v2, d2, rfl, Dp.same s4 d2 _ hv, Dp.same s4 d2 _ hv2, Nat.le_trans (depth_get gd) hdd, sz_get gd za, fun H5 s5 => ⟨_, rfl, ?_⟩⟩
        exact ⟨s3.trans s5, s5 _ _ eD⟩
      · rintro H3 ⟨s3, eD⟩
        refine ⟨Nat.zero_le _, fun p3 np3 => ?_⟩
        refine ⟨.list [], .list [], Dp.lst (SqL.of (same_upd np3 _ _ eD)) .nil, Dp.lst (SqL.of upd_same) .nil, PySem.W.shaped_ints [], PySem.W.shaped_ints [], ?_⟩
        rw [show PyData.eqv (.list []) (.list []) = true from eqv_nil []]
        exact q _ ((s2.trans s3).trans (same_upd np3))
    | @tup a xs ds hs hal =>
      cases hy with
      | @tup a2 ys _ hs2 hal2 =>
      have lx := dpAll_len hal
      have ly := dpAll_len hal2
      obtain ⟨zl, za⟩ := szOk_tup hz
      have hdd : PyData.depthAll ds ≤ n := Nat.le_of_succ_le_succ hd
      refine ⟨_, rfl, (by show 2 ≤ sizeLine; decide), fun p np => ?_⟩
      have s1 := same_upd (o := .tup [V.ty "tuple", V.ty "list"]) np
      refine ⟨.ref a2, p, _, _, _, true, rfl, upd_same, .cons (.ty "tuple") (.cons (.ty "list") .nil), ty_tup (Same.seqT s1 hs2), (kitAny_cons (b := true) (r := true) (kit_ty (by decide +kernel)) (fun e => nomatch e) (fun _ => rfl)), _, rfl, iteT ?_⟩
      refine ⟨_, rfl, (by show 2 ≤ sizeLine; decide), fun p2 np2 => ?_⟩
      have s2 := s1.trans (same_upd (o := .tup [V.ty "tuple", V.ty "list"]) np2)
      refine ⟨.ref a, p2, _, _, _, true, rfl, upd_same, .cons (.ty "tuple") (.cons (.ty "list") .nil), ty_tup (Same.seqT s2 hs), (kitAny_cons (b := true) (r := true) (kit_ty (by decide +kernel)) (fun e => nomatch e) (fun _ => rfl)), _, rfl, iteF ?_⟩
      refine ⟨_, rfl, .ref a, _, _, _, false, rfl, .ty "list", ty_tup (Same.seqT s2 hs), kit_ty (by decide +kernel), ?_⟩
      refine ⟨_, rfl, .ref a2, _, _, _, false, rfl, .ty "list", ty_tup (Same.seqT s2 hs2), kit_ty (by decide +kernel), rfl, _, rfl, iteF ?_⟩
      refine ⟨_, rfl, a, xs, rfl, .inr (Same.seqT s2 hs), _, rfl, a2, ys, rfl, .inr (Same.seqT s2 hs2), rfl, _, rfl, ?_⟩
      rw [lx, ly]
      refine iteNS rfl ?_
      have sz : ds.length ≤ sizeLine := by
        exact Nat.le_trans zl (by decide)
      have szn : sizeLine < 2 ^ 62 := by decide
      refine ⟨_, rfl, a2, ys, rfl, .inr (Same.seqT s2 hs2), _, rfl, by omega, by omega, fun D nD => ?_⟩
      rw [Int.toNat_natCast, ly]
      refine lc_range (lo := 0) (n := ds.length) (fun i H3 => Same (upd (upd H p (.tup [V.ty "tuple", V.ty "list"])) p2 (.tup [V.ty "tuple", V.ty "list"])) H3 ∧ H3 D = some (.lst [])) ⟨same_upd nD, upd_same⟩ ?_ ?_
      · rintro i H3 hi ⟨s3, eD⟩
        have s4 := s2.trans s3
        obtain ⟨v, d, gv, gd, hv⟩ := dpAll_get hal hi
        obtain ⟨v2, d2, gv2, gd2, hv2⟩ := dpAll_get hal2 hi
        have ed : d2 = d := Option.some.inj (gd2.symm.trans gd)
        subst ed
        refine ⟨rfl, _, rfl, _, rfl, .inr (.inl ⟨a, _, _, _, rfl, rfl, Same.seqT s4 hs, at_of (j := i) (Int.zero_add _) gv, ?_⟩)⟩
        refine ⟨_, rfl, _, rfl, .inr (.inl ⟨a2, _, _, _, rfl, rfl, Same.seqT s4 hs2, at_of (j := i) (Int.zero_add _) gv2, ?_⟩)⟩
        refine ⟨v, v2, d2, rfl, Dp.same s4 d2 _ hv, Dp.same s4 d2 _ hv2, Nat.le_trans (depth_get gd) hdd, sz_get gd za, fun H5 s5 => ⟨_, rfl, ?_⟩⟩
        exact ⟨s3.trans s5, s5 _ _ eD⟩
      · rintro H3 ⟨s3, eD⟩
        refine ⟨Nat.zero_le _, fun p3 np3 => ?_⟩
        refine ⟨.list [], .list [], Dp.lst (SqL.of (same_upd np3 _ _ eD)) .nil, Dp.lst (SqL.of upd_same) .nil, PySem.W.shaped_ints [], PySem.W.shaped_ints [], ?_⟩
        rw [show PyData.eqv (.list []) (.list []) = true from eqv_nil []]
        exact q _ ((s2.trans s3).trans (same_upd np3))
end

/-! ### marks, spans as data -/
def pdO : Option Nat → PyData
  | none => .none
  | some n => .int (n : Int)
theorem dpO {K : PySem.W.Frag} {H : Hp} : ∀ o : Option Nat, Dp K H (oV o) (pdO o)
  | none => .non
  | some n => .int (n : Int)
def pdM (ms : List Nat) : List PyData := (ms.map Int.ofNat).map PyData.int
theorem dpM {K : PySem.W.Frag} {H : Hp} (ms : List Nat) : DpAll K H (nvs ms) (pdM ms) := dpAll_ints _
def pdS (s : Option Nat × Option Nat) : PyData := .tuple [pdO s.1, pdO s.2]
theorem dp_tups {K : PySem.W.Frag} {H : Hp} : ∀ {Ts : List Addr} {sp : Sps}, TupsAt H Ts sp → DpAll K H (Ts.map V.ref) (sp.map pdS)
  | [], [], _ => .nil
  | [], s :: r, h => absurd h.len (fun z => nomatch z)
  | T :: r, [], h => absurd h.len (fun z => nomatch z)
  | T :: r, s :: q, h => .cons (.tup (SqT.of (h.at_ 0 T s rfl rfl)) (.cons (dpO s.1) (.cons (dpO s.2) .nil))) (dp_tups (Ts := r) (sp := q) ⟨Nat.succ.inj h.len, fun j T' s' h1 h2 => h.at_ (j + 1) T' s' h1 h2⟩)
theorem depthAll_le {n : Nat} : ∀ {ds : List PyData}, (∀ d, d ∈ ds → PyData.depth d ≤ n) → PyData.depthAll ds ≤ n
  | [], _ => Nat.zero_le _
  | d :: r, h => by
    have h1 := h d List.mem_cons_self
    have h2 := depthAll_le (ds := r) fun x hx => h x (List.mem_cons_of_mem _ hx)
    simp only [PyData.depthAll]
    omega
theorem szAll_of : ∀ {ds : List PyData}, (∀ d, d ∈ ds → szOk d = true) → szAll ds = true
  | [], _ => rfl
  | d :: r, h => by
    have h1 := h d List.mem_cons_self
    have h2 := szAll_of (ds := r) fun x hx => h x (List.mem_cons_of_mem _ hx)
    simp only [szAll, h1, h2, Bool.and_self]
theorem pdO_d (o : Option Nat) : PyData.depth (pdO o) = 0 := by cases o <;> rfl
theorem pdO_s (o : Option Nat) : szOk (pdO o) = true := by cases o <;> rfl
theorem pdM_d (ms : List Nat) : PyData.depthAll (pdM ms) ≤ 0 := depthAll_le fun d hd => by
  obtain ⟨i, _, rfl⟩ := List.mem_map.mp hd
  exact Nat.le_refl 0
theorem pdM_s (ms : List Nat) : szAll (pdM ms) = true := szAll_of fun d hd => by
  obtain ⟨i, _, rfl⟩ := List.mem_map.mp hd
  rfl
theorem pdM_len (ms : List Nat) : (pdM ms).length = ms.length := by
  unfold pdM
  rw [List.length_map, List.length_map]
theorem pdS_d (s : Option Nat × Option Nat) : PyData.depth (pdS s) ≤ 1 := by
  unfold pdS
  simp only [PyData.depth, PyData.depthAll, pdO_d]
  decide
theorem pdS_s (s : Option Nat × Option Nat) : szOk (pdS s) = true := by
  unfold pdS
  simp only [szOk, szAll, pdO_s]
  rfl
theorem pdSs_d (sp : Sps) : PyData.depthAll (sp.map pdS) ≤ 1 := depthAll_le fun d hd => by
  obtain ⟨i, _, rfl⟩ := List.mem_map.mp hd
  exact pdS_d i
theorem pdSs_s (sp : Sps) : szAll (sp.map pdS) = true := szAll_of fun d hd => by
  obtain ⟨i, _, rfl⟩ := List.mem_map.mp hd
  exact pdS_s i
theorem agesF_len (R : Ru) (now : Nat) (ms : List Nat) : (agesF R now ms).length = ms.length := by unfold agesF; rw [List.length_map]
/-- a list of marks -/
def pdMs (ms : List Nat) : PyData := .list (pdM ms)
/-- a list of spans -/
def pdSp (sp : Sps) : PyData := .list (sp.map pdS)
theorem pdMs_d (ms : List Nat) : PyData.depth (pdMs ms) ≤ 1 := Nat.succ_le_succ (pdM_d ms)
theorem pdSp_d (sp : Sps) : PyData.depth (pdSp sp) ≤ 2 := Nat.succ_le_succ (pdSs_d sp)
theorem szOk_l {ds : List PyData} (h : ds.length ≤ 1000) (a : szAll ds = true) : szOk (.list ds) = true := by
  simp only [szOk, a, Bool.and_true]
  exact decide_eq_true h
theorem pdMs_s {ms : List Nat} (h : ms.length ≤ 1000) : szOk (pdMs ms) = true := szOk_l (by rw [pdM_len]; exact h) (pdM_s ms)
theorem pdSp_s {sp : Sps} (h : sp.length ≤ 1000) : szOk (pdSp sp) = true := szOk_l (by rw [List.length_map]; exact h) (pdSs_s sp)
theorem dpMs {K : PySem.W.Frag} {H : Hp} {a : Addr} {ms : List Nat} (h : H a = some (.lst (nvs ms))) : Dp K H (.ref a) (pdMs ms) := .lst (SqL.of h) (dpM ms)
theorem dpSp {K : PySem.W.Frag} {H : Hp} {a : Addr} {Ts : List Addr} {sp : Sps} (h : H a = some (.lst (Ts.map V.ref))) (ta : TupsAt H Ts sp) : Dp K H (.ref a) (pdSp sp) := .lst (SqL.of h) (dp_tups ta)
/-! ### the law's own helpers -/
def spMix (K : PySem.W.Frag) : Sp := fun vs H Q _ => ∃ (a : Addr) (sd : Int) (ns : List Int), vs = [.ref a, .int sd] ∧ SqL K H a (ns.map V.int) ∧ ns.length ≤ 63 ∧ 0 ≤ sd ∧ sd < 2147483647 ∧ ∀ H' h c, HAt H' h c → H h = none → H c = none → Same H H' → Q (.ref h) H'
def spNext : Sp := fun vs H Q _ => ∃ (h c : Addr) (m : Int), vs = [.ref h, .int m] ∧ 1 ≤ m ∧ m < 1073741824 ∧ HAt H h c ∧ ∀ (r : Nat) H', (r : Int) < m → HAt H' h c → Kp2 h c H H' → Q (.int (r : Int)) H'
section
variable {P : Program} {w : World} {K : PySem.W.Frag} {mg : Str → Option Value} {base : Heap}
theorem sc_mix : FnScope ["_law_script", "_law_seed", "_law_mixed", "_law_cell"] ["_law_script", "_law_seed"] (defScope s_L_mix) := ⟨rfl, rfl, rfl, by decide +kernel, rfl, by decide +kernel, by decide +kernel⟩
theorem ok_mix (D : DefAt K mg "_law_mix" s_L_mix ["_law_script", "_law_seed"]) (m_list : mg "list" = none) : Cl P w K mg base 1 "_law_mix" ["_law_script", "_law_seed"] (spMix K) := by
  refine D.cl fun f fd F => ?_
  refine F.ok sc_mix (fun vs H Q E h => ?_) (fun cdv A outer s H vs Q E hr h => ?_)
  · obtain ⟨a, sd, ns, rfl, _⟩ := h
    rfl
  · obtain ⟨a, sd, ns, rfl, hS, hl, s0, s1, q⟩ := h
    refine ⟨_, pss_cons (ps_set (i := 2) sc_mix.nd rfl (Or.inl rfl) (pv 1))
      (pss_cons (ps_for PassesOwn.never rfl (pi_list (pv 0)) (pg_name (i := 3) sc_mix.nd rfl (Or.inl rfl))
        (pss_one (ps_set (i := 2) sc_mix.nd rfl (Or.inl rfl) (pe_op op_mod (pe_op op_add (pe_op op_add (pe_op op_mul (pv 2) pe_int) (pe_op op_mod (pv 3) pe_int)) pe_int) pe_int))))
      (pss_one (ps_ret (pe_lst (pa_cons (pv 2) (pa_cons (pe_callTy call_list_of (by rfl) m_list (by decide +kernel) (pa_cons (pv 0) pa_nil)) (pa_cons pe_int pa_nil))))))), ?_⟩
    refine ⟨_, rfl, ?_⟩
    refine ⟨_, rfl, a, rfl, ⟨_, hS⟩, for_list (K := K) (a := a) (xs := ns.map V.int) (fun i σ H' => ∃ (mx : Int) (v : Option V), σ = [some (.ref a), some (.int sd), some (.int mx), v] ∧ H' = H ∧ 0 ≤ mx ∧ mx < 2147483647)
      ⟨sd, none, rfl, rfl, s0, s1⟩ (fun i σ H' _ ⟨_, _, _, e, _⟩ => by rw [e]; exact hS) ?_ ?_⟩
    · rintro i y σ H' hi ⟨mx, v, rfl, rfl, m0, m1⟩
      obtain ⟨z, rfl⟩ : ∃ z, y = V.int z := by
        rw [List.getElem?_map] at hi
        cases e : ns[i]? with
        | none =>
          rw [e] at hi
          cases hi
        | some z =>
          rw [e] at hi
          exact ⟨z, (Option.some.inj hi).symm⟩
      refine ⟨_, rfl, _, _, rfl, rfl, .inl (le64 m0 (by omega)), _, rfl, _, _, rfl, rfl, (by show (0 : Int) < 2147483629; decide), _, _, rfl, rfl, _, _, rfl, rfl, _, _, rfl, rfl, (by show (0 : Int) < 2147483647; decide), ?_⟩
      exact ⟨_, some (.int z), rfl, rfl, Int.emod_nonneg _ (by decide), Int.emod_lt_of_pos _ (by decide)⟩
    · rintro σ H' ⟨mx, v, rfl, rfl, m0, m1⟩
      refine ⟨_, rfl, _, rfl, a, ns.map V.int, rfl, .inl hS, fun c nc => ?_⟩
      refine ⟨(by show 3 ≤ sizeLine; decide), fun h nh => ?_⟩
      have sc' : Same H' (upd H' c (.lst (ns.map V.int))) := same_upd nc
      have nch : c ≠ h := ne_of_none upd_same nh
      refine q _ h c ⟨⟨mx, 0, ns, upd_same, ?_, m0, m1, Int.le_refl 0, hl⟩, nch.symm⟩ (sc'.free nh) nc (sc'.trans (same_upd nh))
      rw [upd_ne nch, upd_same]
theorem sc_next : FnScope ["_law_h", "_law_many", "_law_at", "_law_cell"] ["_law_h", "_law_many"] (defScope s_L_next) := ⟨rfl, rfl, rfl, by decide +kernel, rfl, by decide +kernel, by decide +kernel⟩
theorem ok_next (D : DefAt K mg "_law_next" s_L_next ["_law_h", "_law_many"]) (m_max : mg "max" = none) (m_len : mg "len" = none) : Cl P w K mg base 1 "_law_next" ["_law_h", "_law_many"] spNext := by
  refine D.cl fun f fd F => ?_
  refine F.ok sc_next (fun vs H Q E h => ?_) (fun cdv A outer s H vs Q E hr h => ?_)
  · obtain ⟨h, c, m, rfl, _⟩ := h
    rfl
  · obtain ⟨h, c, m, rfl, h1, h2, ha, q⟩ := h
    obtain ⟨⟨mx, pl, ns, eh, ec, m0, m1, p0, hl⟩, nhc⟩ := ha
    refine ⟨_, pss_cons (ps_set (i := 2) sc_next.nd rfl (Or.inl rfl) (pe_op op_mod (pe_ix ix_list (pv 0) pe_int (fun _ _ => rfl)) (pe_callB (call_max2 rfl) (by rfl) m_max (by decide +kernel) (pa_cons pe_int (pa_cons (pe_callB call_len_seq (by rfl) m_len PySem.boot_len (pa_cons (pe_ix ix_list (pv 0) pe_int (fun _ _ => rfl)) pa_nil)) pa_nil)))))
      (pss_cons (ps_set (i := 3) sc_next.nd rfl (Or.inl rfl) (pe_ifExp (pt_cmpR (op_neD hr.units) (pe_ix ix_list (pv 0) pe_int (fun _ _ => rfl)) (pe_lst pa_nil) (nomark _)) (pe_ix ix_list (pe_ix ix_list (pv 0) pe_int (fun _ _ => rfl)) (pv 2) (fun _ _ => rfl)) pe_int))
      (pss_cons (ps_if (pt_cmpR op_ge (pv 3) (pe_op op_pow pe_int pe_int) (nomark _))
        (pss_cons (ps_asg (pe_op op_fdiv (pv 3) (pv 1)) (pg_sub (pe_ix ix_list (pv 0) pe_int (fun _ _ => rfl)) (pv 2) set_list)) (pss_one (ps_ret (pe_op op_mod (pv 3) (pv 1))))) pss_nil)
      (pss_cons (ps_asg (pe_op op_mod (pe_op op_add (pe_op op_add (pe_op op_mul (pe_ix ix_list (pv 0) pe_int (fun _ _ => rfl)) pe_int) (pe_op op_mul (pv 3) pe_int)) pe_int) pe_int) (pg_sub (pv 0) pe_int set_list))
      (pss_cons (ps_asg (pe_op op_add (pe_ix ix_list (pv 0) pe_int (fun _ _ => rfl)) pe_int) (pg_sub (pv 0) pe_int set_list))
      (pss_one (ps_ret (pe_op op_mod (pe_op op_fdiv (pe_ix ix_list (pv 0) pe_int (fun _ _ => rfl)) pe_int) (pv 1)))))))), ?_⟩
    have a1 : atI [V.int mx, V.ref c, V.int pl] 1 = some (.ref c) := atI_nat (j := 1) rfl
    have a0 : atI [V.int mx, V.ref c, V.int pl] 0 = some (.int mx) := atI_nat (j := 0) rfl
    have a2 : atI [V.int mx, V.ref c, V.int pl] 2 = some (.int pl) := atI_nat (j := 2) rfl
    have hz : ((ns.map V.int).length : Int) = (ns.length : Int) := by rw [List.length_map]
    obtain ⟨M, hM, hM1, hM2⟩ : ∃ M : Int, (if ((ns.map V.int).length : Int) > 1 then ((ns.map V.int).length : Int) else 1) = M ∧ 1 ≤ M ∧ (ns ≠ [] → M = ns.length) := by
      refine ⟨_, rfl, ?_, ?_⟩
      · split <;> omega
      · intro hn
        have : 1 ≤ ns.length := List.length_pos_iff.mpr hn
        rw [hz]
        split <;> omega
    -- _law_at
    refine ⟨_, rfl, h, _, _, _, rfl, rfl, SqL.of eh, a2, _, rfl, h, _, _, _, rfl, rfl, SqL.of eh, a1, c, _, rfl, .inl (SqL.of ec), _, _, rfl, ?_⟩
    dsimp only
    rw [hM]
    refine ⟨_, _, rfl, rfl, (by show 0 < M; omega), ?_⟩
    have at0 : 0 ≤ pl % M := Int.emod_nonneg _ (by omega)
    have at1 : pl % M < M := Int.emod_lt_of_pos _ (by omega)
    -- _law_cell
    refine ⟨_, rfl, h, _, _, _, rfl, rfl, SqL.of eh, a1, (by show 0 ≤ sizeLine; decide), fun p np => ?_⟩
    have sp : Same H (upd H p (.lst [])) := same_upd np
    have eh1 := sp _ _ eh
    have ec1 := sp _ _ ec
    refine ⟨.list (ns.map PyData.int), .list [], Dp.lst (SqL.of ec1) (dpAll_ints ns), Dp.lst (SqL.of upd_same) .nil, PySem.W.shaped_ints ns, PySem.W.shaped_ints [], _, rfl, ?_⟩
    rw [eqv_nil]
    refine join_if (fun v H' => ∃ z : Int, v = .int z ∧ H' = upd H p (.lst []) ∧ (1000000000000000000 ≤ z → ns ≠ [])) ?_ ?_ ?_
    · rintro v H' ⟨z, rfl, rfl, hzn⟩
      refine ⟨_, rfl, _, _, rfl, rfl, ⟨by decide, by decide, by decide⟩, _, _, rfl, rfl, _, rfl, ?_⟩
      have e18 : (10 : Int) ^ (18 : Int).toNat = 1000000000000000000 := by decide
      dsimp only
      rw [e18]
      by_cases big : 1000000000000000000 ≤ z
      · rw [decide_eq_true big]
        refine iteT ?_
        have hn := hzn big
        have hj : (pl % M).toNat < ns.length := by
          have := hM2 hn
          omega
        refine ⟨_, rfl, _, rfl, _, _, rfl, rfl, ⟨by omega, by omega⟩, _, rfl, h, _, _, _, rfl, rfl, SqL.of eh1, a1, _, rfl, c, _, _, (pl % M).toNat, rfl, rfl, ec1, ?_, ?_⟩
        · rw [List.length_map]
          exact ixN_nn at0 (by omega)
        · refine ⟨_, rfl, _, rfl, _, _, rfl, rfl, (by show 0 < m; omega), ?_⟩
          dsimp only
          have e : z % m = ((z % m).toNat : Int) := (Int.toNat_of_nonneg (Int.emod_nonneg _ (by omega))).symm
          have lt := Int.emod_lt_of_pos z (show 0 < m by omega)
          rw [e]
          refine q _ _ (by omega) ⟨⟨mx, pl, ns.set (pl % M).toNat (z / m), ?_, ?_, m0, m1, p0, by rw [List.length_set]; exact hl⟩, nhc⟩ fun b o eb n1 n2 => ?_
          · rw [upd_ne nhc]
            exact eh1
          · rw [upd_same, List.map_set]
          · rw [upd_ne n2]
            exact sp _ _ eb
      · rw [decide_eq_false big]
        refine iteF ?_
        refine ⟨_, rfl, h, _, _, _, rfl, rfl, SqL.of eh1, a0, _, _, rfl, rfl, .inl (le64 m0 (by omega)), _, rfl, _, _, rfl, rfl, .inr ⟨by decide, by decide⟩, _, _, rfl, rfl, _, _, rfl, rfl, _, _, rfl, rfl, (by show (0 : Int) < 2147483647; decide),
          _, rfl, h, _, _, 0, rfl, rfl, eh1, rfl, ?_⟩
        refine ⟨_, rfl, h, _, _, _, rfl, rfl, SqL.of upd_same, atI_nat (j := 2) rfl, _, _, rfl, rfl, _, rfl, h, _, _, 2, rfl, rfl, upd_same, rfl, ?_⟩
        refine ⟨_, rfl, h, _, _, _, rfl, rfl, SqL.of upd_same, atI_nat (j := 0) rfl, _, _, rfl, rfl, ⟨by decide, by decide⟩, _, rfl, _, _, rfl, rfl, (by show 0 < m; omega), ?_⟩
        dsimp only
        have n0 := Int.emod_nonneg (mx * 48271 + z * 69621 + 11) (show (2147483647 : Int) ≠ 0 by decide)
        have n1 := Int.emod_lt_of_pos (mx * 48271 + z * 69621 + 11) (show (0 : Int) < 2147483647 by decide)
        generalize (mx * 48271 + z * 69621 + 11) % 2147483647 = y at n0 n1 ⊢
        have e : y / 7 % m = ((y / 7 % m).toNat : Int) := (Int.toNat_of_nonneg (Int.emod_nonneg _ (by omega))).symm
        have lt := Int.emod_lt_of_pos (y / 7) (show 0 < m by omega)
        rw [e]
        refine q _ _ (by omega) ⟨⟨y, pl + 1, ns, ?_, ?_, n0, n1, by omega, hl⟩, nhc⟩ fun b o eb n1 n2 => ?_
        · rw [upd_same]
          rfl
        · rw [upd_ne nhc.symm, upd_ne nhc.symm]
          exact ec1
        · rw [upd_ne n1, upd_ne n1]
          exact sp _ _ eb
    · intro e
      have hn : ns ≠ [] := by
        intro z
        subst z
        cases e
      have hj : (pl % M).toNat < ns.length := by
        have := hM2 hn
        omega
      exact ⟨.int ns[(pl % M).toNat], _, fun Q q => ⟨_, rfl, h, _, _, _, rfl, rfl, SqL.of eh1, a1, _, rfl, c, _, _, _, rfl, rfl, SqL.of ec1, at_of (j := (pl % M).toNat) (by omega) (by rw [List.getElem?_map, List.getElem?_eq_getElem hj]; rfl), q⟩, _, rfl, rfl, fun _ => hn⟩
    · intro e
      exact ⟨.int 0, _, fun Q q => q, 0, rfl, rfl, fun h => absurd h (by decide)⟩
end
/-! ### shapes of data -/
theorem canLayAll_of : ∀ {ds : List PyData}, (∀ d, d ∈ ds → PyData.canLay0 d = true) → PyData.canLayAll0 ds = true
  | [], _ => by simp only [PyData.canLayAll0]
  | d :: r, h => by
    have h1 := h d List.mem_cons_self
    have h2 := canLayAll_of (ds := r) fun x hx => h x (List.mem_cons_of_mem _ hx)
    simp only [PyData.canLayAll0, h1, h2, Bool.and_self]
theorem shaped_of {d : PyData} (h : PyData.canLay0 d = true) (h2 : PyData.depth d ≤ 64) : SeqAt.shaped d = true := by
  unfold SeqAt.shaped
  rw [h, decide_eq_true h2]
  rfl
theorem pdO_l (o : Option Nat) : PyData.canLay0 (pdO o) = true := by cases o <;> simp only [pdO, PyData.canLay0]
theorem pdS_l (s : Option Nat × Option Nat) : PyData.canLay0 (pdS s) = true := by
  unfold pdS
  simp only [PyData.canLay0, PyData.canLayAll0, pdO_l, Bool.and_self]
theorem pdSp_shaped (sp : Sps) : SeqAt.shaped (pdSp sp) = true := by
  refine shaped_of ?_ (Nat.le_trans (pdSp_d sp) (by decide))
  unfold pdSp
  simp only [PyData.canLay0]
  exact canLayAll_of fun d hd => by
    obtain ⟨i, _, rfl⟩ := List.mem_map.mp hd
    exact pdS_l i
theorem eqv_nilL (ds : List PyData) : PyData.eqv (.list ds) (.list []) = ds.isEmpty := by
  cases ds with
  | nil => simp [PyData.eqv, PyData.eqvAll]
  | cons n r => simp [PyData.eqv, PyData.eqvAll]
theorem shaped_nil : SeqAt.shaped (.list []) = true := PySem.W.shaped_ints []
theorem TupsAt.snoc {H H' : Hp} {Ts : List Addr} {sp : Sps} {T : Addr} {s : Option Nat × Option Nat} (a : TupsAt H Ts sp) (k : ∀ x xs, H x = some (.tup xs) → H' x = some (.tup xs)) (e : H' T = some (.tup [oV s.1, oV s.2])) : TupsAt H' (Ts ++ [T]) (sp ++ [s]) := by
  refine ⟨by rw [List.length_append, List.length_append, a.len]; rfl, fun j T' s' h1 h2 => ?_⟩
  by_cases jl : j < Ts.length
  · rw [List.getElem?_append_left jl] at h1
    rw [List.getElem?_append_left (by rw [← a.len]; exact jl)] at h2
    exact k _ _ (a.at_ j T' s' h1 h2)
  · have jn := (List.getElem?_eq_some_iff.mp h1).1
    rw [List.length_append] at jn
    have je : j = Ts.length := by
      have : j < Ts.length + 1 := jn
      omega
    subst je
    rw [List.getElem?_append_right (Nat.le_refl _), Nat.sub_self] at h1
    rw [a.len, List.getElem?_append_right (Nat.le_refl _), Nat.sub_self] at h2
    cases h1
    cases h2
    exact e
theorem filter_isEmpty {α : Type} (l : List α) (f : α → Bool) : (l.filter f).isEmpty = !(l.any f) := by
  induction l with
  | nil => rfl
  | cons x r ih =>
    by_cases h : f x = true
    · rw [List.filter_cons_of_pos h, List.any_cons, h]
      rfl
    · rw [List.filter_cons_of_neg h, List.any_cons, ih, show f x = false by simpa using h, Bool.false_or]
theorem eqv_same {d : PyData} (h : SeqAt.shaped d = true) : PyData.eqv d d = true := by
  first
    | exact PySem.Calls.eqv_refl d (SeqAt.canLay_of_shaped h)
    | exact PyData.eqv_refl d (SeqAt.canLay_of_shaped h)
    | exact SeqAt.eqv_refl d (SeqAt.canLay_of_shaped h)
    | exact eqv_refl d (SeqAt.canLay_of_shaped h)
/-! ### boards apart -/
structure Bd where
  b : Addr
  p : Addr
  am : Addr
  R : Ru
  ms : List Nat
  now : Nat
abbrev Bd.at (C : Addr) (H : Hp) (B : Bd) : Prop := BAt C H B.b B.p B.am B.R B.ms B.now
structure Bds (C : Addr) (H : Hp) (h c : Addr) (Bs : List Bd) (kp : List (Addr × List V)) : Prop where
  ha : HAt H h c
  at_ : ∀ B, B ∈ Bs → B.at C H
  hs : ∀ B, B ∈ Bs → B.am ≠ h ∧ B.am ≠ c
  pw : ∀ (i j : Nat) (B B' : Bd), Bs[i]? = some B → Bs[j]? = some B' → i ≠ j → B.b ≠ B'.b ∧ B.am ≠ B'.am
  ks : ∀ x, x ∈ kp → H x.1 = some (.lst x.2)
  kh : ∀ x, x ∈ kp → x.1 ≠ h ∧ x.1 ≠ c ∧ ∀ B, B ∈ Bs → B.am ≠ x.1
theorem Bd.same {C : Addr} {H H' : Hp} {B : Bd} (a : B.at C H) (k : Same H H') : B.at C H' := BAt.same a k
theorem Bds.same {C : Addr} {H H' : Hp} {h c : Addr} {Bs : List Bd} {kp : List (Addr × List V)} (a : Bds C H h c Bs kp) (k : Same H H') : Bds C H' h c Bs kp :=
  ⟨a.ha.same k, fun B hB => (a.at_ B hB).same k, a.hs, a.pw, fun x hx => k _ _ (a.ks x hx), a.kh⟩
theorem HAt.neI {H : Hp} {h c b C dx : Addr} {fs : List (Str × V)} (a : HAt H h c) (e : H b = some (.ins C dx fs)) : b ≠ h ∧ b ≠ c := by
  obtain ⟨⟨mx, pl, ns, e1, e2, _⟩, _⟩ := a
  exact ⟨ne_of e e1 (fun z => nomatch z), ne_of e e2 (fun z => nomatch z)⟩
theorem Bds.drawn {C : Addr} {H H' : Hp} {h c : Addr} {Bs : List Bd} {kp : List (Addr × List V)} (a : Bds C H h c Bs kp) (ha : HAt H' h c) (k : Kp2 h c H H') : Bds C H' h c Bs kp := by
  refine ⟨ha, fun B hB => ?_, a.hs, a.pw, fun x hx => k _ _ (a.ks x hx) (a.kh x hx).1 (a.kh x hx).2.1, a.kh⟩
  have q := a.at_ B hB
  obtain ⟨dx, ob⟩ := q.ob
  exact ⟨⟨dx, k _ _ ob (a.ha.neI ob).1 (a.ha.neI ob).2⟩, k.tup a.ha q.rl, k _ _ q.mrk (a.hs B hB).1 (a.hs B hB).2, q.few, q.bd, q.ok⟩
theorem set_get {α : Type} {l : List α} {r i : Nat} {x y : α} (hr : r < l.length) (h : (l.set r x)[i]? = some y) : (i = r ∧ y = x) ∨ (i ≠ r ∧ l[i]? = some y) := by
  rw [List.getElem?_set] at h
  by_cases q : r = i
  · subst q
    rw [if_pos rfl, if_pos hr] at h
    exact .inl ⟨rfl, (Option.some.inj h).symm⟩
  · rw [if_neg q] at h
    exact .inr ⟨fun z => q z.symm, h⟩
theorem Bds.chg {C : Addr} {H H' : Hp} {h c : Addr} {Bs : List Bd} {kp : List (Addr × List V)} (a : Bds C H h c Bs kp) {r : Nat} {B B' : Bd} (hr : Bs[r]? = some B) (eb : B'.b = B.b) (at' : B'.at C H') (k : KpL [B.b, B.am] H H') (fr : B'.am = B.am ∨ H B'.am = none) :
    Bds C H' h c (Bs.set r B') kp := by
  have hB := List.mem_of_getElem? hr
  have rl := (List.getElem?_eq_some_iff.mp hr).1
  have q := a.at_ B hB
  obtain ⟨dx, ob⟩ := q.ob
  obtain ⟨⟨mx, pl, ns, eh, ec, rest⟩, hne⟩ := a.ha
  have nbh := a.ha.neI ob
  have keepT : ∀ x xs, H x = some (.tup xs) → H' x = some (.tup xs) := fun x xs e => k _ _ e (nin2 (ne_of e ob (fun z => nomatch z)) (ne_of e q.mrk (fun z => nomatch z)))
  have nam : ∀ y o, H y = some o → y ≠ B.am → B'.am ≠ y := fun y o e n z => by
    rcases fr with f | f
    · exact n (by rw [← f, z])
    · rw [z, e] at f; cases f
  refine ⟨⟨⟨mx, pl, ns, k _ _ eh (nin2 nbh.1.symm (a.hs B hB).1.symm), k _ _ ec (nin2 nbh.2.symm (a.hs B hB).2.symm), rest⟩, hne⟩, fun B2 h2 => ?_, fun B2 h2 => ?_, fun i j B1 B2 h1 h2 ne => ?_, fun x hx => ?_, fun x hx => ⟨(a.kh x hx).1, (a.kh x hx).2.1, fun B2 h2 => ?_⟩⟩
  · rcases List.mem_iff_getElem?.mp h2 with ⟨i, hi⟩
    rcases set_get rl hi with ⟨_, rfl⟩ | ⟨ne, hi'⟩
    · exact at'
    · have q2 := a.at_ B2 (List.mem_of_getElem? hi')
      obtain ⟨dx2, ob2⟩ := q2.ob
      have nn := a.pw i r B2 B hi' hr ne
      exact ⟨⟨dx2, k _ _ ob2 (nin2 nn.1 (ne_of ob2 q.mrk (fun z => nomatch z)))⟩, keepT _ _ q2.rl, k _ _ q2.mrk (nin2 (ne_of q2.mrk ob (fun z => nomatch z)) nn.2), q2.few, q2.bd, q2.ok⟩
  · rcases List.mem_iff_getElem?.mp h2 with ⟨i, hi⟩
    rcases set_get rl hi with ⟨_, rfl⟩ | ⟨ne, hi'⟩
    · exact ⟨nam _ _ eh (a.hs B hB).1.symm, nam _ _ ec (a.hs B hB).2.symm⟩
    · exact a.hs B2 (List.mem_of_getElem? hi')
  · rcases set_get rl h1 with ⟨rfl, rfl⟩ | ⟨ni, hi⟩
    · rcases set_get rl h2 with ⟨rfl, rfl⟩ | ⟨nj, hj⟩
      · exact absurd rfl ne
      · have nn := a.pw j i B2 B hj hr nj
        have q2 := a.at_ B2 (List.mem_of_getElem? hj)
        exact ⟨by rw [eb]; exact nn.1.symm, nam _ _ q2.mrk nn.2⟩
    · rcases set_get rl h2 with ⟨rfl, rfl⟩ | ⟨nj, hj⟩
      · have nn := a.pw i j B1 B hi hr ni
        have q1 := a.at_ B1 (List.mem_of_getElem? hi)
        exact ⟨by rw [eb]; exact nn.1, (nam _ _ q1.mrk nn.2).symm⟩
      · exact a.pw i j B1 B2 hi hj ne
  · exact k _ _ (a.ks x hx) (nin2 (ne_of (a.ks x hx) ob (fun z => nomatch z)) ((a.kh x hx).2.2 B hB).symm)
  · rcases List.mem_iff_getElem?.mp h2 with ⟨i, hi⟩
    rcases set_get rl hi with ⟨_, rfl⟩ | ⟨ne, hi'⟩
    · exact nam _ _ (a.ks x hx) ((a.kh x hx).2.2 B hB).symm
    · exact (a.kh x hx).2.2 B2 (List.mem_of_getElem? hi')
theorem app_get {α : Type} {l : List α} {i : Nat} {x y : α} (h : (l ++ [x])[i]? = some y) : (i = l.length ∧ y = x) ∨ (i < l.length ∧ l[i]? = some y) := by
  by_cases q : i < l.length
  · rw [List.getElem?_append_left q] at h
    exact .inr ⟨q, h⟩
  · have il := (List.getElem?_eq_some_iff.mp h).1
    rw [List.length_append] at il
    have ie : i = l.length := by
      have : i < l.length + 1 := il
      omega
    subst ie
    rw [List.getElem?_append_right (Nat.le_refl _), Nat.sub_self] at h
    exact .inl ⟨rfl, (Option.some.inj h).symm⟩
theorem Bds.add {C : Addr} {H H' : Hp} {h c : Addr} {Bs : List Bd} {kp : List (Addr × List V)} (a : Bds C H h c Bs kp) {B : Bd} (k : Same H H') (at' : B.at C H') (fb : H B.b = none) (fa : H B.am = none) : Bds C H' h c (Bs ++ [B]) kp := by
  obtain ⟨⟨mx, pl, ns, eh, ec, rest⟩, hne⟩ := a.ha
  have a' := a.same k
  refine ⟨a'.ha, fun B2 h2 => ?_, fun B2 h2 => ?_, fun i j B1 B2 h1 h2 ne => ?_, a'.ks, fun x hx => ⟨(a.kh x hx).1, (a.kh x hx).2.1, fun B2 h2 => ?_⟩⟩
  · rcases List.mem_append.mp h2 with h2 | h2
    · exact a'.at_ B2 h2
    · rw [List.mem_singleton.mp h2]; exact at'
  · rcases List.mem_append.mp h2 with h2 | h2
    · exact a.hs B2 h2
    · rw [List.mem_singleton.mp h2]; exact ⟨(ne_of_none eh fa).symm, (ne_of_none ec fa).symm⟩
  · rcases app_get h1 with ⟨rfl, rfl⟩ | ⟨ni, hi⟩
    · rcases app_get h2 with ⟨rfl, rfl⟩ | ⟨nj, hj⟩
      · exact absurd rfl ne
      · have q2 := a.at_ B2 (List.mem_of_getElem? hj)
        obtain ⟨dx2, ob2⟩ := q2.ob
        exact ⟨(ne_of_none ob2 fb).symm, (ne_of_none q2.mrk fa).symm⟩
    · rcases app_get h2 with ⟨rfl, rfl⟩ | ⟨nj, hj⟩
      · have q1 := a.at_ B1 (List.mem_of_getElem? hi)
        obtain ⟨dx1, ob1⟩ := q1.ob
        exact ⟨ne_of_none ob1 fb, ne_of_none q1.mrk fa⟩
      · exact a.pw i j B1 B2 hi hj ne
  · rcases List.mem_append.mp h2 with h2 | h2
    · exact (a.kh x hx).2.2 B2 h2
    · rw [List.mem_singleton.mp h2]; exact (ne_of_none (a.ks x hx) fa).symm
/-- a list that is no one's is changed -/
theorem Bds.other {C : Addr} {H : Hp} {h c D : Addr} {Bs : List Bd} {kp : List (Addr × List V)} {xs : List V} (a : Bds C H h c Bs kp) (eD : H D = some (.lst xs)) (n1 : D ≠ h) (n2 : D ≠ c) (n3 : ∀ B, B ∈ Bs → B.am ≠ D) (n4 : ∀ x, x ∈ kp → x.1 ≠ D) (o : HO) : Bds C (upd H D o) h c Bs kp := by
  obtain ⟨⟨mx, pl, ns, eh, ec, rest⟩, hne⟩ := a.ha
  refine ⟨⟨⟨mx, pl, ns, by rw [upd_ne n1.symm]; exact eh, by rw [upd_ne n2.symm]; exact ec, rest⟩, hne⟩, fun B hB => ?_, a.hs, a.pw, fun x hx => by rw [upd_ne (n4 x hx)]; exact a.ks x hx, a.kh⟩
  have q := a.at_ B hB
  obtain ⟨dx, ob⟩ := q.ob
  exact ⟨⟨dx, by rw [upd_ne (ne_of ob eD (fun z => nomatch z))]; exact ob⟩, by unfold RuAt; rw [upd_ne (ne_of q.rl eD (fun z => nomatch z))]; exact q.rl, by rw [upd_ne (n3 B hB)]; exact q.mrk, q.few, q.bd, q.ok⟩
/-- a new list is kept -/
theorem Bds.keep {C : Addr} {H : Hp} {h c D : Addr} {Bs : List Bd} {kp : List (Addr × List V)} {xs : List V} (a : Bds C H h c Bs kp) (nD : H D = none) : Bds C (upd H D (.lst xs)) h c Bs ((D, xs) :: kp) := by
  have s := a.same (same_upd (o := .lst xs) nD)
  obtain ⟨⟨mx, pl, ns, eh, ec, rest⟩, hne⟩ := a.ha
  refine ⟨s.ha, s.at_, s.hs, s.pw, fun x hx => ?_, fun x hx => ?_⟩
  · rcases List.mem_cons.mp hx with rfl | hx
    · exact upd_same
    · exact s.ks x hx
  · rcases List.mem_cons.mp hx with rfl | hx
    · exact ⟨(ne_of_none eh nD).symm, (ne_of_none ec nD).symm, fun B hB => ne_of_none (a.at_ B hB).mrk nD⟩
    · exact s.kh x hx
theorem new_board {C : Addr} {H1 H2 : Hp} {b dx p am : Addr} {R : Ru} {ms : List Nat} {now : Nat} (nb : H1 b = none) (ndx : H1 dx = none) (ba : BAt C H2 b p am R ms now) (nam : (upd (upd H1 dx (.own b)) b (.ins C dx [])) am = none)
    (k2 : KpL [b] (upd (upd H1 dx (.own b)) b (.ins C dx [])) H2) : Same H1 H2 ∧ H1 am = none := by
  have s0 : Same H1 (upd (upd H1 dx (.own b)) b (.ins C dx [])) := fun x o e => by
    rw [upd_ne (ne_of_none e nb), upd_ne (ne_of_none e ndx)]
    exact e
  exact ⟨fun x o e => k2 x o (s0 x o e) fun z => ne_of_none e nb (List.mem_singleton.mp z), s0.free nam⟩
theorem Bds.drop {C : Addr} {H : Hp} {h c : Addr} {Bs : List Bd} {x : Addr × List V} {kp : List (Addr × List V)} (a : Bds C H h c Bs (x :: kp)) : Bds C H h c Bs kp :=
  ⟨a.ha, a.at_, a.hs, a.pw, fun y hy => a.ks y (List.mem_cons_of_mem _ hy), fun y hy => a.kh y (List.mem_cons_of_mem _ hy)⟩
theorem Bds.rekeep {C : Addr} {H : Hp} {h c D : Addr} {Bs : List Bd} {kp : List (Addr × List V)} {xs : List V} (a : Bds C H h c Bs ((D, xs) :: kp)) (n4 : ∀ x, x ∈ kp → x.1 ≠ D) (ys : List V) : Bds C (upd H D (.lst ys)) h c Bs ((D, ys) :: kp) := by
  have eD := a.ks (D, xs) List.mem_cons_self
  have kD := a.kh (D, xs) List.mem_cons_self
  have o := a.drop.other eD kD.1 kD.2.1 kD.2.2 n4 (.lst ys)
  refine ⟨o.ha, o.at_, o.hs, o.pw, fun x hx => ?_, fun x hx => ?_⟩
  · rcases List.mem_cons.mp hx with rfl | hx
    · exact upd_same
    · exact o.ks x hx
  · rcases List.mem_cons.mp hx with rfl | hx
    · exact kD
    · exact o.kh x hx
theorem Bds.start {C : Addr} {H : Hp} {h c : Addr} (ha : HAt H h c) : Bds C H h c [] [] :=
  ⟨ha, fun B hB => (by simp at hB), fun B hB => (by simp at hB), fun i j B B' h1 => (by simp at h1), fun x hx => (by simp at hx), fun x hx => (by simp at hx)⟩
/-! ### count and shift alike -/
theorem bl_half (n : Nat) : bl (n / 2) = bl n - 1 := by
  by_cases h0 : n = 0
  · subst h0; rfl
  · by_cases h1 : n = 1
    · subst h1; rfl
    · have h2 : n / 2 ≠ 0 := by omega
      unfold bl
      rw [if_neg h0, if_neg h2]
      have : n.log2 = (n / 2).log2 + 1 := by
        rw [Nat.log2_def, if_pos (show n ≥ 2 by omega)]
      omega
theorem bl_div (n : Nat) : ∀ d, bl (n / 2 ^ d) = bl n - d
  | 0 => by rw [Nat.pow_zero, Nat.div_one, Nat.sub_zero]
  | d + 1 => by
    rw [Nat.pow_succ, ← Nat.div_div_eq_div_mul, bl_half, bl_div n d]
    omega
theorem bl_zero {n : Nat} (h : bl n = 0) : n = 0 := by
  by_cases e : n = 0
  · exact e
  · have := (bl_pos e).2.2
    omega
theorem bl_top {m b : Nat} (h1 : 2 ^ b ≤ m) (h2 : m < 2 ^ (b + 1)) : bl m = b + 1 := by
  have hp := Nat.two_pow_pos b
  have e : m ≠ 0 := by omega
  obtain ⟨q1, q2, q3⟩ := bl_pos e
  have : bl m - 1 = b := pow_uniq (i := bl m - 1) (j := b) q1 (by rw [Nat.sub_add_cancel q3]; exact q2) h1 h2
  omega
/-- the marks tell alike -/
def Mt (b b' mc ms : Nat) : Prop := mc ≤ 2 ^ b - 1 ∧ ms ≤ 2 ^ (b' + 1) - 1 ∧ bl ms + mc = b' + 1
theorem mt_fin {b b' : Nat} (e : 2 ^ b - 1 = b' + 1) : Mt b b' (2 ^ b - 1) 0 := ⟨Nat.le_refl _, Nat.zero_le _, by show 0 + (2 ^ b - 1) = b' + 1; omega⟩
theorem mt_seen {b b' s mc ms : Nat} (e : 2 ^ b - 1 = b' + 1) (h : Mt b b' mc ms) : Mt b b' (seenM (.cnt b s) mc) (seenM (.shf b' s) ms) := by
  obtain ⟨h1, h2, h3⟩ := h
  have e0 : seenM (.cnt b s) mc = 0 := rfl
  rw [e0, seen_shf]
  have hp := Nat.two_pow_pos b'
  have hs : 2 ^ (b' + 1) = 2 * 2 ^ b' := by rw [Nat.pow_succ, Nat.mul_comm]
  refine ⟨Nat.zero_le _, ?_, ?_⟩
  · split <;> omega
  · rw [bl_top (b := b')]
    · split <;> omega
    · split <;> omega
theorem mt_ag {b b' s mc ms t : Nat} (hs : 0 < s) (h : Mt b b' mc ms) (e : 2 ^ b - 1 = b' + 1) (n : Nat) : Mt b b' (ag (.cnt b s) mc t n) (ag (.shf b' s) ms t n) := by
  obtain ⟨h1, h2, h3⟩ := h
  rw [ag_cnt b s mc t hs h1 n, ag_shf b' s ms t hs n]
  generalize (t + n) / s - t / s = d
  refine ⟨Nat.min_le_right _ _, Nat.le_trans (Nat.div_le_self _ _) h2, ?_⟩
  rw [bl_div]
  omega
theorem mt_ags {b b' s mc ms : Nat} (h : Mt b b' mc ms) : (Ru.shf b' s).ags ms = (Ru.cnt b s).ags mc := by
  obtain ⟨h1, h2, h3⟩ := h
  show b' + 1 - bl ms = mc
  omega
theorem mt_isfin {b b' s mc ms : Nat} (h : Mt b b' mc ms) (e : 2 ^ b - 1 = b' + 1) : (ms = (Ru.shf b' s).fin) ↔ (mc = (Ru.cnt b s).fin) := by
  obtain ⟨h1, h2, h3⟩ := h
  show ms = 0 ↔ mc = 2 ^ b - 1
  constructor
  · intro z
    subst z
    have : bl 0 = 0 := rfl
    omega
  · intro z
    exact bl_zero (by omega)
/-- what span tells by count and shift -/
theorem span_form {R : Ru} (hR : R.isRgh = false) (hs : 0 < R.step) {now m : Nat} (hm : m ≤ R.most) :
    spanF R now m = if now / R.step < R.ags m then (none, none) else
      (some (now - min now ((now / R.step - R.ags m) * R.step + R.step - 1)), if m = R.fin then none else some (now - (now / R.step - R.ags m) * R.step)) := by
  by_cases c : now / R.step < R.ags m
  · rw [if_pos c]
    exact spanF_eq (span_stp_none hR hs hm c)
  · rw [if_neg c]
    exact spanF_eq (span_stp_some hR hs hm (run := now / R.step - R.ags m) (by omega) rfl rfl).1
theorem mt_span {b b' s mc ms now : Nat} (hs : 0 < s) (h : Mt b b' mc ms) (e : 2 ^ b - 1 = b' + 1) : spanF (.shf b' s) now ms = spanF (.cnt b s) now mc := by
  rw [span_form (R := .shf b' s) rfl hs h.2.1, span_form (R := .cnt b s) rfl hs h.1, mt_ags (s := s) h]
  have f := mt_isfin (s := s) h e
  by_cases z : mc = (Ru.cnt b s).fin
  · rw [if_pos z, if_pos (f.mpr z)]
    rfl
  · rw [if_neg z, if_neg (fun y => z (f.mp y))]
    rfl
theorem span_later {R : Ru} (hR : R.isRgh = false) (hs : 0 < R.step) {now m : Nat} (hm : m ≤ R.most) (hn : (spanF R now m).2 ≠ none) : spanF R (now + 7 * R.step) m = spanF R now m := by
  rw [span_form hR hs hm] at hn ⊢
  rw [span_form hR hs hm]
  have ed : (now + 7 * R.step) / R.step = now / R.step + 7 := Nat.add_mul_div_right now 7 hs
  rw [ed]
  by_cases c : now / R.step < R.ags m
  · rw [if_pos c] at hn
    exact absurd rfl hn
  · rw [if_neg c] at hn ⊢
    by_cases z : m = R.fin
    · rw [if_pos z] at hn
      exact absurd rfl hn
    · rw [if_neg (show ¬ now / R.step + 7 < R.ags m by omega), if_neg z, if_neg z]
      have e1 : now / R.step + 7 - R.ags m = (now / R.step - R.ags m) + 7 := by omega
      have le := (span_stp_some (now := now) hR hs hm (run := now / R.step - R.ags m) (by omega) rfl rfl).2
      rw [e1, Nat.add_mul]
      generalize (now / R.step - R.ags m) * R.step = f at le
      generalize R.step = s at hs
      have e2 : now + 7 * s - min (now + 7 * s) (f + 7 * s + s - 1) = now - min now (f + s - 1) := by
        have hs' : 1 ≤ s := hs
        omega
      have e3 : now + 7 * s - (f + 7 * s) = now - f := by omega
      rw [e2, e3]
/-- a board with its things the other way round -/
theorem ages_rev (R : Ru) (now : Nat) (ms : List Nat) : agesF R now ms.reverse = (agesF R now ms).reverse := by
  unfold agesF
  rw [List.map_reverse]
theorem getD_rev {ms : List Nat} {k : Nat} (h : k < ms.length) : ms.reverse.getD (ms.length - 1 - k) 0 = ms.getD k 0 := by
  rw [List.getD_eq_getElem?_getD, List.getD_eq_getElem?_getD, List.getElem?_reverse (by omega)]
  congr 2
  omega
theorem set_rev {ms : List Nat} {k x : Nat} (h : k < ms.length) : ms.reverse.set (ms.length - 1 - k) x = (ms.set k x).reverse := by
  refine List.ext_getElem? fun i => ?_
  by_cases hi : i < ms.length
  · rw [List.getElem?_reverse (by rw [List.length_set]; exact hi), List.length_set, List.getElem?_set, List.getElem?_set, List.length_reverse]
    by_cases q : ms.length - 1 - k = i
    · rw [if_pos q, if_pos (show k = ms.length - 1 - i by omega), if_pos (by omega), if_pos h]
    · rw [if_neg q, if_neg (show ¬ k = ms.length - 1 - i by omega), List.getElem?_reverse hi]
  · rw [List.getElem?_eq_none (by rw [List.length_set, List.length_reverse]; omega), List.getElem?_eq_none (by rw [List.length_reverse, List.length_set]; omega)]
theorem okOld_rev {sp : Sps} {j : Nat} (h : j < sp.length) : okOld sp.reverse j = okOld sp (sp.length - 1 - j) := by
  unfold okOld
  rw [List.any_reverse, List.getD_eq_getElem?_getD, List.getD_eq_getElem?_getD, List.getElem?_reverse h]
theorem mem_old {sp : Sps} {j : Nat} : j ∈ oldestF sp ↔ j < sp.length ∧ okOld sp j = true := by
  unfold oldestF oldTo
  rw [List.mem_filter, List.mem_range]
theorem old_pair (sp : Sps) : (oldestF sp).Pairwise (· < ·) := by
  unfold oldestF oldTo
  exact List.Pairwise.filter _ List.pairwise_lt_range
theorem strict_ext : ∀ {l1 l2 : List Int}, l1.Pairwise (· < ·) → l2.Pairwise (· < ·) → (∀ x, x ∈ l1 ↔ x ∈ l2) → l1 = l2
  | [], [], _, _, _ => rfl
  | [], y :: r, _, _, h => nomatch (h y).mpr List.mem_cons_self
  | x :: r, [], _, _, h => nomatch (h x).mp List.mem_cons_self
  | x :: r, y :: q, h1, h2, h => by
    have a1 := List.pairwise_cons.mp h1
    have a2 := List.pairwise_cons.mp h2
    have e : x = y := by
      rcases List.mem_cons.mp ((h x).mp List.mem_cons_self) with e | e
      · exact e
      · rcases List.mem_cons.mp ((h y).mpr List.mem_cons_self) with e' | e'
        · exact e'.symm
        · have := a1.1 y e'
          have := a2.1 x e
          omega
    subst e
    congr 1
    refine strict_ext a1.2 a2.2 fun z => ?_
    constructor
    · intro hz
      rcases List.mem_cons.mp ((h z).mp (List.mem_cons_of_mem _ hz)) with e | e
      · have := a1.1 z hz
        omega
      · exact e
    · intro hz
      rcases List.mem_cons.mp ((h z).mpr (List.mem_cons_of_mem _ hz)) with e | e
      · have := a2.1 z hz
        omega
      · exact e
/-- the oldest by other numbers, sorted -/
theorem old_rev {sp : Sps} {ns' : List Int} (hp : ns'.Perm ((oldestF sp).map fun (j : Nat) => (sp.length : Int) - 1 - (j : Int))) (hs : ns'.Pairwise (· ≤ ·)) : (oldestF sp.reverse).map Int.ofNat = ns' := by
  have nd : ((oldestF sp).map fun (j : Nat) => (sp.length : Int) - 1 - (j : Int)).Nodup := by
    rw [List.nodup_iff_pairwise_ne, List.pairwise_map]
    exact (old_pair sp).imp fun h => by omega
  have nd' : ns'.Nodup := hp.nodup_iff.mpr nd
  have st : ns'.Pairwise (· < ·) := by
    have := hs.and (List.nodup_iff_pairwise_ne.mp nd')
    exact this.imp fun h => by omega
  refine strict_ext ?_ st fun x => ?_
  · rw [List.pairwise_map]
    exact (old_pair _).imp fun h => Int.ofNat_lt.mpr h
  · rw [hp.mem_iff]
    constructor
    · intro hx
      obtain ⟨j, hj, rfl⟩ := List.mem_map.mp hx
      obtain ⟨jl, jo⟩ := mem_old.mp hj
      rw [List.length_reverse] at jl
      rw [okOld_rev jl] at jo
      refine List.mem_map.mpr ⟨sp.length - 1 - j, mem_old.mpr ⟨by omega, jo⟩, ?_⟩
      show (sp.length : Int) - 1 - ((sp.length - 1 - j : Nat) : Int) = (j : Int)
      omega
    · intro hx
      obtain ⟨j, hj, rfl⟩ := List.mem_map.mp hx
      obtain ⟨jl, jo⟩ := mem_old.mp hj
      refine List.mem_map.mpr ⟨sp.length - 1 - j, mem_old.mpr ⟨by rw [List.length_reverse]; omega, ?_⟩, ?_⟩
      · rw [okOld_rev (by omega)]
        rw [show sp.length - 1 - (sp.length - 1 - j) = j by omega]
        exact jo
      · show ((sp.length - 1 - j : Nat) : Int) = (sp.length : Int) - 1 - (j : Int)
        omega
/-! ### len(set(three times the same)) -/
theorem first3 (z : Int) : PyProof.Rows.firstMet (fun i => ([z, z, z] : List Int).getD i 0) 3 = [z] := by
  rw [PyProof.Rows.firstMet_succ, PyProof.Rows.firstMet_succ, PyProof.Rows.firstMet_succ, PyProof.Rows.firstMet_zero]
  unfold PyProof.Rows.step_dedup
  simp
def tLenSet3 (K : PySem.W.Frag) (ta : TE) : TE := fun σ H Q => ta σ H fun x H1 => ∃ (l : Addr) (z : Int), x = .ref l ∧ SqL K H1 l (([z, z, z] : List Int).map V.int) ∧ Q (.int 1) H1
theorem pe_lenSet3 {X : Cx} {a : Expr} {ta : TE} {p p2 q pos : Pos} (hg : Gl X "len") (hm : X.mg "len" = none) (hg2 : Gl X "set") (hm2 : X.mg "set" = none) (ha : PE X a ta) (hc : X.calm = true := by rfl)
    (na : starEach [a] X.env = (false, eval a X.env) :: starEach [] X.env := by rfl) : PE X (.Call (.Name "len" p) [.Call (.Name "set" p2) [a] [] q] [] pos) (tLenSet3 X.K ta) := by
  refine ⟨fun pins s σ H Q I h => ?_⟩
  refine Call_ (ld_blt I hg hm boot_len ?_)
  refine PyProof.Rows.callWith_builtin1 (PyProof.Rows.args_cons ?_ rfl) rfl rfl
  refine Call_ (ld_blt I hg2 hm2 boot_set ?_)
  refine PyProof.Rows.callWith_type1 (PyProof.Rows.args_cons (thn (ha.run pins s σ H _ I h) fun v s1 ⟨x, H1, I1, r1, q1⟩ => PyProof.Rows.args_nil ?_) na) na rfl
  obtain ⟨l, z, rfl, hq, q1⟩ := q1
  cases r1
  obtain ⟨its, r, pl, hz⟩ := I1.list hq
  have hlen : its.toArray.size = 3 := by rw [List.size_toArray, ← r.length, List.length_map]; rfl
  refine call_set_list (I1.ok.hd hc) pl.isList (by simpa using intsAre_vals r) (by rw [hlen]; decide) fun h' tk hS hk => ?_
  refine PyProof.Rows.args_nil ?_
  rw [hlen, first3] at hS
  obtain ⟨o, es, ep, t, ho, hex, hd, _, _, _, hf, hn⟩ := hS
  have I2 : Inv X pins σ H1 { s1 with heap := h', toks := tk } := I1.kept fun b o e => hk b o (Heap.lt_size e) e
  exact call_len_set ho hex hd hf (by rw [hn]; show ((1 : Nat) : Int) < 2 ^ 63; decide) ⟨.int 1, H1, I2.tok _, ⟨_, by rw [hn]; rfl⟩, q1⟩
structure Rel (n b b' s : Nat) (pc : Addr) (now : Nat) (B0 B1 B2 : Bd) : Prop where
  r0 : B0.R = .cnt b s
  r1 : B1.R = .shf b' s
  r2 : B2.R = .cnt b s
  n0 : B0.now = now
  n1 : B1.now = now
  n2 : B2.now = now
  l0 : B0.ms.length = n
  l1 : B1.ms.length = n
  mt : ∀ j, j < n → Mt b b' (B0.ms.getD j 0) (B1.ms.getD j 0)
  rv : B2.ms = B0.ms.reverse
  p0 : B0.p = pc
theorem getD_set {ms : List Nat} {k j x : Nat} (hj : j < ms.length) : (ms.set k x).getD j 0 = if k = j then x else ms.getD j 0 := by
  rw [List.getD_eq_getElem?_getD, List.getD_eq_getElem?_getD, List.getElem?_set]
  by_cases e : k = j
  · rw [if_pos e, if_pos e, if_pos (by omega)]
    rfl
  · rw [if_neg e, if_neg e]
theorem getD_map {ms : List Nat} {f : Nat → Nat} {j : Nat} (hj : j < ms.length) : (ms.map f).getD j 0 = f (ms.getD j 0) := by
  rw [List.getD_eq_getElem?_getD, List.getD_eq_getElem?_getD, List.getElem?_map, List.getElem?_eq_getElem hj]
  rfl
theorem rel_see {n b b' s : Nat} {pc : Addr} {now : Nat} {B0 B1 B2 : Bd} (h : Rel n b b' s pc now B0 B1 B2) (e : 2 ^ b - 1 = b' + 1) {k : Nat} (kl : k < n) :
    Rel n b b' s pc now { B0 with ms := B0.ms.set k (seenM B0.R (B0.ms.getD k 0)) } { B1 with ms := B1.ms.set k (seenM B1.R (B1.ms.getD k 0)) } { B2 with ms := B2.ms.set (n - 1 - k) (seenM B2.R (B2.ms.getD (n - 1 - k) 0)) } := by
  refine ⟨h.r0, h.r1, h.r2, h.n0, h.n1, h.n2, ?_, ?_, fun j jl => ?_, ?_, h.p0⟩
  · show (B0.ms.set k _).length = n
    rw [List.length_set]; exact h.l0
  · show (B1.ms.set k _).length = n
    rw [List.length_set]; exact h.l1
  · show Mt b b' ((B0.ms.set k (seenM B0.R (B0.ms.getD k 0))).getD j 0) ((B1.ms.set k (seenM B1.R (B1.ms.getD k 0))).getD j 0)
    rw [getD_set (by rw [h.l0]; exact jl), getD_set (by rw [h.l1]; exact jl), h.r0, h.r1]
    by_cases q : k = j
    · rw [if_pos q, if_pos q]
      exact mt_seen e (h.mt k kl)
    · rw [if_neg q, if_neg q]
      exact h.mt j jl
  · show B2.ms.set (n - 1 - k) (seenM B2.R (B2.ms.getD (n - 1 - k) 0)) = (B0.ms.set k (seenM B0.R (B0.ms.getD k 0))).reverse
    rw [h.rv, h.r2, h.r0, ← h.l0, getD_rev (by rw [h.l0]; exact kl), set_rev (by rw [h.l0]; exact kl)]
theorem rel_pass {n b b' s : Nat} {pc : Addr} {now : Nat} {B0 B1 B2 C0 C1 C2 : Bd} (h : Rel n b b' s pc now B0 B1 B2) (e : 2 ^ b - 1 = b' + 1) (hs : 0 < s) (k : Nat)
    (h0 : C0.R = B0.R ∧ C0.p = B0.p ∧ C0.ms = B0.ms.map (fun x => ag B0.R x now k) ∧ C0.now = now + k) (h1 : C1.R = B1.R ∧ C1.ms = B1.ms.map (fun x => ag B1.R x now k) ∧ C1.now = now + k) (h2 : C2.R = B2.R ∧ C2.ms = B2.ms.map (fun x => ag B2.R x now k) ∧ C2.now = now + k) :
    Rel n b b' s pc (now + k) C0 C1 C2 := by
  obtain ⟨a1, a2, a3, a4⟩ := h0
  obtain ⟨c1, c3, c4⟩ := h1
  obtain ⟨d1, d3, d4⟩ := h2
  refine ⟨a1.trans h.r0, c1.trans h.r1, d1.trans h.r2, a4, c4, d4, ?_, ?_, fun j jl => ?_, ?_, a2.trans h.p0⟩
  · rw [a3, List.length_map]; exact h.l0
  · rw [c3, List.length_map]; exact h.l1
  · rw [a3, c3, getD_map (by rw [h.l0]; exact jl), getD_map (by rw [h.l1]; exact jl), h.r0, h.r1]
    exact mt_ag hs (h.mt j jl) e k
  · rw [d3, a3, h.rv, h.r2, h.r0, List.map_reverse]
theorem rel_ages {n b b' s : Nat} {pc : Addr} {now : Nat} {B0 B1 B2 : Bd} (h : Rel n b b' s pc now B0 B1 B2) (e : 2 ^ b - 1 = b' + 1) (hs : 0 < s) : agesF B1.R B1.now B1.ms = agesF B0.R B0.now B0.ms := by
  unfold agesF
  refine List.ext_getElem? fun j => ?_
  rw [List.getElem?_map, List.getElem?_map, h.n0, h.n1, h.r0, h.r1]
  by_cases jl : j < n
  · have j0 : j < B0.ms.length := by rw [h.l0]; exact jl
    have j1 : j < B1.ms.length := by rw [h.l1]; exact jl
    have m := h.mt j jl
    rw [List.getD_eq_getElem?_getD, List.getD_eq_getElem?_getD, List.getElem?_eq_getElem j0, List.getElem?_eq_getElem j1] at m
    rw [List.getElem?_eq_getElem j0, List.getElem?_eq_getElem j1]
    exact congrArg some (mt_span hs m e)
  · rw [List.getElem?_eq_none (by rw [h.l1]; omega), List.getElem?_eq_none (by rw [h.l0]; omega)]
    rfl
theorem rel_ages2 {n b b' s : Nat} {pc : Addr} {now : Nat} {B0 B1 B2 : Bd} (h : Rel n b b' s pc now B0 B1 B2) : agesF B2.R B2.now B2.ms = (agesF B0.R B0.now B0.ms).reverse := by
  rw [h.rv, h.r2, h.r0, h.n2, h.n0, ages_rev]
theorem TupsAt.rev {H : Hp} {Ts : List Addr} {sp : Sps} (a : TupsAt H Ts sp) : TupsAt H Ts.reverse sp.reverse := by
  refine ⟨by rw [List.length_reverse, List.length_reverse]; exact a.len, fun j T s h1 h2 => ?_⟩
  have jl := (List.getElem?_eq_some_iff.mp h1).1
  rw [List.length_reverse] at jl
  rw [List.getElem?_reverse jl] at h1
  rw [List.getElem?_reverse (by rw [← a.len]; exact jl), ← a.len] at h2
  exact a.at_ _ T s h1 h2
/-! ### the law -/
def spLaw (K : PySem.W.Frag) : Sp := fun vs H Q _ => ∃ (a : Addr) (ns : List Int), vs = [.ref a] ∧ SqL K H a (ns.map V.int) ∧ ns.length ≤ 63 ∧ ∀ H', Q (.bl true) H'
section
variable {P : Program} {w : World} {K : PySem.W.Frag} {mg : Str → Option Value} {base : Heap} {C : Addr}
abbrev Nlaw : List Str := ["_law_script", "_law_h", "_law_bits", "_law_other", "_law_step", "_law_things", "_law_rules", "_law_rule", "_law_boards", "_law_turn", "_law_thing", "_law_many", "_law_board", "_law_ages", "_law_k", "_law_mark"]
theorem sc_law : FnScope Nlaw ["_law_script"] (defScope s_law) := ⟨rfl, rfl, rfl, by decide +kernel, rfl, by decide +kernel, by decide +kernel⟩
theorem ok_law {f fI cN cM : Addr} {fd fdI : FuncData} (F : Fun K "law" "law" s_law f fd) (m_range : mg "range" = none) (m_len : mg "len" = none) (m_set : mg "set" = none) (m_sorted : mg "sorted" = none) (T : Bcl K mg C) (gB : mg "Board" = some (.ref C))
    (M : Mk K C fI) (GI : FnOk P w K mg base CX0 3 fI fdI ["self", "rule", "things"] (spInit C)) (bI : Binds K fdI ["self", "rule", "things"] [])
    (C_mix : Cl P w K mg base 1 "_law_mix" ["_law_script", "_law_seed"] (spMix K)) (C_next : Cl P w K mg base 1 "_law_next" ["_law_h", "_law_many"] spNext)
    (C_al : Cl P w K mg base 4 "_law_alike" ["_law_found", "_law_due"] (spAlike K 3)) (C_sp : Cl P w K mg base 5 "span" ["rule", "now", "mark"] spSpan)
    (CS : ClM P w K mg base (L2.CX P w) 2 C "see" ["self", "thing"] (spSee C cN)) (CP : ClM P w K mg base (L2.CX P w) 3 C "pass_by" ["self", "many"] (spPass C cM))
    (CM : ClM P w K mg base CX0 1 C "marks" ["self"] (spMarks C)) (CN : ClM P w K mg base CX0 1 C "now" ["self"] (spNow C)) (CA : ClM P w K mg base CX0 7 C "ages" ["self"] (spAges C)) (CO : ClM P w K mg base CX0 8 C "oldest" ["self"] (spOldest C)) : FnOk P w K mg base CX0 9 f fd ["_law_script"] (spLaw K) := by
  refine F.ok sc_law (fun vs H Q E h => ?_) (fun cdv A outer s H vs Q E hr h => ?_)
  · obtain ⟨a, ns, rfl, _⟩ := h
    rfl
  · obtain ⟨a, ns, rfl, hS, hl, q⟩ := h
    have hr3 : Room 4 _ := hr.mono (by decide)
    have hu := hu_of hr
    refine ⟨_, pss_cons (ps_set (i := 1) sc_law.nd rfl (Or.inl rfl) (pe_cl C_mix hr (pa_cons (pv 0) (pa_cons pe_int pa_nil))))
      (pss_cons (ps_asg (pe_ix ix_list (pe_lst (pa_cons (pe_tup (pa_cons pe_int (pa_cons pe_int pa_nil))) (pa_cons (pe_tup (pa_cons pe_int (pa_cons pe_int pa_nil))) pa_nil))) (pe_cl C_next hr (pa_cons (pv 1) (pa_cons pe_int pa_nil))) (fun _ _ => rfl)) (pg_tup rfl (pgs_cons (pg_name (i := 2) sc_law.nd rfl (Or.inl rfl)) (pgs_cons (pg_name (i := 3) sc_law.nd rfl (Or.inl rfl)) pgs_nil))))
      (pss_cons (ps_set (i := 4) sc_law.nd rfl (Or.inl rfl) (pe_op op_add pe_int (pe_cl C_next hr (pa_cons (pv 1) (pa_cons pe_int pa_nil)))))
      (pss_cons (ps_set (i := 5) sc_law.nd rfl (Or.inr rfl) (pe_op op_add pe_int (pe_cl C_next hr (pa_cons (pv 1) (pa_cons pe_int pa_nil)))))
      (pss_cons (ps_set (i := 6) sc_law.nd rfl (Or.inl rfl) (pe_lst (pa_cons (pe_tup (pa_cons pe_str (pa_cons (pv 2) (pa_cons (pv 4) pa_nil)))) (pa_cons (pe_tup (pa_cons pe_str (pa_cons (pv 3) (pa_cons (pv 4) pa_nil)))) pa_nil))))
      (pss_cons (ps_set (i := 8) sc_law.nd rfl (Or.inl rfl) (pe_op op_cat (pe_lc (own := [("_law_rule", 7)]) (g := gName 7) (tt := tYes) (te := tMake C (spInit C) [] E0 (tCons (tVar 7) (tCons (tVar 5) tNil))) rfl sc_law.nd (pi_list (pv 6))
            (blkOk_by (N := Nlaw) (sc := defScope s_law) (by decide +kernel)) (fun _ _ _ _ _ => by exact pg_name (i := 7) sc_law.nd rfl (Or.inl rfl)) (fun _ _ _ _ _ => by exact pts_nil)
            (fun _ _ _ _ _ => by exact pe_make M GI hr3 (by rfl) gB bI .nil pass0 (pa_cons (pv 7) (pa_cons (pv 5) pa_nil))))
          (pe_lst (pa_cons (pe_make M GI hr3 (by rfl) gB bI .nil pass0 (pa_cons (pe_ix ix_list (pv 6) pe_int (fun _ _ => rfl)) (pa_cons (pv 5) pa_nil))) pa_nil))))
      (pss_cons (ps_for PassesOwn.never rfl (pi_range1 (by rfl) m_range (pa_cons (pe_cl C_next hr (pa_cons (pv 1) (pa_cons pe_int pa_nil))) pa_nil)) (pg_name (i := 9) sc_law.nd rfl (Or.inl rfl))
        (pss_cons (ps_if (pt_cmpR op_eq (pe_cl C_next hr (pa_cons (pv 1) (pa_cons pe_int pa_nil))) pe_int (nomark _))
          (pss_cons (ps_set (i := 10) sc_law.nd rfl (Or.inl rfl) (pe_cl C_next hr (pa_cons (pv 1) (pa_cons (pv 5) pa_nil))))
          (pss_cons (ps_expr (pe_cm (E := E0) CS T.cl passL hr (pe_ix ix_list (pv 8) pe_int (fun _ _ => rfl)) (pa_cons (pv 10) pa_nil)))
          (pss_cons (ps_expr (pe_cm (E := E0) CS T.cl passL hr (pe_ix ix_list (pv 8) pe_int (fun _ _ => rfl)) (pa_cons (pv 10) pa_nil)))
          (pss_one (ps_expr (pe_cm (E := E0) CS T.cl passL hr (pe_ix ix_list (pv 8) pe_int (fun _ _ => rfl)) (pa_cons (pe_op op_sub (pe_op op_sub (pv 5) pe_int) (pv 10)) pa_nil)))))))
          (pss_cons (ps_set (i := 11) sc_law.nd rfl (Or.inr rfl) (pe_op op_add pe_int (pe_cl C_next hr (pa_cons (pv 1) (pa_cons (pe_ix ix_list (pe_lst (pa_cons pe_int (pa_cons pe_int (pa_cons pe_int pa_nil)))) (pe_cl C_next hr (pa_cons (pv 1) (pa_cons pe_int pa_nil))) (fun _ _ => rfl)) pa_nil)))))
          (pss_one (ps_if (pt_cmpR op_ne (pe_lenSet3 (by rfl) m_len (by rfl) m_set (pe_lc (own := [("_law_board", 12)]) (g := gName 12) (tt := tYes) (te := tMeth C "pass_by" (spPass C cM) [] E0 (tVar 12) (tCons (tVar 11) tNil)) rfl sc_law.nd (pi_list (pv 8))
            (blkOk_by (N := Nlaw) (sc := defScope s_law) (by decide +kernel)) (fun _ _ _ _ _ => by exact pg_name (i := 12) sc_law.nd rfl (Or.inl rfl)) (fun _ _ _ _ _ => by exact pts_nil)
            (fun _ _ _ _ _ => by exact pe_cm CP T.cl passL hr (pv 12) (pa_cons (pv 11) pa_nil)))) pe_int (nomark _)) pss_never pss_nil))))
        (pss_cons (ps_set (i := 13) sc_law.nd rfl (Or.inl rfl) (pe_cm0 (E := E0) CA T.cl pass0 hr (pe_ix ix_list (pv 8) pe_int (fun _ _ => rfl))))
        (pss_cons (ps_if (PW.pt (pw_or (pt_not (pt_val (pe_cl C_al hr (pa_cons (pe_cm0 (E := E0) CA T.cl pass0 hr (pe_ix ix_list (pv 8) pe_int (fun _ _ => rfl))) (pa_cons (pv 13) pa_nil)))))
          (pw_or1 (pt_not (pt_val (pe_cl C_al hr (pa_cons (pe_cm0 (E := E0) CO T.cl pass0 hr (pe_ix ix_list (pv 8) pe_int (fun _ _ => rfl))) (pa_cons (pe_cm0 (E := E0) CO T.cl pass0 hr (pe_ix ix_list (pv 8) pe_int (fun _ _ => rfl))) pa_nil)))))))) pss_never pss_nil)
        (pss_cons (ps_if (pt_not (pt_val (pe_cl C_al hr (pa_cons (pe_revL (pe_cm0 (E := E0) CA T.cl pass0 hr (pe_ix ix_list (pv 8) pe_int (fun _ _ => rfl)))) (pa_cons (pv 13) pa_nil))))) pss_never pss_nil)
        (pss_cons (ps_if (pt_cmpR (op_neD hr.units) (pe_cm0 (E := E0) CO T.cl pass0 hr (pe_ix ix_list (pv 8) pe_int (fun _ _ => rfl)))
          (pe_callB cr_sorted (by rfl) m_sorted (by decide +kernel) (pa_cons (pe_lc (own := [("_law_thing", 10)]) (g := gName 10) (tt := tYes) (te := tOp rSub (tOp rSub (tVar 5) (tC (.int 1))) (tVar 10)) rfl sc_law.nd (pi_list (pe_cm0 (E := E0) CO T.cl pass0 hr (pe_ix ix_list (pv 8) pe_int (fun _ _ => rfl))))
            (blkOk_by (N := Nlaw) (sc := defScope s_law) (by decide +kernel)) (fun _ _ _ _ _ => by exact pg_name (i := 10) sc_law.nd rfl (Or.inl rfl)) (fun _ _ _ _ _ => by exact pts_nil)
            (fun _ _ _ _ _ => by exact pe_op op_sub (pe_op op_sub (pv 5) pe_int) (pv 10))) pa_nil)) (nomark _)) pss_never pss_nil)
        (pss_one (ps_for PassesOwn.never rfl (pi_range1 (by rfl) m_range (pa_cons (pv 5) pa_nil)) (pg_name (i := 14) sc_law.nd rfl (Or.inl rfl))
          (pss_cons (ps_set (i := 15) sc_law.nd rfl (Or.inl rfl) (pe_ix ix_list (pe_cm0 (E := E0) CM T.cl pass0 hr (pe_ix ix_list (pv 8) pe_int (fun _ _ => rfl))) (pv 14) (fun _ _ => rfl)))
          (pss_one (ps_if (PW.pt (pw_and (pt_cmp (pc_notN (pe_ix ix_tup (pe_ix ix_list (pv 13) (pv 14) (fun _ _ => rfl)) pe_int (fun _ _ => rfl))) rfl)
            (pw_and1 (pt_cmpR (op_neD hr.units) (pe_cl C_sp hr (pa_cons (pe_ix ix_list (pv 6) pe_int (fun _ _ => rfl)) (pa_cons (pe_op op_add (pe_cm0 (E := E0) CN T.cl pass0 hr (pe_ix ix_list (pv 8) pe_int (fun _ _ => rfl))) (pe_op op_mul pe_int (pv 4))) (pa_cons (pv 15) pa_nil)))) (pe_ix ix_list (pv 13) (pv 14) (fun _ _ => rfl)) (nomark _))))) pss_never pss_nil)))))))))))
      (pss_one (ps_ret pe_bl)))))))), ?_⟩
    refine ⟨_, rfl, a, 43, ns, rfl, hS, hl, by decide, by decide, fun H0 h c ha0 _ _ s0 => ?_⟩
    -- the bits
    refine ⟨(by show 2 ≤ sizeLine; decide), fun T1 nT1 => ⟨(by show 2 ≤ sizeLine; decide), fun T2 nT2 => ⟨(by show 2 ≤ sizeLine; decide), fun l0 nl0 => ?_⟩⟩⟩
    have sA := (same_upd (o := .tup [V.int 2, V.int 2]) nT1)
    have sB := (same_upd (o := .tup [V.int 3, V.int 6]) nT2)
    have sC := (same_upd (o := .lst [V.ref T1, V.ref T2]) nl0)
    have haA := ha0.same ((sA.trans sB).trans sC)
    have nl0h : l0 ≠ h ∧ l0 ≠ c := by
      obtain ⟨⟨mx, pl, ns, e1, e2, _⟩, _⟩ := (ha0.same (sA.trans sB))
      exact ⟨(ne_of_none e1 nl0).symm, (ne_of_none e2 nl0).symm⟩
    refine ⟨_, rfl, h, c, 2, rfl, by decide, by decide, haA, fun r0 H1 r0l ha1 k1 => ?_⟩
    have eT1 := k1.tup haA (sC _ _ (sB _ _ (show (upd H0 T1 (.tup [V.int 2, V.int 2])) T1 = _ from upd_same)))
    have eT2 := k1.tup haA (sC _ _ (show (upd (upd H0 T1 (.tup [V.int 2, V.int 2])) T2 (.tup [V.int 3, V.int 6])) T2 = _ from upd_same))
    obtain ⟨Tx, b, b', eat, eTx, eb, b1, b6, c1, c10⟩ : ∃ (Tx : Addr) (b b' : Nat), atI [V.ref T1, V.ref T2] (r0 : Int) = some (.ref Tx) ∧ H1 Tx = some (.tup [.int (b : Int), .int (b' : Int)]) ∧ 2 ^ b - 1 = b' + 1 ∧ 1 ≤ b ∧ b ≤ 6 ∧ 1 ≤ b' ∧ b' ≤ 10 := by
      have : r0 = 0 ∨ r0 = 1 := by omega
      rcases this with rfl | rfl
      · exact ⟨T1, 2, 2, atI_nat (j := 0) rfl, eT1, by decide, by decide, by decide, by decide, by decide⟩
      · exact ⟨T2, 3, 6, atI_nat (j := 1) rfl, eT2, by decide, by decide, by decide, by decide, by decide⟩
    refine ⟨l0, _, _, _, rfl, rfl, SqL.of (k1 _ _ upd_same nl0h.1 nl0h.2), eat, Tx, [.int (b : Int), .int (b' : Int)], rfl, SqT.of eTx, rfl, _, _, rfl, _, _, rfl, rfl, ?_⟩
    -- step, things
    refine ⟨_, rfl, h, c, 20, rfl, by decide, by decide, ha1, fun r1 H2 r1l ha2 k2 => ?_⟩
    have r1l' : (r1 : Int) < 20 := r1l
    refine ⟨_, _, rfl, rfl, ?_⟩
    refine ⟨_, rfl, h, c, 8, rfl, by decide, by decide, ha2, fun r2 H3 r2l ha3 k3 => ?_⟩
    have r2l' : (r2 : Int) < 8 := r2l
    refine ⟨_, _, rfl, rfl, ?_⟩
    have es : (1 : Int) + (r1 : Int) = ((1 + r1 : Nat) : Int) := rfl
    have en : (1 : Int) + (r2 : Int) = ((1 + r2 : Nat) : Int) := rfl
    have okc : (Ru.cnt b (1 + r1)).ok := ⟨b1, b6, by omega, by omega⟩
    have oks : (Ru.shf b' (1 + r1)).ok := ⟨c1, c10, by omega, by omega⟩
    -- the rules
    refine ⟨_, rfl, _, rfl, (by show 3 ≤ sizeLine; decide), fun pc npc => ?_⟩
    refine ⟨_, rfl, _, rfl, (by show 3 ≤ sizeLine; decide), fun ps nps => ?_⟩
    refine ⟨(by show 2 ≤ sizeLine; decide), fun Lr nLr => ?_⟩
    have sp1 := same_upd (o := .tup (Ru.cnt b (1 + r1)).tup) npc
    have sp2 := same_upd (o := .tup (Ru.shf b' (1 + r1)).tup) nps
    have sp3 := same_upd (o := .lst [V.ref pc, V.ref ps]) nLr
    have epc := sp3 _ _ (sp2 _ _ (show (upd H3 pc (.tup (Ru.cnt b (1 + r1)).tup)) pc = _ from upd_same))
    have eps := sp3 _ _ (show (upd (upd H3 pc (.tup (Ru.cnt b (1 + r1)).tup)) ps (.tup (Ru.shf b' (1 + r1)).tup)) ps = _ from upd_same)
    have bd0 : Bds C (upd (upd (upd H3 pc (.tup (Ru.cnt b (1 + r1)).tup)) ps (.tup (Ru.shf b' (1 + r1)).tup)) Lr (.lst [V.ref pc, V.ref ps])) h c [] [(Lr, [V.ref pc, V.ref ps])] := ((Bds.start (ha3.same (sp1.trans sp2)))).keep nLr
    -- two boards
    refine ⟨_, rfl, Lr, rfl, ⟨_, SqL.of (bd0.ks _ List.mem_cons_self)⟩, fun D nD => ?_⟩
    refine lc_list (K := K) (a := Lr) (xs := [V.ref pc, V.ref ps]) (fun j H' => Same (upd (upd (upd H3 pc (.tup (Ru.cnt b (1 + r1)).tup)) ps (.tup (Ru.shf b' (1 + r1)).tup)) Lr (.lst [V.ref pc, V.ref ps])) H' ∧
        ∃ Bs : List Bd, Bs.length = j ∧ Bds C H' h c Bs [(D, Bs.map fun B => V.ref B.b), (Lr, [V.ref pc, V.ref ps])] ∧ ∀ (i : Nat) (B : Bd), Bs[i]? = some B → B.now = 0 ∧ B.ms = List.replicate (1 + r2) B.R.fin ∧ (i = 0 → B.p = pc ∧ B.R = .cnt b (1 + r1)) ∧ (i = 1 → B.p = ps ∧ B.R = .shf b' (1 + r1)))
      ⟨same_upd nD, [], rfl, bd0.keep nD, fun i B h => by simp at h⟩ (fun j H' _ h => let ⟨_, _, _, bd, _⟩ := h; SqL.of (bd.ks (Lr, [V.ref pc, V.ref ps]) (by simp))) ?_ ?_
    · rintro j y Ha hy ⟨sa, Bs, lb, bd, fx⟩
      have jl : j < 2 := (List.getElem?_eq_some_iff.mp hy).1
      obtain ⟨p, R, rfl, hp, okR, hR⟩ : ∃ (p : Addr) (R : Ru), y = .ref p ∧ RuAt Ha p R ∧ R.ok ∧ ((j = 0 → p = pc ∧ R = .cnt b (1 + r1)) ∧ (j = 1 → p = ps ∧ R = .shf b' (1 + r1))) := by
        have : j = 0 ∨ j = 1 := by omega
        rcases this with rfl | rfl
        · exact ⟨pc, _, (Option.some.inj hy).symm, sa _ _ epc, okc, fun _ => ⟨rfl, rfl⟩, fun z => absurd z (by decide)⟩
        · exact ⟨ps, _, (Option.some.inj hy).symm, sa _ _ eps, oks, fun z => absurd z (by decide), fun _ => ⟨rfl, rfl⟩⟩
      refine ⟨rfl, _, rfl, _, rfl, fun bb dx nb ndx ndb => ?_⟩
      have s0' : Same Ha (upd (upd Ha dx (.own bb)) bb (.ins C dx [])) := fun x o e => by
        rw [upd_ne (ne_of_none e nb), upd_ne (ne_of_none e ndx)]
        exact e
      refine ⟨bb, dx, p, R, 1 + r2, _, rfl, rfl, upd_same, s0' _ _ hp, okR, by omega, by omega, fun H4 am ba nam k4 => ⟨rfl, ?_⟩⟩
      obtain ⟨s4, fam⟩ := new_board nb ndx ba nam k4
      have bd4 := bd.add (B := ⟨bb, p, am, R, List.replicate (1 + r2) R.fin, 0⟩) s4 ba nb fam
      refine ⟨_, bd4.ks (D, _) List.mem_cons_self, by rw [List.length_map, lb]; exact small1000 (by omega), fun x o e => ?_, Bs ++ [⟨bb, p, am, R, List.replicate (1 + r2) R.fin, 0⟩], ?_, ?_, fun i B hB => ?_⟩
      · rw [upd_ne (ne_of_none e nD)]; exact s4 _ _ (sa _ _ e)
      · rw [List.length_append, lb]; rfl
      · have := bd4.rekeep (fun x hx => by rw [List.mem_singleton.mp hx]; exact ne_of_none (show (upd (upd (upd H3 pc (.tup (Ru.cnt b (1 + r1)).tup)) ps (.tup (Ru.shf b' (1 + r1)).tup)) Lr (.lst [V.ref pc, V.ref ps])) Lr = some _ from upd_same) nD) ((Bs.map fun B => V.ref B.b) ++ [.ref bb])
        rw [show (Bs ++ [(⟨bb, p, am, R, List.replicate (1 + r2) R.fin, 0⟩ : Bd)]).map (fun B => V.ref B.b) = (Bs.map fun B => V.ref B.b) ++ [.ref bb] by rw [List.map_append]; rfl]
        exact this
      · rcases app_get hB with ⟨rfl, rfl⟩ | ⟨_, hB'⟩
        · exact ⟨rfl, rfl, fun z => hR.1 (by rw [← lb]; exact z), fun z => hR.2 (by rw [← lb]; exact z)⟩
        · exact fx i B hB'
    · rintro Ha ⟨sa, Bs, lb, bd, fx⟩
      obtain ⟨B0, B1, rfl⟩ : ∃ B0 B1, Bs = [B0, B1] := by
        match Bs, lb with
        | [B0, B1], _ => exact ⟨B0, B1, rfl⟩
      obtain ⟨bb0, p0, am0, R0, ms0, now0⟩ := B0
      obtain ⟨bb1, p1, am1, R1, ms1, now1⟩ := B1
      obtain ⟨f01, f02, f03, _⟩ := fx 0 (⟨bb0, p0, am0, R0, ms0, now0⟩ : Bd) rfl
      obtain ⟨f11, f12, _, f13⟩ := fx 1 (⟨bb1, p1, am1, R1, ms1, now1⟩ : Bd) rfl
      obtain ⟨f03a, f03b⟩ := f03 rfl
      obtain ⟨f13a, f13b⟩ := f13 rfl
      dsimp only at f01 f02 f03a f03b f11 f12 f13a f13b
      -- the third
      refine ⟨_, rfl, Lr, _, _, _, rfl, rfl, SqL.of (bd.ks (Lr, [V.ref pc, V.ref ps]) (by simp)), atI_nat (j := 0) rfl, _, rfl, fun bb dx nb ndx ndb => ?_⟩
      have s0' : Same Ha (upd (upd Ha dx (.own bb)) bb (.ins C dx [])) := fun x o e => by
        rw [upd_ne (ne_of_none e nb), upd_ne (ne_of_none e ndx)]
        exact e
      refine ⟨bb, dx, pc, .cnt b (1 + r1), 1 + r2, _, rfl, rfl, upd_same, s0' _ _ (sa _ _ epc), okc, by omega, by omega, fun H4 am ba nam k4 => ⟨rfl, ?_⟩⟩
      obtain ⟨s4, fam⟩ := new_board nb ndx ba nam k4
      have bd4 := bd.add (B := ⟨bb, pc, am, .cnt b (1 + r1), List.replicate (1 + r2) (Ru.cnt b (1 + r1)).fin, 0⟩) s4 ba nb fam
      refine ⟨(by show 1 ≤ sizeLine; decide), fun l3 nl3 => ?_⟩
      have s5 := same_upd (o := .lst [V.ref bb]) nl3
      have bd5 := bd4.same s5
      refine ⟨D, l3, _, _, rfl, rfl, bd5.ks (D, _) List.mem_cons_self, upd_same, (by show 3 ≤ sizeLine; decide), fun Lb nLb => ?_⟩
      have bd6 := bd5.drop.keep (xs := [V.ref bb0, V.ref bb1, V.ref bb]) nLb
      have rel0 : Rel (1 + r2) b b' (1 + r1) pc 0 (⟨bb0, p0, am0, R0, ms0, now0⟩ : Bd) (⟨bb1, p1, am1, R1, ms1, now1⟩ : Bd) ⟨bb, pc, am, .cnt b (1 + r1), List.replicate (1 + r2) (Ru.cnt b (1 + r1)).fin, 0⟩ := by
        refine ⟨f03b, f13b, rfl, f01, f11, rfl, by rw [f02, List.length_replicate], by rw [f12, List.length_replicate], fun j jl => ?_, ?_, f03a⟩
        · rw [f02, f12, f03b, f13b, List.getD_eq_getElem?_getD, List.getD_eq_getElem?_getD, List.getElem?_replicate, List.getElem?_replicate, if_pos jl, if_pos jl]
          exact mt_fin eb
        · show List.replicate (1 + r2) (Ru.cnt b (1 + r1)).fin = ms0.reverse
          rw [f02, f03b, List.reverse_replicate]
      have epc6 := (same_upd (o := .lst [V.ref bb0, V.ref bb1, V.ref bb]) nLb) _ _ (s5 _ _ (s4 _ _ (sa _ _ epc)))
      -- the turns
      refine ⟨_, rfl, h, c, 51, rfl, by decide, by decide, bd6.ha, fun many H7 manyl ha7 k7 => ?_⟩
      have bd7 := bd6.drawn ha7 k7
      have many' : (many : Int) < 51 := manyl
      refine ⟨_, rfl, by omega, by omega, ?_⟩
      rw [Int.toNat_natCast]
      have atb : ∀ {H' : Hp} {B0 B1 B2 : Bd} {bx : Addr} {B : Bd}, Bds C H' h c [B0, B1, B2] [(Lb, [V.ref bb0, V.ref bb1, V.ref bb]), (Lr, [V.ref pc, V.ref ps])] → B ∈ [B0, B1, B2] → B.b = bx → BAt C H' bx B.p B.am B.R B.ms B.now := fun bd hB e => by rw [← e]; exact bd.at_ _ hB
      refine for_range (lo := 0) (n := many) (fun i σ H' => ∃ (now : Nat) (B0 B1 B2 : Bd) (v9 v10 v11 v13 v14 v15 : Option V), σ = [some (.ref a), some (.ref h), some (.int (b : Int)), some (.int (b' : Int)), some (.int ((1 + r1 : Nat) : Int)), some (.int ((1 + r2 : Nat) : Int)), some (.ref Lr), none, some (.ref Lb), v9, v10, v11, none, v13, v14, v15] ∧
          Bds C H' h c [B0, B1, B2] [(Lb, [V.ref bb0, V.ref bb1, V.ref bb]), (Lr, [V.ref pc, V.ref ps])] ∧ B0.b = bb0 ∧ B1.b = bb1 ∧ B2.b = bb ∧ Rel (1 + r2) b b' (1 + r1) pc now B0 B1 B2 ∧ now ≤ 100 * i)
        ⟨0, _, _, _, none, none, none, none, none, none, rfl, bd7, rfl, rfl, rfl, rel0, Nat.zero_le _⟩ ?_ ?_
      · rintro i σ Ha' hi ⟨now, B0, B1, B2, v9, v10, v11, v13, v14, v15, rfl, bda, e0, e1, e2, rel, nwl⟩
        have hi' : i < 51 := by omega
        dsimp only [gName, tSeq]
        refine abs_nx (t := tIfS _ _ _) (fun σ' H' => ∃ (now : Nat) (B0 B1 B2 : Bd) (v10 v11 : Option V), σ' = [some (.ref a), some (.ref h), some (.int (b : Int)), some (.int (b' : Int)), some (.int ((1 + r1 : Nat) : Int)), some (.int ((1 + r2 : Nat) : Int)), some (.ref Lr), none, some (.ref Lb), some (.int (0 + (i : Int))), v10, v11, none, v13, v14, v15] ∧
          Bds C H' h c [B0, B1, B2] [(Lb, [V.ref bb0, V.ref bb1, V.ref bb]), (Lr, [V.ref pc, V.ref ps])] ∧ B0.b = bb0 ∧ B1.b = bb1 ∧ B2.b = bb ∧ Rel (1 + r2) b b' (1 + r1) pc now B0 B1 B2 ∧ now ≤ 100 * (i + 1)) (fun nx' hnx => ?_) ?_
        · refine ⟨_, rfl, h, c, 2, rfl, by decide, by decide, bda.ha, fun r3 Hb _ hab kb => ⟨rfl, _, rfl, ?_⟩⟩
          have bdb := bda.drawn hab kb
          rw [dec_int]
          by_cases z : r3 = 0
          · rw [decide_eq_true (show (r3 : Int) = 0 by omega)]
            refine iteT ?_
            refine ⟨_, rfl, _, rfl, h, c, _, rfl, by omega, by omega, hab, fun k Hc kl hac kc => ?_⟩
            have bdc := bdb.drawn hac kc
            have kl' : k < 1 + r2 := by omega
            have ba0 := atb bdc (B := B0) (by simp) e0
            obtain ⟨dx0, ob0⟩ := ba0.ob
            refine ⟨_, rfl, Lb, _, _, _, rfl, rfl, SqL.of (bdc.ks (Lb, [V.ref bb0, V.ref bb1, V.ref bb]) (by simp)), atI_nat (j := 0) rfl, bb0, dx0, _, rfl, ob0, bfl_no _ _ _ (by decide +kernel) (by decide +kernel) (by decide +kernel), _, rfl, bb0, B0.p, B0.am, B0.R, B0.ms, B0.now, _, rfl, ba0, .inl ⟨k, rfl, by rw [rel.l0]; exact kl', fun Hd bd0' kd0 => ?_⟩⟩
            have bdd : Bds C Hd h c [{ B0 with ms := B0.ms.set k (seenM B0.R (B0.ms.getD k 0)) }, B1, B2] [(Lb, [V.ref bb0, V.ref bb1, V.ref bb]), (Lr, [V.ref pc, V.ref ps])] :=
              bdc.chg (r := 0) (B := B0) (B' := { B0 with ms := B0.ms.set k (seenM B0.R (B0.ms.getD k 0)) }) rfl rfl (by show BAt C Hd B0.b _ _ _ _ _; rw [e0]; exact bd0') (kd0.mono fun x hx => by rw [List.mem_singleton.mp hx]; simp) (.inl rfl)
            have ba1 := atb bdd (B := B1) (by simp) e1
            obtain ⟨dx1, ob1⟩ := ba1.ob
            refine ⟨_, rfl, Lb, _, _, _, rfl, rfl, SqL.of (bdd.ks (Lb, [V.ref bb0, V.ref bb1, V.ref bb]) (by simp)), atI_nat (j := 1) rfl, bb1, dx1, _, rfl, ob1, bfl_no _ _ _ (by decide +kernel) (by decide +kernel) (by decide +kernel), _, rfl, bb1, B1.p, B1.am, B1.R, B1.ms, B1.now, _, rfl, ba1, .inl ⟨k, rfl, by rw [rel.l1]; exact kl', fun He bd1' kd1 => ?_⟩⟩
            have bde : Bds C He h c [{ B0 with ms := B0.ms.set k (seenM B0.R (B0.ms.getD k 0)) }, { B1 with ms := B1.ms.set k (seenM B1.R (B1.ms.getD k 0)) }, B2] [(Lb, [V.ref bb0, V.ref bb1, V.ref bb]), (Lr, [V.ref pc, V.ref ps])] :=
              bdd.chg (r := 1) (B := B1) (B' := { B1 with ms := B1.ms.set k (seenM B1.R (B1.ms.getD k 0)) }) rfl rfl (by show BAt C He B1.b _ _ _ _ _; rw [e1]; exact bd1') (kd1.mono fun x hx => by rw [List.mem_singleton.mp hx]; simp) (.inl rfl)
            have ba2 := atb bde (B := B2) (by simp) e2
            obtain ⟨dx2, ob2⟩ := ba2.ob
            have l2 : B2.ms.length = 1 + r2 := by rw [rel.rv, List.length_reverse]; exact rel.l0
            have ei : ((1 + r2 : Nat) : Int) - 1 - (k : Int) = ((1 + r2 - 1 - k : Nat) : Int) := by omega
            refine ⟨_, rfl, Lb, _, _, _, rfl, rfl, SqL.of (bde.ks (Lb, [V.ref bb0, V.ref bb1, V.ref bb]) (by simp)), atI_nat (j := 2) rfl, bb, dx2, _, rfl, ob2, bfl_no _ _ _ (by decide +kernel) (by decide +kernel) (by decide +kernel), _, rfl, _, _, rfl, rfl, _, rfl, _, _, rfl, rfl, bb, B2.p, B2.am, B2.R, B2.ms, B2.now, _, rfl, ba2, .inl ⟨1 + r2 - 1 - k, ei, by omega, fun Hf bd2' kd2 => ?_⟩⟩
            have bdf : Bds C Hf h c [{ B0 with ms := B0.ms.set k (seenM B0.R (B0.ms.getD k 0)) }, { B1 with ms := B1.ms.set k (seenM B1.R (B1.ms.getD k 0)) }, { B2 with ms := B2.ms.set (1 + r2 - 1 - k) (seenM B2.R (B2.ms.getD (1 + r2 - 1 - k) 0)) }] [(Lb, [V.ref bb0, V.ref bb1, V.ref bb]), (Lr, [V.ref pc, V.ref ps])] :=
              bde.chg (r := 2) (B := B2) (B' := { B2 with ms := B2.ms.set (1 + r2 - 1 - k) (seenM B2.R (B2.ms.getD (1 + r2 - 1 - k) 0)) }) rfl rfl (by show BAt C Hf B2.b _ _ _ _ _; rw [e2]; exact bd2') (kd2.mono fun x hx => by rw [List.mem_singleton.mp hx]; simp) (.inl rfl)
            exact hnx _ _ ⟨now, _, _, _, _, _, rfl, bdf, e0, e1, e2, rel_see rel eb kl', by omega⟩
          · rw [decide_eq_false (show ¬ (r3 : Int) = 0 by omega)]
            refine iteF ?_
            refine ⟨_, rfl, (by show 3 ≤ sizeLine; decide), fun lm nlm => ?_⟩
            have slm := same_upd (o := .lst [V.int 3, V.int 20, V.int 100]) nlm
            have nlmh : lm ≠ h ∧ lm ≠ c := by
              obtain ⟨⟨mx, pl, ns, e1, e2, _⟩, _⟩ := hab
              exact ⟨(ne_of_none e1 nlm).symm, (ne_of_none e2 nlm).symm⟩
            refine ⟨_, rfl, h, c, 3, rfl, by decide, by decide, hab.same slm, fun r4 Hc r4l hac kc => ?_⟩
            obtain ⟨m5, em5, m51, m52⟩ : ∃ m5 : Int, atI [V.int 3, V.int 20, V.int 100] (r4 : Int) = some (.int m5) ∧ 1 ≤ m5 ∧ m5 ≤ 100 := by
              have : r4 = 0 ∨ r4 = 1 ∨ r4 = 2 := by omega
              rcases this with rfl | rfl | rfl
              · exact ⟨3, atI_nat (j := 0) rfl, by decide, by decide⟩
              · exact ⟨20, atI_nat (j := 1) rfl, by decide, by decide⟩
              · exact ⟨100, atI_nat (j := 2) rfl, by decide, by decide⟩
            refine ⟨lm, _, _, _, rfl, rfl, SqL.of (kc _ _ upd_same nlmh.1 nlmh.2), em5, h, c, m5, rfl, m51, by omega, hac, fun k Hd kl had kd => ?_⟩
            have bdd := ((bdb.same slm).drawn hac kc).drawn had kd
            have kl' : (k : Int) < m5 := kl
            refine ⟨_, _, rfl, rfl, ?_⟩
            have ek : (1 : Int) + (k : Int) = ((1 + k : Nat) : Int) := rfl
            refine ⟨_, rfl, Lb, rfl, ⟨_, SqL.of (bdd.ks (Lb, [V.ref bb0, V.ref bb1, V.ref bb]) (by simp))⟩, fun D2 nD2 => ?_⟩
            have n4 : ∀ x, x ∈ [(Lb, [V.ref bb0, V.ref bb1, V.ref bb]), (Lr, [V.ref pc, V.ref ps])] → x.1 ≠ D2 := fun x hx => ne_of_none (bdd.ks x hx) nD2
            refine lc_list (K := K) (a := Lb) (xs := [V.ref bb0, V.ref bb1, V.ref bb]) (fun j H' => ∃ Cs : List Bd, Cs.length = 3 ∧ Bds C H' h c Cs ((D2, List.replicate j (V.int ((now + (1 + k) : Nat) : Int))) :: [(Lb, [V.ref bb0, V.ref bb1, V.ref bb]), (Lr, [V.ref pc, V.ref ps])]) ∧
                ∀ (i : Nat) (B : Bd), [B0, B1, B2][i]? = some B → ∃ B', Cs[i]? = some B' ∧ B'.b = B.b ∧ B'.p = B.p ∧ B'.R = B.R ∧ ((i < j ∧ B'.ms = B.ms.map (fun x => ag B.R x now (1 + k)) ∧ B'.now = now + (1 + k)) ∨ (j ≤ i ∧ B'.ms = B.ms ∧ B'.now = now)))
              ⟨[B0, B1, B2], rfl, bdd.keep nD2, fun i B hB => ⟨B, hB, rfl, rfl, rfl, .inr ⟨Nat.zero_le _, rfl, by
                match i, hB with
                | 0, hB => cases hB; exact rel.n0
                | 1, hB => cases hB; exact rel.n1
                | 2, hB => cases hB; exact rel.n2
                | i + 3, hB => simp at hB⟩⟩⟩ (fun j H' _ h => let ⟨_, _, bd, _⟩ := h; SqL.of (bd.ks (Lb, [V.ref bb0, V.ref bb1, V.ref bb]) (by simp))) ?_ ?_
            · rintro j y He hy ⟨Cs, lC, bde, fC⟩
              have jl : j < 3 := (List.getElem?_eq_some_iff.mp hy).1
              obtain ⟨B, hB⟩ : ∃ B, [B0, B1, B2][j]? = some B := ⟨_, List.getElem?_eq_getElem (l := [B0, B1, B2]) jl⟩
              have ey : y = .ref B.b := by
                match j, hB, hy with
                | 0, hB, hy => cases hB; cases hy; rw [e0]
                | 1, hB, hy => cases hB; cases hy; rw [e1]
                | 2, hB, hy => cases hB; cases hy; rw [e2]
                | j + 3, hB, _ => simp at hB
              subst ey
              obtain ⟨B', hB', eb1, eb2, eb3, hh⟩ := fC j B hB
              have hm := List.mem_of_getElem? hB'
              rcases hh with ⟨z, _⟩ | ⟨_, em, enw⟩
              · exact absurd z (Nat.lt_irrefl _)
              have ba := bde.at_ B' hm
              have ba' : BAt C He B.b B'.p B'.am B'.R B'.ms B'.now := by rw [← eb1]; exact ba
              obtain ⟨dx, ob⟩ := ba'.ob
              refine ⟨rfl, _, rfl, B.b, dx, _, rfl, ob, bfl_no _ _ _ (by decide +kernel) (by decide +kernel) (by decide +kernel), _, rfl, B.b, B'.p, B'.am, B'.R, B'.ms, B'.now, _, rfl, ba', .inl ⟨1 + k, rfl, by omega, by omega, by omega, fun Hf am' baf nam kf => ?_⟩⟩
              have bdf := bde.chg (B' := { B' with am := am', ms := B'.ms.map (fun x => ag B'.R x B'.now (1 + k)), now := B'.now + (1 + k) }) hB' rfl (by show BAt C Hf B'.b _ _ _ _ _; rw [eb1]; exact baf) (kf.mono fun x hx => by rw [List.mem_singleton.mp hx, eb1]; simp) (.inr nam)
              refine ⟨_, bdf.ks (D2, _) List.mem_cons_self, by rw [List.length_replicate]; exact small1000 (by omega), Cs.set j { B' with am := am', ms := B'.ms.map (fun x => ag B'.R x B'.now (1 + k)), now := B'.now + (1 + k) }, by rw [List.length_set]; exact lC, ?_, fun i2 B2' h2 => ?_⟩
              · rw [show B'.now + (1 + k) = now + (1 + k) by rw [enw], show List.replicate j (V.int ((now + (1 + k) : Nat) : Int)) ++ [V.int ((now + (1 + k) : Nat) : Int)] = List.replicate (j + 1) (V.int ((now + (1 + k) : Nat) : Int)) from List.replicate_succ'.symm]
                rw [show B'.now + (1 + k) = now + (1 + k) by rw [enw]] at bdf
                exact bdf.rekeep n4 _
              · obtain ⟨B3, h3, g1, g2, g3, g4⟩ := fC i2 B2' h2
                by_cases q : j = i2
                · subst q
                  rw [hB] at h2
                  cases h2
                  rw [hB'] at h3
                  cases h3
                  refine ⟨{ B' with am := am', ms := B'.ms.map (fun x => ag B'.R x B'.now (1 + k)), now := B'.now + (1 + k) }, by rw [List.getElem?_set, if_pos rfl, if_pos (by rw [lC]; exact jl)], eb1, eb2, eb3, .inl ⟨Nat.lt_succ_self _, ?_, ?_⟩⟩
                  · show B'.ms.map _ = _
                    rw [em, eb3, enw]
                  · show B'.now + (1 + k) = _
                    rw [enw]
                · refine ⟨B3, by rw [List.getElem?_set, if_neg q]; exact h3, g1, g2, g3, ?_⟩
                  rcases g4 with ⟨y1, y2⟩ | ⟨y1, y2⟩
                  · exact .inl ⟨by omega, y2⟩
                  · exact .inr ⟨by omega, y2⟩
            · rintro He ⟨Cs, lC, bde, fC⟩
              obtain ⟨C0, C1, C2, rfl⟩ : ∃ C0 C1 C2, Cs = [C0, C1, C2] := by
                match Cs, lC with
                | [C0, C1, C2], _ => exact ⟨C0, C1, C2, rfl⟩
              obtain ⟨D0, q0, x1, x2, x3, x4⟩ := fC 0 B0 rfl
              cases q0
              obtain ⟨D1, q1, y1, y2, y3, y4⟩ := fC 1 B1 rfl
              cases q1
              obtain ⟨D2', q2, z1, z2, z3, z4⟩ := fC 2 B2 rfl
              cases q2
              rcases x4 with ⟨_, x4, x5⟩ | ⟨x4, _⟩
              · rcases y4 with ⟨_, y4, y5⟩ | ⟨y4, _⟩
                · rcases z4 with ⟨_, z4, z5⟩ | ⟨z4, _⟩
                  · refine ⟨D2, ((now + (1 + k) : Nat) : Int), rfl, SqL.of (bde.ks (D2, _) List.mem_cons_self), rfl, _, rfl, iteNS rfl ?_⟩
                    exact hnx _ _ ⟨now + (1 + k), _, _, _, _, _, rfl, bde.drop, x1.trans e0, y1.trans e1, z1.trans e2, rel_pass rel eb (by omega) (1 + k) ⟨x3, x2, x4, x5⟩ ⟨y3, y4, y5⟩ ⟨z3, z4, z5⟩, by omega⟩
                  · exact absurd z4 (by show ¬ 3 ≤ 2; decide)
                · exact absurd y4 (by show ¬ 3 ≤ 1; decide)
              · exact absurd x4 (by show ¬ 3 ≤ 0; decide)
        · rintro σ' Hb ⟨now, B0, B1, B2, v10, v11, rfl, bdb, e0, e1, e2, rel, nwl⟩
          dsimp only
          have n0 := rel.n0
          have n1 := rel.n1
          have n2 := rel.n2
          have bs : 0 < 1 + r1 := by omega
          have ba0 := atb bdb (B := B0) (by simp) e0
          have ba1 := atb bdb (B := B1) (by simp) e1
          have ba2 := atb bdb (B := B2) (by simp) e2
          have f8 := ba0.few
          have l0 := rel.l0
          obtain ⟨dx0, ob0⟩ := ba0.ob
          obtain ⟨dx1, ob1⟩ := ba1.ob
          obtain ⟨dx2, ob2⟩ := ba2.ob
          have eLb := bdb.ks (Lb, [V.ref bb0, V.ref bb1, V.ref bb]) (by simp)
          have eLr := bdb.ks (Lr, [V.ref pc, V.ref ps]) (by simp)
          have ag1 := rel_ages rel eb bs
          have ag2 := rel_ages2 rel
          have lsp : (agesF B0.R B0.now B0.ms).length = 1 + r2 := by rw [agesF_len]; exact l0
          have hsg : ∀ j (jl : j < B0.ms.length), (agesF B0.R B0.now B0.ms)[j]? = some (spanF B0.R B0.now B0.ms[j]) := fun j jl => by
            unfold agesF
            rw [List.getElem?_map, List.getElem?_eq_getElem jl]
            rfl
          generalize hsp : agesF B0.R B0.now B0.ms = sp at ag1 ag2 lsp hsg
          have sd : PyData.depth (pdSp sp) ≤ 3 := Nat.le_trans (pdSp_d sp) (by decide)
          have ss : szOk (pdSp sp) = true := pdSp_s (by omega)
          -- ages
          refine ⟨_, rfl, Lb, _, _, _, rfl, rfl, SqL.of eLb, atI_nat (j := 0) rfl, bb0, dx0, _, rfl, ob0, bfl_no _ _ _ (by decide +kernel) (by decide +kernel) (by decide +kernel), bb0, B0.p, B0.am, B0.R, B0.ms, B0.now, rfl, ba0, by omega, fun Hc l Ts nl sc el ta => ?_⟩
          rw [hsp] at ta
          -- by shift
          refine ⟨_, rfl, Lb, _, _, _, rfl, rfl, SqL.of (sc _ _ eLb), atI_nat (j := 1) rfl, bb1, dx1, _, rfl, sc _ _ ob1, bfl_no _ _ _ (by decide +kernel) (by decide +kernel) (by decide +kernel), bb1, B1.p, B1.am, B1.R, B1.ms, B1.now, rfl, ba1.same sc, by omega, fun Hd l1 Ts1 nl1 sd1 el1 ta1 => ?_⟩
          rw [ag1] at ta1
          refine ⟨_, rfl, .ref l1, .ref l, pdSp sp, rfl, dpSp el1 ta1, dpSp (sd1 _ _ el) (ta.same sd1), sd, ss, fun He se => ⟨_, rfl, iteF ?_⟩⟩
          have sbe := (sc.trans sd1).trans se
          refine ⟨_, rfl, Lb, _, _, _, rfl, rfl, SqL.of (sbe _ _ eLb), atI_nat (j := 1) rfl, bb1, dx1, _, rfl, sbe _ _ ob1, bfl_no _ _ _ (by decide +kernel) (by decide +kernel) (by decide +kernel), bb1, B1.p, B1.am, B1.R, B1.ms, B1.now, rfl, ba1.same sbe, by omega, fun Hf l2 nl2 sf el2 => ?_⟩
          rw [ag1] at el2
          have sbf := sbe.trans sf
          refine ⟨_, rfl, Lb, _, _, _, rfl, rfl, SqL.of (sbf _ _ eLb), atI_nat (j := 0) rfl, bb0, dx0, _, rfl, sbf _ _ ob0, bfl_no _ _ _ (by decide +kernel) (by decide +kernel) (by decide +kernel), bb0, B0.p, B0.am, B0.R, B0.ms, B0.now, rfl, ba0.same sbf, by omega, fun Hg l3 nl3 sg el3 => ?_⟩
          rw [hsp] at el3
          have ol8 : (oldestF sp).length ≤ 8 := Nat.le_trans (oldTo_len _ _) (by omega)
          refine ⟨.ref l2, .ref l3, pdMs (oldestF sp), rfl, dpMs (sg _ _ el2), dpMs el3, Nat.le_trans (pdMs_d _) (by decide), pdMs_s (by omega), fun Hh sh => ⟨_, rfl, iteF ?_⟩⟩
          have sbh := (sbf.trans sg).trans sh
          have scl : Same Hc Hh := ((((sd1.trans se).trans sf).trans sg).trans sh)
          -- the other way round
          refine ⟨_, rfl, Lb, _, _, _, rfl, rfl, SqL.of (sbh _ _ eLb), atI_nat (j := 2) rfl, bb, dx2, _, rfl, sbh _ _ ob2, bfl_no _ _ _ (by decide +kernel) (by decide +kernel) (by decide +kernel), bb, B2.p, B2.am, B2.R, B2.ms, B2.now, rfl, ba2.same sbh, by omega, fun Hi l4 Ts4 nl4 si el4 ta4 => ?_⟩
          rw [ag2] at ta4
          refine ⟨l4, _, rfl, SqL.of el4, fun l5 nl5 => ?_⟩
          have s5 := same_upd (o := .lst (Ts4.map V.ref).reverse) nl5
          have ta5 := (ta4.rev).same s5
          rw [List.reverse_reverse] at ta5
          have el5 : (upd Hi l5 (.lst (Ts4.map V.ref).reverse)) l5 = some (.lst (Ts4.reverse.map V.ref)) := by rw [upd_same, List.map_reverse]
          have sj := si.trans s5
          refine ⟨_, rfl, .ref l5, .ref l, pdSp sp, rfl, dpSp el5 ta5, dpSp ((scl.trans sj) _ _ el) (ta.same (scl.trans sj)), sd, ss, fun Hk sk => ⟨_, rfl, iteF ?_⟩⟩
          have sbk := (sbh.trans sj).trans sk
          -- the oldest
          refine ⟨_, rfl, Lb, _, _, _, rfl, rfl, SqL.of (sbk _ _ eLb), atI_nat (j := 2) rfl, bb, dx2, _, rfl, sbk _ _ ob2, bfl_no _ _ _ (by decide +kernel) (by decide +kernel) (by decide +kernel), bb, B2.p, B2.am, B2.R, B2.ms, B2.now, rfl, ba2.same sbk, by omega, fun Hl l6 nl6 sl el6 => ?_⟩
          rw [ag2] at el6
          have sbl := sbk.trans sl
          refine ⟨_, rfl, Lb, _, _, _, rfl, rfl, SqL.of (sbl _ _ eLb), atI_nat (j := 0) rfl, bb0, dx0, _, rfl, sbl _ _ ob0, bfl_no _ _ _ (by decide +kernel) (by decide +kernel) (by decide +kernel), bb0, B0.p, B0.am, B0.R, B0.ms, B0.now, rfl, ba0.same sbl, by omega, fun Hm l7 nl7 sm el7 => ?_⟩
          rw [hsp] at el7
          refine ⟨l7, rfl, ⟨_, SqL.of el7⟩, fun D nD => ?_⟩
          refine lc_list (K := K) (a := l7) (xs := nvs (oldestF sp)) (fun j H' => Same Hm H' ∧ H' D = some (.lst ((((oldestF sp).take j).map fun (j : Nat) => (sp.length : Int) - 1 - (j : Int)).map V.int))) ⟨same_upd nD, upd_same⟩ (fun j H' _ h => SqL.of (h.1 _ _ el7)) ?_ ?_
          · rintro j y Hn hy ⟨sn, eD⟩
            have jl : j < (oldestF sp).length := by
              have := (List.getElem?_eq_some_iff.mp hy).1
              rw [nvs_len] at this
              exact this
            have ey : y = .int (((oldestF sp).getD j 0 : Nat) : Int) := Option.some.inj (hy.symm.trans (nvs_get jl))
            subst ey
            refine ⟨rfl, _, rfl, _, _, rfl, rfl, _, rfl, _, _, rfl, rfl, _, eD, ?_, fun x o e => ?_, ?_⟩
            · rw [List.length_map, List.length_map, List.length_take]
              exact small1000 (by omega)
            · rw [upd_ne (ne_of_none e nD)]; exact sn _ _ e
            · rw [upd_same, List.take_add_one, List.getElem?_eq_getElem jl, List.getD_eq_getElem?_getD, List.getElem?_eq_getElem jl, List.map_append, List.map_append, lsp]
              rfl
          · rintro Hn ⟨sn, eD⟩
            rw [nvs_len, List.take_length] at eD
            refine ⟨D, _, rfl, SqL.of eD, by rw [List.length_map]; omega, fun ns' lp hp hs np => ?_⟩
            have so := same_upd (o := .lst (ns'.map V.int)) np
            have eo := old_rev hp hs
            refine ⟨pdMs (oldestF sp.reverse), .list (ns'.map PyData.int), dpMs (((sm.trans sn).trans so) _ _ el6), Dp.lst (SqL.of upd_same) (dpAll_ints ns'), PySem.W.shaped_ints _, PySem.W.shaped_ints _, _, rfl, ?_⟩
            have epd : pdMs (oldestF sp.reverse) = .list (ns'.map PyData.int) := by
              unfold pdMs pdM
              rw [eo]
            rw [epd, eqv_same (PySem.W.shaped_ints _)]
            refine iteF ?_
            have sbo := ((sbl.trans sm).trans sn).trans so
            have sco : Same Hc (upd Hn lp (.lst (ns'.map V.int))) := ((((((scl.trans sj).trans sk).trans sl).trans sm).trans sn).trans so)
            -- a round later
            refine ⟨_, rfl, _, rfl, by omega, by omega, ?_⟩
            rw [Int.toNat_natCast]
            refine for_range (lo := 0) (n := 1 + r2) (fun j σ H' => ∃ (x14 x15 : Option V), σ = [some (.ref a), some (.ref h), some (.int (b : Int)), some (.int (b' : Int)), some (.int ((1 + r1 : Nat) : Int)), some (.int ((1 + r2 : Nat) : Int)), some (.ref Lr), none, some (.ref Lb), some (.int (0 + (i : Int))), v10, v11, none, some (.ref l), x14, x15] ∧ Same (upd Hn lp (.lst (ns'.map V.int))) H')
              ⟨v14, v15, rfl, Same.refl _⟩ ?_ ?_
            · rintro j σ Hq hj ⟨x14, x15, rfl, sq⟩
              have sbq := sbo.trans sq
              have scq := sco.trans sq
              have jl : j < B0.ms.length := by omega
              have jT : j < Ts.length := by rw [ta.len, lsp]; exact hj
              obtain ⟨sx, hsx, eTx⟩ := ta.get (List.getElem?_eq_getElem jT)
              have gl : (Ts.map V.ref)[j]? = some (.ref Ts[j]) := by rw [List.getElem?_map, List.getElem?_eq_getElem jT]; rfl
              have esx : spanF B0.R B0.now B0.ms[j] = sx := Option.some.inj ((hsg j jl).symm.trans hsx)
              have egd : B0.ms.getD j 0 = B0.ms[j] := by rw [List.getD_eq_getElem?_getD, List.getElem?_eq_getElem jl]; rfl
              refine ⟨_, rfl, Lb, _, _, _, rfl, rfl, SqL.of (sbq _ _ eLb), atI_nat (j := 0) rfl, bb0, dx0, _, rfl, sbq _ _ ob0, bfl_no _ _ _ (by decide +kernel) (by decide +kernel) (by decide +kernel), bb0, B0.p, B0.am, B0.R, B0.ms, B0.now, rfl, ba0.same sbq, fun Hr l8 nl8 sr el8 => ?_⟩
              refine ⟨_, rfl, l8, _, _, _, rfl, rfl, SqL.of el8, at_of (j := j) (Int.zero_add _) (nvs_get jl), ?_⟩
              have sbr := sbq.trans sr
              have scr := scq.trans sr
              refine ⟨_, rfl, _, rfl, l, _, _, _, rfl, rfl, SqL.of (scr _ _ el), at_of (j := j) (Int.zero_add _) gl, Ts[j], [oV sx.1, oV sx.2], _, _, rfl, rfl, SqT.of (scr _ _ eTx), atI_nat (j := 1) rfl, _, rfl, ?_⟩
              cases ey : sx.2 with
              | none =>
                rw [decide_eq_true (show oV none = V.non from rfl)]
                exact iteF (iteF ⟨_, _, rfl, sq.trans sr⟩)
              | some hi2 =>
                rw [decide_eq_false (show ¬ oV (some hi2) = V.non from fun z => nomatch z)]
                refine iteT ?_
                have epc' : RuAt Hr pc (.cnt b (1 + r1)) := by
                  have := (ba0.same sbr).rl
                  rw [rel.p0, rel.r0] at this
                  exact this
                have mm : B0.ms.getD j 0 ≤ (Ru.cnt b (1 + r1)).most := by
                  have := ba0.bd _ (getD_mem jl)
                  rw [rel.r0] at this
                  exact this
                refine ⟨_, rfl, Lr, _, _, _, rfl, rfl, SqL.of (sbr _ _ eLr), atI_nat (j := 0) rfl, _, rfl, Lb, _, _, _, rfl, rfl, SqL.of (sbr _ _ eLb), atI_nat (j := 0) rfl, bb0, dx0, _, rfl, sbr _ _ ob0, bfl_no _ _ _ (by decide +kernel) (by decide +kernel) (by decide +kernel), bb0, B0.p, B0.am, B0.R, B0.ms, B0.now, rfl, ba0.same sbr, ?_⟩
                refine ⟨_, rfl, _, _, rfl, rfl, .inl ⟨by decide, by decide⟩, _, _, rfl, rfl, _, rfl, ?_⟩
                refine ⟨pc, .cnt b (1 + r1), B0.now + 7 * (1 + r1), B0.ms.getD j 0, _, _, rfl, rfl, rfl, epc', okc, mm, by omega, fun Hs T9 x y isp nT ss9 eT9 => ?_⟩
                refine ⟨_, rfl, _, rfl, l, _, _, _, rfl, rfl, SqL.of ((scr.trans ss9) _ _ el), at_of (j := j) (Int.zero_add _) gl, ?_⟩
                have hf := spanF_eq isp
                have hl2 := span_later (R := .cnt b (1 + r1)) rfl bs (now := B0.now) (m := B0.ms.getD j 0) mm (by
                  rw [egd]
                  have := esx
                  rw [rel.r0] at this
                  rw [this, ey]
                  exact fun z => nomatch z)
                have exy : sx = (x, y) := by
                  rw [← hf, ← esx, rel.r0, ← egd]
                  exact hl2.symm
                refine ⟨pdS (x, y), pdS sx, .tup (SqT.of eT9) (.cons (dpO x) (.cons (dpO y) .nil)), .tup (SqT.of ((scr.trans ss9) _ _ eTx)) (.cons (dpO _) (.cons (dpO _) .nil)), shaped_of (pdS_l _) (Nat.le_trans (pdS_d _) (by decide)), shaped_of (pdS_l _) (Nat.le_trans (pdS_d _) (by decide)), _, rfl, ?_⟩
                rw [exy, eqv_same (shaped_of (pdS_l _) (Nat.le_trans (pdS_d _) (by decide)))]
                exact iteF ⟨_, _, rfl, (sq.trans sr).trans ss9⟩
            · rintro σ Hq ⟨x14, x15, rfl, sq⟩
              exact ⟨now, B0, B1, B2, _, _, _, _, _, _, rfl, bdb.same (sbo.trans sq), e0, e1, e2, rel, nwl⟩
      · rintro σ Ha' _
        exact q Ha'
end
theorem lims_mk {K : PySem.W.Frag} {w : World} {h : Heap} {mg : Str → Option Value} {d d1 d2 d3 : Addr} {es : Array DictEntry} {n n1 n2 n3 : Nat} {od1 od2 od3 : Option Addr} {sl1 sl2 sl3 : Array (Option Value)} {x1 x2 x3 x4 x5 : Tok} (X : K.In h) (G : h.Ns mainGlobals mg)
    (aL : PySem.W.nsIn K mainGlobals "LIMITS" = some (some (.ref d))) (lL : K.lookup d = some ⟨.type "dict", none, .dict es n, #[]⟩) (kL : PySem.W.KeysLit w.params es.toList) (sL : (d == sysModules) = false)
    (e1 : PySem.W.nsIn K d "count" = some (some (.ref d1))) (t1 : K.lookup d1 = some ⟨.type "tuple", od1, .seq #[.int 6 x1, .int 20 x2] n1, sl1⟩)
    (e2 : PySem.W.nsIn K d "shift" = some (some (.ref d2))) (t2 : K.lookup d2 = some ⟨.type "tuple", od2, .seq #[.int 10 x3, .int 20 x4] n2, sl2⟩)
    (e3 : PySem.W.nsIn K d "rough" = some (some (.ref d3))) (t3 : K.lookup d3 = some ⟨.type "tuple", od3, .seq #[.int 3 x5] n3, sl3⟩) : Lims K w mg := by
  refine ⟨d, es, n, PySem.W.mg_of X G aL, ⟨lL, kL, sL⟩, fun R => ?_⟩
  cases R with
  | cnt b s => exact ⟨d1, e1, _, _, _, t1, rfl, rfl, (by show 2 ≤ sizeLine; decide), .cons ⟨_, rfl⟩ (.cons ⟨_, rfl⟩ .nil)⟩
  | shf b s => exact ⟨d2, e2, _, _, _, t2, rfl, rfl, (by show 2 ≤ sizeLine; decide), .cons ⟨_, rfl⟩ (.cons ⟨_, rfl⟩ .nil)⟩
  | rgh b => exact ⟨d3, e3, _, _, _, t3, rfl, rfl, (by show 1 ≤ sizeLine; decide), .cons ⟨_, rfl⟩ .nil⟩
theorem all_mk {l : PySem.W.OpenLaw} {w : World} {K : PySem.W.Frag} {h : Heap} {mg : Str → Option Value} {fa : Addr} (X : K.In h) (G : h.Ns mainGlobals mg) (hfa : mg "law" = some (.ref fa))
    {d dd1 dd2 dd3 : Addr} {es : Array DictEntry} {n n1 n2 n3 : Nat} {od1 od2 od3 : Option Addr} {sl1 sl2 sl3 : Array (Option Value)} {x1 x2 x3 x4 x5 : Tok}
    {tk_LAST_MOMENT : Tok}
    {tk_MOST_THINGS : Tok}
    {tk_LONGEST_PASS : Tok}
    {C : Addr}
    {cNoThing : Addr}
    {cBadMoment : Addr}
    (d_is_rule : DefAt K mg "is_rule" s_is_rule ["rule"])
    (d_check_rule : DefAt K mg "check_rule" s_check_rule ["rule"])
    (d_check_mark : DefAt K mg "check_mark" s_check_mark ["rule", "mark"])
    (d_check_moment : DefAt K mg "check_moment" s_check_moment ["moment"])
    (d_top_mark : DefAt K mg "top_mark" s_top_mark ["rule"])
    (d_end_mark : DefAt K mg "end_mark" s_end_mark ["rule"])
    (d_seen : DefAt K mg "seen" s_seen ["rule", "mark"])
    (d_aged_on : DefAt K mg "aged_on" s_aged_on ["rule", "mark", "begin", "end"])
    (d_aged_roughly : DefAt K mg "_aged_roughly" s_aged_roughly ["last", "mark", "begin", "end"])
    (d_span : DefAt K mg "span" s_span ["rule", "now", "mark"])
    (d_agings : DefAt K mg "_agings" s_agings ["rule", "mark"])
    (d_stepped_span : DefAt K mg "_stepped_span" s_stepped_span ["rule", "now", "mark"])
    (d_rough_span : DefAt K mg "_rough_span" s_rough_span ["rule", "now", "mark"])
    (d_surely_older : DefAt K mg "_surely_older" s_surely_older ["age", "other"])
    (d_L_mix : DefAt K mg "_law_mix" s_L_mix ["_law_script", "_law_seed"])
    (d_L_next : DefAt K mg "_law_next" s_L_next ["_law_h", "_law_many"])
    (d_L_alike : DefAt K mg "_law_alike" s_L_alike ["_law_found", "_law_due"])
    (d_law : DefAt K mg "law" s_law ["_law_script"])
    (m_len : mg "len" = none)
    (m_all : mg "all" = none)
    (m_zip : mg "zip" = none)
    (m_min : mg "min" = none)
    (m_max : mg "max" = none)
    (m_list : mg "list" = none)
    (m_range : mg "range" = none)
    (m_int : mg "int" = none)
    (m_isi : mg "isinstance" = none)
    (m_tuple : mg "tuple" = none)
    (m_str : mg "str" = none)
    (m_bool : mg "bool" = none)
    (m_enum : mg "enumerate" = none)
    (m_any : mg "any" = none)
    (m_set_ : mg "set" = none)
    (m_sorted_ : mg "sorted" = none)
    (aL : PySem.W.nsIn K mainGlobals "LIMITS" = some (some (.ref d)))
    (lL : K.lookup d = some ⟨.type "dict", none, .dict es n, #[]⟩)
    (kL : PySem.W.KeysLit w.params es.toList)
    (sL : (d == sysModules) = false)
    (e1 : PySem.W.nsIn K d "count" = some (some (.ref dd1)))
    (t1 : K.lookup dd1 = some ⟨.type "tuple", od1, .seq #[.int 6 x1, .int 20 x2] n1, sl1⟩)
    (e2 : PySem.W.nsIn K d "shift" = some (some (.ref dd2)))
    (t2 : K.lookup dd2 = some ⟨.type "tuple", od2, .seq #[.int 10 x3, .int 20 x4] n2, sl2⟩)
    (e3 : PySem.W.nsIn K d "rough" = some (some (.ref dd3)))
    (t3 : K.lookup dd3 = some ⟨.type "tuple", od3, .seq #[.int 3 x5] n3, sl3⟩)
    (c_LAST_MOMENT : PySem.W.nsIn K mainGlobals "LAST_MOMENT" = some (some (.int 1000000000 tk_LAST_MOMENT)))
    (c_MOST_THINGS : PySem.W.nsIn K mainGlobals "MOST_THINGS" = some (some (.int 8 tk_MOST_THINGS)))
    (c_LONGEST_PASS : PySem.W.nsIn K mainGlobals "LONGEST_PASS" = some (some (.int 1000 tk_LONGEST_PASS)))
    (aB : PySem.W.nsIn K mainGlobals "Board" = some (some (.ref C)))
    (pgB : PySem.W.plainGet K C Str.empty = true)
    (hdB : PySem.W.hasDictIn K C = true)
    (poB : PySem.W.plainOver K C = true)
    (saB : PySem.W.findIn K (.ref C) "__setattr__" = some (some (.builtin "object.__setattr__")))
    (mkB : PySem.W.makesIn K C = true)
    (kcB : PySem.W.keepIn K (.ref C) = true)
    (n_rule : PySem.W.findIn K (.ref C) "_rule" = some none)
    (n_marks : PySem.W.findIn K (.ref C) "_marks" = some none)
    (n_moment : PySem.W.findIn K (.ref C) "_moment" = some none)
    (dm_init : DefM K C "__init__" "Board.__init__" m_Board_init ["self", "rule", "things"])
    (dm_see : DefM K C "see" "Board.see" m_Board_see ["self", "thing"])
    (dm_pass_by : DefM K C "pass_by" "Board.pass_by" m_Board_pass_by ["self", "many"])
    (dm_marks : DefM K C "marks" "Board.marks" m_Board_marks ["self"])
    (dm_age : DefM K C "age" "Board.age" m_Board_age ["self", "thing"])
    (dm_ages : DefM K C "ages" "Board.ages" m_Board_ages ["self"])
    (dm_oldest : DefM K C "oldest" "Board.oldest" m_Board_oldest ["self"])
    (dm_now : DefM K C "now" "Board.now" m_Board_now ["self"])
    (dm_check_thing : DefM K C "_check_thing" "Board._check_thing" m_Board_check_thing ["self", "thing"])
    (aNoThing : PySem.W.nsIn K mainGlobals "NoThing" = some (some (.ref cNoThing)))
    (xNoThing : PySem.W.excIn K cNoThing [.type "ValueError", .type "Exception", .type "BaseException", .type "object"] "ValueError.__new__" = true)
    (kNoThing : PySem.W.keepIn K (.ref cNoThing) = true)
    (bNoThing : PySem.W.subIn K (.ref cNoThing) (.type "BaseException") = some true)
    (tNoThing : PySem.W.typeIn K (.ref cNoThing) = some (.type "type"))
    (aBadMoment : PySem.W.nsIn K mainGlobals "BadMoment" = some (some (.ref cBadMoment)))
    (xBadMoment : PySem.W.excIn K cBadMoment [.type "ValueError", .type "Exception", .type "BaseException", .type "object"] "ValueError.__new__" = true)
    (kBadMoment : PySem.W.keepIn K (.ref cBadMoment) = true)
    (bBadMoment : PySem.W.subIn K (.ref cBadMoment) (.type "BaseException") = some true)
    (tBadMoment : PySem.W.typeIn K (.ref cBadMoment) = some (.type "type"))
    : ∃ fd : FuncData, (∀ (s : Shared) (v : Value), BindsTo s fd ⟨[v], []⟩ [("_law_script", v)]) ∧ ∀ base : Heap, K.In base → base.Ns mainGlobals mg → FnOk l.prog w K mg base CX0 9 fa fd ["_law_script"] (spLaw K) := by
  obtain ⟨f, fd, F, g, b⟩ := d_law
  have e := hfa.symm.trans g
  cases e
  have F' := F
  obtain ⟨⟨oc, od, kV, doc, pm, an, cdv, ct, osl, rfl, lk, hcd⟩, kp⟩ := F'
  refine ⟨PySem.W.fnOf "law" "law" (defArgs s_law) (defBody s_law) (defScope s_law) .none kV doc pm an cdv ct, fun s v => .of_eq rfl, fun base _ _ => ?_⟩
  have LI : Lims K w mg := lims_mk X G aL lL kL sL e1 t1 e2 t2 e3 t3
  have T : Bcl K mg C := ⟨⟨pgB, hdB, poB, saB⟩, n_rule, n_marks, n_moment⟩
  have gB : mg "Board" = some (.ref C) := PySem.W.mg_of X G aB
  have E_NoThing : ErrC K mg "NoThing" cNoThing := ⟨PySem.W.mg_of X G aNoThing, xNoThing, kNoThing, bNoThing, tNoThing⟩
  have E_BadMoment : ErrC K mg "BadMoment" cBadMoment := ⟨PySem.W.mg_of X G aBadMoment, xBadMoment, kBadMoment, bBadMoment, tBadMoment⟩
  have C_is : Cl l.prog w K mg base 1 "is_rule" ["rule"] spIsRule := ok_is_rule d_is_rule LI m_len m_all m_zip
  have C_cr := ok_check_rule d_check_rule C_is
  have C_tm : Cl l.prog w K mg base 1 "top_mark" ["rule"] spTopMark := ok_top_mark d_top_mark
  have C_cm := ok_check_mark d_check_mark C_tm
  have C_mo : Cl l.prog w K mg base 1 "check_moment" ["moment"] spCheckMoment := ok_check_moment d_check_moment (PySem.W.mg_of X G c_LAST_MOMENT)
  have C_ro : Cl l.prog w K mg base 1 "_aged_roughly" ["last", "mark", "begin", "end"] spRoughly := ok_roughly d_aged_roughly
  have C_ao := ok_aged_on d_aged_on m_min C_tm C_ro
  have C_em := ok_end_mark d_end_mark C_tm
  have C_se : Cl l.prog w K mg base 1 "seen" ["rule", "mark"] spSeen := ok_seen d_seen
  have C_gs := ok_agings d_agings C_se C_em
  have C_st := ok_stepped d_stepped_span m_min C_gs C_em
  have C_rs := ok_rough d_rough_span m_range C_em C_se C_ao
  have C_sp := ok_span d_span C_cr C_mo C_cm C_rs C_st
  have CI := ok_init dm_init T (PySem.W.mg_of X G c_MOST_THINGS) C_cr C_em
  obtain ⟨fI, fdI, GI, MI, bI⟩ := CI
  have MkB : Mk K C fI := ⟨mkB, MI.at_, MI.fn, kcB⟩
  have CK : ClM l.prog w K mg base (L2.CX l.prog w) 1 C "_check_thing" ["self", "thing"] (spChk C cNoThing) := ok_chk dm_check_thing T m_len E_NoThing
  have CS := ok_see dm_see T CK C_se
  have CP := ok_pass dm_pass_by T (PySem.W.mg_of X G c_LONGEST_PASS) E_BadMoment C_ao
  have CM : ClM l.prog w K mg base CX0 1 C "marks" ["self"] (spMarks C) := ok_marks dm_marks T m_list
  have CN : ClM l.prog w K mg base CX0 1 C "now" ["self"] (spNow C) := ok_now dm_now T

  have CG := ok_age dm_age T CK C_sp
  have CA := ok_ages dm_ages T m_len m_range CG

  have C_so : Cl l.prog w K mg base 1 "_surely_older" ["age", "other"] spOlder := ok_surely d_surely_older
  have CO := ok_oldest dm_oldest T m_enum m_any CA C_so

  have C_mix : Cl l.prog w K mg base 1 "_law_mix" ["_law_script", "_law_seed"] (spMix K) := ok_mix d_L_mix m_list
  have C_next : Cl l.prog w K mg base 1 "_law_next" ["_law_h", "_law_many"] spNext := ok_next d_L_next m_max m_len

  have C_al0 : Cl l.prog w K mg base 1 "_law_alike" ["_law_found", "_law_due"] (spAlike K 0) := ok_alike0 d_L_alike m_isi m_tuple m_list m_str m_bool m_int
  have C_al1 := ok_alikeS d_L_alike m_isi m_tuple m_list m_str m_bool m_int m_len m_range C_al0
  have C_al2 := ok_alikeS d_L_alike m_isi m_tuple m_list m_str m_bool m_int m_len m_range C_al1
  have C_al3 := ok_alikeS d_L_alike m_isi m_tuple m_list m_str m_bool m_int m_len m_range C_al2

  exact ok_law F m_range m_len m_set_ m_sorted_ T gB MkB GI bI C_mix C_next C_al3 C_sp CS CP CM CN CA CO
end LS
open PySem PySem.W PyProof.Rows
set_option maxHeartbeats 0 in
theorem PySem.Challenge.cw_lastseen_k13_whole_shift_and_count_alike_holds : PySem.Challenge.rw_lastseen_k13_whole_shift_and_count_alike.Holds := by
  w_on; o_law; k_head; (case hw => w_witness2)
  k_fill
  refine L2.walk_of (l := PySem.Challenge.rw_lastseen_k13_whole_shift_and_count_alike) (n := 63) (k := 9) (x := "_law_script") (CX := fun _ => L2.CX0) (sp := fun w => LS.spLaw _) rfl (by decide) rfl ⟨rfl, by decide, by decide⟩ (fun w h Y => PySem.W.kIn_of Y) ?F (fun _ _ a ns hl _ hS => ⟨a, ns, rfl, hS, hl, fun _ => rfl⟩) (fun _ _ _ _ _ h => h)
  case F =>
    intro w mg fa h KX G hmg
    refine' LS.all_mk KX G hmg (LS.defAt_mk (st := LS.s_is_rule) (ps := ["rule"]) KX G ?a0 ?l0 ?c0 ?k0 (fun _ _ _ _ _ _ us hl => match us, hl with | [_], _ => rfl)) (LS.defAt_mk (st := LS.s_check_rule) (ps := ["rule"]) KX G ?a1 ?l1 ?c1 ?k1 (fun _ _ _ _ _ _ us hl => match us, hl with | [_], _ => rfl)) (LS.defAt_mk (st := LS.s_check_mark) (ps := ["rule", "mark"]) KX G ?a2 ?l2 ?c2 ?k2 (fun _ _ _ _ _ _ us hl => match us, hl with | [_, _], _ => rfl)) (LS.defAt_mk (st := LS.s_check_moment) (ps := ["moment"]) KX G ?a3 ?l3 ?c3 ?k3 (fun _ _ _ _ _ _ us hl => match us, hl with | [_], _ => rfl)) (LS.defAt_mk (st := LS.s_top_mark) (ps := ["rule"]) KX G ?a4 ?l4 ?c4 ?k4 (fun _ _ _ _ _ _ us hl => match us, hl with | [_], _ => rfl)) (LS.defAt_mk (st := LS.s_end_mark) (ps := ["rule"]) KX G ?a5 ?l5 ?c5 ?k5 (fun _ _ _ _ _ _ us hl => match us, hl with | [_], _ => rfl)) (LS.defAt_mk (st := LS.s_seen) (ps := ["rule", "mark"]) KX G ?a6 ?l6 ?c6 ?k6 (fun _ _ _ _ _ _ us hl => match us, hl with | [_, _], _ => rfl)) (LS.defAt_mk (st := LS.s_aged_on) (ps := ["rule", "mark", "begin", "end"]) KX G ?a7 ?l7 ?c7 ?k7 (fun _ _ _ _ _ _ us hl => match us, hl with | [_, _, _, _], _ => rfl)) (LS.defAt_mk (st := LS.s_aged_roughly) (ps := ["last", "mark", "begin", "end"]) KX G ?a8 ?l8 ?c8 ?k8 (fun _ _ _ _ _ _ us hl => match us, hl with | [_, _, _, _], _ => rfl)) (LS.defAt_mk (st := LS.s_span) (ps := ["rule", "now", "mark"]) KX G ?a9 ?l9 ?c9 ?k9 (fun _ _ _ _ _ _ us hl => match us, hl with | [_, _, _], _ => rfl)) (LS.defAt_mk (st := LS.s_agings) (ps := ["rule", "mark"]) KX G ?a10 ?l10 ?c10 ?k10 (fun _ _ _ _ _ _ us hl => match us, hl with | [_, _], _ => rfl)) (LS.defAt_mk (st := LS.s_stepped_span) (ps := ["rule", "now", "mark"]) KX G ?a11 ?l11 ?c11 ?k11 (fun _ _ _ _ _ _ us hl => match us, hl with | [_, _, _], _ => rfl)) (LS.defAt_mk (st := LS.s_rough_span) (ps := ["rule", "now", "mark"]) KX G ?a12 ?l12 ?c12 ?k12 (fun _ _ _ _ _ _ us hl => match us, hl with | [_, _, _], _ => rfl)) (LS.defAt_mk (st := LS.s_surely_older) (ps := ["age", "other"]) KX G ?a13 ?l13 ?c13 ?k13 (fun _ _ _ _ _ _ us hl => match us, hl with | [_, _], _ => rfl)) (LS.defAt_mk (st := LS.s_L_mix) (ps := ["_law_script", "_law_seed"]) KX G ?a14 ?l14 ?c14 ?k14 (fun _ _ _ _ _ _ us hl => match us, hl with | [_, _], _ => rfl)) (LS.defAt_mk (st := LS.s_L_next) (ps := ["_law_h", "_law_many"]) KX G ?a15 ?l15 ?c15 ?k15 (fun _ _ _ _ _ _ us hl => match us, hl with | [_, _], _ => rfl)) (LS.defAt_mk (st := LS.s_L_alike) (ps := ["_law_found", "_law_due"]) KX G ?a16 ?l16 ?c16 ?k16 (fun _ _ _ _ _ _ us hl => match us, hl with | [_, _], _ => rfl)) (LS.defAt_mk (st := LS.s_law) (ps := ["_law_script"]) KX G ?a17 ?l17 ?c17 ?k17 (fun _ _ _ _ _ _ us hl => match us, hl with | [_], _ => rfl)) (PySem.W.mg_none_of KX G ?zlen) (PySem.W.mg_none_of KX G ?zall) (PySem.W.mg_none_of KX G ?zzip) (PySem.W.mg_none_of KX G ?zmin) (PySem.W.mg_none_of KX G ?zmax) (PySem.W.mg_none_of KX G ?zlist) (PySem.W.mg_none_of KX G ?zrange) (PySem.W.mg_none_of KX G ?zint) (PySem.W.mg_none_of KX G ?zisi) (PySem.W.mg_none_of KX G ?ztuple) (PySem.W.mg_none_of KX G ?zstr) (PySem.W.mg_none_of KX G ?zbool) (PySem.W.mg_none_of KX G ?zenum) (PySem.W.mg_none_of KX G ?zany) (PySem.W.mg_none_of KX G ?zset_) (PySem.W.mg_none_of KX G ?zsorted_) ?aL ?lL ?kL ?sL ?e1 ?t1 ?e2 ?t2 ?e3 ?t3 ?c_LAST_MOMENT ?c_MOST_THINGS ?c_LONGEST_PASS ?aB ?pgB ?hdB ?poB ?saB ?mkB ?kcB ?n_rule ?n_marks ?n_moment (LS.defM_mk (st := LS.m_Board_init) (ps := ["self", "rule", "things"]) ?ma0 ?mi0 ?ml0 ?mc0 ?mk0 (fun _ _ _ _ _ _ us hl => match us, hl with | [_, _, _], _ => rfl)) (LS.defM_mk (st := LS.m_Board_see) (ps := ["self", "thing"]) ?ma1 ?mi1 ?ml1 ?mc1 ?mk1 (fun _ _ _ _ _ _ us hl => match us, hl with | [_, _], _ => rfl)) (LS.defM_mk (st := LS.m_Board_pass_by) (ps := ["self", "many"]) ?ma2 ?mi2 ?ml2 ?mc2 ?mk2 (fun _ _ _ _ _ _ us hl => match us, hl with | [_, _], _ => rfl)) (LS.defM_mk (st := LS.m_Board_marks) (ps := ["self"]) ?ma3 ?mi3 ?ml3 ?mc3 ?mk3 (fun _ _ _ _ _ _ us hl => match us, hl with | [_], _ => rfl)) (LS.defM_mk (st := LS.m_Board_age) (ps := ["self", "thing"]) ?ma4 ?mi4 ?ml4 ?mc4 ?mk4 (fun _ _ _ _ _ _ us hl => match us, hl with | [_, _], _ => rfl)) (LS.defM_mk (st := LS.m_Board_ages) (ps := ["self"]) ?ma5 ?mi5 ?ml5 ?mc5 ?mk5 (fun _ _ _ _ _ _ us hl => match us, hl with | [_], _ => rfl)) (LS.defM_mk (st := LS.m_Board_oldest) (ps := ["self"]) ?ma6 ?mi6 ?ml6 ?mc6 ?mk6 (fun _ _ _ _ _ _ us hl => match us, hl with | [_], _ => rfl)) (LS.defM_mk (st := LS.m_Board_now) (ps := ["self"]) ?ma7 ?mi7 ?ml7 ?mc7 ?mk7 (fun _ _ _ _ _ _ us hl => match us, hl with | [_], _ => rfl)) (LS.defM_mk (st := LS.m_Board_check_thing) (ps := ["self", "thing"]) ?ma8 ?mi8 ?ml8 ?mc8 ?mk8 (fun _ _ _ _ _ _ us hl => match us, hl with | [_, _], _ => rfl)) ?aNoThing ?xNoThing ?kNoThing ?bNoThing ?tNoThing ?aBadMoment ?xBadMoment ?kBadMoment ?bBadMoment ?tBadMoment
    (case a0 => k_is)
    (case l0 => k_is)
    (case c0 => k_is)
    (case k0 => k_is)
    (case a1 => k_is)
    (case l1 => k_is)
    (case c1 => k_is)
    (case k1 => k_is)
    (case a2 => k_is)
    (case l2 => k_is)
    (case c2 => k_is)
    (case k2 => k_is)
    (case a3 => k_is)
    (case l3 => k_is)
    (case c3 => k_is)
    (case k3 => k_is)
    (case a4 => k_is)
    (case l4 => k_is)
    (case c4 => k_is)
    (case k4 => k_is)
    (case a5 => k_is)
    (case l5 => k_is)
    (case c5 => k_is)
    (case k5 => k_is)
    (case a6 => k_is)
    (case l6 => k_is)
    (case c6 => k_is)
    (case k6 => k_is)
    (case a7 => k_is)
    (case l7 => k_is)
    (case c7 => k_is)
    (case k7 => k_is)
    (case a8 => k_is)
    (case l8 => k_is)
    (case c8 => k_is)
    (case k8 => k_is)
    (case a9 => k_is)
    (case l9 => k_is)
    (case c9 => k_is)
    (case k9 => k_is)
    (case a10 => k_is)
    (case l10 => k_is)
    (case c10 => k_is)
    (case k10 => k_is)
    (case a11 => k_is)
    (case l11 => k_is)
    (case c11 => k_is)
    (case k11 => k_is)
    (case a12 => k_is)
    (case l12 => k_is)
    (case c12 => k_is)
    (case k12 => k_is)
    (case a13 => k_is)
    (case l13 => k_is)
    (case c13 => k_is)
    (case k13 => k_is)
    (case a14 => k_is)
    (case l14 => k_is)
    (case c14 => k_is)
    (case k14 => k_is)
    (case a15 => k_is)
    (case l15 => k_is)
    (case c15 => k_is)
    (case k15 => k_is)
    (case a16 => k_is)
    (case l16 => k_is)
    (case c16 => k_is)
    (case k16 => k_is)
    (case a17 => k_is)
    (case l17 => k_is)
    (case c17 => k_is)
    (case k17 => k_is)
    (case zlen => k_is)
    (case zall => k_is)
    (case zzip => k_is)
    (case zmin => k_is)
    (case zmax => k_is)
    (case zlist => k_is)
    (case zrange => k_is)
    (case zint => k_is)
    (case zisi => k_is)
    (case ztuple => k_is)
    (case zstr => k_is)
    (case zbool => k_is)
    (case zenum => k_is)
    (case zany => k_is)
    (case zset_ => k_is)
    (case zsorted_ => k_is)
    (case aL => k_is)
    (case lL => k_is)
    (case kL => k_keys)
    (case sL => decide)
    (case e1 => k_is)
    (case t1 => k_is)
    (case e2 => k_is)
    (case t2 => k_is)
    (case e3 => k_is)
    (case t3 => k_is)
    (case c_LAST_MOMENT => k_is)
    (case c_MOST_THINGS => k_is)
    (case c_LONGEST_PASS => k_is)
    (case aB => k_is)
    (case pgB => k_is)
    (case hdB => k_is)
    (case poB => k_is)
    (case saB => k_is)
    (case mkB => k_is)
    (case kcB => k_is)
    (case n_rule => k_is)
    (case n_marks => k_is)
    (case n_moment => k_is)
    (case ma0 => k_is)
    (case mi0 => k_is)
    (case ml0 => k_is)
    (case mc0 => k_is)
    (case mk0 => k_is)
    (case ma1 => k_is)
    (case mi1 => k_is)
    (case ml1 => k_is)
    (case mc1 => k_is)
    (case mk1 => k_is)
    (case ma2 => k_is)
    (case mi2 => k_is)
    (case ml2 => k_is)
    (case mc2 => k_is)
    (case mk2 => k_is)
    (case ma3 => k_is)
    (case mi3 => k_is)
    (case ml3 => k_is)
    (case mc3 => k_is)
    (case mk3 => k_is)
    (case ma4 => k_is)
    (case mi4 => k_is)
    (case ml4 => k_is)
    (case mc4 => k_is)
    (case mk4 => k_is)
    (case ma5 => k_is)
    (case mi5 => k_is)
    (case ml5 => k_is)
    (case mc5 => k_is)
    (case mk5 => k_is)
    (case ma6 => k_is)
    (case mi6 => k_is)
    (case ml6 => k_is)
    (case mc6 => k_is)
    (case mk6 => k_is)
    (case ma7 => k_is)
    (case mi7 => k_is)
    (case ml7 => k_is)
    (case mc7 => k_is)
    (case mk7 => k_is)
    (case ma8 => k_is)
    (case mi8 => k_is)
    (case ml8 => k_is)
    (case mc8 => k_is)
    (case mk8 => k_is)
    (case aNoThing => k_is)
    (case xNoThing => k_exc)
    (case kNoThing => k_is)
    (case bNoThing => k_is)
    (case tNoThing => k_is)
    (case aBadMoment => k_is)
    (case xBadMoment => k_exc)
    (case kBadMoment => k_is)
    (case bBadMoment => k_is)
    (case tBadMoment => k_is)
