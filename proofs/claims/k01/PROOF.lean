import PyProof.Rows.All
import Wide.All
import OpenK.AllK
import Wide.FinOn
import HandS.ForMost
import HandS.IsInst
import HandS.Zip
import HandS.More
import HandS.WideBits
import HandS.Conv
import HandS.SetFor
import HandS.ExcIs
import HandS.Lambda
import HandS.ForExc
import HandS.EndTab
import HandS.TryMany
import PyProof.DictMoreH
import KE.KNestM
import KE.KDflt
import HandS.Nested
import PySem.Challenge.RW_lastseen_k01_rules_and_marks_refused
set_option Elab.async false
set_option linter.all false
set_option maxRecDepth 100000
set_option maxHeartbeats 4000000
namespace LS
/-- a rule: its kind, bits, step -/
inductive Ru where
  | cnt (b s : Nat)
  | shf (b s : Nat)
  | rgh (b : Nat)
def Ru.ok : Ru → Prop
  | .cnt b s => 1 ≤ b ∧ b ≤ 6 ∧ 1 ≤ s ∧ s ≤ 20
  | .shf b s => 1 ≤ b ∧ b ≤ 10 ∧ 1 ≤ s ∧ s ≤ 20
  | .rgh b => 1 ≤ b ∧ b ≤ 3
def Ru.bits : Ru → Nat
  | .cnt b _ => b
  | .shf b _ => b
  | .rgh b => b
/-- the greatest mark -/
def Ru.most : Ru → Nat
  | .cnt b _ => 2 ^ b - 1
  | .shf b _ => 2 ^ (b + 1) - 1
  | .rgh b => 2 ^ b - 1
/-- the mark that ageing leaves -/
def Ru.fin : Ru → Nat
  | .cnt b _ => 2 ^ b - 1
  | .shf _ _ => 0
  | .rgh b => 2 ^ b - 1
/-- the mark of a thing that was just seen for the first time -/
def Ru.top : Ru → Nat
  | .shf b _ => 2 ^ b
  | _ => 0
/-- the beginning of a moment -/
def tick : Ru → Nat → Nat → Nat
  | .cnt b s, m, t => if t % s = 0 then min (m + 1) (2 ^ b - 1) else m
  | .shf _ s, m, t => if t % s = 0 then m / 2 else m
  | .rgh b, m, t => if m ≠ 2 ^ b - 1 ∧ t % 2 ^ m = 0 then m + 1 else m
/-- n moments behind moment t -/
def ag (R : Ru) (m t : Nat) : Nat → Nat
  | 0 => m
  | n + 1 => tick R (ag R m t n) (t + n + 1)
theorem ag_add (R : Ru) (m t n : Nat) : ∀ k, ag R m t (n + k) = ag R (ag R m t n) (t + n) k
  | 0 => rfl
  | k + 1 => by
    show tick R (ag R m t (n + k)) (t + (n + k) + 1) = tick R (ag R (ag R m t n) (t + n) k) (t + n + k + 1)
    rw [ag_add R m t n k, Nat.add_assoc t n k]
theorem succ_div (k s : Nat) (hs : 0 < s) : (k + 1) / s = k / s + (if (k + 1) % s = 0 then 1 else 0) := by
  have e := Nat.div_add_mod k s
  have hr : k % s < s := Nat.mod_lt k hs
  by_cases h : k % s + 1 < s
  · have e1 : k + 1 = s * (k / s) + (k % s + 1) := by omega
    have d : (k + 1) / s = k / s := by
      have := congrArg (· / s) e1
      simp only [Nat.mul_add_div hs, Nat.div_eq_of_lt h, Nat.add_zero] at this
      exact this
    have m : (k + 1) % s = k % s + 1 := by
      have := congrArg (· % s) e1
      simp only [Nat.mul_add_mod] at this
      rw [this, Nat.mod_eq_of_lt h]
    rw [d, if_neg (by omega), Nat.add_zero]
  · have e2 : k % s + 1 = s := by omega
    have e1 : k + 1 = s * (k / s + 1) := by rw [Nat.mul_add, Nat.mul_one]; omega
    have d : (k + 1) / s = k / s + 1 := by
      have := congrArg (· / s) e1
      simp only [Nat.mul_div_cancel_left _ hs] at this
      exact this
    have m : (k + 1) % s = 0 := by
      have := congrArg (· % s) e1
      simp only [Nat.mul_mod_right] at this
      exact this
    rw [d, if_pos m]
theorem div_mono {a b : Nat} (s : Nat) (h : a ≤ b) : a / s ≤ b / s := Nat.div_le_div_right h
theorem ag_cnt (b s m t : Nat) (hs : 0 < s) (hm : m ≤ 2 ^ b - 1) : ∀ n, ag (.cnt b s) m t n = min (m + ((t + n) / s - t / s)) (2 ^ b - 1)
  | 0 => by
    show m = _
    rw [Nat.add_zero, Nat.sub_self, Nat.add_zero, Nat.min_eq_left hm]
  | n + 1 => by
    show (if (t + n + 1) % s = 0 then min (ag (.cnt b s) m t n + 1) (2 ^ b - 1) else ag (.cnt b s) m t n) = _
    rw [ag_cnt b s m t hs hm n]
    have e := succ_div (t + n) s hs
    have g := div_mono s (Nat.le_add_right t n)
    rw [show t + (n + 1) = t + n + 1 from rfl, e]
    by_cases h : (t + n + 1) % s = 0
    · rw [if_pos h, if_pos h]; omega
    · rw [if_neg h, if_neg h, Nat.add_zero]
theorem ag_shf (b s m t : Nat) (hs : 0 < s) : ∀ n, ag (.shf b s) m t n = m / 2 ^ ((t + n) / s - t / s)
  | 0 => by
    show m = _
    rw [Nat.add_zero, Nat.sub_self, Nat.pow_zero, Nat.div_one]
  | n + 1 => by
    show (if (t + n + 1) % s = 0 then ag (.shf b s) m t n / 2 else ag (.shf b s) m t n) = _
    rw [ag_shf b s m t hs n]
    have e := succ_div (t + n) s hs
    have g := div_mono s (Nat.le_add_right t n)
    rw [show t + (n + 1) = t + n + 1 from rfl, e]
    by_cases h : (t + n + 1) % s = 0
    · rw [if_pos h, if_pos h, Nat.div_div_eq_div_mul, ← Nat.pow_succ]
      congr 2; omega
    · rw [if_neg h, if_neg h, Nat.add_zero]
/-- where rough stands still -/
theorem ag_rgh_fin (b t : Nat) : ∀ n, ag (.rgh b) (2 ^ b - 1) t n = 2 ^ b - 1
  | 0 => rfl
  | n + 1 => by
    show (if ag (.rgh b) (2 ^ b - 1) t n ≠ 2 ^ b - 1 ∧ _ then _ else _) = _
    rw [ag_rgh_fin b t n, if_neg (fun h => h.1 rfl)]
theorem ag_rgh_still (b m t : Nat) : ∀ n, n < (t / 2 ^ m + 1) * 2 ^ m - t → ag (.rgh b) m t n = m
  | 0, _ => rfl
  | n + 1, h => by
    show (if ag (.rgh b) m t n ≠ 2 ^ b - 1 ∧ (t + n + 1) % 2 ^ ag (.rgh b) m t n = 0 then ag (.rgh b) m t n + 1 else ag (.rgh b) m t n) = _
    rw [ag_rgh_still b m t n (by omega)]
    refine if_neg fun ⟨_, h2⟩ => ?_
    have hp : 0 < 2 ^ m := Nat.two_pow_pos m
    have e := Nat.div_add_mod t (2 ^ m)
    have e2 := Nat.div_add_mod (t + n + 1) (2 ^ m)
    have h3 : t + n + 1 < (t / 2 ^ m + 1) * 2 ^ m := by omega
    have h4 : (t + n + 1) / 2 ^ m < t / 2 ^ m + 1 := (Nat.div_lt_iff_lt_mul hp).mpr h3
    have h5 := div_mono (2 ^ m) (show t ≤ t + n + 1 by omega)
    have h6 : (t + n + 1) / 2 ^ m = t / 2 ^ m := by omega
    rw [h6, h2] at e2
    have h7 : 2 ^ m * (t / 2 ^ m) ≤ t := by omega
    omega
theorem next_gt (m t : Nat) : t < (t / 2 ^ m + 1) * 2 ^ m := by
  have hp : 0 < 2 ^ m := Nat.two_pow_pos m
  have e := Nat.div_add_mod t (2 ^ m)
  have := Nat.mod_lt t hp
  rw [Nat.add_mul, Nat.one_mul, Nat.mul_comm]
  omega
theorem next_le (m t : Nat) : (t / 2 ^ m + 1) * 2 ^ m ≤ t + 2 ^ m := by
  have e := Nat.div_add_mod t (2 ^ m)
  rw [Nat.add_mul, Nat.one_mul, Nat.mul_comm]
  omega
theorem ag_rgh_next (b m t : Nat) (hm : m ≠ 2 ^ b - 1) : ag (.rgh b) m t ((t / 2 ^ m + 1) * 2 ^ m - t) = m + 1 := by
  have g := next_gt m t
  obtain ⟨n, hn⟩ : ∃ n, (t / 2 ^ m + 1) * 2 ^ m - t = n + 1 := ⟨(t / 2 ^ m + 1) * 2 ^ m - t - 1, by omega⟩
  rw [hn]
  show (if ag (.rgh b) m t n ≠ 2 ^ b - 1 ∧ (t + n + 1) % 2 ^ ag (.rgh b) m t n = 0 then ag (.rgh b) m t n + 1 else ag (.rgh b) m t n) = _
  have e3 : (t + n + 1) % 2 ^ m = 0 := by
    rw [show t + n + 1 = (t / 2 ^ m + 1) * 2 ^ m by omega]
    exact Nat.mul_mod_left _ _
  rw [ag_rgh_still b m t n (by omega), if_pos ⟨hm, e3⟩]
theorem tick_le (R : Ru) (m t : Nat) (h : m ≤ R.most) : tick R m t ≤ R.most := by
  cases R with
  | cnt b s =>
    show (if t % s = 0 then min (m + 1) (2 ^ b - 1) else m) ≤ 2 ^ b - 1
    have h' : m ≤ 2 ^ b - 1 := h
    split <;> omega
  | shf b s =>
    show (if t % s = 0 then m / 2 else m) ≤ 2 ^ (b + 1) - 1
    have h' : m ≤ 2 ^ (b + 1) - 1 := h
    split <;> omega
  | rgh b =>
    show (if m ≠ 2 ^ b - 1 ∧ t % 2 ^ m = 0 then m + 1 else m) ≤ 2 ^ b - 1
    have h' : m ≤ 2 ^ b - 1 := h
    split
    · rename_i c
      have := c.1
      omega
    · exact h'
theorem ag_le (R : Ru) (m t : Nat) (h : m ≤ R.most) : ∀ n, ag R m t n ≤ R.most
  | 0 => h
  | n + 1 => tick_le R _ _ (ag_le R m t h n)
/-- the length of a round -/
def Ru.round : Ru → Nat
  | .cnt _ s => s
  | .shf _ s => s
  | .rgh _ => 64
theorem pow_div64 {m : Nat} (h : m ≤ 6) (t k : Nat) : (t + 64 * k) % 2 ^ m = t % 2 ^ m := by
  have : m = 0 ∨ m = 1 ∨ m = 2 ∨ m = 3 ∨ m = 4 ∨ m = 5 ∨ m = 6 := by omega
  rcases this with rfl | rfl | rfl | rfl | rfl | rfl | rfl <;> simp only [Nat.reducePow] <;> omega
theorem tick_round (R : Ru) (hR : R.ok) (m t k : Nat) (h : m ≤ R.most) : tick R m (t + R.round * k) = tick R m t := by
  cases R with
  | cnt b s =>
    show (if (t + s * k) % s = 0 then min (m + 1) (2 ^ b - 1) else m) = if t % s = 0 then min (m + 1) (2 ^ b - 1) else m
    rw [Nat.add_mul_mod_self_left]
  | shf b s =>
    show (if (t + s * k) % s = 0 then m / 2 else m) = if t % s = 0 then m / 2 else m
    rw [Nat.add_mul_mod_self_left]
  | rgh b =>
    show (if m ≠ 2 ^ b - 1 ∧ (t + 64 * k) % 2 ^ m = 0 then m + 1 else m) = if m ≠ 2 ^ b - 1 ∧ t % 2 ^ m = 0 then m + 1 else m
    by_cases e : m = 2 ^ b - 1
    · rw [if_neg (fun h => h.1 e), if_neg (fun h => h.1 e)]
    · have h' : m ≤ 2 ^ b - 1 := h
      obtain ⟨h1, h2⟩ : 1 ≤ b ∧ b ≤ 3 := hR
      have hb : b = 1 ∨ b = 2 ∨ b = 3 := by omega
      have h6 : m ≤ 6 := by
        rcases hb with rfl | rfl | rfl <;> simp only [Nat.reducePow] at h' e <;> omega
      rw [pow_div64 h6]
theorem ag_round (R : Ru) (hR : R.ok) (m t k : Nat) (h : m ≤ R.most) : ∀ n, ag R m (t + R.round * k) n = ag R m t n
  | 0 => rfl
  | n + 1 => by
    show tick R (ag R m (t + R.round * k) n) (t + R.round * k + n + 1) = tick R (ag R m t n) (t + n + 1)
    rw [ag_round R hR m t k h n, show t + R.round * k + n + 1 = (t + n + 1) + R.round * k by omega]
    exact tick_round R hR _ _ k (ag_le R m t h n)
theorem ag_rgh_mono1 (b m t n : Nat) : ag (.rgh b) m t n ≤ ag (.rgh b) m t (n + 1) := by
  show ag (.rgh b) m t n ≤ (if ag (.rgh b) m t n ≠ 2 ^ b - 1 ∧ (t + n + 1) % 2 ^ ag (.rgh b) m t n = 0 then ag (.rgh b) m t n + 1 else ag (.rgh b) m t n)
  split <;> omega
theorem ag_rgh_mono (b m t n : Nat) : ∀ k, ag (.rgh b) m t n ≤ ag (.rgh b) m t (n + k)
  | 0 => Nat.le_refl _
  | k + 1 => Nat.le_trans (ag_rgh_mono b m t n k) (ag_rgh_mono1 b m t (n + k))
theorem rgh_reach (b m t : Nat) : ∀ e, e ≤ 2 ^ b - 1 → e ≤ ag (.rgh b) m t (2 ^ e - 1)
  | 0, _ => Nat.zero_le _
  | e + 1, he => by
    have ih := rgh_reach b m t e (by omega)
    have hp := Nat.two_pow_pos e
    have e2 : 2 ^ (e + 1) - 1 = (2 ^ e - 1) + 2 ^ e := by rw [Nat.pow_succ]; omega
    rw [e2]
    by_cases c : e + 1 ≤ ag (.rgh b) m t (2 ^ e - 1)
    · exact Nat.le_trans c (ag_rgh_mono b m t _ _)
    · have ee : ag (.rgh b) m t (2 ^ e - 1) = e := by omega
      rw [ag_add, ee]
      have nx := next_le e (t + (2 ^ e - 1))
      have gx := next_gt e (t + (2 ^ e - 1))
      have r := ag_rgh_next b e (t + (2 ^ e - 1)) (by omega)
      obtain ⟨k, hk⟩ : ∃ k, 2 ^ e = ((t + (2 ^ e - 1)) / 2 ^ e + 1) * 2 ^ e - (t + (2 ^ e - 1)) + k :=
        ⟨2 ^ e - (((t + (2 ^ e - 1)) / 2 ^ e + 1) * 2 ^ e - (t + (2 ^ e - 1))), by omega⟩
      have mo := ag_rgh_mono b e (t + (2 ^ e - 1)) (((t + (2 ^ e - 1)) / 2 ^ e + 1) * 2 ^ e - (t + (2 ^ e - 1))) k
      rw [r, ← hk] at mo
      exact mo
theorem div_add_ge (t n s : Nat) (hs : 0 < s) : n / s ≤ (t + n) / s - t / s := by
  have h1 := Nat.div_mul_le_self t s
  have h2 := Nat.div_mul_le_self n s
  have : t / s + n / s ≤ (t + n) / s := (Nat.le_div_iff_mul_le hs).mpr (by rw [Nat.add_mul]; omega)
  omega
/-- far behind: the end -/
theorem ag_far (R : Ru) (hR : R.ok) (m t n : Nat) (h : m ≤ R.most) (hn : 1300 ≤ n) : ag R m t n = R.fin := by
  cases R with
  | cnt b s =>
    obtain ⟨h1, h2, h3, h4⟩ : 1 ≤ b ∧ b ≤ 6 ∧ 1 ≤ s ∧ s ≤ 20 := hR
    have h' : m ≤ 2 ^ b - 1 := h
    rw [ag_cnt b s m t h3 h' n]
    show _ = 2 ^ b - 1
    have g := div_add_ge t n s h3
    have : 65 ≤ n / s := (Nat.le_div_iff_mul_le h3).mpr (Nat.le_trans (Nat.mul_le_mul_left 65 h4) hn)
    have : 2 ^ b ≤ 2 ^ 6 := Nat.pow_le_pow_right (by decide) h2
    omega
  | shf b s =>
    obtain ⟨h1, h2, h3, h4⟩ : 1 ≤ b ∧ b ≤ 10 ∧ 1 ≤ s ∧ s ≤ 20 := hR
    have h' : m ≤ 2 ^ (b + 1) - 1 := h
    rw [ag_shf b s m t h3 n]
    show _ = 0
    have g := div_add_ge t n s h3
    have : 65 ≤ n / s := (Nat.le_div_iff_mul_le h3).mpr (Nat.le_trans (Nat.mul_le_mul_left 65 h4) hn)
    have : 2 ^ (b + 1) ≤ 2 ^ ((t + n) / s - t / s) := Nat.pow_le_pow_right (by decide) (by omega)
    have := Nat.two_pow_pos (b + 1)
    exact Nat.div_eq_of_lt (by omega)
  | rgh b =>
    obtain ⟨h1, h2⟩ : 1 ≤ b ∧ b ≤ 3 := hR
    have le := ag_le (.rgh b) m t h n
    have r := rgh_reach b m t (2 ^ b - 1) (Nat.le_refl _)
    have hb : b = 1 ∨ b = 2 ∨ b = 3 := by omega
    have h7 : 2 ^ (2 ^ b - 1) - 1 ≤ 127 := by rcases hb with rfl | rfl | rfl <;> decide
    obtain ⟨k, hk⟩ : ∃ k, n = 2 ^ (2 ^ b - 1) - 1 + k := ⟨n - (2 ^ (2 ^ b - 1) - 1), by omega⟩
    have mo := ag_rgh_mono b m t (2 ^ (2 ^ b - 1) - 1) k
    rw [← hk] at mo
    show _ = 2 ^ b - 1
    have le' : ag (.rgh b) m t n ≤ 2 ^ b - 1 := le
    omega
end LS
namespace LS
def Ru.isShf : Ru → Bool
  | .shf _ _ => true
  | _ => false
def Ru.isRgh : Ru → Bool
  | .rgh _ => true
  | _ => false
/-- what the mark of a thing that was seen so many moments ago comes to -/
def one (R : Ru) (now a : Nat) : Nat := ag R R.top (now - a) a
/-- it may have such a mark -/
def poss (R : Ru) (now mark a : Nat) : Bool :=
  if R.isShf && decide (0 < one R now a) then decide (one R now a ≤ mark) && decide (mark < 2 * one R now a) else decide (one R now a = mark)
def IsSpan (R : Ru) (now mark : Nat) (x y : Option Nat) : Prop :=
  (x = none ∧ y = none ∧ ∀ a, a ≤ now → poss R now mark a = false) ∨
  (∃ lo, x = some lo ∧ lo ≤ now ∧ poss R now mark lo = true ∧ (∀ a, a ≤ now → poss R now mark a = true → lo ≤ a) ∧
    ((mark = R.fin ∧ y = none) ∨ (mark ≠ R.fin ∧ ∃ hi, y = some hi ∧ hi ≤ now ∧ poss R now mark hi = true ∧ ∀ a, a ≤ now → poss R now mark a = true → a ≤ hi)))
theorem IsSpan.uniq {R : Ru} {now mark : Nat} {x y x' y' : Option Nat} (h : IsSpan R now mark x y) (h' : IsSpan R now mark x' y') : x = x' ∧ y = y' := by
  rcases h with ⟨rfl, rfl, h⟩ | ⟨lo, rfl, h1, h2, h3, h4⟩
  · rcases h' with ⟨rfl, rfl, _⟩ | ⟨lo', rfl, k1, k2, _⟩
    · exact ⟨rfl, rfl⟩
    · rw [h lo' k1] at k2
      cases k2
  · rcases h' with ⟨rfl, rfl, h'⟩ | ⟨lo', rfl, k1, k2, k3, k4⟩
    · rw [h' lo h1] at h2
      cases h2
    · have e : lo = lo' := Nat.le_antisymm (h3 _ k1 k2) (k3 _ h1 h2)
      refine ⟨by rw [e], ?_⟩
      rcases h4 with ⟨e1, rfl⟩ | ⟨e1, hi, rfl, a1, a2, a3⟩
      · rcases k4 with ⟨_, rfl⟩ | ⟨n1, _⟩
        · rfl
        · exact absurd e1 n1
      · rcases k4 with ⟨n1, rfl⟩ | ⟨_, hi', rfl, b1, b2, b3⟩
        · exact absurd n1 e1
        · rw [Nat.le_antisymm (b3 _ a1 a2) (a3 _ b1 b2)]
/-! ### the lists that are found -/
def fl (R : Ru) (now mark n : Nat) : List Nat := (List.range n).filter (poss R now mark)
theorem fl_succ (R : Ru) (now mark n : Nat) : fl R now mark (n + 1) = if poss R now mark n = true then fl R now mark n ++ [n] else fl R now mark n := by
  unfold fl
  rw [List.range_succ, List.filter_append]
  by_cases h : poss R now mark n = true
  · rw [if_pos h, List.filter_cons_of_pos h]
    rfl
  · rw [if_neg h, List.filter_cons_of_neg h, List.filter_nil, List.append_nil]
theorem mem_fl {R : Ru} {now mark n a : Nat} : a ∈ fl R now mark n ↔ a < n ∧ poss R now mark a = true := by
  unfold fl
  rw [List.mem_filter, List.mem_range]
theorem fl_len (R : Ru) (now mark n : Nat) : (fl R now mark n).length ≤ n := by
  unfold fl
  exact Nat.le_trans (List.length_filter_le _ _) (by rw [List.length_range]; exact Nat.le_refl n)
/-- the tried ones do -/
def Cov (R : Ru) (now mark cnt : Nat) : Prop := cnt ≤ now + 1 ∧ ∀ a, cnt ≤ a → a ≤ now → poss R now mark a = true → mark = R.fin ∧ ∃ a', a' < cnt ∧ poss R now mark a' = true
theorem span_nil {R : Ru} {now mark cnt : Nat} (c : Cov R now mark cnt) (h : fl R now mark cnt = []) : IsSpan R now mark none none := by
  have no : ∀ a, a < cnt → poss R now mark a = false := fun a ha => by
    cases e : poss R now mark a with
    | false => rfl
    | true =>
      have : a ∈ fl R now mark cnt := mem_fl.mpr ⟨ha, e⟩
      rw [h] at this
      cases this
  refine .inl ⟨rfl, rfl, fun a ha => ?_⟩
  by_cases hc : a < cnt
  · exact no a hc
  · cases e : poss R now mark a with
    | false => rfl
    | true =>
      obtain ⟨_, a', l, p⟩ := c.2 a (by omega) ha e
      rw [no a' l] at p
      cases p
theorem span_some {R : Ru} {now mark cnt lo : Nat} {y : Option Nat} (c : Cov R now mark cnt) (h1 : lo ∈ fl R now mark cnt) (h2 : ∀ a, a ∈ fl R now mark cnt → lo ≤ a)
    (h3 : (mark = R.fin ∧ y = none) ∨ (mark ≠ R.fin ∧ ∃ hi, y = some hi ∧ hi ∈ fl R now mark cnt ∧ ∀ a, a ∈ fl R now mark cnt → a ≤ hi)) : IsSpan R now mark (some lo) y := by
  obtain ⟨l1, l2⟩ := mem_fl.mp h1
  have c1 := c.1
  refine .inr ⟨lo, rfl, by omega, l2, fun a ha hp => ?_, ?_⟩
  · by_cases hc : a < cnt
    · exact h2 a (mem_fl.mpr ⟨hc, hp⟩)
    · omega
  · rcases h3 with h3 | ⟨n1, hi, rfl, m1, m2⟩
    · exact .inl h3
    · obtain ⟨q1, q2⟩ := mem_fl.mp m1
      refine .inr ⟨n1, hi, rfl, by omega, q2, fun a ha hp => ?_⟩
      by_cases hc : a < cnt
      · exact m2 a (mem_fl.mpr ⟨hc, hp⟩)
      · exact absurd (c.2 a (by omega) ha hp).1 n1
theorem fl_pair (R : Ru) (now mark n : Nat) : (fl R now mark n).Pairwise (· < ·) := List.Pairwise.filter _ List.pairwise_lt_range
theorem fl_head {R : Ru} {now mark n lo : Nat} {r : List Nat} (e : fl R now mark n = lo :: r) : lo ∈ fl R now mark n ∧ ∀ a, a ∈ fl R now mark n → lo ≤ a := by
  have p := fl_pair R now mark n
  rw [e] at p ⊢
  refine ⟨List.mem_cons_self, fun a ha => ?_⟩
  rcases List.mem_cons.mp ha with rfl | ha
  · exact Nat.le_refl _
  · exact Nat.le_of_lt ((List.pairwise_cons.mp p).1 a ha)
theorem fl_last {R : Ru} {now mark n hi : Nat} {r : List Nat} (e : fl R now mark n = r ++ [hi]) : hi ∈ fl R now mark n ∧ ∀ a, a ∈ fl R now mark n → a ≤ hi := by
  have p := fl_pair R now mark n
  rw [e] at p ⊢
  refine ⟨List.mem_append_right _ List.mem_cons_self, fun a ha => ?_⟩
  rcases List.mem_append.mp ha with ha | ha
  · exact Nat.le_of_lt ((List.pairwise_append.mp p).2.2 a ha hi List.mem_cons_self)
  · rcases List.mem_cons.mp ha with rfl | ha
    · exact Nat.le_refl _
    · cases ha
/-! ### rough: later is less -/
theorem tick_rgh_mono (b t : Nat) {m m' : Nat} (h : m ≤ m') : tick (.rgh b) m t ≤ tick (.rgh b) m' t := by
  by_cases e : m = m'
  · rw [e]; exact Nat.le_refl _
  · have h1 : tick (.rgh b) m t ≤ m + 1 := by
      show (if m ≠ 2 ^ b - 1 ∧ t % 2 ^ m = 0 then m + 1 else m) ≤ m + 1
      split <;> omega
    have h2 : m' ≤ tick (.rgh b) m' t := by
      show m' ≤ (if m' ≠ 2 ^ b - 1 ∧ t % 2 ^ m' = 0 then m' + 1 else m')
      split <;> omega
    omega
theorem ag_rgh_mark (b t : Nat) {m m' : Nat} (h : m ≤ m') : ∀ n, ag (.rgh b) m t n ≤ ag (.rgh b) m' t n
  | 0 => h
  | n + 1 => tick_rgh_mono b _ (ag_rgh_mark b t h n)
theorem one_rgh_step (b now a : Nat) (h : a + 1 ≤ now) : one (.rgh b) now a ≤ one (.rgh b) now (a + 1) := by
  show ag (.rgh b) 0 (now - a) a ≤ ag (.rgh b) 0 (now - (a + 1)) (a + 1)
  rw [Nat.add_comm a 1, ag_add]
  rw [show now - (1 + a) + 1 = now - a by omega]
  exact ag_rgh_mark b _ (Nat.zero_le _) a
theorem one_rgh_mono (b now a : Nat) : ∀ k, a + k ≤ now → one (.rgh b) now a ≤ one (.rgh b) now (a + k)
  | 0, _ => Nat.le_refl _
  | k + 1, h => Nat.le_trans (one_rgh_mono b now a k (by omega)) (one_rgh_step b now (a + k) (by omega))
theorem one_le (R : Ru) (now a : Nat) (h : R.top ≤ R.most) : one R now a ≤ R.most := ag_le R _ _ h a
theorem top_le (R : Ru) : R.top ≤ R.most := by
  cases R with
  | cnt b s => exact Nat.zero_le _
  | rgh b => exact Nat.zero_le _
  | shf b s =>
    show 2 ^ b ≤ 2 ^ (b + 1) - 1
    have := Nat.two_pow_pos b
    rw [Nat.pow_succ]
    omega
/-- the end is kept -/
theorem one_rgh_fin {b now a a' : Nat} (h : one (.rgh b) now a = 2 ^ b - 1) (h1 : a ≤ a') (h2 : a' ≤ now) : one (.rgh b) now a' = 2 ^ b - 1 := by
  obtain ⟨k, rfl⟩ : ∃ k, a' = a + k := ⟨a' - a, by omega⟩
  have m := one_rgh_mono b now a k h2
  have l : one (.rgh b) now (a + k) ≤ 2 ^ b - 1 := one_le (.rgh b) now (a + k) (top_le _)
  omega
theorem one_rgh_far {b now a : Nat} (hb : b ≤ 3) (ha : 127 ≤ a) : one (.rgh b) now a = 2 ^ b - 1 := by
  have p3 : 2 ^ b ≤ 2 ^ 3 := Nat.pow_le_pow_right (by decide) hb
  have h7 : 2 ^ (2 ^ b - 1) ≤ 2 ^ 7 := Nat.pow_le_pow_right (by decide) (by omega)
  have r := rgh_reach b 0 (now - a) (2 ^ b - 1) (Nat.le_refl _)
  obtain ⟨k, hk⟩ : ∃ k, a = (2 ^ (2 ^ b - 1) - 1) + k := ⟨a - (2 ^ (2 ^ b - 1) - 1), by omega⟩
  have mo := ag_rgh_mono b 0 (now - a) (2 ^ (2 ^ b - 1) - 1) k
  rw [← hk] at mo
  have l : one (.rgh b) now a ≤ 2 ^ b - 1 := one_le (.rgh b) now a (top_le _)
  have l2 : 2 ^ b - 1 ≤ one (.rgh b) now a := Nat.le_trans r mo
  omega
theorem poss_rgh (b now mark a : Nat) : poss (.rgh b) now mark a = decide (one (.rgh b) now a = mark) := rfl
theorem poss_cnt (b s now mark a : Nat) : poss (.cnt b s) now mark a = decide (one (.cnt b s) now a = mark) := rfl
theorem cov_end (R : Ru) (now mark : Nat) : Cov R now mark (now + 1) := ⟨Nat.le_refl _, fun a h1 h2 _ => by omega⟩
theorem cov_rgh {b now mark c : Nat} (h : one (.rgh b) now c = 2 ^ b - 1) (hc : c ≤ now) : Cov (.rgh b) now mark (c + 1) := by
  refine ⟨by omega, fun a h1 h2 h3 => ?_⟩
  have e := one_rgh_fin h (show c ≤ a by omega) h2
  rw [poss_rgh, e] at h3
  have e2 : 2 ^ b - 1 = mark := of_decide_eq_true h3
  exact ⟨e2.symm, c, by omega, by rw [poss_rgh, h, decide_eq_true e2]⟩
/-! ### count and shift: by how often a thing was aged -/
def bl (n : Nat) : Nat := if n = 0 then 0 else n.log2 + 1
theorem bl_pos {n : Nat} (h : n ≠ 0) : 2 ^ (bl n - 1) ≤ n ∧ n < 2 ^ bl n ∧ 1 ≤ bl n := by
  unfold bl
  rw [if_neg h]
  exact ⟨Nat.log2_self_le h, Nat.lt_log2_self, by omega⟩
theorem pow_uniq {i j n : Nat} (h1 : 2 ^ i ≤ n) (h2 : n < 2 ^ (i + 1)) (h3 : 2 ^ j ≤ n) (h4 : n < 2 ^ (j + 1)) : i = j := by
  have a : i < j + 1 := (Nat.pow_lt_pow_iff_right (by decide : 1 < 2)).mp (Nat.lt_of_le_of_lt h1 h4)
  have b : j < i + 1 := (Nat.pow_lt_pow_iff_right (by decide : 1 < 2)).mp (Nat.lt_of_le_of_lt h3 h2)
  omega
theorem bl_le {n b : Nat} (h : n < 2 ^ b) : bl n ≤ b := by
  by_cases e : n = 0
  · unfold bl; rw [if_pos e]; exact Nat.zero_le _
  · obtain ⟨h1, h2, h3⟩ := bl_pos e
    have : bl n - 1 < b := (Nat.pow_lt_pow_iff_right (by decide : 1 < 2)).mp (Nat.lt_of_le_of_lt h1 h)
    omega
/-- how often it was aged, for the end at the least -/
def Ru.ags : Ru → Nat → Nat
  | .cnt _ _, m => m
  | .shf b _, m => b + 1 - bl m
  | .rgh _, _ => 0
def Ru.step : Ru → Nat
  | .cnt _ s => s
  | .shf _ s => s
  | .rgh _ => 1
def dd (s now a : Nat) : Nat := now / s - (now - a) / s
theorem one_cnt (b s now a : Nat) (hs : 0 < s) (h : a ≤ now) : one (.cnt b s) now a = min (dd s now a) (2 ^ b - 1) := by
  show ag (.cnt b s) 0 (now - a) a = _
  rw [ag_cnt b s 0 (now - a) hs (Nat.zero_le _) a, Nat.zero_add, show now - a + a = now by omega]
  rfl
theorem one_shf (b s now a : Nat) (hs : 0 < s) (h : a ≤ now) : one (.shf b s) now a = 2 ^ b / 2 ^ dd s now a := by
  show ag (.shf b s) (2 ^ b) (now - a) a = _
  rw [ag_shf b s (2 ^ b) (now - a) hs a, show now - a + a = now by omega]
  rfl
theorem two_div {b d : Nat} (h : d ≤ b) : 2 ^ b / 2 ^ d = 2 ^ (b - d) := Nat.pow_div h (by decide)
theorem two_div0 {b d : Nat} (h : b < d) : 2 ^ b / 2 ^ d = 0 := Nat.div_eq_of_lt (Nat.pow_lt_pow_right (by decide) h)
theorem poss_stp {R : Ru} (hR : R.isRgh = false) (hs : 0 < R.step) {now mark a : Nat} (hm : mark ≤ R.most) (h : a ≤ now) : poss R now mark a = true ↔ (if mark = R.fin then R.ags mark ≤ dd R.step now a else dd R.step now a = R.ags mark) := by
  cases R with
  | rgh b => cases hR
  | cnt b s =>
    have hm' : mark ≤ 2 ^ b - 1 := hm
    rw [poss_cnt, one_cnt b s now a hs h, decide_eq_true_iff]
    show _ ↔ (if mark = 2 ^ b - 1 then mark ≤ dd s now a else dd s now a = mark)
    split <;> omega
  | shf b s =>
    have hm' : mark ≤ 2 ^ (b + 1) - 1 := hm
    have pb := Nat.two_pow_pos (b + 1)
    show (if (true && decide (0 < one (.shf b s) now a)) = true then decide (one (.shf b s) now a ≤ mark) && decide (mark < 2 * one (.shf b s) now a) else decide (one (.shf b s) now a = mark)) = true ↔ (if mark = 0 then b + 1 - bl mark ≤ dd s now a else dd s now a = b + 1 - bl mark)
    rw [one_shf b s now a hs h, Bool.true_and]
    by_cases hd : dd s now a ≤ b
    · rw [two_div hd]
      have p := Nat.two_pow_pos (b - dd s now a)
      rw [decide_eq_true p, if_pos rfl, Bool.and_eq_true, decide_eq_true_iff, decide_eq_true_iff, Nat.mul_comm, ← Nat.pow_succ]
      by_cases e : mark = 0
      · rw [if_pos e, e, show bl 0 = 0 from rfl]
        omega
      · rw [if_neg e]
        obtain ⟨h1, h2, h3⟩ := bl_pos e
        have h4 : bl mark ≤ b + 1 := bl_le (by omega)
        constructor
        · rintro ⟨q1, q2⟩
          have := pow_uniq q1 q2 h1 (by rw [show bl mark - 1 + 1 = bl mark by omega]; exact h2)
          omega
        · intro q
          have : b - dd s now a = bl mark - 1 := by omega
          rw [this, show (bl mark - 1).succ = bl mark by omega]
          exact ⟨h1, h2⟩
    · rw [two_div0 (by omega), if_neg (by decide)]
      rw [decide_eq_true_iff]
      by_cases e : mark = 0
      · rw [if_pos e, e]
        constructor
        · intro _
          rw [show bl 0 = 0 from rfl]
          omega
        · intro _
          rfl
      · rw [if_neg e]
        obtain ⟨h1, h2, h3⟩ := bl_pos e
        constructor
        · intro q
          exact absurd q.symm e
        · intro q
          omega
theorem span_stp_none {R : Ru} (hR : R.isRgh = false) (hs : 0 < R.step) {now mark : Nat} (hm : mark ≤ R.most) (h : now / R.step < R.ags mark) : IsSpan R now mark none none := by
  refine .inl ⟨rfl, rfl, fun a ha => ?_⟩
  cases e : poss R now mark a with
  | false => rfl
  | true =>
    have p := (poss_stp hR hs hm ha).mp e
    have : dd R.step now a ≤ now / R.step := Nat.sub_le _ _
    split at p <;> omega
theorem span_stp_some {R : Ru} (hR : R.isRgh = false) (hs : 0 < R.step) {now mark run first latest : Nat} (hm : mark ≤ R.most) (h : now / R.step = R.ags mark + run) (hf : first = run * R.step) (hl : latest = min now (first + R.step - 1)) :
    IsSpan R now mark (some (now - latest)) (if mark = R.fin then none else some (now - first)) ∧ first ≤ now := by
  have f1 : first ≤ now := by
    rw [hf]
    have := Nat.div_mul_le_self now R.step
    exact Nat.le_trans (Nat.mul_le_mul_right _ (by omega)) this
  have l1 : first ≤ latest := by omega
  have l2 : latest ≤ first + R.step - 1 := by omega
  have l3 : latest ≤ now := by omega
  have dl : latest / R.step = run := by
    refine Nat.div_eq_of_lt_le (by rw [← hf]; exact l1) ?_
    rw [Nat.add_mul, Nat.one_mul, ← hf]
    omega
  have df : first / R.step = run := by rw [hf]; exact Nat.mul_div_cancel _ hs
  refine ⟨.inr ⟨now - latest, rfl, by omega, ?_, fun a ha hp => ?_, ?_⟩, f1⟩
  · refine (poss_stp hR hs hm (by omega)).mpr ?_
    have : dd R.step now (now - latest) = R.ags mark := by
      unfold dd
      rw [show now - (now - latest) = latest by omega, dl]
      omega
    rw [this]
    split
    · exact Nat.le_refl _
    · rfl
  · have p := (poss_stp hR hs hm ha).mp hp
    have q : R.ags mark ≤ dd R.step now a := by split at p <;> omega
    have dm := div_mono R.step (show now - a ≤ now by omega)
    have q2 : (now - a) / R.step ≤ run := by
      unfold dd at q
      omega
    have q3 : now - a < (run + 1) * R.step := (Nat.div_lt_iff_lt_mul hs).mp (by omega)
    rw [Nat.add_mul, Nat.one_mul, ← hf] at q3
    omega
  · by_cases e : mark = R.fin
    · exact .inl ⟨e, if_pos e⟩
    · refine .inr ⟨e, now - first, if_neg e, by omega, ?_, fun a ha hp => ?_⟩
      · refine (poss_stp hR hs hm (by omega)).mpr ?_
        rw [if_neg e]
        unfold dd
        rw [show now - (now - first) = first by omega, df]
        omega
      · have p := (poss_stp hR hs hm ha).mp hp
        rw [if_neg e] at p
        have dm := div_mono R.step (show now - a ≤ now by omega)
        have q2 : (now - a) / R.step = run := by
          unfold dd at p
          omega
        have := Nat.div_mul_le_self (now - a) R.step
        rw [q2, ← hf] at this
        omega
/-- as far back as the law tries -/
def Ru.far : Ru → Nat
  | .cnt b s => s * (2 + max b (2 ^ b - 1))
  | .shf b s => s * (2 + max b 0)
  | .rgh _ => 140
theorem cov_far {R : Ru} (hR : R.ok) {now mark : Nat} (hm : mark ≤ R.most) : Cov R now mark (min now R.far + 1) := by
  by_cases hn : now ≤ R.far
  · rw [Nat.min_eq_left hn]
    exact cov_end R now mark
  · rw [Nat.min_eq_right (by omega)]
    cases R with
    | rgh b => exact cov_rgh (one_rgh_far hR.2 (show 127 ≤ 140 by decide)) (by omega)
    | cnt b s =>
      obtain ⟨h1, h2, h3, h4⟩ : 1 ≤ b ∧ b ≤ 6 ∧ 1 ≤ s ∧ s ≤ 20 := hR
      have hn' : s * (2 + max b (2 ^ b - 1)) ≤ now := by
        have : ¬ now ≤ s * (2 + max b (2 ^ b - 1)) := hn
        omega
      have big : ∀ a, s * (2 + max b (2 ^ b - 1)) ≤ a → a ≤ now → one (.cnt b s) now a = 2 ^ b - 1 := fun a l1 l2 => by
        rw [one_cnt b s now a h3 l2]
        have g := div_add_ge (now - a) a s h3
        rw [show now - a + a = now by omega] at g
        have : 2 + max b (2 ^ b - 1) ≤ a / s := (Nat.le_div_iff_mul_le h3).mpr (by rw [Nat.mul_comm]; exact l1)
        unfold dd
        omega
      refine ⟨Nat.succ_le_succ hn', fun a l1 l2 l3 => ?_⟩
      have e := big a (Nat.le_of_lt l1) l2
      rw [poss_cnt, e] at l3
      have e2 : 2 ^ b - 1 = mark := of_decide_eq_true l3
      exact ⟨e2.symm, s * (2 + max b (2 ^ b - 1)), Nat.lt_succ_self _, by rw [poss_cnt, big _ (Nat.le_refl _) hn', decide_eq_true e2]⟩
    | shf b s =>
      obtain ⟨h1, h2, h3, h4⟩ : 1 ≤ b ∧ b ≤ 10 ∧ 1 ≤ s ∧ s ≤ 20 := hR
      have hn' : s * (2 + max b 0) ≤ now := by
        have : ¬ now ≤ s * (2 + max b 0) := hn
        omega
      have big : ∀ a, s * (2 + max b 0) ≤ a → a ≤ now → one (.shf b s) now a = 0 := fun a l1 l2 => by
        rw [one_shf b s now a h3 l2]
        have g := div_add_ge (now - a) a s h3
        rw [show now - a + a = now by omega] at g
        have : 2 + max b 0 ≤ a / s := (Nat.le_div_iff_mul_le h3).mpr (by rw [Nat.mul_comm]; exact l1)
        refine two_div0 ?_
        unfold dd
        omega
      have ps : ∀ a, one (.shf b s) now a = 0 → poss (.shf b s) now mark a = decide (0 = mark) := fun a e => by
        unfold poss
        rw [e]
        rfl
      refine ⟨Nat.succ_le_succ hn', fun a l1 l2 l3 => ?_⟩
      have e := big a (Nat.le_of_lt l1) l2
      rw [ps a e] at l3
      have e2 : 0 = mark := of_decide_eq_true l3
      exact ⟨e2.symm, s * (2 + max b 0), Nat.lt_succ_self _, by rw [ps _ (big _ (Nat.le_refl _) hn'), decide_eq_true e2]⟩
theorem far_le {R : Ru} (hR : R.ok) : R.far ≤ 1300 := by
  cases R with
  | rgh b => exact (by decide : 140 ≤ 1300)
  | cnt b s =>
    obtain ⟨h1, h2, h3, h4⟩ : 1 ≤ b ∧ b ≤ 6 ∧ 1 ≤ s ∧ s ≤ 20 := hR
    have : 2 ^ b ≤ 2 ^ 6 := Nat.pow_le_pow_right (by decide) h2
    exact Nat.mul_le_mul h4 (show 2 + max b (2 ^ b - 1) ≤ 65 by omega)
  | shf b s =>
    obtain ⟨h1, h2, h3, h4⟩ : 1 ≤ b ∧ b ≤ 10 ∧ 1 ≤ s ∧ s ≤ 20 := hR
    exact Nat.mul_le_mul h4 (show 2 + max b 0 ≤ 65 by omega)
end LS
namespace LS
/-- a turn of rough -/
def tT (b : Nat) : Nat := 2 ^ (2 ^ b - 2)
theorem two_T {b : Nat} (hb : 1 ≤ b) : 2 ^ (2 ^ b - 1) = 2 * tT b := by
  have : 2 ^ 1 ≤ 2 ^ b := Nat.pow_le_pow_right (by decide) hb
  unfold tT
  rw [show 2 ^ b - 1 = (2 ^ b - 2) + 1 by omega, Nat.pow_succ, Nat.mul_comm]
theorem T_pos (b : Nat) : 1 ≤ tT b := Nat.two_pow_pos _
theorem T_le {b : Nat} (hb : b ≤ 3) : tT b ≤ 64 := by
  have : 2 ^ b ≤ 2 ^ 3 := Nat.pow_le_pow_right (by decide) hb
  have : tT b ≤ 2 ^ 6 := Nat.pow_le_pow_right (by decide) (by omega)
  exact this
theorem tick_T (b m t k : Nat) (h : m ≤ 2 ^ b - 1) : tick (.rgh b) m (t + tT b * k) = tick (.rgh b) m t := by
  show (if m ≠ 2 ^ b - 1 ∧ (t + tT b * k) % 2 ^ m = 0 then m + 1 else m) = if m ≠ 2 ^ b - 1 ∧ t % 2 ^ m = 0 then m + 1 else m
  by_cases e : m = 2 ^ b - 1
  · rw [if_neg (fun h => h.1 e), if_neg (fun h => h.1 e)]
  · have ed : tT b = 2 ^ m * 2 ^ (2 ^ b - 2 - m) := by
      unfold tT
      rw [← Nat.pow_add]
      congr 1
      omega
    rw [ed, Nat.mul_assoc, Nat.add_mul_mod_self_left]
theorem ag_T (b m t k : Nat) (h : m ≤ 2 ^ b - 1) : ∀ n, ag (.rgh b) m (t + tT b * k) n = ag (.rgh b) m t n
  | 0 => rfl
  | n + 1 => by
    show tick (.rgh b) (ag (.rgh b) m (t + tT b * k) n) (t + tT b * k + n + 1) = tick (.rgh b) (ag (.rgh b) m t n) (t + n + 1)
    rw [ag_T b m t k h n, show t + tT b * k + n + 1 = (t + n + 1) + tT b * k by omega]
    exact tick_T b _ _ k (ag_le (.rgh b) m t h n)
theorem one_T (b now k a : Nat) (h : a ≤ now) : one (.rgh b) (now + tT b * k) a = one (.rgh b) now a := by
  show ag (.rgh b) 0 (now + tT b * k - a) a = ag (.rgh b) 0 (now - a) a
  rw [show now + tT b * k - a = (now - a) + tT b * k by omega]
  exact ag_T b 0 (now - a) k (Nat.zero_le _) a
/-- a moment of the third turn that stands for another one -/
def rep (b now : Nat) : Nat := 2 * tT b + now % tT b
theorem rep_in (b now : Nat) : 2 * tT b ≤ rep b now ∧ rep b now < 3 * tT b := by
  have := Nat.mod_lt now (T_pos b)
  unfold rep
  omega
theorem rep_same (b now a : Nat) (h : a ≤ now) (h2 : a ≤ rep b now) : one (.rgh b) (rep b now) a = one (.rgh b) now a := by
  have e := Nat.div_add_mod now (tT b)
  by_cases c : now / tT b ≤ 2
  · obtain ⟨k, hk⟩ : ∃ k, 2 = now / tT b + k := ⟨2 - now / tT b, by omega⟩
    have : rep b now = now + tT b * k := by
      unfold rep
      have : 2 * tT b = tT b * (now / tT b) + tT b * k := by rw [← Nat.mul_add, ← hk, Nat.mul_comm]
      omega
    rw [this]
    exact one_T b now k a h
  · obtain ⟨k, hk⟩ : ∃ k, now / tT b = 2 + k := ⟨now / tT b - 2, by omega⟩
    have : now = rep b now + tT b * k := by
      unfold rep
      have : tT b * (now / tT b) = 2 * tT b + tT b * k := by rw [hk, Nat.mul_add, Nat.mul_comm]
      omega
    have q := one_T b (rep b now) k a h2
    rw [← this] at q
    exact q.symm
theorem one_far2 {b now a : Nat} (hb : 1 ≤ b) (ha : 2 * tT b - 1 ≤ a) : one (.rgh b) now a = 2 ^ b - 1 := by
  have r := rgh_reach b 0 (now - a) (2 ^ b - 1) (Nat.le_refl _)
  rw [two_T hb] at r
  obtain ⟨k, hk⟩ : ∃ k, a = (2 * tT b - 1) + k := ⟨a - (2 * tT b - 1), by omega⟩
  have mo := ag_rgh_mono b 0 (now - a) (2 * tT b - 1) k
  rw [← hk] at mo
  have l : one (.rgh b) now a ≤ 2 ^ b - 1 := one_le (.rgh b) now a (top_le _)
  have l2 : 2 ^ b - 1 ≤ one (.rgh b) now a := Nat.le_trans r mo
  omega
theorem exists_span (R : Ru) (now m : Nat) : ∃ x y, IsSpan R now m x y := by
  have c := cov_end R now m
  cases ef : fl R now m (now + 1) with
  | nil => exact ⟨none, none, span_nil c ef⟩
  | cons lo r =>
    obtain ⟨f1, f2⟩ := fl_head ef
    by_cases e : m = R.fin
    · exact ⟨some lo, none, span_some c f1 f2 (.inl ⟨e, rfl⟩)⟩
    · have hl : lo :: r = (lo :: r).dropLast ++ [(lo :: r).getLast (List.cons_ne_nil _ _)] := (List.dropLast_concat_getLast _).symm
      have g := fl_last (ef.trans hl)
      exact ⟨some lo, some _, span_some c f1 f2 (.inr ⟨e, _, rfl, g.1, g.2⟩)⟩
theorem IsSpan.lo_le {R : Ru} {now m a : Nat} {x y : Option Nat} (h : IsSpan R now m x y) (ha : a ≤ now) (hp : poss R now m a = true) : ∃ lo, x = some lo ∧ lo ≤ a ∧ lo ≤ now ∧ poss R now m lo = true := by
  rcases h with ⟨_, _, h⟩ | ⟨lo, rfl, h1, h2, h3, _⟩
  · rw [h a ha] at hp
    cases hp
  · exact ⟨lo, rfl, h3 a ha hp, h1, h2⟩
theorem IsSpan.hi_ge {R : Ru} {now m a : Nat} {x y : Option Nat} (h : IsSpan R now m x y) (ha : a ≤ now) (hp : poss R now m a = true) (hm : m ≠ R.fin) : ∃ hi, y = some hi ∧ a ≤ hi ∧ hi ≤ now ∧ poss R now m hi = true := by
  rcases h with ⟨_, _, h⟩ | ⟨lo, rfl, h1, h2, h3, h4⟩
  · rw [h a ha] at hp
    cases hp
  · rcases h4 with ⟨e, _⟩ | ⟨_, hi, rfl, k1, k2, k3⟩
    · exact absurd e hm
    · exact ⟨hi, rfl, k3 a ha hp, k1, k2⟩
theorem IsSpan.hi_none {R : Ru} {now m : Nat} {x y : Option Nat} (h : IsSpan R now m x y) (hm : m = R.fin) : y = none := by
  rcases h with ⟨_, e, _⟩ | ⟨lo, rfl, h1, h2, h3, h4⟩
  · exact e
  · rcases h4 with ⟨_, e⟩ | ⟨n, _⟩
    · exact e
    · exact absurd hm n
theorem IsSpan.both {R : Ru} {now m lo hi : Nat} (h : IsSpan R now m (some lo) (some hi)) : lo ≤ now ∧ hi ≤ now ∧ poss R now m lo = true ∧ poss R now m hi = true ∧ lo ≤ hi ∧ m ≠ R.fin := by
  rcases h with ⟨e, _⟩ | ⟨lo', e, h1, h2, h3, h4⟩
  · cases e
  · cases e
    rcases h4 with ⟨_, e⟩ | ⟨n, hi', e, k1, k2, k3⟩
    · cases e
    · cases e
      exact ⟨h1, k1, h2, k2, h3 _ k1 k2, n⟩
def wset (b d : Nat) : Prop := ∃ now m lo hi, 2 * tT b ≤ now ∧ now < 3 * tT b ∧ m < 2 ^ b - 1 ∧ IsSpan (.rgh b) now m (some lo) (some hi) ∧ d = hi - lo
def OffR (b v : Nat) : Prop := (∀ d, wset b d → d ≤ v) ∧ (v = 0 ∨ wset b v)
def lset (b l : Nat) : Prop := ∃ now, 2 * tT b ≤ now ∧ now < 3 * tT b ∧ IsSpan (.rgh b) now (2 ^ b - 1) (some l) none
def ReachR (b v : Nat) : Prop := (∀ l, lset b l → v + 1 ≤ l) ∧ lset b (v + 1)
def IsOff (R : Ru) (v : Nat) : Prop := (R.isRgh = true ∧ OffR R.bits v) ∨ (R.isRgh = false ∧ v = R.step - 1)
def IsReach (R : Ru) (v : Nat) : Prop := (R.isRgh = true ∧ ReachR R.bits v) ∨ (R.isRgh = false ∧ v = (R.ags R.fin - 1) * R.step)
theorem step_pos {R : Ru} (h : R.ok) : 0 < R.step := by
  cases R with
  | cnt b s => exact h.2.2.1
  | shf b s => exact h.2.2.1
  | rgh b => exact Nat.one_pos
theorem dd_lt {s now a k : Nat} (hs : 0 < s) (ha : a ≤ now) (h : k + 1 ≤ dd s now a) : k * s < a := by
  unfold dd at h
  have h1 := Nat.div_mul_le_self now s
  have h2 : now - a < ((now - a) / s + 1) * s := by
    have := Nat.lt_mul_div_succ (now - a) hs
    rw [Nat.mul_comm] at this
    exact this
  have h3 : ((now - a) / s + (k + 1)) * s ≤ now / s * s := Nat.mul_le_mul_right s (by omega)
  rw [Nat.add_mul] at h2 h3
  rw [Nat.add_mul k 1 s] at h3
  omega
theorem dd_eq {s now a c : Nat} (hs : 0 < s) (ha : a ≤ now) (hc : c ≤ now) (h : dd s now a = dd s now c) : c ≤ a + (s - 1) := by
  unfold dd at h
  have m1 := div_mono s (show now - a ≤ now by omega)
  have m2 := div_mono s (show now - c ≤ now by omega)
  have e : (now - a) / s = (now - c) / s := by omega
  have h1 := Nat.div_mul_le_self (now - c) s
  have h2 : now - a < ((now - a) / s + 1) * s := by
    have := Nat.lt_mul_div_succ (now - a) hs
    rw [Nat.mul_comm] at this
    exact this
  rw [e, Nat.add_mul] at h2
  omega
/-- by how much it can be too much -/
theorem off_all {R : Ru} {v now m lo hi : Nat} (hR : R.ok) (hv : IsOff R v) (hm : m ≤ R.most) (h : IsSpan R now m (some lo) (some hi)) : hi ≤ lo + v := by
  obtain ⟨l1, l2, p1, p2, lh, nf⟩ := h.both
  rcases hv with ⟨ir, hv⟩ | ⟨nr, rfl⟩
  · cases R with
    | cnt b s => cases ir
    | shf b s => cases ir
    | rgh b =>
      have b1 : 1 ≤ b := hR.1
      have hm' : m ≤ 2 ^ b - 1 := hm
      have nf' : m ≠ 2 ^ b - 1 := nf
      have lt : ∀ a, poss (.rgh b) now m a = true → a < 2 * tT b := fun a p => by
        by_cases c : a < 2 * tT b
        · exact c
        · rw [poss_rgh, one_far2 b1 (by omega)] at p
          exact absurd (of_decide_eq_true p).symm nf'
      obtain ⟨r1, r2⟩ := rep_in b now
      have tr : ∀ a, a ≤ now → poss (.rgh b) now m a = true → a ≤ rep b now ∧ poss (.rgh b) (rep b now) m a = true := fun a ha p => by
        have := lt a p
        refine ⟨by omega, ?_⟩
        rw [poss_rgh] at p ⊢
        rw [rep_same b now a ha (by omega)]
        exact p
      obtain ⟨x, y, sp⟩ := exists_span (.rgh b) (rep b now) m
      obtain ⟨q1, q2⟩ := tr lo l1 p1
      obtain ⟨q3, q4⟩ := tr hi l2 p2
      obtain ⟨lo', rfl, e1, _⟩ := sp.lo_le q1 q2
      obtain ⟨hi', rfl, e2, _⟩ := sp.hi_ge q3 q4 nf
      have := hv.1 (hi' - lo') ⟨rep b now, m, lo', hi', r1, r2, Nat.lt_of_le_of_ne hm' nf', sp, rfl⟩
      omega
  · have hs := step_pos hR
    have a1 := (poss_stp nr hs hm l1).mp p1
    have a2 := (poss_stp nr hs hm l2).mp p2
    rw [if_neg nf] at a1 a2
    exact dd_eq hs l1 l2 (a1.trans a2.symm)
theorem fin_most (R : Ru) : R.fin ≤ R.most := by
  cases R with
  | cnt b s => exact Nat.le_refl _
  | shf b s => exact Nat.zero_le _
  | rgh b => exact Nat.le_refl _
theorem ags_fin {R : Ru} (hR : R.ok) (nr : R.isRgh = false) : 1 ≤ R.ags R.fin := by
  cases R with
  | cnt b s =>
    have : 2 ^ 1 ≤ 2 ^ b := Nat.pow_le_pow_right (by decide) hR.1
    show 1 ≤ 2 ^ b - 1
    omega
  | shf b s => exact Nat.succ_le_succ (Nat.zero_le b)
  | rgh b => cases nr
/-- within reach no mark is the end -/
theorem reach_all {R : Ru} {v now a : Nat} (hR : R.ok) (hv : IsReach R v) (ha : a ≤ now) (hp : poss R now R.fin a = true) : v < a := by
  rcases hv with ⟨ir, hv⟩ | ⟨nr, rfl⟩
  · cases R with
    | cnt b s => cases ir
    | shf b s => cases ir
    | rgh b =>
      have b1 : 1 ≤ b := hR.1
      obtain ⟨r1, r2⟩ := rep_in b now
      have tp := T_pos b
      obtain ⟨x, y, sp⟩ := exists_span (.rgh b) (rep b now) (2 ^ b - 1)
      have pe : poss (.rgh b) (rep b now) (2 ^ b - 1) (2 * tT b - 1) = true := by
        rw [poss_rgh, one_far2 b1 (Nat.le_refl _), decide_eq_true rfl]
      have yn : y = none := sp.hi_none rfl
      subst yn
      obtain ⟨lo, rfl, e1, e3, _⟩ := sp.lo_le (show 2 * tT b - 1 ≤ rep b now by omega) pe
      have lb := hv.1 lo ⟨rep b now, r1, r2, sp⟩
      by_cases c : a ≤ rep b now
      · have hp' : poss (.rgh b) (rep b now) (2 ^ b - 1) a = true := by
          rw [poss_rgh, rep_same b now a ha c, ← poss_rgh]
          exact hp
        obtain ⟨lo', e, l, _⟩ := sp.lo_le c hp'
        cases e
        omega
      · omega
  · have hs := step_pos hR
    have a1 := (poss_stp nr hs (fin_most R) ha).mp hp
    rw [if_pos rfl] at a1
    have := ags_fin hR nr
    exact dd_lt hs ha (by omega)
/-- the marks of a thing that was just seen -/
def Fresh (R : Ru) (m : Nat) : Prop := if R.isShf = true then R.top ≤ m ∧ m < 2 * R.top else m = 0
/-- a thing that was truly seen may have been seen then -/
theorem poss_true {R : Ru} (hR : R.ok) {m last n : Nat} (h : Fresh R m) : poss R (last + n) (ag R m last n) n = true := by
  cases R with
  | cnt b s =>
    have e : m = 0 := h
    subst e
    rw [poss_cnt]
    refine decide_eq_true ?_
    show ag (.cnt b s) 0 (last + n - n) n = _
    rw [Nat.add_sub_cancel]
  | rgh b =>
    have e : m = 0 := h
    subst e
    rw [poss_rgh]
    refine decide_eq_true ?_
    show ag (.rgh b) 0 (last + n - n) n = _
    rw [Nat.add_sub_cancel]
  | shf b s =>
    obtain ⟨h1, h2⟩ : 2 ^ b ≤ m ∧ m < 2 * 2 ^ b := h
    have hs : 0 < s := hR.2.2.1
    have e1 : one (.shf b s) (last + n) n = 2 ^ b / 2 ^ ((last + n) / s - last / s) := by
      show ag (.shf b s) (2 ^ b) (last + n - n) n = _
      rw [Nat.add_sub_cancel]
      exact ag_shf b s _ last hs n
    rw [ag_shf b s m last hs n]
    generalize (last + n) / s - last / s = d at e1
    have pd := Nat.two_pow_pos d
    unfold poss
    rw [e1]
    by_cases hd : d ≤ b
    · have p := Nat.two_pow_pos (b - d)
      have es : 2 ^ b = 2 ^ (b - d) * 2 ^ d := by rw [← Nat.pow_add]; congr 1; omega
      rw [two_div hd, decide_eq_true p]
      have q1 : 2 ^ (b - d) ≤ m / 2 ^ d := (Nat.le_div_iff_mul_le pd).mpr (by rw [← es]; exact h1)
      have q2 : m / 2 ^ d < 2 * 2 ^ (b - d) := (Nat.div_lt_iff_lt_mul pd).mpr (by rw [Nat.mul_assoc, ← es]; exact h2)
      rw [decide_eq_true q1, decide_eq_true q2]
      rfl
    · have z : m / 2 ^ d = 0 := by
        refine Nat.div_eq_of_lt (Nat.lt_of_lt_of_le h2 ?_)
        rw [Nat.mul_comm, ← Nat.pow_succ]
        exact Nat.pow_le_pow_right (by decide) (by omega)
      rw [two_div0 (by omega), z]
      rfl
theorem fresh_most {R : Ru} {m : Nat} (h : Fresh R m) : m ≤ R.most := by
  cases R with
  | cnt b s =>
    have e : m = 0 := h
    rw [e]; exact Nat.zero_le _
  | rgh b =>
    have e : m = 0 := h
    rw [e]; exact Nat.zero_le _
  | shf b s =>
    obtain ⟨h1, h2⟩ : 2 ^ b ≤ m ∧ m < 2 * 2 ^ b := h
    show m ≤ 2 ^ (b + 1) - 1
    rw [Nat.pow_succ]
    omega
end LS
namespace LS
/-- a round that is tried throughout -/
def Ru.arnd : Ru → Nat
  | .cnt b s => s * (1 + (2 ^ b - 1))
  | .shf b s => s * (1 + (b + 1))
  | .rgh _ => 64
theorem ag_fin (R : Ru) (t : Nat) : ∀ n, ag R R.fin t n = R.fin
  | 0 => rfl
  | n + 1 => by
    show tick R (ag R R.fin t n) (t + n + 1) = R.fin
    rw [ag_fin R t n]
    cases R with
    | cnt b s =>
      show (if _ then min (2 ^ b - 1 + 1) (2 ^ b - 1) else 2 ^ b - 1) = 2 ^ b - 1
      split
      · exact Nat.min_eq_right (Nat.le_succ _)
      · rfl
    | shf b s =>
      show (if _ then 0 / 2 else 0) = 0
      split <;> rfl
    | rgh b => exact if_neg fun h => h.1 rfl
theorem fin_le {R : Ru} {t n n' : Nat} (h : ag R R.top t n = R.fin) (l : n ≤ n') : ag R R.top t n' = R.fin := by
  obtain ⟨k, rfl⟩ : ∃ k, n' = n + k := ⟨n' - n, by omega⟩
  rw [ag_add, h, ag_fin]
theorem one_at {R : Ru} {h b : Nat} (l : b ≤ h) : one R h (h - b) = ag R R.top b (h - b) := by
  show ag R R.top (h - (h - b)) (h - b) = _
  rw [show h - (h - b) = b by omega]
theorem poss_exact {R : Ru} {now m a : Nat} (e : one R now a = m) (h : m ≠ R.fin) : poss R now m a = true := by
  cases R with
  | cnt b s => rw [poss_cnt, decide_eq_true e]
  | rgh b => rw [poss_rgh, decide_eq_true e]
  | shf b s =>
    have h' : m ≠ 0 := h
    unfold poss
    rw [e, decide_eq_true (show 0 < m by omega), decide_eq_true (Nat.le_refl m), decide_eq_true (show m < 2 * m by omega)]
    rfl
theorem poss_fin {R : Ru} {now a : Nat} (e : one R now a = R.fin) : poss R now R.fin a = true := by
  cases R with
  | cnt b s => rw [poss_cnt, decide_eq_true e]
  | rgh b => rw [poss_rgh, decide_eq_true e]
  | shf b s =>
    unfold poss
    rw [e]
    rfl
/-- two begins of one mark -/
theorem begins_off {R : Ru} {v h m b1 b2 : Nat} (hR : R.ok) (hv : IsOff R v) (l1 : b1 ≤ h) (l2 : b2 ≤ h) (e1 : ag R R.top b1 (h - b1) = m) (e2 : ag R R.top b2 (h - b2) = m) (nf : m ≠ R.fin) : b2 ≤ b1 + v := by
  have p1 := poss_exact ((one_at l1).trans e1) nf
  have p2 := poss_exact ((one_at l2).trans e2) nf
  obtain ⟨x, y, sp⟩ := exists_span R h m
  obtain ⟨lo, rfl, e3, _⟩ := sp.lo_le (show h - b2 ≤ h by omega) p2
  obtain ⟨hi, rfl, e4, _⟩ := sp.hi_ge (show h - b1 ≤ h by omega) p1 nf
  have mm : m ≤ R.most := by rw [← e1]; exact ag_le R _ _ (top_le R) _
  have := off_all hR hv mm sp
  omega
theorem begins_reach {R : Ru} {u b n : Nat} (hR : R.ok) (hu : IsReach R u) (e : ag R R.top b n = R.fin) : u + 1 ≤ n := by
  have o : one R (b + n) n = R.fin := by
    show ag R R.top (b + n - n) n = _
    rw [Nat.add_sub_cancel]
    exact e
  exact reach_all hR hu (Nat.le_add_left n b) (poss_fin o)
theorem arnd_step {R : Ru} (hR : R.ok) (nr : R.isRgh = false) : ∃ k, R.arnd = R.step * k ∧ 2 ≤ k := by
  cases R with
  | cnt b s =>
    have : 2 ^ 1 ≤ 2 ^ b := Nat.pow_le_pow_right (by decide) hR.1
    exact ⟨1 + (2 ^ b - 1), rfl, by omega⟩
  | shf b s => exact ⟨1 + (b + 1), rfl, by omega⟩
  | rgh b => cases nr
theorem arnd_le {R : Ru} (hR : R.ok) : 1 ≤ R.arnd ∧ R.arnd ≤ 1280 := by
  cases R with
  | cnt b s =>
    obtain ⟨h1, h2, h3, h4⟩ : 1 ≤ b ∧ b ≤ 6 ∧ 1 ≤ s ∧ s ≤ 20 := hR
    have : 2 ^ b ≤ 2 ^ 6 := Nat.pow_le_pow_right (by decide) h2
    exact ⟨Nat.mul_le_mul h3 (show 1 ≤ 1 + (2 ^ b - 1) by omega), Nat.mul_le_mul h4 (show 1 + (2 ^ b - 1) ≤ 64 by omega)⟩
  | shf b s =>
    obtain ⟨h1, h2, h3, h4⟩ : 1 ≤ b ∧ b ≤ 10 ∧ 1 ≤ s ∧ s ≤ 20 := hR
    exact ⟨Nat.mul_le_mul h3 (show 1 ≤ 1 + (b + 1) by omega), Nat.mul_le_mul h4 (show 1 + (b + 1) ≤ 64 by omega)⟩
  | rgh b => exact ⟨(by decide : 1 ≤ 64), (by decide : 64 ≤ 1280)⟩
/-- by how often it was aged: count and shift -/
theorem ag_dd0 {R : Ru} (hR : R.ok) (nr : R.isRgh = false) {t n : Nat} (h : (t + n) / R.step - t / R.step = 0) : ag R R.top t n = R.top ∧ R.top ≠ R.fin := by
  have hs := step_pos hR
  cases R with
  | cnt b s =>
    have h' : (t + n) / s - t / s = 0 := h
    refine ⟨?_, ?_⟩
    · show ag (.cnt b s) 0 t n = 0
      rw [ag_cnt b s 0 t hs (Nat.zero_le _) n, h']
      omega
    · show 0 ≠ 2 ^ b - 1
      have : 2 ^ 1 ≤ 2 ^ b := Nat.pow_le_pow_right (by decide) hR.1
      omega
  | shf b s =>
    have h' : (t + n) / s - t / s = 0 := h
    refine ⟨?_, ?_⟩
    · show ag (.shf b s) (2 ^ b) t n = 2 ^ b
      rw [ag_shf b s _ t hs n, h', Nat.pow_zero, Nat.div_one]
    · show 2 ^ b ≠ 0
      have := Nat.two_pow_pos b
      omega
  | rgh b => cases nr
theorem ag_ddk {R : Ru} (hR : R.ok) (nr : R.isRgh = false) {t n : Nat} (h : (t + n) / R.step - t / R.step = R.ags R.fin) : ag R R.top t n = R.fin := by
  have hs := step_pos hR
  cases R with
  | cnt b s =>
    have h' : (t + n) / s - t / s = 2 ^ b - 1 := h
    show ag (.cnt b s) 0 t n = 2 ^ b - 1
    rw [ag_cnt b s 0 t hs (Nat.zero_le _) n, h']
    omega
  | shf b s =>
    have h' : (t + n) / s - t / s = b + 1 := h
    show ag (.shf b s) (2 ^ b) t n = 0
    rw [ag_shf b s _ t hs n, h']
    exact two_div0 (Nat.lt_succ_self b)
  | rgh b => cases nr
/-- the widest is met -/
theorem off_met {R : Ru} {v : Nat} (hR : R.ok) (hv : IsOff R v) : ∃ h m b1 b2, 4 * R.arnd ≤ h ∧ h < 5 * R.arnd ∧ b1 ≤ h ∧ b2 ≤ h ∧ ag R R.top b1 (h - b1) = m ∧ ag R R.top b2 (h - b2) = m ∧ m ≠ R.fin ∧ v ≤ b2 - b1 := by
  rcases hv with ⟨ir, hv⟩ | ⟨nr, rfl⟩
  · cases R with
    | cnt b s => cases ir
    | shf b s => cases ir
    | rgh b =>
      obtain ⟨b1, b3⟩ : 1 ≤ b ∧ b ≤ 3 := hR
      have p2 : 2 ^ 1 ≤ 2 ^ b := Nat.pow_le_pow_right (by decide) b1
      have tl := T_le b3
      have tp := T_pos b
      rcases hv.2 with rfl | ⟨now, m, lo, hi, n1, n2, hm, sp, rfl⟩
      · refine ⟨256, 0, 256, 256, Nat.le_refl _, (by decide : 256 < 320), Nat.le_refl _, Nat.le_refl _, rfl, rfl, ?_, Nat.zero_le _⟩
        show 0 ≠ 2 ^ b - 1
        omega
      · have n1' : 2 * tT b ≤ now := n1
        have n2' : now < 3 * tT b := n2
        have hm' : m < 2 ^ b - 1 := hm
        obtain ⟨c1, c2, c3, c4, c5, c6⟩ := sp.both
        have td : 64 % tT b = 0 := by
          have hb : b = 1 ∨ b = 2 ∨ b = 3 := by omega
          rcases hb with rfl | rfl | rfl <;> decide
        have hb0 : b = 1 ∨ b = 2 ∨ b = 3 := by omega
        have hr : rep b (256 + now % tT b) = now := by
          have hmod : (256 + now % tT b) % tT b = now % tT b := by
            rcases hb0 with rfl | rfl | rfl
            · show (256 + now % 1) % 1 = now % 1; omega
            · show (256 + now % 4) % 4 = now % 4; omega
            · show (256 + now % 64) % 64 = now % 64; omega
          unfold rep
          rw [hmod]
          have e := Nat.div_add_mod now (tT b)
          have q : now / tT b = 2 := by
            refine Nat.div_eq_of_lt_le n1' ?_
            exact n2'
          rw [q, Nat.mul_comm] at e
          exact e
        have ml := Nat.mod_lt now tp
        have tr : ∀ a, a ≤ now → poss (.rgh b) now m a = true → a ≤ 256 + now % tT b ∧ ag (.rgh b) 0 (256 + now % tT b - a) a = m := fun a ha p => by
          rw [poss_rgh] at p
          have p' := of_decide_eq_true p
          have al : a < 2 * tT b := by
            by_cases c : a < 2 * tT b
            · exact c
            · rw [one_far2 b1 (by omega)] at p'
              exact absurd p'.symm (Nat.ne_of_lt hm')
          have hle : a ≤ 256 + now % tT b := by omega
          have s := rep_same b (256 + now % tT b) a hle (by rw [hr]; exact ha)
          rw [hr] at s
          exact ⟨hle, s.symm.trans p'⟩
        obtain ⟨q1, q2⟩ := tr lo c1 c3
        obtain ⟨q3, q4⟩ := tr hi c2 c4
        refine ⟨256 + now % tT b, m, 256 + now % tT b - hi, 256 + now % tT b - lo, Nat.le_add_right _ _, ?_, Nat.sub_le _ _, Nat.sub_le _ _, ?_, ?_, Nat.ne_of_lt hm', ?_⟩
        · show 256 + now % tT b < 320
          omega
        · show ag (.rgh b) 0 (256 + now % tT b - hi) (256 + now % tT b - (256 + now % tT b - hi)) = m
          rw [show 256 + now % tT b - (256 + now % tT b - hi) = hi by omega]
          exact q4
        · show ag (.rgh b) 0 (256 + now % tT b - lo) (256 + now % tT b - (256 + now % tT b - lo)) = m
          rw [show 256 + now % tT b - (256 + now % tT b - lo) = lo by omega]
          exact q2
        · omega
  · obtain ⟨k, ek, k2⟩ := arnd_step hR nr
    have hs := step_pos hR
    have sk : R.step * 2 ≤ R.step * k := Nat.mul_le_mul_left _ k2
    have z : ∀ n, n < R.step → (4 * R.arnd + n) / R.step - 4 * R.arnd / R.step = 0 := fun n hn => by
      have e : 4 * R.arnd = R.step * (4 * k) := by rw [ek, Nat.mul_left_comm]
      rw [e, Nat.mul_add_div hs, Nat.div_eq_of_lt hn, Nat.mul_div_cancel_left _ hs]
      omega
    obtain ⟨a1, a2⟩ := ag_dd0 hR nr (z (R.step - 1) (by omega))
    refine ⟨4 * R.arnd + (R.step - 1), R.top, 4 * R.arnd, 4 * R.arnd + (R.step - 1), by omega, by omega, by omega, by omega, ?_, ?_, a2, by omega⟩
    · rw [Nat.add_sub_cancel_left]
      exact a1
    · rw [Nat.sub_self]
      rfl
/-- the soonest end is met -/
theorem reach_met {R : Ru} {u : Nat} (hR : R.ok) (hu : IsReach R u) : ∃ b, b < 6 * R.arnd ∧ ag R R.top b (u + 1) = R.fin := by
  rcases hu with ⟨ir, hu⟩ | ⟨nr, rfl⟩
  · cases R with
    | cnt b s => cases ir
    | shf b s => cases ir
    | rgh b =>
      obtain ⟨b1, b3⟩ : 1 ≤ b ∧ b ≤ 3 := hR
      have tl := T_le b3
      obtain ⟨now, n1, n2, sp⟩ := hu.2
      have n2' : now < 3 * tT b := n2
      rcases sp with ⟨e, _⟩ | ⟨lo, e, h1, h2, _⟩
      · cases e
      · cases e
        rw [poss_rgh] at h2
        exact ⟨now - (u + 1), by show now - (u + 1) < 384; omega, of_decide_eq_true h2⟩
  · obtain ⟨k, ek, k2⟩ := arnd_step hR nr
    have hs := step_pos hR
    have sk : R.step * 2 ≤ R.step * k := Nat.mul_le_mul_left _ k2
    have a1 := ags_fin hR nr
    refine ⟨R.step - 1, by omega, ag_ddk hR nr ?_⟩
    have e : R.step - 1 + ((R.ags R.fin - 1) * R.step + 1) = R.step * R.ags R.fin := by
      obtain ⟨j, hj⟩ : ∃ j, R.ags R.fin = j + 1 := ⟨R.ags R.fin - 1, by omega⟩
      rw [hj, Nat.add_sub_cancel, Nat.mul_add, Nat.mul_one, Nat.mul_comm j]
      omega
    rw [e, Nat.mul_div_cancel_left _ hs, Nat.div_eq_of_lt (show R.step - 1 < R.step by omega), Nat.sub_zero]
end LS
namespace LS
open PySem PySem.Spec PyProof.Rows L2 RZ
/-! ### calls by a promise alone -/
def Cl (P : Program) (w : World) (K : PySem.W.Frag) (mg : Str → Option Value) (base : Heap) (k : Nat) (x : Str) (ps : List Str) (sp : Sp) : Prop :=
  ∃ (f : Addr) (fd : FuncData), FnOk P w K mg base CX0 k f fd ps sp ∧ mg x = some (.ref f) ∧ PySem.W.keepIn K (.ref f) = true ∧ Binds K fd ps []
theorem pe_cl {X : Cx} {j k : Nat} {x : Str} {ps : List Str} {sp : Sp} {e : Expr} {es : List Expr} {t : TA} {p pos : Pos} (D : Cl X.prog X.w X.K X.mg X.base k x ps sp) (hr : Room j X.A) (ha : PA X (e :: es) t) (hk : k ≤ j := by decide) (hg : Gl X x := by rfl)
    (hdb : (x == ("__debug__" : Str)) = false := by decide) (he : starEach (e :: es) X.env = (false, eval e X.env) :: starEach es X.env := by rfl) (hpl : (backTo pos (starEach es X.env)).any (·.1) = false := by rfl) :
    PE X (.Call (.Name x p) (e :: es) [] pos) (tCall sp [] E0 t) := by
  obtain ⟨f, fd, G, g, kp, b⟩ := D
  exact pe_call G (hr.mono hk) hg g kp b .nil pass0 ha hdb he hpl
/-- a def as the top has left it -/
def DefAt (K : PySem.W.Frag) (mg : Str → Option Value) (x : Str) (st : Stmt) (ps : List Str) : Prop :=
  ∃ (f : Addr) (fd : FuncData), Fun K x x st f fd ∧ mg x = some (.ref f) ∧ Binds K fd ps []
theorem DefAt.cl {P : Program} {w : World} {K : PySem.W.Frag} {mg : Str → Option Value} {base : Heap} {k : Nat} {x : Str} {st : Stmt} {ps : List Str} {sp : Sp} (D : DefAt K mg x st ps)
    (h : ∀ f fd, Fun K x x st f fd → FnOk P w K mg base CX0 k f fd ps sp) : Cl P w K mg base k x ps sp := by
  obtain ⟨f, fd, F, g, b⟩ := D
  exact ⟨f, fd, h f fd F, g, F.kp, b⟩
theorem defAt_mk {K : PySem.W.Frag} {h : Heap} {mg : Str → Option Value} {x : Str} {st : Stmt} {ps : List Str} {f : Addr} {od an : Option Addr} {sl : Array (Option Value)} {oc kV dc pm cd ct : Value} (X : K.In h) (G : h.Ns mainGlobals mg)
    (a : PySem.W.nsIn K mainGlobals x = some (some (.ref f))) (l : K.lookup f = some ⟨oc, od, .func (PySem.W.fnOf x x (defArgs st) (defBody st) (defScope st) .none kV dc pm an cd ct), sl⟩) (c : PySem.W.codeIn K cd x = true) (k : PySem.W.keepIn K (.ref f) = true)
    (hb : ∀ (kV doc pm : Value) (an : Option Addr) (cdv ct : Value) (us : List Value), us.length = ps.length → bindArgs (PySem.W.fnOf x x (defArgs st) (defBody st) (defScope st) .none kV doc pm an cdv ct) ⟨us, []⟩ = pure (ps.zip us)) : DefAt K mg x st ps := by
  have F := fun_mk (st := st) l c k
  exact ⟨f, _, F, PySem.W.mg_of X G a, F.binds hb⟩
/-! ### heaps -/
theorem same_upd {H : Hp} {p : Addr} {o : HO} (h : H p = none) : Same H (upd H p o) := fun b x e => by
  rw [upd_ne (ne_of_none e h)]
  exact e
/-- all but two objects stands as it was -/
def Kp2 (h c : Addr) (H H' : Hp) : Prop := ∀ b o, H b = some o → b ≠ h → b ≠ c → H' b = some o
theorem Kp2.refl (h c : Addr) (H : Hp) : Kp2 h c H H := fun _ _ e _ _ => e
theorem Kp2.trans {h c : Addr} {H H1 H2 : Hp} (a : Kp2 h c H H1) (b : Kp2 h c H1 H2) : Kp2 h c H H2 := fun x o e n1 n2 => b x o (a x o e n1 n2) n1 n2
theorem Same.kp2 {h c : Addr} {H H1 : Hp} (a : Same H H1) : Kp2 h c H H1 := fun b o e _ _ => a b o e
/-- the list that is drawn from stands at h, its cells at c -/
structure HAt (H : Hp) (h c : Addr) : Prop where
  ex : ∃ (mx pl : Int) (ns : List Int), H h = some (.lst [.int mx, .ref c, .int pl]) ∧ H c = some (.lst (ns.map V.int)) ∧ 0 ≤ mx ∧ mx < 2147483647 ∧ 0 ≤ pl ∧ ns.length ≤ 63
  ne : h ≠ c
theorem HAt.same {H H' : Hp} {h c : Addr} (a : HAt H h c) (s : Same H H') : HAt H' h c := by
  obtain ⟨⟨mx, pl, ns, e1, e2, e3⟩, n⟩ := a
  exact ⟨⟨mx, pl, ns, s _ _ e1, s _ _ e2, e3⟩, n⟩
theorem HAt.neT {H : Hp} {h c p : Addr} {xs : List V} (a : HAt H h c) (e : H p = some (.tup xs)) : p ≠ h ∧ p ≠ c := by
  obtain ⟨⟨mx, pl, ns, e1, e2, e3⟩, n⟩ := a
  exact ⟨ne_of e e1 (by intro q; cases q), ne_of e e2 (by intro q; cases q)⟩
/-- a tuple stands behind a draw -/
theorem Kp2.tup {H H' : Hp} {h c p : Addr} {xs : List V} (k : Kp2 h c H H') (a : HAt H h c) (e : H p = some (.tup xs)) : H' p = some (.tup xs) := k p _ e (a.neT e).1 (a.neT e).2
/-! ### rules as tuples -/
def Ru.kind : Ru → Str
  | .cnt _ _ => "count"
  | .shf _ _ => "shift"
  | .rgh _ => "rough"
def Ru.nums : Ru → List Int
  | .cnt b s => [(b : Int), (s : Int)]
  | .shf b s => [(b : Int), (s : Int)]
  | .rgh b => [(b : Int)]
def Ru.tup (R : Ru) : List V := .str R.kind :: R.nums.map V.int
def Ru.lim : Ru → List Int
  | .cnt _ _ => [6, 20]
  | .shf _ _ => [10, 20]
  | .rgh _ => [3]
abbrev RuAt (H : Hp) (p : Addr) (R : Ru) : Prop := H p = some (.tup R.tup)
theorem Ru.at0 (R : Ru) : atI R.tup 0 = some (.str R.kind) := atI_nat (j := 0) rfl
theorem Ru.at1 (R : Ru) : atI R.tup 1 = some (.int (R.bits : Int)) := by
  cases R <;> exact atI_nat (j := 1) rfl
theorem Ru.bits_pos {R : Ru} (h : R.ok) : 1 ≤ R.bits ∧ R.bits ≤ 10 := by
  cases R with
  | cnt b s => obtain ⟨h1, h2, h3, h4⟩ : 1 ≤ b ∧ b ≤ 6 ∧ 1 ≤ s ∧ s ≤ 20 := h; exact ⟨h1, by show b ≤ 10; omega⟩
  | shf b s => obtain ⟨h1, h2, h3, h4⟩ : 1 ≤ b ∧ b ≤ 10 ∧ 1 ≤ s ∧ s ≤ 20 := h; exact ⟨h1, h2⟩
  | rgh b => obtain ⟨h1, h2⟩ : 1 ≤ b ∧ b ≤ 3 := h; exact ⟨h1, by show b ≤ 10; omega⟩
theorem cut1 (xs : List V) : cutV xs (some 1) none = xs.drop 1 := by
  unfold cutV
  rw [show HT.sIx xs.length 0 (some 1) = min 1 xs.length from HT.sIx_nat xs.length 0 1, HT.sIx_none]
  cases xs with
  | nil => rfl
  | cons x r =>
    rw [show min 1 (x :: r).length = 1 by
      rw [List.length_cons]
      omega]
    show (List.take ((x :: r).length - 1) r) = r
    rw [List.length_cons, Nat.add_sub_cancel]
    exact List.take_length
/-! ### whether texts are alike -/
theorem dec_str {a b : Str} : decide (V.str a = V.str b) = decide (a = b) := by
  by_cases h : a = b
  · subst h; rw [decide_eq_true rfl, decide_eq_true rfl]
  · rw [decide_eq_false h, decide_eq_false (fun q => h (V.str.inj q))]
theorem dec_int {a b : Int} : decide (V.int a = V.int b) = decide (a = b) := by
  by_cases h : a = b
  · subst h; rw [decide_eq_true rfl, decide_eq_true rfl]
  · rw [decide_eq_false h, decide_eq_false (fun q => h (V.int.inj q))]
/-! ### a comprehension over zip of two tuples -/
theorem lc_zipT {K : PySem.W.Frag} {a b : Addr} {xs ys : List V} {g : TG} {tt : TT} {te : TE} {vs : List Nat} {σ : L2.St} {H1 : Hp} {D : Addr} {Qd : Hp → Prop} (hl : xs.length = ys.length) (Pv : Nat → Hp → Prop) (h0 : Pv 0 (upd H1 D (.lst []))) (hq : ∀ i H, Pv i H → SqT K H a xs ∧ SqT K H b ys)
    (hs : ∀ i x y T H, xs[i]? = some x → ys[i]? = some y → Pv i H → H T = none → g (.ref T) (wipe σ vs) (upd H T (.tup [x, y])) fun σ2 H2 => wipe σ2 vs = wipe σ vs ∧ tt σ2 H2 fun b H3 =>
      if b = true then te σ2 H3 fun y H4 => ∃ acc, H4 D = some (.lst acc) ∧ acc.length < sizeLine ∧ Pv (i + 1) (upd H4 D (.lst (acc ++ [y]))) else Pv (i + 1) H3) (hd : ∀ H, Pv xs.length H → Qd H) :
    ∃ W : Nat → Nat → Hp → Prop, (∃ m, W 0 m (upd H1 D (.lst []))) ∧ ∀ i m H, W i m H →
      ((ItzT K a b).stop i H ∧ Qd H) ∨ ((ItzT K a b).go i H ∧ ∃ Nx : Hp → Prop, (∀ H', Nx H' → ∃ m', m' < m ∧ W (i + 1) m' H') ∧ ∀ x H', (ItzT K a b).yld i H x H' → g x (wipe σ vs) H' fun σ2 H2 => wipe σ2 vs = wipe σ vs ∧ tt σ2 H2 fun b H3 =>
        if b = true then te σ2 H3 fun y H4 => ∃ acc, H4 D = some (.lst acc) ∧ acc.length < sizeLine ∧ Nx (upd H4 D (.lst (acc ++ [y]))) else Nx H3) := by
  refine ⟨fun i m H => m = xs.length - i ∧ i ≤ xs.length ∧ Pv i H, ⟨xs.length, by simp, Nat.zero_le _, h0⟩, ?_⟩
  rintro i m H ⟨rfl, hi, p⟩
  obtain ⟨qx, qy⟩ := hq i H p
  by_cases hlt : i < xs.length
  · have hx : xs[i]? = some xs[i] := List.getElem?_eq_getElem hlt
    have hlt2 : i < ys.length := by omega
    have hy : ys[i]? = some ys[i] := List.getElem?_eq_getElem hlt2
    refine .inr ⟨⟨xs, ys, _, _, qx, qy, hx, hy⟩, Pv (i + 1), fun H' p' => ⟨xs.length - (i + 1), by omega, rfl, hlt, p'⟩, fun x H' y => ?_⟩
    obtain ⟨T, x', y', rfl, hT, rfl, f1, f2⟩ := y
    exact hs i x' y' T H (f1 xs qx) (f2 ys qy) p hT
  · have e : i = xs.length := by omega
    subst e
    exact .inl ⟨⟨xs, ys, qx, qy, Or.inl (Nat.le_refl _)⟩, hd H p⟩
/-! ### lists of ints against the empty list -/
theorem dpAll_ints {K : PySem.W.Frag} {H : Hp} : ∀ ns : List Int, DpAll K H (ns.map V.int) (ns.map PyData.int)
  | [] => .nil
  | n :: r => .cons (.int n) (dpAll_ints r)
theorem eqv_nil (ns : List Int) : PyData.eqv (.list (ns.map PyData.int)) (.list []) = ns.isEmpty := by
  cases ns with
  | nil => simp [PyData.eqv, PyData.eqvAll]
  | cons n r => simp [PyData.eqv, PyData.eqvAll]
theorem ixN_nn {n : Nat} {i : Int} (h0 : 0 ≤ i) (h1 : i < n) : ixN n i = some i.toNat := by
  unfold ixN
  rw [if_pos h0, if_pos h1]
/-- two ways to one value -/
theorem join_if {te1 te2 : TE} {σ : L2.St} {H1 : Hp} {Q' : VK} {c : Bool} (G : V → Hp → Prop) (hG : ∀ v H', G v H' → Q' v H') (h1 : c = true → ∃ v H', (∀ Q : VK, Q v H' → te1 σ H1 Q) ∧ G v H')
    (h2 : c = false → ∃ v H', (∀ Q : VK, Q v H' → te2 σ H1 Q) ∧ G v H') : if c = true then te1 σ H1 Q' else te2 σ H1 Q' := by
  cases c with
  | true =>
    obtain ⟨v, H', e, g⟩ := h1 rfl
    rw [if_pos rfl]
    exact e _ (hG _ _ g)
  | false =>
    obtain ⟨v, H', e, g⟩ := h2 rfl
    rw [if_neg Bool.false_ne_true]
    exact e _ (hG _ _ g)
/-- over a range, with a break -/
theorem for_rangeB {lo : Int} {n : Nat} {g : TG} {tb : TS} {D : Ends} {σ : L2.St} {H : Hp} (Pv : Nat → L2.St → Hp → Prop) (Post : L2.St → Hp → Prop) (h0 : Pv 0 σ H)
    (hs : ∀ (bk : L2.St → Hp → Prop), (∀ σ H, Post σ H → bk σ H) → ∀ i σ H, i < n → Pv i σ H → g (.int (lo + i)) σ H fun σ2 H2 => tb { D with nx := Pv (i + 1), ct := Pv (i + 1), bk := bk } σ2 H2) (hd : ∀ σ H, Pv n σ H → Post σ H) (hp : ∀ σ H, Post σ H → D.nx σ H) :
    ∃ W : Nat → Nat → L2.St → Hp → Prop, (∃ m, W 0 m σ H) ∧ ∀ i m σ H, W i m σ H →
      ((Itr lo n).stop i H ∧ D.nx σ H) ∨ ((Itr lo n).go i H ∧ ∃ N : L2.St → Hp → Prop, (∀ σ' H', N σ' H' → ∃ m', m' < m ∧ W (i + 1) m' σ' H') ∧ ∀ x H', (Itr lo n).yld i H x H' → g x σ H' fun σ2 H2 => tb { D with nx := N, ct := N, bk := D.nx } σ2 H2) :=
  for_range Pv h0 (hs D.nx hp) fun σ H h => hp σ H (hd σ H h)
/-- two ways to values of one kind -/
theorem join_ifA {te1 te2 : TE} {σ : L2.St} {H1 : Hp} {Q' : VK} {c : Bool} (G : V → Hp → Prop) (hG : ∀ v H', G v H' → Q' v H') (h1 : c = true → ∀ Q : VK, (∀ v H', G v H' → Q v H') → te1 σ H1 Q)
    (h2 : c = false → ∀ Q : VK, (∀ v H', G v H' → Q v H') → te2 σ H1 Q) : if c = true then te1 σ H1 Q' else te2 σ H1 Q' := by
  cases c with
  | true =>
    rw [if_pos rfl]
    exact h1 rfl Q' hG
  | false =>
    rw [if_neg Bool.false_ne_true]
    exact h2 rfl Q' hG
/-- a statement by what holds behind it -/
theorem abs_nx {t : TS} {D : Ends} {σ : L2.St} {H : Hp} (G : L2.St → Hp → Prop) (h : ∀ nx' : L2.St → Hp → Prop, (∀ σ' H', G σ' H' → nx' σ' H') → t { D with nx := nx' } σ H) (hG : ∀ σ' H', G σ' H' → D.nx σ' H') : t D σ H := h D.nx hG
theorem le64 {i : Int} (h0 : 0 ≤ i) (h : i < 18446744073709551616) : -(2 ^ 64) < i ∧ i < 2 ^ 64 := by
  constructor <;> omega
end LS
namespace LS
open PySem PySem.Spec PyProof.Rows L2 RZ
def top (i : Nat) : Stmt := PySem.Challenge.pw_lastseen_k01_rules_and_marks_refused.main.body.getD i (.Pass ⟨0, 0, 0, 0⟩)
abbrev s_wall : Stmt := top 0
abbrev m_BadText_init : Stmt := inClass (top 10) 0
abbrev s_is_rule : Stmt := top 14
abbrev s_check_rule : Stmt := top 15
abbrev s_check_mark : Stmt := top 16
abbrev s_check_moment : Stmt := top 17
abbrev s_top_mark : Stmt := top 18
abbrev s_end_mark : Stmt := top 19
abbrev s_seen : Stmt := top 20
abbrev s_aged : Stmt := top 21
abbrev s_aged_on : Stmt := top 22
abbrev s_aged_roughly : Stmt := top 23
abbrev s_span : Stmt := top 25
abbrev s_off : Stmt := top 26
abbrev s_reach : Stmt := top 27
abbrev s_agings : Stmt := top 28
abbrev s_stepped_span : Stmt := top 29
abbrev s_rough_span : Stmt := top 30
abbrev s_rough_moments : Stmt := top 31
abbrev s_rough_width : Stmt := top 32
abbrev m_Board_init : Stmt := inClass (top 35) 0
abbrev m_Board_see : Stmt := inClass (top 35) 1
abbrev m_Board_pass_by : Stmt := inClass (top 35) 2
abbrev m_Board_marks : Stmt := inClass (top 35) 3
abbrev m_Board_age : Stmt := inClass (top 35) 4
abbrev m_Board_ages : Stmt := inClass (top 35) 5
abbrev m_Board_oldest : Stmt := inClass (top 35) 6
abbrev m_Board_now : Stmt := inClass (top 35) 7
abbrev m_Board_check_thing : Stmt := inClass (top 35) 8
abbrev s_L_mix : Stmt := top 37
abbrev s_L_next : Stmt := top 38
abbrev s_L_rule : Stmt := top 39
abbrev s_L_end : Stmt := top 40
abbrev s_L_most : Stmt := top 41
abbrev s_L_kind : Stmt := top 42
abbrev s_L_odd : Stmt := top 43
abbrev s_L_works : Stmt := top 44
abbrev s_law : Stmt := top 45
/-! ### things forgotten for a while -/
section
open PySem.W NdefX LamX
def fgt (L : List Addr) (H : Hp) : Hp := fun b => if b ∈ L then none else H b
def bck (L : List Addr) (H H' : Hp) : Hp := fun b => if b ∈ L then H b else H' b
theorem fgt_in {L : List Addr} {H : Hp} {b : Addr} (h : b ∈ L) : fgt L H b = none := if_pos h
theorem fgt_out {L : List Addr} {H : Hp} {b : Addr} (h : b ∉ L) : fgt L H b = H b := if_neg h
theorem bck_in {L : List Addr} {H H' : Hp} {b : Addr} (h : b ∈ L) : bck L H H' b = H b := if_pos h
theorem bck_out {L : List Addr} {H H' : Hp} {b : Addr} (h : b ∉ L) : bck L H H' b = H' b := if_neg h
theorem fgt_none {L : List Addr} {H : Hp} {b : Addr} (h : H b = none) : fgt L H b = none := by
  by_cases hb : b ∈ L
  · exact fgt_in hb
  · rw [fgt_out hb]
    exact h
/-- each is tracked by what is true of its one object -/
abbrev Exts (L : List Addr) (H : Hp) : Prop := ∀ b ∈ L, ∃ φ, H b = some (.ext φ)
theorem Exts.out {L : List Addr} {H : Hp} {b : Addr} {o : HO} (x : Exts L H) (e : H b = some o) (n : ∀ φ, o ≠ .ext φ) : b ∉ L := fun hb => by
  obtain ⟨φ, z⟩ := x b hb
  rw [e] at z
  exact n φ (Option.some.inj z)
theorem Exts.outN {L : List Addr} {H : Hp} {b : Addr} (x : Exts L H) (e : H b = none) : b ∉ L := fun hb => by
  obtain ⟨φ, z⟩ := x b hb
  rw [e] at z
  cases z
theorem Exts.fgt {L : List Addr} {H : Hp} {b : Addr} {o : HO} (x : Exts L H) (e : H b = some o) (n : ∀ φ, o ≠ .ext φ) : LS.fgt L H b = some o := (fgt_out (x.out e n)).trans e
section
variable {P : Program} {w : World} {K : Frag} {mg : Str → Option Value} {base h B h' : Heap} {A : Around} {outer : List Env} {s s' : Shared} {L fs : List Addr} {H H' : Hp}
theorem hok_fgt (ok : HOk P w H h) (x : Exts L H) : HOk P w (fgt L H) h := fun a o e => by
  by_cases hb : a ∈ L
  · rw [fgt_in hb] at e
    cases e
  · rw [fgt_out hb] at e
    exact (ok a o e).stay (fun _ _ _ q => q) (fun b q => x.fgt q fun φ z => nomatch z) (fun b xs q => x.fgt q fun φ z => nomatch z)
theorem env0_fgt (e0 : Env0 P w K mg base A outer s H) (x : Exts L H) : Env0 P w K mg base A outer s (fgt L H) :=
  ⟨e0.frames, e0.mod, fun b o e => ⟨(e0.bs b o e).1, fgt_none (e0.bs b o e).2⟩, e0.bsz, e0.funs, fun b hb => fgt_none (e0.frf b hb), hok_fgt e0.hok x, e0.bare⟩
theorem un_bck (x : Exts L H) (u : Un fs [] (fgt L H) H' h h') : Un fs [] H (bck L H H') h h' where
  keep := fun b o q n => u.keep b o q (fgt_none n)
  slot := fun b o q n => u.slot b o q (fgt_none n)
  free := fun b o q n hx => (bck_out (x.outN n)).trans (u.free b o q (fgt_none n) hx)
  there := u.there
  tups := fun b xs q => (bck_out (x.out q fun φ z => nomatch z)).trans (u.tups b xs (x.fgt q fun φ z => nomatch z))
  frzs := fun b o xs q => (bck_out (x.out q fun φ z => nomatch z)).trans (u.frzs b o xs (x.fgt q fun φ z => nomatch z))
  tbls := fun b ps q => by
    obtain ⟨more, e⟩ := u.tbls b ps (x.fgt q fun φ z => nomatch z)
    exact ⟨more, (bck_out (x.out q fun φ z => nomatch z)).trans e⟩
theorem ub_bck (x : Exts L H) (u : UB fs (fgt L H) H' h B h') : UB fs H (bck L H H') h B h' where
  keep := fun b o q n => u.keep b o q (fgt_none n)
  slot := u.slot
  free := fun b o q n => (bck_out (x.outN n)).trans (u.free b o q (fgt_none n))
  there := u.there
  tups := fun b xs q => (bck_out (x.out q fun φ z => nomatch z)).trans (u.tups b xs (x.fgt q fun φ z => nomatch z))
  frzs := fun b o xs q => (bck_out (x.out q fun φ z => nomatch z)).trans (u.frzs b o xs (x.fgt q fun φ z => nomatch z))
  tbls := fun b ps q => by
    obtain ⟨more, e⟩ := u.tbls b ps (x.fgt q fun φ z => nomatch z)
    exact ⟨more, (bck_out (x.out q fun φ z => nomatch z)).trans e⟩
theorem hok_bck (ok0 : HOk P w H h) (x : Exts L H) (kp : ∀ b ∈ L, ∀ o, h.get? b = some o → B.get? b = some o) (fr : ∀ b ∈ L, ∀ o, h.get? b = some o → H' b = none) (ok : HOk P w H' B) : HOk P w (bck L H H') B := fun a o e => by
  by_cases hb : a ∈ L
  · rw [bck_in hb] at e
    obtain ⟨φ, z⟩ := x a hb
    rw [z] at e
    cases e
    obtain ⟨f1, ⟨oa, hoa⟩, st⟩ := ok0 a _ z
    exact ⟨st h B f1 (fun o q => kp a hb o q), ⟨oa, kp a hb oa hoa⟩, st⟩
  · rw [bck_out hb] at e
    have key : ∀ (b : Addr) (u : HO), H' b = some u → bck L H H' b = some u := fun b u q => by
      by_cases h1 : b ∈ L
      · obtain ⟨φ, z⟩ := x b h1
        obtain ⟨_, ⟨ob, hob⟩, _⟩ := ok0 b _ z
        rw [fr b h1 ob hob] at q
        cases q
      · rw [bck_out h1]
        exact q
    exact (ok a o e).stay (fun _ _ _ q => q) (fun b q => key b _ q) (fun b xs q => key b _ q)
/-- behind a call: what was forgotten is known again -/
theorem cr_bck {Q Q1 : VK} {E E1 : XK} {r : Result} (ok0 : HOk P w H s.heap) (x : Exts L H) (nf : ∀ b ∈ frs outer, H b = none) (hQ : ∀ v H', Q1 v H' → Q v (bck L H H')) (hE : ∀ cls d H', E1 cls d H' → E cls d (bck L H H'))
    (c : CR (L2.CX P w) outer P w (fgt L H) s Q1 E1 r s') : CR (L2.CX P w) outer P w H s Q E r s' := by
  have nfr : ∀ b ∈ L, b ∉ frs outer := fun b hb z => x.outN (nf b z) hb
  cases r with
  | error e =>
    obtain ⟨a, B, H', cls, d, rfl, fl, ok, ub, na, os, ag, hh⟩ := c
    have kp : ∀ b ∈ L, ∀ o, s.heap.get? b = some o → B.get? b = some o := fun b hb o q => ub.keep b o q (fgt_in hb) (nfr b hb)
    have aL : a ∉ L := fun z => by
      obtain ⟨φ, q⟩ := x a z
      obtain ⟨_, ⟨oa, hoa⟩, _⟩ := ok0 a _ q
      have := kp a z oa hoa
      rw [fl.2.1] at this
      cases this
    exact ⟨a, B, _, cls, d, rfl, fl, hok_bck ok0 x kp (fun b hb o q => ub.free b o q (fgt_in hb)) ok, ub_bck x ub, (bck_out aL).trans na, os, ag, hE _ _ _ hh⟩
  | ok fl =>
    cases fl with
    | ret u =>
      obtain ⟨v, H', os, bare, un, ok, rv, q⟩ := c
      exact ⟨v, _, os, bare, un_bck x un, hok_bck ok0 x (fun b hb o q => un.keep b o q (fgt_in hb) (nfr b hb) (by simp)) (fun b hb o q => un.free b o q (fgt_in hb) (by simp)) ok, rv, hQ _ _ q⟩
    | next => exact c
    | brk => exact c
    | cont => exact c
end
end
/-! ### lambdas that are kept as values -/
section
open PySem.W NdefX LamX
/-- the object at f is the lambda F of the body e -/
def LamO (f : Addr) (F : NF) (e : Expr) (dV : Value) : HO := .ext fun h => ∃ doc pm ctv : Value, h.get? f = some (kdv_obj F.name F.qual F.params (.expr e) F.scope F.cl dV doc pm F.c ctv)
def TupO (t : Addr) (dv : List Value) : HO := .ext fun h => h.get? t = some (kdv_tup dv)
def CellO (c : Addr) (v : V) : HO := .ext fun h => ∃ u, RelV v u ∧ h.IsCell c (some u)
/-- a lambda as it stands: none or one default, the number 0 -/
def LamAt (H : Hp) (f : Addr) (F : NF) (e : Expr) (ps : List Str) : Prop :=
  ∃ dV, H f = some (LamO f F e dV) ∧ H F.c = some (CodeO F.c F.qual) ∧ ((ps = [] ∧ dV = .none) ∨ ∃ (p : Str) (t : Addr) (tk : Tok), ps = [p] ∧ dV = .ref t ∧ H t = some (TupO t [.int 0 tk]))
theorem LamAt.ext {H H' : Hp} {f : Addr} {F : NF} {e : Expr} {ps : List Str} (a : LamAt H f F e ps) (k : ExtN H H') : LamAt H' f F e ps := by
  obtain ⟨dV, h1, h2, h3⟩ := a
  refine ⟨dV, k _ _ h1 (fun _ z => nomatch z), k _ _ h2 (fun _ z => nomatch z), ?_⟩
  rcases h3 with h3 | ⟨p, t, tk, e1, e2, e3⟩
  · exact .inl h3
  · exact .inr ⟨p, t, tk, e1, e2, k _ _ e3 fun _ z => nomatch z⟩
/-- how it binds: nothing is handed over -/
def BindL (F : NF) (e : Expr) : List Str → Prop
  | [] => ∀ (doc pm ctv : Value), bindArgs (kdv_fn F.name F.qual F.params (.expr e) F.scope F.cl .none doc pm (.ref F.c) ctv) ⟨[], []⟩ = pure []
  | p :: _ => ∀ (t : Addr) (doc pm ctv : Value), ∃ k : Option (Array Value) → Sem (List (Str × Value)), bindArgs (kdv_fn F.name F.qual F.params (.expr e) F.scope F.cl (.ref t) doc pm (.ref F.c) ctv) ⟨[], []⟩ = seqItems? (.ref t) >>= k ∧ ∀ x : Value, k (some #[x]) = pure [(p, x)]
section
variable {P : Program} {w : World} {K : Frag} {mg : Str → Option Value} {base : Heap} {A : Around} {outer : List Env} {s : Shared} {H : Hp} {N ps fr : List Str} {F : NF} {f : Addr} {e : Expr} {k : Nat}
/-- its call -/
theorem lam_run {ws : List (Option V)} {Q : VK} {E : XK} {t : TE} (S : NScope N ps fr F.scope) (B : BindL F e ps) (hr : Room (k + 1) A) (e0 : Env0 P w K mg base A outer s H) (hf : LamAt H f F e ps) (C : CellsAt F.cl fr ws s.heap H)
    (hb : PE (ncx (L2.CX P w) P w K mg base N F f A outer s H E) e t) (ht : t (startF N (ps.map fun _ => V.int 0) ws) H Q) : codeAny (model P w) A (.call (.ref f) ⟨[], []⟩) (CR (L2.CX P w) outer P w H s Q E) s := by
  obtain ⟨dV, h1, h2, h3⟩ := hf
  have lim : s.heap.NoLimit := e0.mod.nolimit.keeps fun b o e => (e0.bs b o e).1
  obtain ⟨⟨doc, pm, ctv, ho⟩, _, _⟩ := e0.hok f _ h1
  obtain ⟨us, r, hbd⟩ : ∃ us : List Value, Vals (ps.map fun _ => V.int 0) us ∧ BindsTo s (kdv_fn F.name F.qual F.params (.expr e) F.scope F.cl dV doc pm (.ref F.c) ctv) ⟨[], []⟩ (ps.zip us) := by
    rcases h3 with ⟨rfl, rfl⟩ | ⟨p, t, tk, rfl, rfl, ht⟩
    · exact ⟨[], .nil, .of_eq (B doc pm ctv)⟩
    · obtain ⟨ht, _, _⟩ := e0.hok t _ ht
      obtain ⟨kk, b1, b2⟩ := B t doc pm ctv
      exact ⟨[.int 0 tk], .cons ⟨tk, rfl⟩ .nil, BindsTo.of_defaults rfl ht rfl b1 (b2 _)⟩
  refine kla_callFunE hr.depth ho rfl S.co S.gen rfl (codeO_at e0.hok h2) (hbd _ _ _ _ ?_)
  refine wpAny_newFunctionEnv S.nocell (fun ⟨n, _⟩ hy => S.par n (List.of_mem_zip hy).1) (fun h₁ hns hsb => ⟨lim.fresh _ hsb, ?_⟩) S.kind
  show codeAny _ _ (.expr e (envF F f s.heap.objs.size)) _ _
  have kp : ∀ b o, s.heap.get? b = some o → h₁.get? b = some o := fun b o e => hsb.extBut b o (Nat.ne_of_lt (Heap.lt_size e)) (Heap.get?_push_of_some _ e)
  have I : Inv (ncx (L2.CX P w) P w K mg base N F f A outer s H E) [] (startF N (ps.map fun _ => V.int 0) ws) H { s with heap := h₁, toks := s.toks + (ps.zip us).length } := inv_startN S hr.hd e0 (by rw [List.length_map]) r C hns kp
  refine kla_codeExpr (wpAny_mono (hb.run [] _ _ H Q I ht) (fun v s' hq => ?_) fun e s' hq => hq)
  obtain ⟨w', H', J, rv, q⟩ := hq
  exact ⟨w', H', J.os, J.bare, J.base, J.hok, rv, q⟩
end
/-! ### .. in the def that got it -/
section
variable {X : Cx} {pins : List (Addr × Obj)} {σ : L2.St} {H HZ : Hp} {s s1 : Shared} {N ps fr : List Str} {F : NF} {f : Addr} {e : Expr} {k : Nat}
/-- what a lambda promises: the captured values, then what is there, what follows, what is let out -/
abbrev LSp := List (Option V) → Hp → VK → XK → Prop
/-- the body keeps sp, in each context -/
def LBody (P : Program) (w : World) (K : Frag) (mg : Str → Option Value) (base : Heap) (N ps : List Str) (F : NF) (e : Expr) (k : Nat) (sp : LSp) : Prop :=
  ∀ (A : Around) (outer : List Env) (s : Shared) (f : Addr) (H : Hp) (ws : List (Option V)) (Q : VK) (E : XK), Room k (A.deeper (envF F f s.heap.objs.size)) → sp ws H Q E →
    ∃ t, PE (ncx (L2.CX P w) P w K mg base N F f A outer s H E) e t ∧ t (startF N (ps.map fun _ => V.int 0) ws) H Q
theorem call_lam {Z : Cx} {W : WX} {E : XK} {a : Str} {p1 p2 : Pos} {i : Nat} {te : Hp → VK → Prop} (tk : Takes Z W) (hW : ∀ cls d σ' H', E cls d H' → W cls d σ' H')
    (hrun : ∀ pinsZ σZ HZ sZ Q, Inv Z pinsZ σZ HZ sZ → te HZ Q → FnAt f sZ.heap ∧ codeAny (model Z.prog Z.w) Z.A (.call (.ref f) ⟨[], []⟩) (CR (L2.CX Z.prog Z.w) Z.stack Z.prog Z.w HZ sZ Q E) sZ)
    (hN : Z.N[i]? = some a) (hv : Vis Z.env.scope a) (hd : (a == ("__debug__" : Str)) = false := by decide) (hcd : (a == ("__classdict__" : Str)) = false := by decide) :
    PE Z (.Call (.Name a p1) [] [] p2) (fun σZ HZ Q => σZ[i]? = some (some (.ref f)) ∧ te HZ Q) := by
  refine ⟨fun pinsZ sZ σZ HZ Q IZ h => ?_⟩
  obtain ⟨hs, ht⟩ := h
  refine wpAny_Call_Name_kw (thn ((pe_var (pos := p1) (i := i) hN hv hd hcd).run pinsZ sZ σZ HZ (fun v H1 => v = .ref f ∧ H1 = HZ) IZ ⟨.ref f, hs, rfl, rfl⟩) fun u s1 ⟨v, H1, I1, r1, q1⟩ => ?_)
  obtain ⟨ev, eH⟩ := q1
  subst ev
  rw [eH] at I1
  obtain rfl : u = Value.ref f := r1
  obtain ⟨fa, rc⟩ := hrun pinsZ σZ HZ s1 Q I1 ht
  refine PySem.W.callWith_F0 fa ?_
  have hx := passes_call tk hW
  refine wpAny_call (codeAny_mono rc fun r s' hq => ?_)
  cases r with
  | error e => exact hx pinsZ σZ HZ s1 e s' I1 hq
  | ok fl =>
    cases fl with
    | ret u => exact I1.after hq
    | next => exact False.elim hq
    | brk => exact False.elim hq
    | cont => exact False.elim hq
theorem lam_fnAt {P : Program} {w : World} {H : Hp} {h : Heap} (ok : HOk P w H h) (a : LamAt H f F e ps) : FnAt f h := by
  obtain ⟨dV, h1, _⟩ := a
  obtain ⟨⟨doc, pm, ctv, ho⟩, _, _⟩ := ok f _ h1
  exact ⟨_, _, _, _, ho⟩
/-- tracked cells: what they hold -/
structure TrC (H : Hp) (cl : List (Str × Addr)) (fr : List Str) (ws : List V) : Prop where
  len : ws.length = fr.length
  all : ∀ y c, cl.lookup y = some c → ∃ v, H c = some (CellO c v)
  inj : ∀ x y c, cl.lookup x = some c → cl.lookup y = some c → x = y
  has : ∀ (i : Nat) (y : Str) (v : V), fr[i]? = some y → ws[i]? = some v → ∃ c, cl.lookup y = some c ∧ H c = some (CellO c v)
  sub : ∀ p ∈ cl, cl.lookup p.1 = some p.2
theorem TrC.ext {H H' : Hp} {cl : List (Str × Addr)} {fr : List Str} {ws : List V} (a : TrC H cl fr ws) (k : ExtN H H') : TrC H' cl fr ws :=
  ⟨a.len, fun y c e => let ⟨v, h⟩ := a.all y c e; ⟨v, k _ _ h fun _ z => nomatch z⟩, a.inj, fun i y v e1 e2 => let ⟨c, h1, h2⟩ := a.has i y v e1 e2; ⟨c, h1, k _ _ h2 fun _ z => nomatch z⟩, a.sub⟩
theorem TrC.exts {H : Hp} {cl : List (Str × Addr)} {fr : List Str} {ws : List V} (a : TrC H cl fr ws) : Exts (cl.map (·.2)) H := fun b hb => by
  obtain ⟨p, hp, rfl⟩ := List.mem_map.mp hb
  obtain ⟨v, h⟩ := a.all _ _ (a.sub p hp)
  exact ⟨_, h⟩
theorem TrC.cells {P : Program} {w : World} {H : Hp} {h : Heap} {cl : List (Str × Addr)} {fr : List Str} {ws : List V} (a : TrC H cl fr ws) (ok : HOk P w H h) : CellsAt cl fr (ws.map some) h (fgt (cl.map (·.2)) H) := by
  have mem : ∀ y c, cl.lookup y = some c → c ∈ cl.map (·.2) := fun y c e => List.mem_map.mpr ⟨(y, c), PySem.mem_of_lookup e, rfl⟩
  refine ⟨by rw [List.length_map]; exact a.len, fun y c e => ⟨fgt_in (mem y c e), ?_⟩, a.inj, fun i y e => ?_⟩
  · obtain ⟨v, hc⟩ := a.all y c e
    obtain ⟨⟨u, _, hu⟩, _, _⟩ := ok c _ hc
    exact ⟨_, hu⟩
  · have hl : i < ws.length := by
      rw [a.len]
      exact (List.getElem?_eq_some_iff.mp e).1
    obtain ⟨c, h1, h2⟩ := a.has i y ws[i] e (List.getElem?_eq_getElem hl)
    refine ⟨c, h1, fun v ev => ?_⟩
    rw [List.getElem?_map, List.getElem?_eq_getElem hl] at ev
    cases ev
    obtain ⟨⟨u, r, hu⟩, _, _⟩ := ok c _ h2
    exact ⟨u, r, hu⟩
theorem lam_fgt {P : Program} {w : World} {H : Hp} {h : Heap} {cl : List (Str × Addr)} {fr : List Str} {ws : List V} (ok : HOk P w H h) (a : LamAt H f F e ps) (c : TrC H cl fr ws) : LamAt (fgt (cl.map (·.2)) H) f F e ps := by
  have isC : ∀ b ∈ cl.map (·.2), ∃ o v, h.get? b = some o ∧ o.data = .cell v := fun b hb => by
    obtain ⟨p, hp, rfl⟩ := List.mem_map.mp hb
    obtain ⟨v, hc⟩ := c.all _ _ (c.sub p hp)
    obtain ⟨⟨u, _, o, ho, hd⟩, _, _⟩ := ok _ _ hc
    exact ⟨o, _, ho, hd⟩
  have out : ∀ (b : Addr) (o : Obj), h.get? b = some o → (∀ v, o.data ≠ .cell v) → b ∉ cl.map (·.2) := fun b o ho n hb => by
    obtain ⟨o', v, h1, h2⟩ := isC b hb
    rw [ho] at h1
    cases h1
    exact n v h2
  obtain ⟨dV, e1, e2, e3⟩ := a
  obtain ⟨⟨doc, pm, ctv, ho⟩, _, _⟩ := ok f _ e1
  obtain ⟨⟨oc, vs, t, h1, h2, _⟩, _, _⟩ := ok F.c _ e2
  refine ⟨dV, (fgt_out (out f _ ho fun v z => nomatch z)).trans e1, (fgt_out (out _ _ h1 fun v z => by rw [h2] at z; cases z)).trans e2, ?_⟩
  rcases e3 with e3 | ⟨p, t, tk, q1, q2, q3⟩
  · exact .inl e3
  · obtain ⟨ht, _, _⟩ := ok t _ q3
    exact .inr ⟨p, t, tk, q1, q2, (fgt_out (out _ _ ht fun v z => nomatch z)).trans q3⟩
/-- a kept lambda, called -/
theorem run_kept {Z : Cx} {E : XK} {sp : LSp} (S : NScope N ps fr F.scope) (B : BindL F e ps) (hB : LBody Z.prog Z.w Z.K Z.mg Z.base N ps F e k sp) (hr : Room (k + 1) Z.A) : ∀ pinsZ σZ HZ sZ Q, Inv Z pinsZ σZ HZ sZ →
    (LamAt HZ f F e ps ∧ ∃ ws : List V, TrC HZ F.cl fr ws ∧ sp (ws.map some) (fgt (F.cl.map (·.2)) HZ) (fun v H' => Q v (bck (F.cl.map (·.2)) HZ H')) fun cls d H' => E cls d (bck (F.cl.map (·.2)) HZ H')) →
    FnAt f sZ.heap ∧ codeAny (model Z.prog Z.w) Z.A (.call (.ref f) ⟨[], []⟩) (CR (L2.CX Z.prog Z.w) Z.stack Z.prog Z.w HZ sZ Q E) sZ := fun pinsZ σZ HZ sZ Q I ⟨la, ws, c, hs⟩ => by
  obtain ⟨t, hb, ht⟩ := hB Z.A Z.stack sZ f _ _ _ _ (hr.deeper _) hs
  have x := c.exts
  refine ⟨lam_fnAt I.hok la, codeAny_mono (lam_run S B hr (env0_fgt I.env0 x) (lam_fgt I.hok la c) (c.cells I.hok) hb ht) fun r s' hq => cr_bck I.hok x I.stkFree (fun _ _ z => z) (fun _ _ _ z => z) hq⟩
theorem cells_later {Z : Cx} {cl : List (Str × Addr)} {ws : List (Option V)} (C : CellsAt cl fr ws Z.s_0.heap Z.H_0) (hx : ∀ b, b ∉ Z.ex) {pinsZ : List (Addr × Obj)} {σZ : L2.St} {HZ : Hp} {sZ : Shared} (I : Inv Z pinsZ σZ HZ sZ) : CellsAt cl fr ws sZ.heap HZ := by
  have kp : ∀ c v, Z.H_0 c = none → Z.s_0.heap.IsCell c v → sZ.heap.IsCell c v := fun c v n ⟨o, ho, hd⟩ => by
    obtain ⟨sl, q⟩ := I.base.any ho n (hx c)
    exact ⟨_, q, hd⟩
  refine ⟨C.len, fun y c e => ?_, C.inj, fun i y e => ?_⟩
  · obtain ⟨n, v, z⟩ := C.all y c e
    refine ⟨?_, v, kp c v n z⟩
    obtain ⟨o, ho, _⟩ := z
    exact I.base.free c o ho n (hx c)
  · obtain ⟨c, hc, hv⟩ := C.has i y e
    refine ⟨c, hc, fun v ev => ?_⟩
    obtain ⟨u, r, z⟩ := hv v ev
    exact ⟨u, r, kp c _ (C.all y c hc).1 z⟩
/-- a lambda whose cells were there when the frame began, called -/
theorem run_live {Z : Cx} {E : XK} {sp : LSp} {ws : List (Option V)} (S : NScope N ps fr F.scope) (B : BindL F e ps) (hB : LBody Z.prog Z.w Z.K Z.mg Z.base N ps F e k sp) (hr : Room (k + 1) Z.A) (C : CellsAt F.cl fr ws Z.s_0.heap Z.H_0) (hx : ∀ b, b ∉ Z.ex) :
    ∀ pinsZ σZ HZ sZ Q, Inv Z pinsZ σZ HZ sZ → (LamAt HZ f F e ps ∧ sp ws HZ Q E) → FnAt f sZ.heap ∧ codeAny (model Z.prog Z.w) Z.A (.call (.ref f) ⟨[], []⟩) (CR (L2.CX Z.prog Z.w) Z.stack Z.prog Z.w HZ sZ Q E) sZ := fun pinsZ σZ HZ sZ Q I ⟨la, hs⟩ => by
  obtain ⟨t, hb, ht⟩ := hB Z.A Z.stack sZ f _ _ _ _ (hr.deeper _) hs
  exact ⟨lam_fnAt I.hok la, lam_run S B hr I.env0 la (cells_later C hx I) hb ht⟩
end
end
/-! ### the lambda is made -/
section
open PySem.W NdefX LamX
section
variable {X : Cx} {pins : List (Addr × Obj)} {σ : L2.St} {H : Hp} {s : Shared} {ps : List Str}
abbrev lamF (X : Cx) (params : Arguments) (scope : Scope) (c' : Addr) : NF := ⟨"<lambda>", X.env.qual ++ "<lambda>", params, [], scope, cloFrom X.env.cells scope.names [], c'⟩
theorem inv_lam {F : NF} {e : Expr} {o : Obj} {t' : Nat} {dV doc pm ctv : Value} (I : Inv X pins σ H s) (ho : o = kdv_obj F.name F.qual F.params (.expr e) F.scope F.cl dV doc pm F.c ctv) :
    Inv X pins σ (upd H s.heap.objs.size (LamO s.heap.objs.size F e dV)) { s with heap := s.heap.push o, toks := t' } := by
  subst ho
  refine I.laid (a := s.heap.objs.size) (fun b u e => Heap.get?_push_of_some _ e) (Nat.le_refl _) ?_
  have z : (s.heap.push (kdv_obj F.name F.qual F.params (.expr e) F.scope F.cl dV doc pm F.c ctv)).get? s.heap.objs.size = some (kdv_obj F.name F.qual F.params (.expr e) F.scope F.cl dV doc pm F.c ctv) := Heap.get?_push_size _ rfl
  exact ⟨⟨doc, pm, ctv, z⟩, ⟨_, z⟩, fun h1 h2 ⟨d, p, t, z⟩ st => ⟨d, p, t, st _ z⟩⟩
theorem inv_dflt {dv : List Value} {t' : Nat} (I : Inv X pins σ H s) : Inv X pins σ (upd H s.heap.objs.size (TupO s.heap.objs.size dv)) { s with heap := s.heap.push (kdv_tup dv), toks := t' } := by
  refine I.laid (a := s.heap.objs.size) (fun b u e => Heap.get?_push_of_some _ e) (Nat.le_refl _) ?_
  have z : (s.heap.push (kdv_tup dv)).get? s.heap.objs.size = some (kdv_tup dv) := Heap.get?_push_size _ rfl
  exact ⟨z, ⟨_, z⟩, fun h1 h2 z st => st _ z⟩
/-- what follows the making -/
abbrev Made (X : Cx) (pins : List (Addr × Obj)) (σ : L2.St) (T : List (Addr × Str)) (params : Arguments) (e : Expr) (scope : Scope) (ps : List Str) (H : Hp) (Q : Value → Shared → Prop) : Prop :=
  ∀ (f c' : Addr) (H1 : Hp) (s' : Shared), Inv X pins σ H1 s' → ExtN H H1 → (∀ b, H1 b = Option.none → H b = Option.none) → Tabs T H1 → H f = none → LamAt H1 f (lamF X params scope c') e ps → Q (.ref f) s'
theorem lam_tail {T : List (Addr × Str)} {c P : Addr} {params : Arguments} {e : Expr} {scope : Scope} {pos : Pos} {dV : Value} {E Q : Value → Shared → Prop} (I : Inv X pins σ H s) (TB : TabB X.base X.mg c P) (hcode : X.env.code = .ref c) (hm : (P, X.env.qual ++ "<lambda>") ∈ T)
    (hu : ∀ p ∈ T, p.1 = P → p.2 = X.env.qual ++ "<lambda>") (hT : Tabs T H) (hfree : ∀ y ∈ scope.names, y.2 = .free → ∃ c, X.env.cells.lookup y.1 = some c) (h3 : (ps = [] ∧ dV = .none) ∨ ∃ (p : Str) (t : Addr) (tk : Tok), ps = [p] ∧ dV = .ref t ∧ H t = some (TupO t [.int 0 tk]))
    (h : Made X pins σ T params e scope ps H Q) : wpAny (model X.prog X.w) X.A (makeTail "<lambda>" (X.env.qual ++ "<lambda>") params (.expr e) scope X.env dV .none none pos pos.line) Q E s := by
  obtain ⟨tb, hP, ht, ha⟩ := hT _ hm
  have bP : s.heap.BuiltinsAt X.mg P := TB.bm.keeps I.bk
  have hP' : s.heap.get? P = some { cls := .none, data := .fields tb } := I.hok P _ hP
  have df : ∀ {H1 : Hp}, ExtN H H1 → ((ps = [] ∧ dV = .none) ∨ ∃ (p : Str) (t : Addr) (tk : Tok), ps = [p] ∧ dV = .ref t ∧ H1 t = some (TupO t [.int 0 tk])) := fun k => h3.imp id fun ⟨p, t, tk, q1, q2, q3⟩ => ⟨p, t, tk, q1, q2, k _ _ q3 fun _ z => nomatch z⟩
  cases hc : codeAmong pos tb.toList with
  | none =>
    refine kdv_makeTail (mg := X.mg) (c := c) (P := P) (ps := tb) (closure_ok hfree) I.ok.glob (I.mod.glob.keeps I.bk) hcode (TB.code.keeps I.bk) hP' ht hc TB.gP bP fun c' ctv doc h' tk hx hge hlt hrec htb => ?_
    obtain ⟨c2, oc, vs, t, e2, hoc, hd, hv⟩ := hrec
    cases e2
    have nC : H c' = none := I.hok.fresh hge
    have I1 := inv_table (t' := tk) (more := #[rawInt pos.line, rawInt pos.col, .ref c']) (h' := h') I hP (fun b o hb e => hx b o hb e) htb hge ⟨oc, vs, t, hoc, hd, hv⟩
    have hE : ExtN H (upd (upd H P (.tbl (tb ++ #[rawInt pos.line, rawInt pos.col, .ref c']))) c' (CodeO c' (X.env.qual ++ "<lambda>"))) := fun b o e n => by
      rw [upd_ne (ne_of_none e nC), upd_ne (fun z => n tb (Option.some.inj (e.symm.trans (by rw [z]; exact hP))))]
      exact e
    have eL : (tb ++ #[rawInt pos.line, rawInt pos.col, .ref c']).toList = tb.toList ++ [rawInt pos.line, rawInt pos.col, .ref c'] := by simp
    have T1 : Tabs T (upd (upd H P (.tbl (tb ++ #[rawInt pos.line, rawInt pos.col, .ref c']))) c' (CodeO c' (X.env.qual ++ "<lambda>"))) := fun p hp => by
      by_cases hb : p.1 = P
      · rw [hu p hp hb, hb]
        refine ⟨_, by rw [upd_ne (ne_of_none hP nC), upd_same], by rw [eL]; exact PySem.TriplesOk_snoc _ _ _ _ ht, fun p' cv hcv => ?_⟩
        rw [eL] at hcv
        rcases among_app _ ht hcv with z | z
        · obtain ⟨c0, e1, e2⟩ := ha p' cv z
          exact ⟨c0, e1, hE _ _ e2 codeO_ne⟩
        · exact ⟨c', z, upd_same⟩
      · obtain ⟨ps', a1, a2, a3⟩ := hT p hp
        refine ⟨ps', by rw [upd_ne (ne_of_none a1 nC), upd_ne hb]; exact a1, a2, fun p' cv hcv => ?_⟩
        obtain ⟨c0, e1, e2⟩ := a3 p' cv hcv
        exact ⟨c0, e1, hE _ _ e2 codeO_ne⟩
    have nF := I1.hok.fresh (Nat.le_refl _)
    have I2 := inv_lam (F := lamF X params scope c') (e := e) (t' := tk) (dV := dV) (doc := doc) (pm := (X.mg "__name__").getD .none) (ctv := ctv) I1 rfl
    have kE : ∀ b o, (upd (upd H P (.tbl (tb ++ #[rawInt pos.line, rawInt pos.col, .ref c']))) c' (CodeO c' (X.env.qual ++ "<lambda>"))) b = some o → (upd (upd (upd H P (.tbl (tb ++ #[rawInt pos.line, rawInt pos.col, .ref c']))) c' (CodeO c' (X.env.qual ++ "<lambda>"))) h'.objs.size (LamO h'.objs.size (lamF X params scope c') e dV)) b = some o := fun b o q => (upd_ne (ne_of_none q nF)).trans q
    refine h h'.objs.size c' _ _ I2 (fun b o e n => kE b o (hE b o e n)) (fun b e => upd_none (upd_none (upd_none e))) (T1.ext kE) (I.hok.fresh (Nat.le_trans hge (Nat.le_of_lt hlt))) ⟨dV, upd_same, kE _ _ upd_same, df fun b o e n => kE b o (hE b o e n)⟩
  | some cv =>
    obtain ⟨c', e', hco⟩ := ha pos cv hc
    subst e'
    refine kdv_makeTailHit (mg := X.mg) (c := c) (P := P) (ps := tb) (closure_ok hfree) I.ok.glob (I.mod.glob.keeps I.bk) hcode (TB.code.keeps I.bk) hP' ht hc bP fun ctv doc h' tk hx hsz => ?_
    have I1 : Inv X pins σ H { s with heap := h', toks := tk } := I.kept hx
    have nF : H h'.objs.size = none := I1.hok.fresh (Nat.le_refl _)
    have I2 := inv_lam (F := lamF X params scope c') (e := e) (t' := tk) (dV := dV) (doc := doc) (pm := (X.mg "__name__").getD .none) (ctv := ctv) I1 rfl
    have kE : ∀ b o, H b = some o → (upd H h'.objs.size (LamO h'.objs.size (lamF X params scope c') e dV)) b = some o := fun b o q => (upd_ne (ne_of_none q nF)).trans q
    exact h h'.objs.size c' _ _ I2 (fun b o e _ => kE b o e) (fun b e => upd_none e) (hT.ext kE) nF ⟨dV, upd_same, kE _ _ hco, df fun b o e _ => kE b o e⟩
/-- no default, or the number 0 -/
def DfltOk (X : Cx) (params : Arguments) (ps : List Str) : Prop := (ps = [] ∧ defaultsOf params X.env = ([], [])) ∨ ∃ (p : Str) (j : Nat) (q : Pos), ps = [p] ∧ params.defaults = [.Constant (.int 0) j q] ∧ params.kw_defaults = []
theorem lam_make3 {T : List (Addr × Str)} {c P : Addr} {params : Arguments} {e : Expr} {scope : Scope} {pos : Pos} {Q : Value → Shared → Prop} (I : Inv X pins σ H s) (TB : TabB X.base X.mg c P) (hcode : X.env.code = .ref c) (hm : (P, X.env.qual ++ "<lambda>") ∈ T)
    (hu : ∀ p ∈ T, p.1 = P → p.2 = X.env.qual ++ "<lambda>") (hT : Tabs T H) (hfree : ∀ y ∈ scope.names, y.2 = .free → ∃ c, X.env.cells.lookup y.1 = some c) (hd : DfltOk X params ps) (h : Made X pins σ T params e scope ps H Q) :
    wpAny (model X.prog X.w) X.A (eval (.Lambda params e scope pos) X.env) Q X.xe s := by
  rcases hd with ⟨rfl, hd⟩ | ⟨p, j, q, rfl, hd, hk⟩
  · refine kla_eval hd ?_
    rw [makeFunction_eq]
    simp only [List.zip_nil_right, List.filterMap_nil, List.isEmpty_nil, if_true, pure_bind]
    exact lam_tail I TB hcode hm hu hT hfree (.inl ⟨rfl, rfl⟩) h
  · refine kdv_lam (by rw [hd]; rfl) hk ?_
    rw [hd]
    refine kdv_all1 (thn ((pe_int (X := X) (i := 0) (j := j) (pos := q)).run pins s σ H (fun v H1 => v = .int 0 ∧ H1 = H) I ⟨rfl, rfl⟩) fun u s1 hh => kdv_all0 ?_)
    obtain ⟨v, H1, I1, r1, rfl, rfl⟩ := hh
    obtain ⟨tk, rfl⟩ := r1
    rw [makeFunction_eq]
    simp only [List.zip_nil_right, List.filterMap_nil, List.isEmpty_nil, List.isEmpty_cons, Bool.false_eq_true, if_false, if_true, pure_bind]
    refine wpAny_bind (wpAny_newTextTuple ?_)
    have nF := I1.hok.fresh (Nat.le_refl _)
    have I2 := inv_dflt (dv := [.int 0 tk]) (t' := s1.toks) I1
    have kE : ∀ b o, H1 b = some o → (upd H1 s1.heap.objs.size (TupO s1.heap.objs.size [.int 0 tk])) b = some o := fun b o q => (upd_ne (ne_of_none q nF)).trans q
    exact lam_tail I2 TB hcode hm hu (hT.ext kE) hfree (.inr ⟨p, _, tk, rfl, rfl, upd_same⟩) fun f c' H2 s' J eN nn T2 hf la => h f c' H2 s' J (fun b o e n => eN b o (kE b o e) n) (fun b q => upd_none (nn b q)) T2 (upd_none hf) la
end
end
/-! ### the program: rules -/
theorem k_cs : ¬ (("count" : Str) = "shift") := by decide +kernel
theorem k_cr : ¬ (("count" : Str) = "rough") := by decide +kernel
theorem k_sc : ¬ (("shift" : Str) = "count") := by decide +kernel
theorem k_sr : ¬ (("shift" : Str) = "rough") := by decide +kernel
theorem k_rc : ¬ (("rough" : Str) = "count") := by decide +kernel
theorem k_rs : ¬ (("rough" : Str) = "shift") := by decide +kernel

/-- what the top has written of the limits, at d -/
def WrT (K : PySem.W.Frag) (a : Addr) (xs : List V) : Prop := ∃ (o : Obj) (its : Array Value) (n : Nat), K.lookup a = some o ∧ o.cls = .type "tuple" ∧ o.data = .seq its n ∧ its.size ≤ sizeLine ∧ Vals xs its.toList
structure Lims (K : PySem.W.Frag) (w : World) (mg : Str → Option Value) : Prop where
  ex : ∃ (d : Addr) (es : Array DictEntry) (n : Nat), mg "LIMITS" = some (.ref d) ∧ KDict K w d es n ∧ ∀ R : Ru, ∃ t, PySem.W.nsIn K d R.kind = some (some (.ref t)) ∧ WrT K t (R.lim.map V.int)
theorem nums_ok {R : Ru} (h : R.ok) {i : Nat} {x y : V} (hx : (R.nums.map V.int)[i]? = some x) (hy : (R.lim.map V.int)[i]? = some y) : ∃ n m : Int, x = .int n ∧ y = .int m ∧ 1 ≤ n ∧ n ≤ m := by
  cases R with
  | cnt b s =>
    obtain ⟨h1, h2, h3, h4⟩ : 1 ≤ b ∧ b ≤ 6 ∧ 1 ≤ s ∧ s ≤ 20 := h
    match i, hx, hy with
    | 0, hx, hy => exact ⟨b, 6, (Option.some.inj hx).symm, (Option.some.inj hy).symm, by omega, by omega⟩
    | 1, hx, hy => exact ⟨s, 20, (Option.some.inj hx).symm, (Option.some.inj hy).symm, by omega, by omega⟩
    | i + 2, hx, hy => simp [Ru.nums] at hx
  | shf b s =>
    obtain ⟨h1, h2, h3, h4⟩ : 1 ≤ b ∧ b ≤ 10 ∧ 1 ≤ s ∧ s ≤ 20 := h
    match i, hx, hy with
    | 0, hx, hy => exact ⟨b, 10, (Option.some.inj hx).symm, (Option.some.inj hy).symm, by omega, by omega⟩
    | 1, hx, hy => exact ⟨s, 20, (Option.some.inj hx).symm, (Option.some.inj hy).symm, by omega, by omega⟩
    | i + 2, hx, hy => simp [Ru.nums] at hx
  | rgh b =>
    obtain ⟨h1, h2⟩ : 1 ≤ b ∧ b ≤ 3 := h
    match i, hx, hy with
    | 0, hx, hy => exact ⟨b, 3, (Option.some.inj hx).symm, (Option.some.inj hy).symm, by omega, by omega⟩
    | i + 1, hx, hy => simp [Ru.nums] at hx
theorem nums_lim (R : Ru) : (R.nums.map V.int).length = (R.lim.map V.int).length := by cases R <;> rfl
theorem lim_short (R : Ru) : (R.lim.map V.int).length ≤ 2 := by
  cases R with
  | cnt b s => exact Nat.le_refl 2
  | shf b s => exact Nat.le_refl 2
  | rgh b => exact (by decide : 1 ≤ 2)
def spIsRule : Sp := fun vs H Q _ => ∃ (p : Addr) (R : Ru), vs = [.ref p] ∧ RuAt H p R ∧ R.ok ∧ ∀ H', Same H H' → Q (.bl true) H'
section
variable {P : Program} {w : World} {K : PySem.W.Frag} {mg : Str → Option Value} {base : Heap}
theorem sc_is_rule : FnScope ["rule", "limits", "numbers", "number", "most"] ["rule"] (defScope s_is_rule) := ⟨rfl, rfl, rfl, by decide +kernel, rfl, by decide +kernel, by decide +kernel⟩
theorem ok_is_rule (D : DefAt K mg "is_rule" s_is_rule ["rule"]) (LI : Lims K w mg) (m_len : mg "len" = none) (m_all : mg "all" = none) (m_zip : mg "zip" = none) : Cl P w K mg base 1 "is_rule" ["rule"] spIsRule := by
  refine D.cl fun f fd F => ?_
  obtain ⟨d, es, n, gL, kd, lt⟩ := LI.ex
  refine F.ok sc_is_rule (fun vs H Q E h => ?_) (fun cdv A outer s H vs Q E hr h => ?_)
  · obtain ⟨p, R, rfl, _⟩ := h
    rfl
  · obtain ⟨p, R, rfl, hp, ok, q⟩ := h
    obtain ⟨t, ht, wt⟩ := lt R
    refine ⟨_, pss_cons (ps_if (pt_cmpR (op_notIn_kd kd) (pe_ix ix_tup (pv 0) pe_int (fun _ _ => rfl)) (pe_glob (v := .ref d) (by rfl) gL rfl) (by rfl)) (pss_one ps_never) pss_nil)
      (pss_cons (ps_set (i := 1) sc_is_rule.nd rfl (Or.inl rfl) (pe_ix ix_kdict (pe_glob (v := .ref d) (by rfl) gL rfl) (pe_ix ix_tup (pv 0) pe_int (fun _ _ => rfl)) (fun _ _ => rfl)))
      (pss_cons (ps_set (i := 2) sc_is_rule.nd rfl (Or.inl rfl) (pe_slice sl_tup (pv 0) (po_some pe_int) po_none))
      (pss_cons (ps_if (pt_cmpR op_ne (pe_callB call_len_seq (by rfl) m_len PySem.boot_len (pa_cons (pv 2) pa_nil)) (pe_callB call_len_seq (by rfl) m_len PySem.boot_len (pa_cons (pv 1) pa_nil)) (nomark _)) (pss_one ps_never) pss_nil)
      (pss_one (ps_ret (pe_callB (cr_all rfl) (by rfl) m_all (by decide +kernel) (pa_cons
        (pe_lc (own := [("number", 3), ("most", 4)]) (g := gTup K 2 (gCons (gName 3) (gCons (gName 4) gNil))) (tt := tYes) rfl sc_is_rule.nd (pi_zipA (by rfl) m_zip (pa_cons (pv 2) (pa_cons (pv 1) pa_nil))) (blkOk_by (N := ["rule", "limits", "numbers", "number", "most"]) (sc := defScope s_is_rule) (by decide +kernel))
          (fun _ _ _ _ _ => by exact pg_tup rfl (pgs_cons (pg_name (i := 3) sc_is_rule.nd rfl (Or.inl rfl)) (pgs_cons (pg_name (i := 4) sc_is_rule.nd rfl (Or.inl rfl)) pgs_nil))) (fun _ _ _ _ _ => by exact pts_nil)
          (fun _ _ _ _ _ => by exact pe_chain op_le op_le pe_int (pv 3) (pv 4))) pa_nil))))))), ?_⟩
    refine ⟨_, rfl, p, _, _, _, rfl, rfl, SqT.of hp, R.at0, R.kind, _, rfl, rfl, ht, _, rfl, iteF ?_⟩
    refine ⟨_, rfl, p, _, _, _, rfl, rfl, SqT.of hp, R.at0, d, R.kind, .ref t, rfl, rfl, ⟨es, n, _, kd.at_, kd.lit, ht, rfl⟩, ?_⟩
    refine ⟨_, rfl, 1, rfl, p, R.tup, rfl, SqT.of hp, ?_, fun u nu => ?_⟩
    · have h1 : R.tup.length = (R.nums.map V.int).length + 1 := rfl
      have h2 : 1 ≤ (R.nums.map V.int).length := by cases R <;> exact Nat.succ_le_succ (Nat.zero_le _)
      rintro ⟨e, _⟩
      rw [show HT.sIx R.tup.length 0 (some 1) = min 1 R.tup.length from HT.sIx_nat _ 0 1] at e
      omega
    have su : Same H (upd H u (.tup (cutV R.tup (some 1) none))) := same_upd nu
    have eu : (upd H u (.tup (cutV R.tup (some 1) none))) u = some (.tup (R.nums.map V.int)) := by
      rw [upd_same, cut1]; rfl
    refine ⟨_, rfl, u, R.nums.map V.int, rfl, .inr (SqT.of eu), _, rfl, t, R.lim.map V.int, rfl, .inr (.inr wt), rfl, _, rfl, ?_⟩
    rw [nums_lim]
    refine iteNS rfl ?_
    refine ⟨_, rfl, _, rfl, u, t, R.nums.map V.int, R.lim.map V.int, rfl, .inr ⟨SqT.of eu, .inr wt, fun D nD => ?_⟩⟩
    refine lc_zipT (K := K) (xs := R.nums.map V.int) (ys := R.lim.map V.int) (nums_lim R) (fun i H' => Same (upd H u (.tup (cutV R.tup (some 1) none))) H' ∧ H' D = some (.lst ((List.replicate i true).map V.bl)))
      ⟨same_upd nD, upd_same⟩ (fun i H' h => ⟨SqT.of (h.1 _ _ eu), .inr wt⟩) ?_ ?_
    · rintro i x y T H' hx hy ⟨sm, hD⟩ hT
      obtain ⟨a, b, rfl, rfl, h1, h2⟩ := nums_ok ok hx hy
      have nT : D ≠ T := ne_of_none hD hT
      refine ⟨T, [.int a, .int b], rfl, .inl (.inl upd_same), rfl, .int a, [.int b], rfl, .int b, [], rfl, rfl, rfl, ?_⟩
      refine ⟨_, rfl, _, _, rfl, rfl, _, rfl, ?_⟩
      rw [decide_eq_true h1]
      refine iteT ?_
      refine ⟨_, rfl, _, _, rfl, rfl, ?_⟩
      dsimp only
      rw [decide_eq_true h2]
      refine ⟨_, (by rw [upd_ne nT]; exact hD), ?_, ?_, ?_⟩
      · rw [List.length_map, List.length_replicate]
        have : i < (R.lim.map V.int).length := (List.getElem?_eq_some_iff.mp hy).1
        have := lim_short R
        exact small1000 (by omega)
      · intro z o e
        rw [upd_ne (show z ≠ D from ne_of_none e nD), upd_ne (ne_of_none (sm _ _ e) hT)]
        exact sm _ _ e
      · rw [upd_same, List.replicate_succ', List.map_append]
        rfl
    · rintro H' ⟨sm, hD⟩
      refine ⟨D, List.replicate _ true, rfl, SqL.of hD, ?_⟩
      rw [show (List.replicate (R.nums.map V.int).length true).all id = true by simp]
      exact q H' (su.trans sm)
end
/-! ### the program: what is a rule, of any text and numbers -/
def rtup (k : Str) (is : List Int) : List V := .str k :: is.map V.int
def limL (k : Str) : Option (List Int) := if k = "count" then some [6, 20] else if k = "shift" then some [10, 20] else if k = "rough" then some [3] else none
def inL (a m : Int) : Bool := decide (1 ≤ a) && decide (a ≤ m)
def isRuleL (k : Str) (is : List Int) : Bool := match limL k with
  | none => false
  | some ls => decide (is.length = ls.length) && (List.zipWith inL is ls).all id
def kindOk (k : Str) : Prop := k = "count" ∨ k = "shift" ∨ k = "rough" ∨ k = "Count" ∨ k = "" ∨ k = "counts"
structure LimsX (K : PySem.W.Frag) (w : World) (mg : Str → Option Value) : Prop where
  ex : ∃ (d : Addr) (es : Array DictEntry) (n : Nat), mg "LIMITS" = some (.ref d) ∧ KDict K w d es n ∧ (∀ R : Ru, ∃ t, PySem.W.nsIn K d R.kind = some (some (.ref t)) ∧ WrT K t (R.lim.map V.int)) ∧
    PySem.W.nsIn K d "Count" = some none ∧ PySem.W.nsIn K d "" = some none ∧ PySem.W.nsIn K d "counts" = some none
theorem kind_cases {K : PySem.W.Frag} {d : Addr} {k : Str} (h : kindOk k) (lt : ∀ R : Ru, ∃ t, PySem.W.nsIn K d R.kind = some (some (.ref t)) ∧ WrT K t (R.lim.map V.int)) (n1 : PySem.W.nsIn K d "Count" = some none) (n2 : PySem.W.nsIn K d "" = some none) (n3 : PySem.W.nsIn K d "counts" = some none) :
    (limL k = none ∧ PySem.W.nsIn K d k = some none) ∨ ∃ (ls : List Int) (t : Addr), limL k = some ls ∧ PySem.W.nsIn K d k = some (some (.ref t)) ∧ WrT K t (ls.map V.int) ∧ ls.length ≤ 2 ∧ 1 ≤ ls.length := by
  rcases h with rfl | rfl | rfl | rfl | rfl | rfl
  · obtain ⟨t, h1, h2⟩ := lt (.cnt 1 1)
    exact .inr ⟨_, t, by decide +kernel, h1, h2, by decide, by decide⟩
  · obtain ⟨t, h1, h2⟩ := lt (.shf 1 1)
    exact .inr ⟨_, t, by decide +kernel, h1, h2, by decide, by decide⟩
  · obtain ⟨t, h1, h2⟩ := lt (.rgh 1)
    exact .inr ⟨_, t, by decide +kernel, h1, h2, by decide, by decide⟩
  · exact .inl ⟨by decide +kernel, n1⟩
  · exact .inl ⟨by decide +kernel, n2⟩
  · exact .inl ⟨by decide +kernel, n3⟩
theorem iteNR {c A B : Prop} [Decidable c] (hc : ¬ c) (h : A) : if (!decide c) = true then A else B := by
  have e : (!decide c) = true := by simp [hc]
  rw [if_pos e]
  exact h
def spIsRuleX : Sp := fun vs H Q _ => ∃ (p : Addr) (k : Str) (is : List Int), vs = [.ref p] ∧ H p = some (.tup (rtup k is)) ∧ kindOk k ∧ is.length ≤ 10 ∧ ∀ H', Same H H' → Q (.bl (isRuleL k is)) H'
section
variable {P : Program} {w : World} {K : PySem.W.Frag} {mg : Str → Option Value} {base : Heap}
theorem sc_is_ruleX : FnScope ["rule", "limits", "numbers", "number", "most"] ["rule"] (defScope s_is_rule) := ⟨rfl, rfl, rfl, by decide +kernel, rfl, by decide +kernel, by decide +kernel⟩
theorem rcut1 (k : Str) (is : List Int) : cutV (rtup k is) (some 1) none = is.map V.int := by
  rw [cut1]
  rfl
theorem ok_is_ruleX (D : DefAt K mg "is_rule" s_is_rule ["rule"]) (LI : LimsX K w mg) (m_len : mg "len" = none) (m_all : mg "all" = none) (m_zip : mg "zip" = none) : Cl P w K mg base 1 "is_rule" ["rule"] spIsRuleX := by
  refine D.cl fun f fd F => ?_
  obtain ⟨d, es, n, gL, kd, lt, n1, n2, n3⟩ := LI.ex
  refine F.ok sc_is_ruleX (fun vs H Q E h => ?_) (fun cdv A outer s H vs Q E hr h => ?_)
  · obtain ⟨p, k, is, rfl, _⟩ := h
    rfl
  · obtain ⟨p, k, is, rfl, hp, kok, l10, q⟩ := h
    refine ⟨_, pss_cons (ps_if (pt_cmpR (op_notIn_kd kd) (pe_ix ix_tup (pv 0) pe_int (fun _ _ => rfl)) (pe_glob (v := .ref d) (by rfl) gL rfl) (by rfl)) (pss_one (ps_ret pe_bl)) pss_nil)
      (pss_cons (ps_set (i := 1) sc_is_ruleX.nd rfl (Or.inl rfl) (pe_ix ix_kdict (pe_glob (v := .ref d) (by rfl) gL rfl) (pe_ix ix_tup (pv 0) pe_int (fun _ _ => rfl)) (fun _ _ => rfl)))
      (pss_cons (ps_set (i := 2) sc_is_ruleX.nd rfl (Or.inl rfl) (pe_slice sl_tup (pv 0) (po_some pe_int) po_none))
      (pss_cons (ps_if (pt_cmpR op_ne (pe_callB call_len_seq (by rfl) m_len PySem.boot_len (pa_cons (pv 2) pa_nil)) (pe_callB call_len_seq (by rfl) m_len PySem.boot_len (pa_cons (pv 1) pa_nil)) (nomark _)) (pss_one (ps_ret pe_bl)) pss_nil)
      (pss_one (ps_ret (pe_callB (cr_all rfl) (by rfl) m_all (by decide +kernel) (pa_cons
        (pe_lc (own := [("number", 3), ("most", 4)]) (g := gTup K 2 (gCons (gName 3) (gCons (gName 4) gNil))) (tt := tYes) rfl sc_is_ruleX.nd (pi_zipA (by rfl) m_zip (pa_cons (pv 2) (pa_cons (pv 1) pa_nil))) (blkOk_by (N := ["rule", "limits", "numbers", "number", "most"]) (sc := defScope s_is_rule) (by decide +kernel))
          (fun _ _ _ _ _ => by exact pg_tup rfl (pgs_cons (pg_name (i := 3) sc_is_ruleX.nd rfl (Or.inl rfl)) (pgs_cons (pg_name (i := 4) sc_is_ruleX.nd rfl (Or.inl rfl)) pgs_nil))) (fun _ _ _ _ _ => by exact pts_nil)
          (fun _ _ _ _ _ => by exact pe_chain op_le op_le pe_int (pv 3) (pv 4))) pa_nil))))))), ?_⟩
    have at0 : atI (rtup k is) 0 = some (.str k) := atI_nat (j := 0) rfl
    rcases kind_cases kok lt n1 n2 n3 with ⟨hl, hn⟩ | ⟨ls, t, hl, ht, wt, l2, l1⟩
    · have e : isRuleL k is = false := by
        unfold isRuleL
        rw [hl]
      rw [e] at q
      exact ⟨_, rfl, p, _, _, _, rfl, rfl, SqT.of hp, at0, k, _, rfl, rfl, hn, _, rfl, iteT (q H (Same.refl _))⟩
    · refine ⟨_, rfl, p, _, _, _, rfl, rfl, SqT.of hp, at0, k, _, rfl, rfl, ht, _, rfl, iteF ?_⟩
      refine ⟨_, rfl, p, _, _, _, rfl, rfl, SqT.of hp, at0, d, k, .ref t, rfl, rfl, ⟨es, n, _, kd.at_, kd.lit, ht, rfl⟩, ?_⟩
      have e : isRuleL k is = (decide (is.length = ls.length) && (List.zipWith inL is ls).all id) := by
        unfold isRuleL
        rw [hl]
      refine ⟨_, rfl, 1, rfl, p, rtup k is, rfl, SqT.of hp, ?_, fun u nu => ?_⟩
      · rintro ⟨z, _⟩
        rw [show HT.sIx (rtup k is).length 0 (some 1) = min 1 (rtup k is).length from HT.sIx_nat _ 0 1] at z
        have h1 : (rtup k is).length = (is.map V.int).length + 1 := rfl
        omega
      have su : Same H (upd H u (.tup (cutV (rtup k is) (some 1) none))) := same_upd nu
      have eu : (upd H u (.tup (cutV (rtup k is) (some 1) none))) u = some (.tup (is.map V.int)) := by
        rw [upd_same, rcut1]
      refine ⟨_, rfl, u, is.map V.int, rfl, .inr (SqT.of eu), _, rfl, t, ls.map V.int, rfl, .inr (.inr wt), rfl, _, rfl, ?_⟩
      rw [List.length_map, List.length_map]
      by_cases hlen : is.length = ls.length
      · rw [e, decide_eq_true hlen, Bool.true_and] at q
        rw [hlen]
        refine iteNS rfl ?_
        have hlm : (is.map V.int).length = (ls.map V.int).length := by rw [List.length_map, List.length_map, hlen]
        refine ⟨_, rfl, _, rfl, u, t, is.map V.int, ls.map V.int, rfl, .inr ⟨SqT.of eu, .inr wt, fun D nD => ?_⟩⟩
        refine lc_zipT (K := K) (xs := is.map V.int) (ys := ls.map V.int) hlm (fun i H' => Same (upd H u (.tup (cutV (rtup k is) (some 1) none))) H' ∧ H' D = some (.lst (((List.zipWith inL is ls).take i).map V.bl)))
          ⟨same_upd nD, upd_same⟩ (fun i H' h => ⟨SqT.of (h.1 _ _ eu), .inr wt⟩) ?_ ?_
        · rintro i x y T H' hx hy ⟨sm, hD⟩ hT
          rw [List.getElem?_map] at hx hy
          obtain ⟨a, ha, rfl⟩ : ∃ a, is[i]? = some a ∧ x = .int a := by
            cases z : is[i]? with
            | none => rw [z] at hx; cases hx
            | some a => rw [z] at hx; exact ⟨a, rfl, (Option.some.inj hx).symm⟩
          obtain ⟨b, hb, rfl⟩ : ∃ b, ls[i]? = some b ∧ y = .int b := by
            cases z : ls[i]? with
            | none => rw [z] at hy; cases hy
            | some a => rw [z] at hy; exact ⟨a, rfl, (Option.some.inj hy).symm⟩
          have hz : (List.zipWith inL is ls)[i]? = some (inL a b) := by
            rw [List.getElem?_zipWith, ha, hb]
          have nT : D ≠ T := ne_of_none hD hT
          have il : i < ls.length := (List.getElem?_eq_some_iff.mp hb).1
          have fin : ∀ v : Bool, v = inL a b → ∃ acc, (upd H' T (.tup [V.int a, V.int b])) D = some (.lst acc) ∧ acc.length < sizeLine ∧ (Same (upd H u (.tup (cutV (rtup k is) (some 1) none))) (upd (upd H' T (.tup [V.int a, V.int b])) D (.lst (acc ++ [V.bl v]))) ∧ (upd (upd H' T (.tup [V.int a, V.int b])) D (.lst (acc ++ [V.bl v]))) D = some (.lst (((List.zipWith inL is ls).take (i + 1)).map V.bl))) := fun v hv => by
            refine ⟨_, (by rw [upd_ne nT]; exact hD), ?_, ?_, ?_⟩
            · rw [List.length_map, List.length_take]
              exact small1000 (by omega)
            · intro z o e
              rw [upd_ne (show z ≠ D from ne_of_none e nD), upd_ne (ne_of_none (sm _ _ e) hT)]
              exact sm _ _ e
            · rw [upd_same, List.take_succ, hz, hv, Option.toList_some, List.map_append]
              rfl
          refine ⟨T, [.int a, .int b], rfl, .inl (.inl upd_same), rfl, .int a, [.int b], rfl, .int b, [], rfl, rfl, rfl, ?_⟩
          refine ⟨_, rfl, _, _, rfl, rfl, _, rfl, ?_⟩
          by_cases h1 : 1 ≤ a
          · rw [decide_eq_true h1]
            refine iteT ?_
            exact ⟨_, rfl, _, _, rfl, rfl, fin _ (by unfold inL; rw [decide_eq_true h1, Bool.true_and])⟩
          · rw [decide_eq_false h1]
            exact iteF (fin _ (by unfold inL; rw [decide_eq_false h1, Bool.false_and]))
        · rintro H' ⟨sm, hD⟩
          rw [List.take_of_length_le (by rw [List.length_zipWith, List.length_map]; omega)] at hD
          exact ⟨D, List.zipWith inL is ls, rfl, SqL.of hD, q H' (su.trans sm)⟩
      · rw [e, decide_eq_false hlen, Bool.false_and] at q
        have hne : ¬ ((is.length : Nat) : Int) = ((ls.length : Nat) : Int) := by omega
        refine iteNR (fun z => hne (V.int.inj z)) ?_
        exact q _ su
end
/-! ### the program: marks and ageing -/
def spCheckRule : Sp := fun vs H Q _ => ∃ (p : Addr) (R : Ru), vs = [.ref p] ∧ RuAt H p R ∧ R.ok ∧ ∀ H', Same H H' → Q .non H'
def spTopMark : Sp := fun vs H Q _ => ∃ (p : Addr) (R : Ru), vs = [.ref p] ∧ RuAt H p R ∧ R.ok ∧ Q (.int (R.most : Int)) H
def spCheckMark : Sp := fun vs H Q _ => ∃ (p : Addr) (R : Ru) (i : Int), vs = [.ref p, .int i] ∧ RuAt H p R ∧ R.ok ∧ 0 ≤ i ∧ i ≤ (R.most : Int) ∧ Q .non H
def spCheckMoment : Sp := fun vs H Q _ => ∃ (i : Int), vs = [.int i] ∧ 0 ≤ i ∧ i ≤ 1000000000 ∧ Q .non H
def spRoughly : Sp := fun vs H Q _ => ∃ (b m t n : Nat) (i1 i2 i3 i4 : Int), vs = [.int i1, .int i2, .int i3, .int i4] ∧ i1 = ((2 ^ b - 1 : Nat) : Int) ∧ i2 = (m : Int) ∧ i3 = (t : Int) ∧ i4 = ((t + n : Nat) : Int) ∧
  1 ≤ b ∧ b ≤ 3 ∧ m ≤ 2 ^ b - 1 ∧ t + n ≤ 1000000000 ∧ Q (.int (ag (.rgh b) m t n : Int)) H
def spAged : Sp := fun vs H Q _ => ∃ (p : Addr) (R : Ru) (m t n : Nat) (i1 i2 i3 : Int), vs = [.ref p, .int i1, .int i2, .int i3] ∧ i1 = (m : Int) ∧ i2 = (t : Int) ∧ i3 = ((t + n : Nat) : Int) ∧
  RuAt H p R ∧ R.ok ∧ m ≤ R.most ∧ t + n ≤ 1000000000 ∧ ∀ H', Same H H' → Q (.int (ag R m t n : Int)) H'
theorem pow_sub (k : Nat) : (2 : Int) ^ k - 1 = ((2 ^ k - 1 : Nat) : Int) := by
  have := Nat.two_pow_pos k
  have e : ((2 ^ k : Nat) : Int) = (2 : Int) ^ k := by rw [Int.natCast_pow]; rfl
  omega
theorem top_is {i : Int} {k : Nat} (h : i = (k : Int)) : (1 : Int) * 2 ^ i.toNat - 1 = ((2 ^ k - 1 : Nat) : Int) := by
  rw [h, Int.toNat_natCast, Int.one_mul, pow_sub]
theorem Ru.most_lt {R : Ru} (h : R.ok) : R.most < 2048 := by
  cases R with
  | cnt b s =>
    obtain ⟨h1, h2, h3, h4⟩ : 1 ≤ b ∧ b ≤ 6 ∧ 1 ≤ s ∧ s ≤ 20 := h
    have : 2 ^ b ≤ 2 ^ 6 := Nat.pow_le_pow_right (by decide) h2
    show 2 ^ b - 1 < 2048
    omega
  | shf b s =>
    obtain ⟨h1, h2, h3, h4⟩ : 1 ≤ b ∧ b ≤ 10 ∧ 1 ≤ s ∧ s ≤ 20 := h
    have : 2 ^ (b + 1) ≤ 2 ^ 11 := Nat.pow_le_pow_right (by decide) (by omega)
    show 2 ^ (b + 1) - 1 < 2048
    omega
  | rgh b =>
    obtain ⟨h1, h2⟩ : 1 ≤ b ∧ b ≤ 3 := h
    have : 2 ^ b ≤ 2 ^ 3 := Nat.pow_le_pow_right (by decide) h2
    show 2 ^ b - 1 < 2048
    omega
theorem next_cast (t m : Nat) : ((t : Int) / 2 ^ (m : Int).toNat + 1) * 2 ^ (m : Int).toNat = (((t / 2 ^ m + 1) * 2 ^ m : Nat) : Int) := by
  rw [Int.toNat_natCast, Int.natCast_mul, Int.natCast_add, Int.natCast_ediv, Int.natCast_pow]
  rfl
theorem kind_ne {R : Ru} {x : Str} (h : R.kind ≠ x) : decide (V.str R.kind = V.str x) = false := by rw [dec_str, decide_eq_false h]
section
variable {P : Program} {w : World} {K : PySem.W.Frag} {mg : Str → Option Value} {base : Heap}
theorem sc_check_rule : FnScope ["rule"] ["rule"] (defScope s_check_rule) := ⟨rfl, rfl, rfl, by decide +kernel, rfl, by decide +kernel, by decide +kernel⟩
theorem ok_check_rule (D : DefAt K mg "check_rule" s_check_rule ["rule"]) (C1 : Cl P w K mg base 1 "is_rule" ["rule"] spIsRule) : Cl P w K mg base 2 "check_rule" ["rule"] spCheckRule := by
  refine D.cl fun f fd F => ?_
  refine F.ok sc_check_rule (fun vs H Q E h => ?_) (fun cdv A outer s H vs Q E hr h => ?_)
  · obtain ⟨p, R, rfl, _⟩ := h
    rfl
  · obtain ⟨p, R, rfl, hp, ok, q⟩ := h
    refine ⟨_, pss_one (ps_if (pt_not (pt_val (pe_cl C1 hr (pa_cons (pv 0) pa_nil)))) (pss_one ps_never) pss_nil), ?_⟩
    exact ⟨_, rfl, p, R, rfl, hp, ok, fun H' sm => ⟨true, rfl, iteF (q H' sm)⟩⟩
theorem sc_top_mark : FnScope ["rule"] ["rule"] (defScope s_top_mark) := ⟨rfl, rfl, rfl, by decide +kernel, rfl, by decide +kernel, by decide +kernel⟩
theorem ok_top_mark (D : DefAt K mg "top_mark" s_top_mark ["rule"]) : Cl P w K mg base 1 "top_mark" ["rule"] spTopMark := by
  refine D.cl fun f fd F => ?_
  refine F.ok sc_top_mark (fun vs H Q E h => ?_) (fun cdv A outer s H vs Q E hr h => ?_)
  · obtain ⟨p, R, rfl, _⟩ := h
    rfl
  · obtain ⟨p, R, rfl, hp, ok, q⟩ := h
    have hb := R.bits_pos ok
    refine ⟨_, pss_cons (ps_if (pt_cmpR op_eq (pe_ix ix_tup (pv 0) pe_int (fun _ _ => rfl)) pe_str (nomark _)) (pss_one (ps_ret (pe_op op_sub (pe_op op_shl pe_int (pe_op op_add (pe_ix ix_tup (pv 0) pe_int (fun _ _ => rfl)) pe_int)) pe_int))) pss_nil)
      (pss_one (ps_ret (pe_op op_sub (pe_op op_shl pe_int (pe_ix ix_tup (pv 0) pe_int (fun _ _ => rfl))) pe_int))), ?_⟩
    refine ⟨_, rfl, p, _, _, _, rfl, rfl, SqT.of hp, R.at0, rfl, _, rfl, ?_⟩
    have low : ∀ _ : R.kind ≠ "shift", R.most = 2 ^ R.bits - 1 := by
      intro hk
      cases R with
      | cnt b s => rfl
      | shf b s => exact absurd rfl hk
      | rgh b => rfl
    by_cases hk : R.kind = "shift"
    · rw [dec_str, decide_eq_true hk]
      refine iteT ?_
      refine ⟨_, rfl, p, _, _, _, rfl, rfl, SqT.of hp, R.at1, _, _, rfl, rfl, _, _, rfl, rfl, ⟨by omega, by omega, by decide⟩, _, _, rfl, rfl, ?_⟩
      have e : (1 : Int) * 2 ^ ((R.bits : Int) + 1).toNat - 1 = (R.most : Int) := by
        rw [top_is (i := (R.bits : Int) + 1) (k := R.bits + 1) rfl]
        cases R with
        | cnt b s => exact absurd hk k_cs
        | shf b s => rfl
        | rgh b => exact absurd hk k_rs
      dsimp only
      rw [e]
      exact q
    · rw [dec_str, decide_eq_false hk]
      refine iteF ?_
      refine ⟨_, rfl, p, _, _, _, rfl, rfl, SqT.of hp, R.at1, _, _, rfl, rfl, ⟨by omega, by omega, by decide⟩, _, _, rfl, rfl, ?_⟩
      dsimp only
      rw [top_is (i := (R.bits : Int)) (k := R.bits) rfl, ← low hk]
      exact q
theorem sc_roughly : FnScope ["last", "mark", "begin", "end", "moment"] ["last", "mark", "begin", "end"] (defScope s_aged_roughly) := ⟨rfl, rfl, rfl, by decide +kernel, rfl, by decide +kernel, by decide +kernel⟩
theorem ok_roughly (D : DefAt K mg "_aged_roughly" s_aged_roughly ["last", "mark", "begin", "end"]) : Cl P w K mg base 1 "_aged_roughly" ["last", "mark", "begin", "end"] spRoughly := by
  refine D.cl fun f fd F => ?_
  refine F.ok sc_roughly (fun vs H Q E h => ?_) (fun cdv A outer s H vs Q E hr h => ?_)
  · obtain ⟨b, m, t, n, i1, i2, i3, i4, rfl, _⟩ := h
    rfl
  · obtain ⟨b, m, t, n, i1, i2, i3, i4, rfl, rfl, rfl, rfl, rfl, b1, b3, hm, ht, q⟩ := h
    refine ⟨_, pss_cons (ps_set (i := 4) sc_roughly.nd rfl (Or.inl rfl) (pv 2))
      (pss_cons (ps_while PassesOwn.never (pt_cmpR op_lt (pv 1) (pv 0) (nomark _))
        (pss_cons (ps_set (i := 4) sc_roughly.nd rfl (Or.inl rfl) (pe_op op_shl (pe_op op_add (pe_op op_shr (pv 4) (pv 1)) pe_int) (pv 1)))
        (pss_cons (ps_if (pt_cmpR op_gt (pv 4) (pv 3) (nomark _)) (pss_one ps_break) pss_nil)
        (pss_one (ps_aug (i := 1) sc_roughly.nd rfl (Or.inl rfl) pe_int ip_add)))))
      (pss_one (ps_ret (pv 1)))), ?_⟩
    refine ⟨_, rfl, ?_⟩
    refine while_by (fun σ H' => ∃ m' t' n' : Nat, σ = [some (.int ((2 ^ b - 1 : Nat) : Int)), some (.int (m' : Int)), some (.int (t : Int)), some (.int ((t + n : Nat) : Int)), some (.int (t' : Int))] ∧ H' = H ∧ t' + n' = t + n ∧ m' ≤ 2 ^ b - 1 ∧ ag (.rgh b) m t n = ag (.rgh b) m' t' n')
      (fun σ H' => match σ with | [_, some (.int i), _, _, _] => (((2 ^ b - 1 : Nat) : Int) - i).toNat | _ => 0) ⟨m, t, n, rfl, rfl, rfl, hm, rfl⟩ ?_ ?_
    · rintro σ H' ⟨m', t', n', rfl, rfl, e, hm', ea⟩
      have p3 : 2 ^ b ≤ 2 ^ 3 := Nat.pow_le_pow_right (by decide) b3
      refine ⟨_, rfl, _, rfl, _, _, rfl, rfl, _, rfl, ?_⟩
      by_cases c : m' < 2 ^ b - 1
      · rw [decide_eq_true (show (m' : Int) < ((2 ^ b - 1 : Nat) : Int) by omega)]
        refine iteT ?_
        have g1 := next_gt m' t'
        have g2 := next_le m' t'
        have p7 : 2 ^ m' ≤ 2 ^ 7 := Nat.pow_le_pow_right (by decide) (by omega)
        have hdiv : t' / 2 ^ m' ≤ t' := Nat.div_le_self _ _
        refine ⟨_, rfl, _, rfl, _, _, rfl, rfl, Int.natCast_nonneg _, _, _, rfl, rfl, _, rfl, _, _, rfl, rfl, ⟨Int.natCast_nonneg _, by omega, ?_⟩, ?_⟩
        · rw [Int.toNat_natCast]
          have e2 : ((t' : Int) / 2 ^ m' + 1) = ((t' / 2 ^ m' + 1 : Nat) : Int) := by
            rw [Int.natCast_add, Int.natCast_ediv, Int.natCast_pow]; rfl
          rw [e2]
          show t' / 2 ^ m' + 1 < 2 ^ 64
          have : t' ≤ 1000000000 := by omega
          have : (2 : Nat) ^ 64 = 18446744073709551616 := by decide
          omega
        · dsimp only
          rw [next_cast]
          refine ⟨_, rfl, _, rfl, _, _, rfl, rfl, _, rfl, ?_⟩
          by_cases c2 : t + n < (t' / 2 ^ m' + 1) * 2 ^ m'
          · rw [decide_eq_true (show ((t + n : Nat) : Int) < (((t' / 2 ^ m' + 1) * 2 ^ m' : Nat) : Int) by omega)]
            refine iteT ?_
            have es : ag (.rgh b) m t n = m' := by
              rw [ea]
              exact ag_rgh_still b m' t' n' (by omega)
            rw [es] at q
            exact ⟨_, rfl, q⟩
          · rw [decide_eq_false (show ¬ ((t + n : Nat) : Int) < (((t' / 2 ^ m' + 1) * 2 ^ m' : Nat) : Int) by omega)]
            refine iteF ?_
            refine ⟨_, rfl, _, _, rfl, rfl, ⟨m' + 1, (t' / 2 ^ m' + 1) * 2 ^ m', t + n - (t' / 2 ^ m' + 1) * 2 ^ m', rfl, rfl, by omega, by omega, ?_⟩, ?_⟩
            · obtain ⟨k, hk⟩ : ∃ k, n' = ((t' / 2 ^ m' + 1) * 2 ^ m' - t') + k := ⟨n' - ((t' / 2 ^ m' + 1) * 2 ^ m' - t'), by omega⟩
              rw [ea, hk, ag_add, ag_rgh_next b m' t' (by omega)]
              rw [show t' + ((t' / 2 ^ m' + 1) * 2 ^ m' - t') = (t' / 2 ^ m' + 1) * 2 ^ m' by omega]
              rw [show t + n - (t' / 2 ^ m' + 1) * 2 ^ m' = k by omega]
            · show (((2 ^ b - 1 : Nat) : Int) - ((m' : Int) + 1)).toNat < (((2 ^ b - 1 : Nat) : Int) - (m' : Int)).toNat
              omega
      · rw [decide_eq_false (show ¬ (m' : Int) < ((2 ^ b - 1 : Nat) : Int) by omega)]
        refine iteF ?_
        have es : ag (.rgh b) m t n = m' := by
          have : m' = 2 ^ b - 1 := by omega
          rw [ea, this]
          exact ag_rgh_fin b t' n'
        rw [es] at q
        exact ⟨_, rfl, q⟩
    · rintro σ H' Q1 Q2 i ⟨x, hx, y, hy, i', j', e1, e2, k, ek, qq⟩
      exact ⟨x, hx, y, hy, i', j', e1, e2, k, ek, i _ _ qq⟩
theorem sc_aged_on : FnScope ["rule", "mark", "begin", "end", "step", "times"] ["rule", "mark", "begin", "end"] (defScope s_aged_on) := ⟨rfl, rfl, rfl, by decide +kernel, rfl, by decide +kernel, by decide +kernel⟩
theorem Ru.at2 {R : Ru} (h : R.kind ≠ "rough") : atI R.tup 2 = some (.int (R.step : Int)) := by
  cases R with
  | cnt b s => exact atI_nat (j := 2) rfl
  | shf b s => exact atI_nat (j := 2) rfl
  | rgh b => exact absurd rfl h
theorem Ru.step_ok {R : Ru} (h : R.ok) : 1 ≤ R.step ∧ R.step ≤ 20 := by
  cases R with
  | cnt b s => obtain ⟨h1, h2, h3, h4⟩ : 1 ≤ b ∧ b ≤ 6 ∧ 1 ≤ s ∧ s ≤ 20 := h; exact ⟨h3, h4⟩
  | shf b s => obtain ⟨h1, h2, h3, h4⟩ : 1 ≤ b ∧ b ≤ 10 ∧ 1 ≤ s ∧ s ≤ 20 := h; exact ⟨h3, h4⟩
  | rgh b => exact ⟨Nat.le_refl 1, (by decide : 1 ≤ 20)⟩
theorem times_cast (t n s : Nat) : ((t + n : Nat) : Int) / (s : Int) - (t : Int) / (s : Int) = (((t + n) / s - t / s : Nat) : Int) := by
  have g := div_mono s (Nat.le_add_right t n)
  rw [← Int.natCast_ediv, ← Int.natCast_ediv]
  omega
theorem ok_aged_on (D : DefAt K mg "aged_on" s_aged_on ["rule", "mark", "begin", "end"]) (m_min : mg "min" = none) (C1 : Cl P w K mg base 1 "top_mark" ["rule"] spTopMark) (C2 : Cl P w K mg base 1 "_aged_roughly" ["last", "mark", "begin", "end"] spRoughly) :
    Cl P w K mg base 2 "aged_on" ["rule", "mark", "begin", "end"] spAged := by
  refine D.cl fun f fd F => ?_
  refine F.ok sc_aged_on (fun vs H Q E h => ?_) (fun cdv A outer s H vs Q E hr h => ?_)
  · obtain ⟨p, R, m, t, n, i1, i2, i3, rfl, _⟩ := h
    rfl
  · obtain ⟨p, R, m, t, n, i1, i2, i3, rfl, rfl, rfl, rfl, hp, ok, hm, ht, q⟩ := h
    have hs := R.step_ok ok
    refine ⟨_, pss_cons (ps_if (pt_cmpR op_eq (pe_ix ix_tup (pv 0) pe_int (fun _ _ => rfl)) pe_str (nomark _)) (pss_one (ps_ret (pe_cl C2 hr (pa_cons (pe_cl C1 hr (pa_cons (pv 0) pa_nil)) (pa_cons (pv 1) (pa_cons (pv 2) (pa_cons (pv 3) pa_nil))))))) pss_nil)
      (pss_cons (ps_set (i := 4) sc_aged_on.nd rfl (Or.inl rfl) (pe_ix ix_tup (pv 0) pe_int (fun _ _ => rfl)))
      (pss_cons (ps_set (i := 5) sc_aged_on.nd rfl (Or.inl rfl) (pe_op op_sub (pe_op op_fdiv (pv 3) (pv 4)) (pe_op op_fdiv (pv 2) (pv 4))))
      (pss_cons (ps_if (pt_cmpR op_eq (pe_ix ix_tup (pv 0) pe_int (fun _ _ => rfl)) pe_str (nomark _)) (pss_one (ps_ret (pe_op op_shr (pv 1) (pv 5)))) pss_nil)
      (pss_one (ps_ret (pe_callB (call_min2 rfl) (by rfl) m_min (by decide +kernel) (pa_cons (pe_op op_add (pv 1) (pv 5)) (pa_cons (pe_cl C1 hr (pa_cons (pv 0) pa_nil)) pa_nil)))))))), ?_⟩
    refine ⟨_, rfl, p, _, _, _, rfl, rfl, SqT.of hp, R.at0, rfl, _, rfl, ?_⟩
    by_cases hk : R.kind = "rough"
    · rw [dec_str, decide_eq_true hk]
      refine iteT ?_
      cases R with
      | cnt b s => exact absurd hk k_cr
      | shf b s => exact absurd hk k_sr
      | rgh b =>
        obtain ⟨b1, b3⟩ : 1 ≤ b ∧ b ≤ 3 := ok
        exact ⟨_, rfl, p, .rgh b, rfl, hp, ⟨b1, b3⟩, _, rfl, _, rfl, _, rfl, b, m, t, n, _, _, _, _, rfl, rfl, rfl, rfl, rfl, b1, b3, hm, ht, q H (Same.refl H)⟩
    · rw [dec_str, decide_eq_false hk]
      refine iteF ?_
      refine ⟨_, rfl, p, _, _, _, rfl, rfl, SqT.of hp, R.at2 hk, ?_⟩
      refine ⟨_, rfl, _, rfl, _, _, rfl, rfl, ⟨by omega, by omega⟩, _, rfl, _, rfl, _, _, rfl, rfl, ⟨by omega, by omega⟩, _, _, rfl, rfl, ?_⟩
      dsimp only
      rw [times_cast]
      refine ⟨_, rfl, p, _, _, _, rfl, rfl, SqT.of hp, R.at0, rfl, _, rfl, ?_⟩
      by_cases hk2 : R.kind = "shift"
      · rw [dec_str, decide_eq_true hk2]
        refine iteT ?_
        refine ⟨_, rfl, _, rfl, _, _, rfl, rfl, Int.natCast_nonneg _, ?_⟩
        have q' := q H (Same.refl H)
        cases R with
        | cnt b s => exact absurd hk2 k_cs
        | rgh b => exact absurd rfl hk
        | shf b s =>
          rw [ag_shf b s m t hs.1 n, Int.natCast_ediv, Int.natCast_pow] at q'
          dsimp only
          rw [Int.toNat_natCast]
          exact q'
      · rw [dec_str, decide_eq_false hk2]
        refine iteF ?_
        refine ⟨_, rfl, _, rfl, _, _, rfl, rfl, _, rfl, p, R, rfl, hp, ok, _, _, rfl, ?_⟩
        have q' := q H (Same.refl H)
        cases R with
        | shf b s => exact absurd rfl hk2
        | rgh b => exact absurd rfl hk
        | cnt b s =>
          rw [ag_cnt b s m t hs.1 hm n] at q'
          have e : (if ((Ru.cnt b s).most : Int) < (m : Int) + (((t + n) / (Ru.cnt b s).step - t / (Ru.cnt b s).step : Nat) : Int) then ((Ru.cnt b s).most : Int) else (m : Int) + (((t + n) / (Ru.cnt b s).step - t / (Ru.cnt b s).step : Nat) : Int)) =
              ((min (m + ((t + n) / s - t / s)) (2 ^ b - 1) : Nat) : Int) := by
            show (if ((2 ^ b - 1 : Nat) : Int) < (m : Int) + (((t + n) / s - t / s : Nat) : Int) then ((2 ^ b - 1 : Nat) : Int) else (m : Int) + (((t + n) / s - t / s : Nat) : Int)) = _
            split <;> omega
          rw [e]
          exact q'
end
section
variable {P : Program} {w : World} {K : PySem.W.Frag} {mg : Str → Option Value} {base : Heap}
theorem sc_check_mark : FnScope ["rule", "mark"] ["rule", "mark"] (defScope s_check_mark) := ⟨rfl, rfl, rfl, by decide +kernel, rfl, by decide +kernel, by decide +kernel⟩
theorem ok_check_mark (D : DefAt K mg "check_mark" s_check_mark ["rule", "mark"]) (C1 : Cl P w K mg base 1 "top_mark" ["rule"] spTopMark) : Cl P w K mg base 2 "check_mark" ["rule", "mark"] spCheckMark := by
  refine D.cl fun f fd F => ?_
  refine F.ok sc_check_mark (fun vs H Q E h => ?_) (fun cdv A outer s H vs Q E hr h => ?_)
  · obtain ⟨p, R, i, rfl, _⟩ := h
    rfl
  · obtain ⟨p, R, i, rfl, hp, ok, h0, h1, q⟩ := h
    refine ⟨_, pss_one (ps_if (PW.pt (pw_or (pt_cmpR op_lt (pv 1) pe_int (nomark _)) (pw_or1 (pt_cmpR op_gt (pv 1) (pe_cl C1 hr (pa_cons (pv 0) pa_nil)) (nomark _))))) (pss_one ps_never) pss_nil), ?_⟩
    refine ⟨_, rfl, _, _, rfl, rfl, _, rfl, ?_⟩
    rw [decide_eq_false (show ¬ i < 0 by omega)]
    refine iteF ⟨_, rfl, _, rfl, p, R, rfl, hp, ok, _, _, rfl, rfl, _, rfl, ?_⟩
    rw [decide_eq_false (show ¬ (R.most : Int) < i by omega)]
    exact iteF q
theorem sc_check_moment : FnScope ["moment"] ["moment"] (defScope s_check_moment) := ⟨rfl, rfl, rfl, by decide +kernel, rfl, by decide +kernel, by decide +kernel⟩
theorem ok_check_moment (D : DefAt K mg "check_moment" s_check_moment ["moment"]) {tk : Tok} (gl : mg "LAST_MOMENT" = some (.int 1000000000 tk)) : Cl P w K mg base 1 "check_moment" ["moment"] spCheckMoment := by
  refine D.cl fun f fd F => ?_
  refine F.ok sc_check_moment (fun vs H Q E h => ?_) (fun cdv A outer s H vs Q E hr h => ?_)
  · obtain ⟨i, rfl, _⟩ := h
    rfl
  · obtain ⟨i, rfl, h0, h1, q⟩ := h
    refine ⟨_, pss_one (ps_if (PW.pt (pw_or (pt_cmpR op_lt (pv 0) pe_int (nomark _)) (pw_or1 (pt_cmpR op_gt (pv 0) (pe_glob (v := .int 1000000000) (by rfl) gl ⟨_, rfl⟩) (nomark _))))) (pss_one ps_never) pss_nil), ?_⟩
    refine ⟨_, rfl, _, _, rfl, rfl, _, rfl, ?_⟩
    rw [decide_eq_false (show ¬ i < 0 by omega)]
    refine iteF ⟨_, rfl, _, _, rfl, rfl, _, rfl, ?_⟩
    rw [decide_eq_false (show ¬ (1000000000 : Int) < i by omega)]
    exact iteF q
end
section
variable {P : Program} {w : World} {K : PySem.W.Frag} {mg : Str → Option Value} {base : Heap}
theorem sc_aged : FnScope ["rule", "mark", "begin", "end"] ["rule", "mark", "begin", "end"] (defScope s_aged) := ⟨rfl, rfl, rfl, by decide +kernel, rfl, by decide +kernel, by decide +kernel⟩
theorem ok_aged (D : DefAt K mg "aged" s_aged ["rule", "mark", "begin", "end"]) (C1 : Cl P w K mg base 2 "check_rule" ["rule"] spCheckRule) (C2 : Cl P w K mg base 2 "check_mark" ["rule", "mark"] spCheckMark) (C3 : Cl P w K mg base 1 "check_moment" ["moment"] spCheckMoment)
    (C4 : Cl P w K mg base 2 "aged_on" ["rule", "mark", "begin", "end"] spAged) : Cl P w K mg base 3 "aged" ["rule", "mark", "begin", "end"] spAged := by
  refine D.cl fun f fd F => ?_
  refine F.ok sc_aged (fun vs H Q E h => ?_) (fun cdv A outer s H vs Q E hr h => ?_)
  · obtain ⟨p, R, m, t, n, i1, i2, i3, rfl, _⟩ := h
    rfl
  · obtain ⟨p, R, m, t, n, i1, i2, i3, rfl, rfl, rfl, rfl, hp, ok, hm, ht, q⟩ := h
    refine ⟨_, pss_cons (ps_expr (pe_cl C1 hr (pa_cons (pv 0) pa_nil)))
      (pss_cons (ps_expr (pe_cl C2 hr (pa_cons (pv 0) (pa_cons (pv 1) pa_nil))))
      (pss_cons (ps_expr (pe_cl C3 hr (pa_cons (pv 2) pa_nil)))
      (pss_cons (ps_expr (pe_cl C3 hr (pa_cons (pv 3) pa_nil)))
      (pss_cons (ps_if (pt_cmpR op_lt (pv 3) (pv 2) (nomark _)) (pss_one ps_never) pss_nil)
      (pss_one (ps_ret (pe_cl C4 hr (pa_cons (pv 0) (pa_cons (pv 1) (pa_cons (pv 2) (pa_cons (pv 3) pa_nil)))))))))))  , ?_⟩
    refine ⟨_, rfl, p, R, rfl, hp, ok, fun H1 s1 => ?_⟩
    have hp1 := s1 _ _ hp
    refine ⟨_, rfl, _, rfl, p, R, _, rfl, hp1, ok, by omega, by omega, ?_⟩
    refine ⟨_, rfl, _, rfl, by omega, by omega, ?_⟩
    refine ⟨_, rfl, _, rfl, by omega, by omega, ?_⟩
    refine ⟨_, rfl, _, rfl, _, _, rfl, rfl, _, rfl, ?_⟩
    rw [decide_eq_false (show ¬ ((t + n : Nat) : Int) < (t : Int) by omega)]
    refine iteF ⟨_, rfl, _, rfl, _, rfl, _, rfl, p, R, m, t, n, _, _, _, rfl, rfl, rfl, rfl, hp1, ok, hm, ht, fun H2 s2 => q H2 (s1.trans s2)⟩
end
/-! ### the program: what a mark tells -/
def oV : Option Nat → V
  | none => .non
  | some n => .int (n : Int)
/-- the mark of a thing that is seen -/
def seenM : Ru → Nat → Nat
  | .shf b _, m => if m < 2 ^ b then m + 2 ^ b else m
  | _, _ => 0
def spEndMark : Sp := fun vs H Q _ => ∃ (p : Addr) (R : Ru), vs = [.ref p] ∧ RuAt H p R ∧ R.ok ∧ Q (.int (R.fin : Int)) H
def spSeen : Sp := fun vs H Q _ => ∃ (p : Addr) (R : Ru) (m : Nat) (i : Int), vs = [.ref p, .int i] ∧ i = (m : Int) ∧ RuAt H p R ∧ R.ok ∧ Q (.int (seenM R m : Int)) H
def spAgings : Sp := fun vs H Q _ => ∃ (p : Addr) (R : Ru) (m : Nat) (i : Int), vs = [.ref p, .int i] ∧ i = (m : Int) ∧ RuAt H p R ∧ R.ok ∧ R.isRgh = false ∧ m ≤ R.most ∧ Q (.int (R.ags m : Int)) H
def spStepped : Sp := fun vs H Q _ => ∃ (p : Addr) (R : Ru) (now m : Nat) (i1 i2 : Int), vs = [.ref p, .int i1, .int i2] ∧ i1 = (now : Int) ∧ i2 = (m : Int) ∧ RuAt H p R ∧ R.ok ∧ R.isRgh = false ∧ m ≤ R.most ∧
  ∀ H' T x y, IsSpan R now m x y → H T = none → Same H H' → H' T = some (.tup [oV x, oV y]) → Q (.ref T) H'
def spRoughSpan : Sp := fun vs H Q _ => ∃ (p : Addr) (R : Ru) (now m : Nat) (i1 i2 : Int), vs = [.ref p, .int i1, .int i2] ∧ i1 = (now : Int) ∧ i2 = (m : Int) ∧ RuAt H p R ∧ R.ok ∧ R.isRgh = true ∧ m ≤ R.most ∧ now ≤ 1000000000 ∧
  ∀ H' T x y, IsSpan R now m x y → H T = none → Same H H' → H' T = some (.tup [oV x, oV y]) → Q (.ref T) H'
def spSpan : Sp := fun vs H Q _ => ∃ (p : Addr) (R : Ru) (now m : Nat) (i1 i2 : Int), vs = [.ref p, .int i1, .int i2] ∧ i1 = (now : Int) ∧ i2 = (m : Int) ∧ RuAt H p R ∧ R.ok ∧ m ≤ R.most ∧ now ≤ 1000000000 ∧
  ∀ H' T x y, IsSpan R now m x y → H T = none → Same H H' → H' T = some (.tup [oV x, oV y]) → Q (.ref T) H'
theorem bits_bl (n : Nat) : Builtin.Int.intBits (n : Int) = bl n := by
  unfold Builtin.Int.intBits bl
  by_cases h : n = 0
  · subst h; rfl
  · rw [if_neg h, if_neg (by simpa using h)]
    rfl
theorem bl_two (b : Nat) : bl (2 ^ b) = b + 1 := by
  have p := Nat.two_pow_pos b
  obtain ⟨h1, h2, h3⟩ := bl_pos (show 2 ^ b ≠ 0 by omega)
  have := pow_uniq h1 (show 2 ^ b < 2 ^ (bl (2 ^ b) - 1 + 1) by rw [show bl (2 ^ b) - 1 + 1 = bl (2 ^ b) by omega]; exact h2) (Nat.le_refl _) (show 2 ^ b < 2 ^ (b + 1) by rw [Nat.pow_succ]; omega)
  omega
theorem Ru.rough_iff (R : Ru) : (R.kind = "rough") ↔ R.isRgh = true := by
  cases R with
  | cnt b s => exact ⟨fun h => absurd h k_cr, fun h => nomatch h⟩
  | shf b s => exact ⟨fun h => absurd h k_sr, fun h => nomatch h⟩
  | rgh b => exact ⟨fun _ => rfl, fun _ => rfl⟩
theorem shl_is {i : Int} {k : Nat} (h : i = (k : Int)) : (1 : Int) * 2 ^ i.toNat = ((2 ^ k : Nat) : Int) := by
  rw [h, Int.toNat_natCast, Int.one_mul, Int.natCast_pow]
  rfl
section
variable {P : Program} {w : World} {K : PySem.W.Frag} {mg : Str → Option Value} {base : Heap}
theorem sc_end_mark : FnScope ["rule"] ["rule"] (defScope s_end_mark) := ⟨rfl, rfl, rfl, by decide +kernel, rfl, by decide +kernel, by decide +kernel⟩
theorem ok_end_mark (D : DefAt K mg "end_mark" s_end_mark ["rule"]) (C1 : Cl P w K mg base 1 "top_mark" ["rule"] spTopMark) : Cl P w K mg base 2 "end_mark" ["rule"] spEndMark := by
  refine D.cl fun f fd F => ?_
  refine F.ok sc_end_mark (fun vs H Q E h => ?_) (fun cdv A outer s H vs Q E hr h => ?_)
  · obtain ⟨p, R, rfl, _⟩ := h
    rfl
  · obtain ⟨p, R, rfl, hp, ok, q⟩ := h
    refine ⟨_, pss_cons (ps_if (pt_cmpR op_eq (pe_ix ix_tup (pv 0) pe_int (fun _ _ => rfl)) pe_str (nomark _)) (pss_one (ps_ret pe_int)) pss_nil) (pss_one (ps_ret (pe_cl C1 hr (pa_cons (pv 0) pa_nil)))), ?_⟩
    refine ⟨_, rfl, p, _, _, _, rfl, rfl, SqT.of hp, R.at0, rfl, _, rfl, ?_⟩
    rw [dec_str]
    by_cases hk : R.kind = "shift"
    · rw [decide_eq_true hk]
      refine iteT ?_
      cases R with
      | cnt b s => exact absurd hk k_cs
      | rgh b => exact absurd hk k_rs
      | shf b s => exact q
    · rw [decide_eq_false hk]
      refine iteF ⟨_, rfl, p, R, rfl, hp, ok, ?_⟩
      cases R with
      | cnt b s => exact q
      | rgh b => exact q
      | shf b s => exact absurd rfl hk
theorem sc_seen : FnScope ["rule", "mark", "highest_bit"] ["rule", "mark"] (defScope s_seen) := ⟨rfl, rfl, rfl, by decide +kernel, rfl, by decide +kernel, by decide +kernel⟩
theorem ok_seen (D : DefAt K mg "seen" s_seen ["rule", "mark"]) : Cl P w K mg base 1 "seen" ["rule", "mark"] spSeen := by
  refine D.cl fun f fd F => ?_
  refine F.ok sc_seen (fun vs H Q E h => ?_) (fun cdv A outer s H vs Q E hr h => ?_)
  · obtain ⟨p, R, m, i, rfl, _⟩ := h
    rfl
  · obtain ⟨p, R, m, i, rfl, rfl, hp, ok, q⟩ := h
    refine ⟨_, pss_cons (ps_if (pt_cmpR op_ne (pe_ix ix_tup (pv 0) pe_int (fun _ _ => rfl)) pe_str (nomark _)) (pss_one (ps_ret pe_int)) pss_nil)
      (pss_cons (ps_set (i := 2) sc_seen.nd rfl (Or.inl rfl) (pe_op op_shl pe_int (pe_ix ix_tup (pv 0) pe_int (fun _ _ => rfl))))
      (pss_cons (ps_if (pt_cmpR op_lt (pv 1) (pv 2) (nomark _)) (pss_one (ps_ret (pe_op op_add (pv 1) (pv 2)))) pss_nil)
      (pss_one (ps_ret (pv 1))))), ?_⟩
    refine ⟨_, rfl, p, _, _, _, rfl, rfl, SqT.of hp, R.at0, rfl, _, rfl, ?_⟩
    rw [dec_str]
    by_cases hk : R.kind = "shift"
    · rw [decide_eq_true hk]
      refine iteF ?_
      cases R with
      | cnt b s => exact absurd hk k_cs
      | rgh b => exact absurd hk k_rs
      | shf b s =>
        have hb : b ≤ 10 := ok.2.1
        refine ⟨_, rfl, p, _, _, _, rfl, rfl, SqT.of hp, Ru.at1 (.shf b s), _, _, rfl, rfl, ⟨Int.natCast_nonneg _, (by show (b : Int) ≤ 1000000; omega), by decide⟩, ?_⟩
        dsimp only
        rw [show (1 : Int) * 2 ^ (((Ru.shf b s).bits : Nat) : Int).toNat = ((2 ^ b : Nat) : Int) from shl_is (k := b) rfl]
        refine ⟨_, rfl, _, rfl, _, _, rfl, rfl, _, rfl, ?_⟩
        by_cases c : m < 2 ^ b
        · rw [decide_eq_true (show (m : Int) < ((2 ^ b : Nat) : Int) by omega)]
          refine iteT ⟨_, rfl, _, rfl, _, _, rfl, rfl, ?_⟩
          rw [show seenM (.shf b s) m = m + 2 ^ b from if_pos c] at q
          exact q
        · rw [decide_eq_false (show ¬ (m : Int) < ((2 ^ b : Nat) : Int) by omega)]
          refine iteF ⟨_, rfl, ?_⟩
          rw [show seenM (.shf b s) m = m from if_neg c] at q
          exact q
    · rw [decide_eq_false hk]
      refine iteT ?_
      cases R with
      | cnt b s => exact q
      | rgh b => exact q
      | shf b s => exact absurd rfl hk
theorem sc_agings : FnScope ["rule", "mark", "fresh"] ["rule", "mark"] (defScope s_agings) := ⟨rfl, rfl, rfl, by decide +kernel, rfl, by decide +kernel, by decide +kernel⟩
theorem ok_agings (D : DefAt K mg "_agings" s_agings ["rule", "mark"]) (C1 : Cl P w K mg base 1 "seen" ["rule", "mark"] spSeen) (C2 : Cl P w K mg base 2 "end_mark" ["rule"] spEndMark) : Cl P w K mg base 3 "_agings" ["rule", "mark"] spAgings := by
  refine D.cl fun f fd F => ?_
  refine F.ok sc_agings (fun vs H Q E h => ?_) (fun cdv A outer s H vs Q E hr h => ?_)
  · obtain ⟨p, R, m, i, rfl, _⟩ := h
    rfl
  · obtain ⟨p, R, m, i, rfl, rfl, hp, ok, nr, hm, q⟩ := h
    refine ⟨_, pss_cons (ps_set (i := 2) sc_agings.nd rfl (Or.inl rfl) (pe_cl C1 hr (pa_cons (pv 0) (pa_cons (pe_cl C2 hr (pa_cons (pv 0) pa_nil)) pa_nil))))
      (pss_cons (ps_if (pt_cmpR op_eq (pe_ix ix_tup (pv 0) pe_int (fun _ _ => rfl)) pe_str (nomark _)) (pss_one (ps_ret (pe_op op_sub (pe_bits (pv 2)) (pe_bits (pv 1))))) pss_nil)
      (pss_one (ps_ret (pe_op op_sub (pv 1) (pv 2))))), ?_⟩
    refine ⟨_, rfl, _, rfl, p, R, rfl, hp, ok, p, R, R.fin, _, rfl, rfl, hp, ok, ?_⟩
    refine ⟨_, rfl, p, _, _, _, rfl, rfl, SqT.of hp, R.at0, rfl, _, rfl, ?_⟩
    rw [dec_str]
    cases R with
    | rgh b => cases nr
    | cnt b s =>
      rw [decide_eq_false (show ¬ (Ru.cnt b s).kind = "shift" from k_cs)]
      refine iteF ⟨_, rfl, _, rfl, _, _, rfl, rfl, ?_⟩
      have e : (m : Int) - ((seenM (.cnt b s) (Ru.cnt b s).fin : Nat) : Int) = ((Ru.cnt b s).ags m : Int) := by
        show (m : Int) - ((0 : Nat) : Int) = (m : Int)
        omega
      dsimp only
      rw [e]
      exact q
    | shf b s =>
      rw [decide_eq_true (show (Ru.shf b s).kind = "shift" from rfl)]
      refine iteT ⟨_, rfl, _, rfl, _, rfl, _, rfl, _, _, rfl, rfl, ?_⟩
      have hm' : m ≤ 2 ^ (b + 1) - 1 := hm
      have pb := Nat.two_pow_pos (b + 1)
      have pb' := Nat.two_pow_pos b
      have e1 : seenM (.shf b s) (Ru.shf b s).fin = 2 ^ b := by
        exact (if_pos (show (Ru.shf b s).fin < 2 ^ b from pb')).trans (Nat.zero_add _)
      have l := bl_le (show m < 2 ^ (b + 1) by omega)
      have e : ((Builtin.Int.intBits ((seenM (.shf b s) (Ru.shf b s).fin : Nat) : Int) : Nat) : Int) - ((Builtin.Int.intBits (m : Int) : Nat) : Int) = ((Ru.shf b s).ags m : Int) := by
        rw [e1, bits_bl, bits_bl, bl_two]
        show ((b + 1 : Nat) : Int) - (bl m : Int) = ((b + 1 - bl m : Nat) : Int)
        omega
      dsimp only
      rw [e]
      exact q
theorem sc_rough : FnScope ["rule", "now", "mark", "end", "fresh", "found", "ago", "reached"] ["rule", "now", "mark"] (defScope s_rough_span) := ⟨rfl, rfl, rfl, by decide +kernel, rfl, by decide +kernel, by decide +kernel⟩
theorem ok_rough (D : DefAt K mg "_rough_span" s_rough_span ["rule", "now", "mark"]) (m_range : mg "range" = none) (C1 : Cl P w K mg base 2 "end_mark" ["rule"] spEndMark) (C2 : Cl P w K mg base 1 "seen" ["rule", "mark"] spSeen) (C3 : Cl P w K mg base 2 "aged_on" ["rule", "mark", "begin", "end"] spAged) :
    Cl P w K mg base 3 "_rough_span" ["rule", "now", "mark"] spRoughSpan := by
  refine D.cl fun f fd F => ?_
  refine F.ok sc_rough (fun vs H Q E h => ?_) (fun cdv A outer s H vs Q E hr h => ?_)
  · obtain ⟨p, R, now, m, i1, i2, rfl, _⟩ := h
    rfl
  · obtain ⟨p, R, now, m, i1, i2, rfl, rfl, rfl, hp, ok, ir, hm, hnow, q⟩ := h
    cases R with
    | cnt b s => cases ir
    | shf b s => cases ir
    | rgh b =>
    refine ⟨_, pss_cons (ps_set (i := 3) sc_rough.nd rfl (Or.inl rfl) (pe_cl C1 hr (pa_cons (pv 0) pa_nil)))
      (pss_cons (ps_set (i := 4) sc_rough.nd rfl (Or.inl rfl) (pe_cl C2 hr (pa_cons (pv 0) (pa_cons (pv 3) pa_nil))))
      (pss_cons (ps_set (i := 5) sc_rough.nd rfl (Or.inl rfl) (pe_lst pa_nil))
      (pss_cons (ps_for PassesOwn.never rfl (pi_range1 (by rfl) m_range (pa_cons (pe_op op_add (pv 1) pe_int) pa_nil)) (pg_name (i := 6) sc_rough.nd rfl (Or.inl rfl))
        (pss_cons (ps_set (i := 7) sc_rough.nd rfl (Or.inl rfl) (pe_cl C3 hr (pa_cons (pv 0) (pa_cons (pv 4) (pa_cons (pe_op op_sub (pv 1) (pv 6)) (pa_cons (pv 1) pa_nil))))))
        (pss_cons (ps_if (pt_cmpR op_eq (pv 7) (pv 2) (nomark _)) (pss_one (ps_expr (pe_bm PySem.F.plainAttrs_list PySem.F.slot_list_append PySem.F.type_list_append mt_append (pv 5) (pa_cons (pv 6) pa_nil)))) pss_nil)
        (pss_one (ps_if (pt_cmpR op_eq (pv 7) (pv 3) (nomark _)) (pss_one ps_break) pss_nil)))))
      (pss_cons (ps_if (pt_not (pt_truth (pv 5) (by intro _; rfl))) (pss_one (ps_ret (pe_tup (pa_cons pe_non (pa_cons pe_non pa_nil))))) pss_nil)
      (pss_cons (ps_if (pt_cmpR op_eq (pv 2) (pv 3) (nomark _)) (pss_one (ps_ret (pe_tup (pa_cons (pe_ix ix_list (pv 5) pe_int (fun _ _ => rfl)) (pa_cons pe_non pa_nil))))) pss_nil)
      (pss_one (ps_ret (pe_tup (pa_cons (pe_ix ix_list (pv 5) pe_int (fun _ _ => rfl)) (pa_cons (pe_ix ix_list (pv 5) (pe_un un_neg pe_int) (fun _ _ => rfl)) pa_nil)))))))))), ?_⟩
    refine ⟨_, rfl, p, .rgh b, rfl, hp, ok, ?_⟩
    refine ⟨_, rfl, _, rfl, p, .rgh b, (Ru.rgh b).fin, _, rfl, rfl, hp, ok, ?_⟩
    refine ⟨Nat.zero_le _, fun L nL => ?_⟩
    refine ⟨_, rfl, _, _, rfl, rfl, _, rfl, by omega, by omega, ?_⟩
    rw [show ((now : Int) + 1).toNat = now + 1 by omega]
    refine for_rangeB (lo := 0) (n := now + 1)
      (fun i σ H' => ∃ v6 v7 : Option V, σ = [some (.ref p), some (.int (now : Int)), some (.int (m : Int)), some (.int ((Ru.rgh b).fin : Int)), some (.int ((0 : Nat) : Int)), some (.ref L), v6, v7] ∧ Kp2 L L (upd H L (.lst [])) H' ∧
        H' L = some (.lst ((fl (.rgh b) now m i).map fun (a : Nat) => V.int (a : Int))) ∧ ∀ a, a < i → one (.rgh b) now a ≠ 2 ^ b - 1)
      (fun σ H' => ∃ (c : Nat) (v6 v7 : Option V), σ = [some (.ref p), some (.int (now : Int)), some (.int (m : Int)), some (.int ((Ru.rgh b).fin : Int)), some (.int ((0 : Nat) : Int)), some (.ref L), v6, v7] ∧ Kp2 L L (upd H L (.lst [])) H' ∧
        H' L = some (.lst ((fl (.rgh b) now m c).map fun (a : Nat) => V.int (a : Int))) ∧ Cov (.rgh b) now m c)
      ⟨none, none, rfl, Kp2.refl _ _ _, upd_same, fun a h => absurd h (Nat.not_lt_zero a)⟩ ?_ ?_ ?_
    · rintro bk hbk i σ H' hi ⟨v6, v7, rfl, kk, eL, nf⟩
      have hp' : H' p = some (.tup (Ru.rgh b).tup) := by
        have npL : p ≠ L := ne_of_none hp nL
        exact kk _ _ (by rw [upd_ne npL]; exact hp) npL npL
      have i127 : i ≤ 127 := by
        by_cases h : i ≤ 127
        · exact h
        · exact absurd (one_rgh_far ok.2 (Nat.le_refl 127)) (nf 127 (by omega))
      refine ⟨_, rfl, _, rfl, _, rfl, _, rfl, _, _, rfl, rfl, _, rfl, p, .rgh b, 0, now - i, i, _, _, _, rfl, rfl, by omega, by omega, hp', ok, Nat.zero_le _, by omega, fun H2 s2 => ?_⟩
      have eL2 := s2 _ _ eL
      have kk2 : Kp2 L L (upd H L (.lst [])) H2 := kk.trans (Same.kp2 s2)
      have oi : ag (.rgh b) 0 (now - i) i = one (.rgh b) now i := rfl
      rw [oi]
      refine ⟨_, rfl, _, rfl, rfl, _, rfl, ?_⟩
      rw [dec_int]
      -- the second test, for any list that then stands
      have fin : ∀ (H3 : Hp), Kp2 L L (upd H L (.lst [])) H3 → H3 L = some (.lst ((fl (.rgh b) now m (i + 1)).map fun (a : Nat) => V.int (a : Int))) →
          (if decide (V.int (one (.rgh b) now i : Int) = V.int ((Ru.rgh b).fin : Int)) = true then bk [some (.ref p), some (.int (now : Int)), some (.int (m : Int)), some (.int ((Ru.rgh b).fin : Int)), some (.int ((0 : Nat) : Int)), some (.ref L), some (.int (0 + (i : Int))), some (.int (one (.rgh b) now i : Int))] H3
            else ∃ v6 v7 : Option V, [some (.ref p), some (.int (now : Int)), some (.int (m : Int)), some (.int ((Ru.rgh b).fin : Int)), some (.int ((0 : Nat) : Int)), some (.ref L), some (V.int (0 + (i : Int))), some (V.int (one (.rgh b) now i : Int))] = [some (.ref p), some (.int (now : Int)), some (.int (m : Int)), some (.int ((Ru.rgh b).fin : Int)), some (.int ((0 : Nat) : Int)), some (.ref L), v6, v7] ∧ Kp2 L L (upd H L (.lst [])) H3 ∧
              H3 L = some (.lst ((fl (.rgh b) now m (i + 1)).map fun (a : Nat) => V.int (a : Int))) ∧ ∀ a, a < i + 1 → one (.rgh b) now a ≠ 2 ^ b - 1) := by
        intro H3 k3 e3
        rw [dec_int]
        by_cases z : one (.rgh b) now i = 2 ^ b - 1
        · rw [decide_eq_true (show (one (.rgh b) now i : Int) = ((Ru.rgh b).fin : Int) by rw [z]; rfl), if_pos rfl]
          exact hbk _ _ ⟨i + 1, _, _, rfl, k3, e3, cov_rgh z (by omega)⟩
        · rw [decide_eq_false (show ¬ (one (.rgh b) now i : Int) = ((Ru.rgh b).fin : Int) from fun y => z (Int.ofNat.inj y)), if_neg Bool.false_ne_true]
          refine ⟨_, _, rfl, k3, e3, fun a ha => ?_⟩
          by_cases ea : a = i
          · rw [ea]; exact z
          · exact nf a (by omega)
      by_cases c : one (.rgh b) now i = m
      · rw [decide_eq_true (show (one (.rgh b) now i : Int) = (m : Int) by omega)]
        refine iteT ⟨_, rfl, .inl ⟨rfl, _, SqL.of eL2⟩, _, rfl, L, _, _, rfl, rfl, eL2, ?_, ?_⟩
        · rw [List.length_map]
          exact small1000 (Nat.le_trans (fl_len _ _ _ _) (by omega))
        · have e3 : (upd H2 L (.lst ((fl (.rgh b) now m i).map (fun (a : Nat) => V.int (a : Int)) ++ [V.int (0 + (i : Int))]))) L = some (.lst ((fl (.rgh b) now m (i + 1)).map fun (a : Nat) => V.int (a : Int))) := by
            rw [upd_same, fl_succ, if_pos (by rw [poss_rgh, decide_eq_true c]), List.map_append, Int.zero_add]
            rfl
          exact ⟨_, rfl, _, rfl, rfl, _, rfl, fin _ (fun x o e n1 n2 => by rw [upd_ne n1]; exact kk2 x o e n1 n2) e3⟩
      · rw [decide_eq_false (show ¬ (one (.rgh b) now i : Int) = (m : Int) by omega)]
        refine iteF ?_
        refine ⟨_, rfl, _, rfl, rfl, _, rfl, fin _ kk2 ?_⟩
        rw [fl_succ, if_neg (by rw [poss_rgh, decide_eq_false c]; exact Bool.false_ne_true)]
        exact eL2
    · rintro σ H' ⟨v6, v7, rfl, kk, eL, nf⟩
      exact ⟨now + 1, v6, v7, rfl, kk, eL, cov_end _ _ _⟩
    · rintro σ H' ⟨c, v6, v7, rfl, kk, eL, cov⟩
      have sm : Same H H' := fun x o e => by
        have nx : x ≠ L := ne_of_none e nL
        exact kk x o (by rw [upd_ne nx]; exact e) nx nx
      refine ⟨_, rfl, _, .inl ⟨_, SqL.of eL, rfl⟩, ?_⟩
      cases ef : fl (.rgh b) now m c with
      | nil =>
        refine iteT ⟨(by show 2 ≤ sizeLine; decide), fun T nT => ?_⟩
        exact q _ T none none (span_nil cov ef) (sm.free nT) (sm.trans (same_upd nT)) upd_same
      | cons lo r =>
        rw [ef] at eL
        obtain ⟨f1, f2⟩ := fl_head ef
        have a0 : atI ((lo :: r).map fun (a : Nat) => V.int (a : Int)) 0 = some (.int (lo : Int)) := atI_nat (j := 0) rfl
        refine iteF ⟨_, rfl, _, rfl, rfl, _, rfl, ?_⟩
        rw [dec_int]
        by_cases e : m = 2 ^ b - 1
        · rw [decide_eq_true (show (m : Int) = ((Ru.rgh b).fin : Int) by rw [e]; rfl)]
          refine iteT ⟨_, rfl, L, _, _, _, rfl, rfl, SqL.of eL, a0, (by show 2 ≤ sizeLine; decide), fun T nT => ?_⟩
          exact q _ T (some lo) none (span_some cov f1 f2 (.inl ⟨e, rfl⟩)) (sm.free nT) (sm.trans (same_upd nT)) upd_same
        · rw [decide_eq_false (show ¬ (m : Int) = ((Ru.rgh b).fin : Int) from fun y => e (Int.ofNat.inj y))]
          have hl : lo :: r = (lo :: r).dropLast ++ [(lo :: r).getLast (List.cons_ne_nil _ _)] := (List.dropLast_concat_getLast _).symm
          generalize (lo :: r).dropLast = ini at hl
          generalize (lo :: r).getLast (List.cons_ne_nil _ _) = hi at hl
          have al : atI ((lo :: r).map fun (a : Nat) => V.int (a : Int)) (-1) = some (.int (hi : Int)) := by
            rw [hl, List.map_append]
            exact atI_last _ _
          have g := fl_last (ef.trans hl)
          refine iteF ⟨_, rfl, L, _, _, _, rfl, rfl, SqL.of eL, a0, _, rfl, 1, rfl, L, _, _, _, rfl, rfl, SqL.of eL, al, (by show 2 ≤ sizeLine; decide), fun T nT => ?_⟩
          exact q _ T (some lo) (some hi) (span_some cov f1 f2 (.inr ⟨e, hi, rfl, g.1, g.2⟩)) (sm.free nT) (sm.trans (same_upd nT)) upd_same
end
section
variable {P : Program} {w : World} {K : PySem.W.Frag} {mg : Str → Option Value} {base : Heap}
theorem sc_stepped : FnScope ["rule", "now", "mark", "step", "run", "first", "latest"] ["rule", "now", "mark"] (defScope s_stepped_span) := ⟨rfl, rfl, rfl, by decide +kernel, rfl, by decide +kernel, by decide +kernel⟩
theorem ok_stepped (D : DefAt K mg "_stepped_span" s_stepped_span ["rule", "now", "mark"]) (m_min : mg "min" = none) (C1 : Cl P w K mg base 3 "_agings" ["rule", "mark"] spAgings) (C2 : Cl P w K mg base 2 "end_mark" ["rule"] spEndMark) :
    Cl P w K mg base 4 "_stepped_span" ["rule", "now", "mark"] spStepped := by
  refine D.cl fun f fd F => ?_
  refine F.ok sc_stepped (fun vs H Q E h => ?_) (fun cdv A outer s H vs Q E hr h => ?_)
  · obtain ⟨p, R, now, m, i1, i2, rfl, _⟩ := h
    rfl
  · obtain ⟨p, R, now, m, i1, i2, rfl, rfl, rfl, hp, ok, nr, hm, q⟩ := h
    have hs := R.step_ok ok
    have hk : R.kind ≠ "rough" := fun z => by
      rw [(R.rough_iff).mp z] at nr
      cases nr
    refine ⟨_, pss_cons (ps_set (i := 3) sc_stepped.nd rfl (Or.inl rfl) (pe_ix ix_tup (pv 0) pe_int (fun _ _ => rfl)))
      (pss_cons (ps_set (i := 4) sc_stepped.nd rfl (Or.inl rfl) (pe_op op_sub (pe_op op_fdiv (pv 1) (pv 3)) (pe_cl C1 hr (pa_cons (pv 0) (pa_cons (pv 2) pa_nil)))))
      (pss_cons (ps_if (pt_cmpR op_lt (pv 4) pe_int (nomark _)) (pss_one (ps_ret (pe_tup (pa_cons pe_non (pa_cons pe_non pa_nil))))) pss_nil)
      (pss_cons (ps_set (i := 5) sc_stepped.nd rfl (Or.inl rfl) (pe_op op_mul (pv 4) (pv 3)))
      (pss_cons (ps_set (i := 6) sc_stepped.nd rfl (Or.inl rfl) (pe_callB (call_min2 rfl) (by rfl) m_min (by decide +kernel) (pa_cons (pv 1) (pa_cons (pe_op op_sub (pe_op op_add (pv 5) (pv 3)) pe_int) pa_nil))))
      (pss_cons (ps_if (pt_cmpR op_eq (pv 2) (pe_cl C2 hr (pa_cons (pv 0) pa_nil)) (nomark _)) (pss_one (ps_ret (pe_tup (pa_cons (pe_op op_sub (pv 1) (pv 6)) (pa_cons pe_non pa_nil))))) pss_nil)
      (pss_one (ps_ret (pe_tup (pa_cons (pe_op op_sub (pv 1) (pv 6)) (pa_cons (pe_op op_sub (pv 1) (pv 5)) pa_nil)))))))))), ?_⟩
    refine ⟨_, rfl, p, _, _, _, rfl, rfl, SqT.of hp, R.at2 hk, ?_⟩
    refine ⟨_, rfl, _, rfl, _, _, rfl, rfl, ⟨by omega, by omega⟩, _, rfl, _, rfl, p, R, m, _, rfl, rfl, hp, ok, nr, hm, _, _, rfl, rfl, ?_⟩
    refine ⟨_, rfl, _, _, rfl, rfl, _, rfl, ?_⟩
    have en : (now : Int) / (R.step : Int) = ((now / R.step : Nat) : Int) := rfl
    rw [en]
    by_cases c : now / R.step < R.ags m
    · rw [decide_eq_true (show ((now / R.step : Nat) : Int) - (R.ags m : Int) < 0 by omega)]
      refine iteT ⟨(by show 2 ≤ sizeLine; decide), fun T nT => ?_⟩
      exact q _ T none none (span_stp_none nr hs.1 hm c) nT (same_upd nT) upd_same
    · rw [decide_eq_false (show ¬ ((now / R.step : Nat) : Int) - (R.ags m : Int) < 0 by omega)]
      refine iteF ?_
      obtain ⟨run, hrun⟩ : ∃ run, now / R.step = R.ags m + run := ⟨now / R.step - R.ags m, by omega⟩
      obtain ⟨sp, f1⟩ := span_stp_some nr hs.1 hm hrun rfl rfl
      dsimp only
      rw [show ((now / R.step : Nat) : Int) - (R.ags m : Int) = (run : Int) by omega]
      refine ⟨_, rfl, _, rfl, _, _, rfl, rfl, .inr (le64 (by omega) (by omega)), ?_⟩
      refine ⟨_, rfl, _, rfl, _, rfl, _, _, rfl, rfl, _, _, rfl, rfl, _, _, rfl, ?_⟩
      have em : (if (run : Int) * (R.step : Int) + (R.step : Int) - 1 < (now : Int) then (run : Int) * (R.step : Int) + (R.step : Int) - 1 else (now : Int)) = ((min now (run * R.step + R.step - 1) : Nat) : Int) := by
        rw [show (run : Int) * (R.step : Int) = ((run * R.step : Nat) : Int) from rfl]
        split <;> omega
      dsimp only
      rw [em]
      refine ⟨_, rfl, _, rfl, p, R, rfl, hp, ok, rfl, _, rfl, ?_⟩
      rw [dec_int]
      have lx : ((now : Int) - ((min now (run * R.step + R.step - 1) : Nat) : Int)) = ((now - min now (run * R.step + R.step - 1) : Nat) : Int) := by omega
      by_cases e : m = R.fin
      · rw [decide_eq_true (show (m : Int) = (R.fin : Int) by omega)]
        refine iteT ⟨_, rfl, _, rfl, _, _, rfl, rfl, (by show 2 ≤ sizeLine; decide), fun T nT => ?_⟩
        rw [if_pos e] at sp
        refine q _ T _ _ sp nT (same_upd nT) ?_
        rw [upd_same]
        dsimp only
        rw [lx]
        rfl
      · rw [decide_eq_false (show ¬ (m : Int) = (R.fin : Int) by omega)]
        refine iteF ⟨_, rfl, _, rfl, _, _, rfl, rfl, _, rfl, _, rfl, _, _, rfl, rfl, (by show 2 ≤ sizeLine; decide), fun T nT => ?_⟩
        rw [if_neg e] at sp
        refine q _ T _ _ sp nT (same_upd nT) ?_
        rw [upd_same]
        dsimp only
        rw [lx, show (now : Int) - (run : Int) * (R.step : Int) = ((now - run * R.step : Nat) : Int) by
          rw [show (run : Int) * (R.step : Int) = ((run * R.step : Nat) : Int) from rfl]
          omega]
        rfl
theorem sc_span : FnScope ["rule", "now", "mark"] ["rule", "now", "mark"] (defScope s_span) := ⟨rfl, rfl, rfl, by decide +kernel, rfl, by decide +kernel, by decide +kernel⟩
theorem ok_span (D : DefAt K mg "span" s_span ["rule", "now", "mark"]) (C1 : Cl P w K mg base 2 "check_rule" ["rule"] spCheckRule) (C2 : Cl P w K mg base 1 "check_moment" ["moment"] spCheckMoment) (C3 : Cl P w K mg base 2 "check_mark" ["rule", "mark"] spCheckMark)
    (C4 : Cl P w K mg base 3 "_rough_span" ["rule", "now", "mark"] spRoughSpan) (C5 : Cl P w K mg base 4 "_stepped_span" ["rule", "now", "mark"] spStepped) : Cl P w K mg base 5 "span" ["rule", "now", "mark"] spSpan := by
  refine D.cl fun f fd F => ?_
  refine F.ok sc_span (fun vs H Q E h => ?_) (fun cdv A outer s H vs Q E hr h => ?_)
  · obtain ⟨p, R, now, m, i1, i2, rfl, _⟩ := h
    rfl
  · obtain ⟨p, R, now, m, i1, i2, rfl, rfl, rfl, hp, ok, hm, hnow, q⟩ := h
    refine ⟨_, pss_cons (ps_expr (pe_cl C1 hr (pa_cons (pv 0) pa_nil)))
      (pss_cons (ps_expr (pe_cl C2 hr (pa_cons (pv 1) pa_nil)))
      (pss_cons (ps_expr (pe_cl C3 hr (pa_cons (pv 0) (pa_cons (pv 2) pa_nil))))
      (pss_cons (ps_if (pt_cmpR op_eq (pe_ix ix_tup (pv 0) pe_int (fun _ _ => rfl)) pe_str (nomark _)) (pss_one (ps_ret (pe_cl C4 hr (pa_cons (pv 0) (pa_cons (pv 1) (pa_cons (pv 2) pa_nil)))))) pss_nil)
      (pss_one (ps_ret (pe_cl C5 hr (pa_cons (pv 0) (pa_cons (pv 1) (pa_cons (pv 2) pa_nil))))))))), ?_⟩
    refine ⟨_, rfl, p, R, rfl, hp, ok, fun H1 s1 => ?_⟩
    have hp1 := s1 _ _ hp
    refine ⟨_, rfl, _, rfl, by omega, by omega, ?_⟩
    refine ⟨_, rfl, _, rfl, p, R, _, rfl, hp1, ok, by omega, by omega, ?_⟩
    refine ⟨_, rfl, p, _, _, _, rfl, rfl, SqT.of hp1, R.at0, rfl, _, rfl, ?_⟩
    rw [dec_str]
    cases er : R.isRgh with
    | true =>
      rw [decide_eq_true ((R.rough_iff).mpr er)]
      exact iteT ⟨_, rfl, _, rfl, _, rfl, p, R, now, m, _, _, rfl, rfl, rfl, hp1, ok, er, hm, hnow, fun H' T x y i n s2 e => q H' T x y i (s1.free n) (s1.trans s2) e⟩
    | false =>
      rw [decide_eq_false (fun z => by rw [(R.rough_iff).mp z] at er; cases er)]
      exact iteF ⟨_, rfl, _, rfl, _, rfl, p, R, now, m, _, _, rfl, rfl, rfl, hp1, ok, er, hm, fun H' T x y i n s2 e => q H' T x y i (s1.free n) (s1.trans s2) e⟩
end
/-! ### the program: off and reach -/
def spMoments : Sp := fun vs H Q _ => ∃ (p : Addr) (b : Nat), vs = [.ref p] ∧ RuAt H p (.rgh b) ∧ (Ru.rgh b).ok ∧ ∀ H' q, H q = none → Same H H' → H' q = some (.lst (rgV ((2 * tT b : Nat) : Int) ((3 * tT b : Nat) : Int))) → Q (.ref q) H'
def WidthP (b now w n : Nat) : Prop := (∀ m lo hi, m < n → IsSpan (.rgh b) now m (some lo) (some hi) → hi - lo ≤ w) ∧ (w = 0 ∨ ∃ m lo hi, m < n ∧ IsSpan (.rgh b) now m (some lo) (some hi) ∧ w = hi - lo)
def spWidth : Sp := fun vs H Q _ => ∃ (p : Addr) (b now : Nat) (i : Int), vs = [.ref p, .int i] ∧ i = (now : Int) ∧ RuAt H p (.rgh b) ∧ (Ru.rgh b).ok ∧ now ≤ 1000000000 ∧ ∀ w H', WidthP b now w (2 ^ b - 1) → Same H H' → Q (.int (w : Int)) H'
def spOff : Sp := fun vs H Q _ => ∃ (p : Addr) (R : Ru), vs = [.ref p] ∧ RuAt H p R ∧ R.ok ∧ ∀ v H', IsOff R v → Same H H' → Q (.int (v : Int)) H'
def spReach : Sp := fun vs H Q _ => ∃ (p : Addr) (R : Ru), vs = [.ref p] ∧ RuAt H p R ∧ R.ok ∧ ∀ v H', IsReach R v → Same H H' → Q (.int (v : Int)) H'
theorem rg_get {lo hi j : Nat} {y : V} (h : (rgV (lo : Int) (hi : Int))[j]? = some y) : y = .int ((lo + j : Nat) : Int) ∧ j < hi - lo := by
  unfold rgV at h
  rw [List.getElem?_map] at h
  cases e : (List.range ((hi : Int) - (lo : Int)).toNat)[j]? with
  | none =>
    rw [e] at h
    cases h
  | some k =>
    rw [e] at h
    obtain ⟨l, ek⟩ := List.getElem?_eq_some_iff.mp e
    rw [List.getElem_range] at ek
    rw [List.length_range] at l
    subst ek
    exact ⟨(Option.some.inj h).symm, by omega⟩
theorem width_step {b now w i : Nat} {x y : Option Nat} (h : WidthP b now w i) (hi : i < 2 ^ b - 1) (s : IsSpan (.rgh b) now i x y) : (y = none → WidthP b now w (i + 1)) ∧ ∀ lo hi', x = some lo → y = some hi' → WidthP b now (max w (hi' - lo)) (i + 1) := by
  constructor
  · rintro rfl
    refine ⟨fun m lo hi' hm sp => ?_, ?_⟩
    · by_cases e : m = i
      · subst e
        have := (s.uniq sp).2
        cases this
      · exact h.1 m lo hi' (by omega) sp
    · rcases h.2 with h2 | ⟨m, lo, hi', hm, sp, e⟩
      · exact .inl h2
      · exact .inr ⟨m, lo, hi', by omega, sp, e⟩
  · rintro lo hi' rfl rfl
    refine ⟨fun m lo2 hi2 hm sp => ?_, ?_⟩
    · by_cases e : m = i
      · subst e
        obtain ⟨e1, e2⟩ := s.uniq sp
        cases e1
        cases e2
        omega
      · have := h.1 m lo2 hi2 (by omega) sp
        omega
    · by_cases c : hi' - lo ≤ w
      · rw [Nat.max_eq_left c]
        rcases h.2 with h2 | ⟨m, lo, hi', hm, sp, e⟩
        · exact .inl h2
        · exact .inr ⟨m, lo, hi', by omega, sp, e⟩
      · rw [Nat.max_eq_right (by omega)]
        exact .inr ⟨i, lo, hi', Nat.lt_succ_self i, s, rfl⟩
theorem get_mem {ws : List Nat} {j : Nat} {w : Nat} (h : ws[j]? = some w) : Int.ofNat w ∈ ws.map Int.ofNat := List.mem_map.mpr ⟨w, List.mem_of_getElem? h, rfl⟩
theorem len_app {ws : List Nat} {i : Nat} {P : Nat → Nat → Prop} (hl : ws.length = i) (h : ∀ j, j < i → ∃ w, ws[j]? = some w ∧ P j w) {w : Nat} (hw : P i w) : (ws ++ [w]).length = i + 1 ∧ ∀ j, j < i + 1 → ∃ w', (ws ++ [w])[j]? = some w' ∧ P j w' := by
  refine ⟨by rw [List.length_append, hl]; rfl, fun j hj => ?_⟩
  by_cases e : j = i
  · subst e
    exact ⟨w, by rw [← hl]; simp, hw⟩
  · obtain ⟨w', g, p⟩ := h j (by omega)
    exact ⟨w', by rw [List.getElem?_append_left (by omega)]; exact g, p⟩
section
variable {P : Program} {w : World} {K : PySem.W.Frag} {mg : Str → Option Value} {base : Heap}
theorem sc_moments : FnScope ["rule", "turn"] ["rule"] (defScope s_rough_moments) := ⟨rfl, rfl, rfl, by decide +kernel, rfl, by decide +kernel, by decide +kernel⟩
theorem ok_moments (D : DefAt K mg "_rough_moments" s_rough_moments ["rule"]) (m_list : mg "list" = none) (m_range : mg "range" = none) (C1 : Cl P w K mg base 2 "end_mark" ["rule"] spEndMark) : Cl P w K mg base 3 "_rough_moments" ["rule"] spMoments := by
  refine D.cl fun f fd F => ?_
  refine F.ok sc_moments (fun vs H Q E h => ?_) (fun cdv A outer s H vs Q E hr h => ?_)
  · obtain ⟨p, b, rfl, _⟩ := h
    rfl
  · obtain ⟨p, b, rfl, hp, ok, q⟩ := h
    obtain ⟨b1, b3⟩ : 1 ≤ b ∧ b ≤ 3 := ok
    have tl := T_le b3
    have p8 : 2 ^ b ≤ 2 ^ 3 := Nat.pow_le_pow_right (by decide) b3
    have p2 : 2 ^ 1 ≤ 2 ^ b := Nat.pow_le_pow_right (by decide) b1
    refine ⟨_, pss_cons (ps_set (i := 1) sc_moments.nd rfl (Or.inl rfl) (pe_op op_shl pe_int (pe_op op_sub (pe_cl C1 hr (pa_cons (pv 0) pa_nil)) pe_int)))
      (pss_one (ps_ret (pe_listRg rfl (by rfl) m_list (prg_2 (by rfl) m_range (pe_op op_mul pe_int (pv 1)) (pe_op op_mul pe_int (pv 1)))))), ?_⟩
    have ef : (((Ru.rgh b).fin : Nat) : Int) - 1 = ((2 ^ b - 2 : Nat) : Int) := by
      show ((2 ^ b - 1 : Nat) : Int) - 1 = _
      omega
    refine ⟨_, rfl, p, .rgh b, rfl, hp, ⟨b1, b3⟩, _, _, rfl, rfl, _, _, rfl, rfl, ⟨by rw [ef]; omega, by rw [ef]; omega, by decide⟩, ?_⟩
    dsimp only
    rw [show (1 : Int) * 2 ^ ((((Ru.rgh b).fin : Nat) : Int) - 1).toNat = ((tT b : Nat) : Int) from shl_is ef]
    refine ⟨_, rfl, _, _, rfl, rfl, .inl ⟨by decide, by decide⟩, _, rfl, _, _, rfl, rfl, .inl ⟨by decide, by decide⟩, _, _, rfl, rfl, RgOk.of_le (by omega) (by omega) (by omega) (by omega), fun q' nq => ?_⟩
    exact q _ q' nq (same_upd nq) upd_same
theorem sc_width : FnScope ["rule", "now", "widest", "mark", "least", "most"] ["rule", "now"] (defScope s_rough_width) := ⟨rfl, rfl, rfl, by decide +kernel, rfl, by decide +kernel, by decide +kernel⟩
theorem ok_width (D : DefAt K mg "_rough_width" s_rough_width ["rule", "now"]) (m_max : mg "max" = none) (m_range : mg "range" = none) (C1 : Cl P w K mg base 2 "end_mark" ["rule"] spEndMark) (C2 : Cl P w K mg base 3 "_rough_span" ["rule", "now", "mark"] spRoughSpan) :
    Cl P w K mg base 4 "_rough_width" ["rule", "now"] spWidth := by
  refine D.cl fun f fd F => ?_
  refine F.ok sc_width (fun vs H Q E h => ?_) (fun cdv A outer s H vs Q E hr h => ?_)
  · obtain ⟨p, b, now, i, rfl, _⟩ := h
    rfl
  · obtain ⟨p, b, now, i, rfl, rfl, hp, ok, hnow, q⟩ := h
    obtain ⟨b1, b3⟩ : 1 ≤ b ∧ b ≤ 3 := ok
    have p8 : 2 ^ b ≤ 2 ^ 3 := Nat.pow_le_pow_right (by decide) b3
    refine ⟨_, pss_cons (ps_set (i := 2) sc_width.nd rfl (Or.inl rfl) pe_int)
      (pss_cons (ps_for PassesOwn.never rfl (pi_range1 (by rfl) m_range (pa_cons (pe_cl C1 hr (pa_cons (pv 0) pa_nil)) pa_nil)) (pg_name (i := 3) sc_width.nd rfl (Or.inl rfl))
        (pss_cons (ps_asg (pe_cl C2 hr (pa_cons (pv 0) (pa_cons (pv 1) (pa_cons (pv 3) pa_nil)))) (pg_tup rfl (pgs_cons (pg_name (i := 4) sc_width.nd rfl (Or.inl rfl)) (pgs_cons (pg_name (i := 5) sc_width.nd rfl (Or.inl rfl)) pgs_nil))))
        (pss_one (ps_if (pt_cmp (pc_notN (pv 5)) rfl) (pss_one (ps_set (i := 2) sc_width.nd rfl (Or.inl rfl) (pe_callB (call_max2 rfl) (by rfl) m_max (by decide +kernel) (pa_cons (pv 2) (pa_cons (pe_op op_sub (pv 5) (pv 4)) pa_nil))))) pss_nil))))
      (pss_one (ps_ret (pv 2)))), ?_⟩
    refine ⟨_, rfl, p, .rgh b, rfl, hp, ⟨b1, b3⟩, _, rfl, by show -(2 ^ 62) ≤ ((2 ^ b - 1 : Nat) : Int); omega, by show ((2 ^ b - 1 : Nat) : Int) < 2 ^ 62; omega, ?_⟩
    rw [Int.toNat_natCast]
    refine for_range (lo := 0) (n := (Ru.rgh b).fin) (fun i σ H' => ∃ (wd : Nat) (v3 v4 v5 : Option V), σ = [some (.ref p), some (.int (now : Int)), some (.int (wd : Int)), v3, v4, v5] ∧ Same H H' ∧ WidthP b now wd i)
      ⟨0, none, none, none, rfl, Same.refl H, fun m _ _ hm => absurd hm (Nat.not_lt_zero m), .inl rfl⟩ ?_ ?_
    · rintro i σ H' hi ⟨wd, v3, v4, v5, rfl, sm, wp⟩
      have hi' : i < 2 ^ b - 1 := hi
      refine ⟨_, rfl, _, rfl, _, rfl, p, .rgh b, now, i, _, _, rfl, rfl, by omega, sm _ _ hp, ⟨b1, b3⟩, rfl, Nat.le_of_lt hi', hnow, fun H2 T x y sp nT s2 eT => ?_⟩
      have st := width_step wp hi' sp
      have sm2 := sm.trans s2
      refine ⟨T, [oV x, oV y], rfl, SqT.of eT, rfl, oV x, [oV y], rfl, oV y, [], rfl, rfl, ?_⟩
      refine ⟨_, rfl, _, rfl, ?_⟩
      cases y with
      | none =>
        rw [decide_eq_true (show oV none = V.non from rfl)]
        exact iteF ⟨wd, _, _, _, rfl, sm2, st.1 rfl⟩
      | some hi2 =>
        rw [decide_eq_false (show ¬ oV (some hi2) = V.non from fun z => nomatch z)]
        refine iteT ?_
        have nx : ∃ lo, x = some lo := by
          rcases sp with ⟨_, e, _⟩ | ⟨lo, e, _⟩
          · cases e
          · exact ⟨lo, e⟩
        obtain ⟨lo, rfl⟩ := nx
        have bo := sp.both
        refine ⟨_, rfl, _, rfl, _, rfl, _, _, rfl, rfl, _, _, rfl, max wd (hi2 - lo), some (.int (0 + (i : Int))), some (oV (some lo)), some (oV (some hi2)), ?_, sm2, st.2 lo hi2 rfl rfl⟩
        have e : (if (hi2 : Int) - (lo : Int) > (wd : Int) then (hi2 : Int) - (lo : Int) else (wd : Int)) = ((max wd (hi2 - lo) : Nat) : Int) := by split <;> omega
        rw [← e]
        rfl
    · rintro σ H' ⟨wd, v3, v4, v5, rfl, sm, wp⟩
      exact ⟨_, rfl, q wd H' wp sm⟩
theorem sc_off : FnScope ["rule", "now"] ["rule"] (defScope s_off) := ⟨rfl, rfl, rfl, by decide +kernel, rfl, by decide +kernel, by decide +kernel⟩
theorem ok_off (D : DefAt K mg "off" s_off ["rule"]) (m_max : mg "max" = none) (C1 : Cl P w K mg base 2 "check_rule" ["rule"] spCheckRule) (C2 : Cl P w K mg base 3 "_rough_moments" ["rule"] spMoments) (C3 : Cl P w K mg base 4 "_rough_width" ["rule", "now"] spWidth) :
    Cl P w K mg base 5 "off" ["rule"] spOff := by
  refine D.cl fun f fd F => ?_
  refine F.ok sc_off (fun vs H Q E h => ?_) (fun cdv A outer s H vs Q E hr h => ?_)
  · obtain ⟨p, R, rfl, _⟩ := h
    rfl
  · obtain ⟨p, R, rfl, hp, ok, q⟩ := h
    refine ⟨_, pss_cons (ps_expr (pe_cl C1 hr (pa_cons (pv 0) pa_nil)))
      (pss_cons (ps_if (pt_cmpR op_eq (pe_ix ix_tup (pv 0) pe_int (fun _ _ => rfl)) pe_str (nomark _)) (pss_one (ps_ret (pe_callB (cr_max rfl) (by rfl) m_max (by decide +kernel) (pa_cons
        (pe_lc (own := [("now", 1)]) (g := gName 1) (tt := tYes) rfl sc_off.nd (pi_list (pe_cl C2 hr (pa_cons (pv 0) pa_nil))) (blkOk_by (N := ["rule", "now"]) (sc := defScope s_off) (by decide +kernel)) (fun _ _ _ _ _ => by exact pg_name (i := 1) sc_off.nd rfl (Or.inl rfl)) (fun _ _ _ _ _ => by exact pts_nil)
          (fun _ _ _ _ _ => by exact pe_cl C3 hr (pa_cons (pv 0) (pa_cons (pv 1) pa_nil)))) pa_nil)))) pss_nil)
      (pss_one (ps_ret (pe_op op_sub (pe_ix ix_tup (pv 0) pe_int (fun _ _ => rfl)) pe_int)))), ?_⟩
    refine ⟨_, rfl, p, R, rfl, hp, ok, fun H1 s1 => ?_⟩
    have hp1 := s1 _ _ hp
    refine ⟨_, rfl, p, _, _, _, rfl, rfl, SqT.of hp1, R.at0, rfl, _, rfl, ?_⟩
    rw [dec_str]
    by_cases hk : R.kind = "rough"
    · rw [decide_eq_true hk]
      refine iteT ?_
      cases R with
      | cnt b s => exact absurd hk k_cr
      | shf b s => exact absurd hk k_sr
      | rgh b =>
      obtain ⟨b1, b3⟩ : 1 ≤ b ∧ b ≤ 3 := ok
      have tp := T_pos b
      have tl := T_le b3
      refine ⟨_, rfl, p, b, rfl, hp1, ⟨b1, b3⟩, fun H2 l nl s2 el => ?_⟩
      refine ⟨l, rfl, ⟨_, SqL.of el⟩, fun D nD => ?_⟩
      have rl : (rgV ((2 * tT b : Nat) : Int) ((3 * tT b : Nat) : Int)).length = tT b := by
        rw [rgV_length]
        omega
      refine lc_list (K := K) (a := l) (xs := rgV ((2 * tT b : Nat) : Int) ((3 * tT b : Nat) : Int)) (fun i H' => Same H2 H' ∧ ∃ ws : List Nat, ws.length = i ∧ H' D = some (.lst ((ws.map Int.ofNat).map V.int)) ∧ ∀ j, j < i → ∃ w', ws[j]? = some w' ∧ WidthP b (2 * tT b + j) w' (2 ^ b - 1))
        ⟨same_upd nD, [], rfl, upd_same, fun j hj => absurd hj (Nat.not_lt_zero j)⟩ (fun i H' _ h => SqL.of (h.1 _ _ el)) ?_ ?_
      · rintro i y H' hy ⟨sm, ws, lw, eD, hw⟩
        obtain ⟨rfl, hi⟩ := rg_get hy
        have hi' : i < tT b := by omega
        refine ⟨rfl, _, rfl, _, rfl, p, b, 2 * tT b + i, _, rfl, rfl, sm _ _ (s2 _ _ hp1), ⟨b1, b3⟩, by omega, fun w' H3 wp s3 => ?_⟩
        obtain ⟨a1, a2⟩ := len_app (P := fun j w' => WidthP b (2 * tT b + j) w' (2 ^ b - 1)) lw hw wp
        refine ⟨_, s3 _ _ eD, ?_, fun x o e => ?_, ws ++ [w'], a1, ?_, a2⟩
        · rw [List.length_map, List.length_map, lw]
          exact small1000 (by omega)
        · rw [upd_ne (ne_of_none e nD)]
          exact s3 _ _ (sm _ _ e)
        · rw [upd_same, List.map_append, List.map_append]
          rfl
      · rintro H' ⟨sm, ws, lw, eD, hw⟩
        rw [rl] at lw hw
        refine ⟨D, ws.map Int.ofNat, rfl, SqL.of eD, by rw [List.length_map, lw]; omega, fun m hm hmax => ?_⟩
        obtain ⟨v, hv, rfl⟩ := List.mem_map.mp hm
        refine q v H' (.inl ⟨rfl, fun d hd => ?_, ?_⟩) ((s1.trans s2).trans sm)
        · obtain ⟨now, mk, lo, hi, n1, n2, hmk, sp, rfl⟩ := hd
          obtain ⟨j, rfl⟩ : ∃ j, now = 2 * tT b + j := ⟨now - 2 * tT b, by have : 2 * tT b ≤ now := n1; omega⟩
          obtain ⟨w', gw, wp⟩ := hw j (by have : 2 * tT b + j < 3 * tT b := n2; omega)
          have h1 := wp.1 mk lo hi hmk sp
          have h2 : (w' : Int) ≤ (v : Int) := hmax _ (get_mem gw)
          omega
        · obtain ⟨j, hj⟩ := List.mem_iff_getElem?.mp hv
          have jl : j < tT b := by
            have := (List.getElem?_eq_some_iff.mp hj).1
            omega
          obtain ⟨w', gw, wp⟩ := hw j jl
          have : w' = v := Option.some.inj (gw.symm.trans hj)
          subst this
          rcases wp.2 with h0 | ⟨mk, lo, hi, hmk, sp, e⟩
          · exact .inl h0
          · exact .inr ⟨2 * tT b + j, mk, lo, hi, Nat.le_add_right _ _, by show 2 * tT b + j < 3 * tT b; omega, hmk, sp, e⟩
    · rw [decide_eq_false hk]
      have hs := R.step_ok ok
      refine iteF ⟨_, rfl, p, _, _, _, rfl, rfl, SqT.of hp1, R.at2 hk, _, _, rfl, rfl, ?_⟩
      dsimp only
      rw [show (R.step : Int) - 1 = ((R.step - 1 : Nat) : Int) by omega]
      refine q _ H1 (.inr ⟨?_, rfl⟩) s1
      cases e : R.isRgh with
      | false => rfl
      | true => exact absurd ((R.rough_iff).mpr e) hk
theorem sc_reach : FnScope ["rule", "end", "now"] ["rule"] (defScope s_reach) := ⟨rfl, rfl, rfl, by decide +kernel, rfl, by decide +kernel, by decide +kernel⟩
theorem ok_reach (D : DefAt K mg "reach" s_reach ["rule"]) (m_min : mg "min" = none) (C1 : Cl P w K mg base 2 "check_rule" ["rule"] spCheckRule) (C2 : Cl P w K mg base 3 "_rough_moments" ["rule"] spMoments) (C3 : Cl P w K mg base 3 "_rough_span" ["rule", "now", "mark"] spRoughSpan)
    (C4 : Cl P w K mg base 2 "end_mark" ["rule"] spEndMark) (C5 : Cl P w K mg base 3 "_agings" ["rule", "mark"] spAgings) : Cl P w K mg base 4 "reach" ["rule"] spReach := by
  refine D.cl fun f fd F => ?_
  refine F.ok sc_reach (fun vs H Q E h => ?_) (fun cdv A outer s H vs Q E hr h => ?_)
  · obtain ⟨p, R, rfl, _⟩ := h
    rfl
  · obtain ⟨p, R, rfl, hp, ok, q⟩ := h
    refine ⟨_, pss_cons (ps_expr (pe_cl C1 hr (pa_cons (pv 0) pa_nil)))
      (pss_cons (ps_set (i := 1) sc_reach.nd rfl (Or.inr rfl) (pe_cl C4 hr (pa_cons (pv 0) pa_nil)))
      (pss_cons (ps_if (pt_cmpR op_eq (pe_ix ix_tup (pv 0) pe_int (fun _ _ => rfl)) pe_str (nomark _)) (pss_one (ps_ret (pe_op op_sub (pe_callB (cr_min rfl) (by rfl) m_min (by decide +kernel) (pa_cons
        (pe_lc (own := [("now", 2)]) (g := gName 2) (tt := tYes) rfl sc_reach.nd (pi_list (pe_cl C2 hr (pa_cons (pv 0) pa_nil))) (blkOk_by (N := ["rule", "end", "now"]) (sc := defScope s_reach) (by decide +kernel)) (fun _ _ _ _ _ => by exact pg_name (i := 2) sc_reach.nd rfl (Or.inl rfl)) (fun _ _ _ _ _ => by exact pts_nil)
          (te := tOp (rIxT K) (tCall spRoughSpan [] E0 (tCons (tVar 0) (tCons (tVar 2) (tCons (tVar 1) tNil)))) (tC (.int 0)))
          (fun _ _ _ _ _ => by exact pe_ix ix_tup (pe_cl C3 hr (pa_cons (pv 0) (pa_cons (pv 2) (pa_cons (pv 1) pa_nil)))) pe_int (fun _ _ => rfl))) pa_nil)) pe_int))) pss_nil)
      (pss_one (ps_ret (pe_op op_mul (pe_op op_sub (pe_cl C5 hr (pa_cons (pv 0) (pa_cons (pv 1) pa_nil))) pe_int) (pe_ix ix_tup (pv 0) pe_int (fun _ _ => rfl))))))), ?_⟩
    refine ⟨_, rfl, p, R, rfl, hp, ok, fun H1 s1 => ?_⟩
    have hp1 := s1 _ _ hp
    refine ⟨_, rfl, p, R, rfl, hp1, ok, ?_⟩
    refine ⟨_, rfl, p, _, _, _, rfl, rfl, SqT.of hp1, R.at0, rfl, _, rfl, ?_⟩
    rw [dec_str]
    by_cases hk : R.kind = "rough"
    · rw [decide_eq_true hk]
      refine iteT ?_
      cases R with
      | cnt b s => exact absurd hk k_cr
      | shf b s => exact absurd hk k_sr
      | rgh b =>
      obtain ⟨b1, b3⟩ : 1 ≤ b ∧ b ≤ 3 := ok
      have tp := T_pos b
      have tl := T_le b3
      refine ⟨_, rfl, p, b, rfl, hp1, ⟨b1, b3⟩, fun H2 l nl s2 el => ?_⟩
      refine ⟨l, rfl, ⟨_, SqL.of el⟩, fun D nD => ?_⟩
      have rl : (rgV ((2 * tT b : Nat) : Int) ((3 * tT b : Nat) : Int)).length = tT b := by
        rw [rgV_length]
        omega
      refine lc_list (K := K) (a := l) (xs := rgV ((2 * tT b : Nat) : Int) ((3 * tT b : Nat) : Int)) (fun i H' => Same H2 H' ∧ ∃ ws : List Nat, ws.length = i ∧ H' D = some (.lst ((ws.map Int.ofNat).map V.int)) ∧ ∀ j, j < i → ∃ w', ws[j]? = some w' ∧ IsSpan (.rgh b) (2 * tT b + j) (2 ^ b - 1) (some w') none)
        ⟨same_upd nD, [], rfl, upd_same, fun j hj => absurd hj (Nat.not_lt_zero j)⟩ (fun i H' _ h => SqL.of (h.1 _ _ el)) ?_ ?_
      · rintro i y H' hy ⟨sm, ws, lw, eD, hw⟩
        obtain ⟨rfl, hi⟩ := rg_get hy
        have hi' : i < tT b := by omega
        refine ⟨rfl, _, rfl, _, rfl, _, rfl, p, .rgh b, 2 * tT b + i, 2 ^ b - 1, _, _, rfl, rfl, rfl, sm _ _ (s2 _ _ hp1), ⟨b1, b3⟩, rfl, Nat.le_refl _, by omega, fun H3 T x y sp nT s3 eT => ?_⟩
        have yn : y = none := sp.hi_none rfl
        subst yn
        have pe : poss (.rgh b) (2 * tT b + i) (2 ^ b - 1) (2 * tT b - 1) = true := by
          rw [poss_rgh, one_far2 b1 (Nat.le_refl _), decide_eq_true rfl]
        obtain ⟨w', rfl, _⟩ := sp.lo_le (show 2 * tT b - 1 ≤ 2 * tT b + i by omega) pe
        obtain ⟨a1, a2⟩ := len_app (P := fun j w' => IsSpan (.rgh b) (2 * tT b + j) (2 ^ b - 1) (some w') none) lw hw sp
        refine ⟨T, _, _, _, rfl, rfl, SqT.of eT, atI_nat (j := 0) rfl, _, s3 _ _ eD, ?_, fun x o e => ?_, ws ++ [w'], a1, ?_, a2⟩
        · rw [List.length_map, List.length_map, lw]
          exact small1000 (by omega)
        · rw [upd_ne (ne_of_none e nD)]
          exact s3 _ _ (sm _ _ e)
        · rw [upd_same, List.map_append, List.map_append]
          rfl
      · rintro H' ⟨sm, ws, lw, eD, hw⟩
        rw [rl] at lw hw
        refine ⟨D, ws.map Int.ofNat, rfl, SqL.of eD, by rw [List.length_map, lw]; omega, fun m hm hmin => ?_⟩
        obtain ⟨v, hv, rfl⟩ := List.mem_map.mp hm
        obtain ⟨j, hj⟩ := List.mem_iff_getElem?.mp hv
        have jl : j < tT b := by
          have := (List.getElem?_eq_some_iff.mp hj).1
          omega
        obtain ⟨w', gw, sp⟩ := hw j jl
        have : w' = v := Option.some.inj (gw.symm.trans hj)
        subst this
        have w1 : 1 ≤ w' := by
          rcases sp with ⟨e, _⟩ | ⟨lo, e, h1, h2, _⟩
          · cases e
          · cases e
            by_cases z : w' = 0
            · rw [z, poss_rgh] at h2
              have e2 : 0 = 2 ^ b - 1 := of_decide_eq_true h2
              have p2 : 2 ^ 1 ≤ 2 ^ b := Nat.pow_le_pow_right (by decide) b1
              omega
            · omega
        refine ⟨_, _, rfl, rfl, ?_⟩
        dsimp only
        rw [show Int.ofNat w' - 1 = ((w' - 1 : Nat) : Int) by show (w' : Int) - 1 = _; omega]
        refine q (w' - 1) H' (.inl ⟨rfl, fun l' hl' => ?_, ?_⟩) ((s1.trans s2).trans sm)
        · obtain ⟨now, n1, n2, sp'⟩ := hl'
          obtain ⟨j', rfl⟩ : ∃ j', now = 2 * tT b + j' := ⟨now - 2 * tT b, by have : 2 * tT b ≤ now := n1; omega⟩
          obtain ⟨w2, gw2, sp2⟩ := hw j' (by have : 2 * tT b + j' < 3 * tT b := n2; omega)
          have e2 := (sp2.uniq sp').1
          cases e2
          have h2 : (w' : Int) ≤ (l' : Int) := hmin _ (get_mem gw2)
          omega
        · rw [show w' - 1 + 1 = w' by omega]
          exact ⟨2 * tT b + j, Nat.le_add_right _ _, by show 2 * tT b + j < 3 * tT b; omega, sp⟩
    · rw [decide_eq_false hk]
      have hs := R.step_ok ok
      have nr : R.isRgh = false := by
        cases e : R.isRgh with
        | false => rfl
        | true => exact absurd ((R.rough_iff).mpr e) hk
      have a1 := ags_fin ok nr
      refine iteF ⟨_, rfl, _, rfl, p, R, R.fin, _, rfl, rfl, hp1, ok, nr, fin_most R, _, _, rfl, rfl, _, rfl, p, _, _, _, rfl, rfl, SqT.of hp1, R.at2 hk, _, _, rfl, rfl, .inr (le64 (by omega) (by omega)), ?_⟩
      dsimp only
      rw [show (R.ags R.fin : Int) - 1 = ((R.ags R.fin - 1 : Nat) : Int) by omega]
      exact q ((R.ags R.fin - 1) * R.step) H1 (.inr ⟨nr, rfl⟩) s1
end
/-! ### a seen mark is fresh -/
theorem seen_shf {b s m : Nat} : seenM (.shf b s) m = if m < 2 ^ b then m + 2 ^ b else m := rfl
theorem seen_fresh {R : Ru} {m : Nat} (hm : m ≤ R.most) : Fresh R (seenM R m) := by
  cases R with
  | cnt b s => exact (rfl : (0 : Nat) = 0)
  | rgh b => exact (rfl : (0 : Nat) = 0)
  | shf b s =>
    have hm' : m ≤ 2 ^ (b + 1) - 1 := hm
    have pb := Nat.two_pow_pos b
    rw [Nat.pow_succ] at hm'
    show 2 ^ b ≤ seenM (.shf b s) m ∧ seenM (.shf b s) m < 2 * 2 ^ b
    rw [seen_shf]
    split <;> omega
/-! ### what stands behind a change; lists of marks -/
/-- all but some objects stands as it was -/
def KpL (L : List Addr) (H H' : Hp) : Prop := ∀ b o, H b = some o → ¬ b ∈ L → H' b = some o
theorem KpL.refl (L : List Addr) (H : Hp) : KpL L H H := fun _ _ e _ => e
theorem KpL.trans {L : List Addr} {H H1 H2 : Hp} (a : KpL L H H1) (b : KpL L H1 H2) : KpL L H H2 := fun x o e n => b x o (a x o e n) n
theorem KpL.mono {L L' : List Addr} {H H1 : Hp} (a : KpL L H H1) (h : ∀ x, x ∈ L → x ∈ L') : KpL L' H H1 := fun x o e n => a x o e fun z => n (h x z)
theorem Same.kpL {L : List Addr} {H H1 : Hp} (a : Same H H1) : KpL L H H1 := fun b o e _ => a b o e
theorem KpL.free {L : List Addr} {H H1 : Hp} (a : KpL L H H1) {x : Addr} (h : H1 x = none) (n : ¬ x ∈ L) : H x = none := by
  cases q : H x with
  | none => rfl
  | some o =>
    rw [a x o q n] at h
    cases h
def nvs (ms : List Nat) : List V := (ms.map Int.ofNat).map V.int
theorem rep_one (k : Nat) (v : V) : (List.replicate k [v]).flatten = List.replicate k v := by
  induction k with
  | zero => rfl
  | succ k ih => rw [List.replicate_succ, List.flatten_cons, ih, List.replicate_succ]; rfl
theorem nvs_len (ms : List Nat) : (nvs ms).length = ms.length := by
  unfold nvs
  rw [List.length_map, List.length_map]
theorem nvs_get {ms : List Nat} {j : Nat} (h : j < ms.length) : (nvs ms)[j]? = some (.int ((ms.getD j 0 : Nat) : Int)) := by
  unfold nvs
  rw [List.getElem?_map, List.getElem?_map, List.getElem?_eq_getElem h, List.getD_eq_getElem?_getD, List.getElem?_eq_getElem h]
  rfl
theorem nvs_set (ms : List Nat) (j x : Nat) : (nvs ms).set j (.int (x : Int)) = nvs (ms.set j x) := by
  unfold nvs
  rw [List.map_set, List.map_set]
  rfl
theorem getD_mem {ms : List Nat} {j : Nat} (h : j < ms.length) : ms.getD j 0 ∈ ms := by
  rw [List.getD_eq_getElem?_getD, List.getElem?_eq_getElem h]
  exact List.getElem_mem h
theorem Kp2.kpL {h c : Addr} {H H' : Hp} (k : Kp2 h c H H') : KpL [h, c] H H' := fun b o e n => k b o e (fun z => n (by rw [z]; simp)) (fun z => n (by rw [z]; simp))
theorem nin2 {x a b : Addr} (h1 : x ≠ a) (h2 : x ≠ b) : ¬ x ∈ [a, b] := by
  intro z
  rcases List.mem_cons.mp z with z | z
  · exact h1 z
  · exact h2 (List.mem_singleton.mp z)
/-! ### methods and errors by their promises -/
/-- a method by its promise alone -/
def ClM (P : Program) (w : World) (K : PySem.W.Frag) (mg : Str → Option Value) (base : Heap) (CX : CXT) (k : Nat) (C : Addr) (m : Str) (ps : List Str) (sp : Sp) : Prop :=
  ∃ (f : Addr) (fd : FuncData), FnOk P w K mg base CX k f fd ps sp ∧ Meth K C m f ∧ Binds K fd ps []
theorem pe_cm {X : Cx} {CX : CXT} {E : XK} {j k : Nat} {C : Addr} {m : Str} {ps : List Str} {sp : Sp} {o e : Expr} {es : List Expr} {ta : TE} {t : TA} {apos pos : Pos} {pl : Sem Bool} (D : ClM X.prog X.w X.K X.mg X.base CX k C m ps sp) (c : Cls X.K C)
    (hx : Passes CX X E) (hr : Room j X.A) (he : PE X o ta) (ha : PA X (e :: es) t) (hk : k ≤ j := by decide)
    (hst : starEach (e :: es) X.env = (false, eval e X.env) :: starEach es X.env := by rfl) (hpl : (backTo pos (starEach es X.env)).any (·.1) = false := by rfl)
    (ht : eval (.Call (.Attribute o m apos) (e :: es) [] pos) X.env = (do
      let ov ← eval o X.env
      standAt apos.atName
      let (f, first) ← holding [ov] (getMethod ov m pl)
      callWith pos f first (backTo pos (starEach (e :: es) X.env)) (backToKw pos (keywordEach [] X.env))) := by rfl) :
    PE X (.Call (.Attribute o m apos) (e :: es) [] pos) (tMeth C m sp [] E ta t) := by
  obtain ⟨f, fd, G, M, b⟩ := D
  exact pe_meth he c M G (hr.mono hk) b .nil hx ha hst hpl ht
theorem pe_cm0 {X : Cx} {CX : CXT} {E : XK} {j k : Nat} {C : Addr} {m : Str} {ps : List Str} {sp : Sp} {o : Expr} {ta : TE} {apos pos : Pos} {pl : Sem Bool} (D : ClM X.prog X.w X.K X.mg X.base CX k C m ps sp) (c : Cls X.K C)
    (hx : Passes CX X E) (hr : Room j X.A) (he : PE X o ta) (hk : k ≤ j := by decide)
    (ht : eval (.Call (.Attribute o m apos) [] [] pos) X.env = (do
      let ov ← eval o X.env
      standAt apos.atName
      let (f, first) ← holding [ov] (getMethod ov m pl)
      callWith pos f first (backTo pos (starEach [] X.env)) (backToKw pos (keywordEach [] X.env))) := by rfl) :
    PE X (.Call (.Attribute o m apos) [] [] pos) (tMeth C m sp [] E ta tNil) := by
  obtain ⟨f, fd, G, M, b⟩ := D
  exact pe_meth0 he c M G (hr.mono hk) b .nil hx ht
/-- a method as the top has left it -/
def DefM (K : PySem.W.Frag) (C : Addr) (m q : Str) (st : Stmt) (ps : List Str) : Prop :=
  ∃ (f : Addr) (fd : FuncData), Fun K m q st f fd ∧ Meth K C m f ∧ Binds K fd ps []
theorem DefM.cl {P : Program} {w : World} {K : PySem.W.Frag} {mg : Str → Option Value} {base : Heap} {CX : CXT} {k : Nat} {C : Addr} {m q : Str} {st : Stmt} {ps : List Str} {sp : Sp} (D : DefM K C m q st ps)
    (h : ∀ f fd, Fun K m q st f fd → FnOk P w K mg base CX k f fd ps sp) : ClM P w K mg base CX k C m ps sp := by
  obtain ⟨f, fd, F, g, b⟩ := D
  exact ⟨f, fd, h f fd F, g, b⟩
theorem defM_mk {K : PySem.W.Frag} {C : Addr} {m q : Str} {st : Stmt} {ps : List Str} {f : Addr} {od an : Option Addr} {sl : Array (Option Value)} {oc kV dc pm cd ct : Value}
    (a : PySem.W.findIn K (.ref C) m = some (some (.ref f))) (i : PySem.W.isFn K (.ref f) = true) (l : K.lookup f = some ⟨oc, od, .func (PySem.W.fnOf m q (defArgs st) (defBody st) (defScope st) .none kV dc pm an cd ct), sl⟩) (c : PySem.W.codeIn K cd q = true) (k : PySem.W.keepIn K (.ref f) = true)
    (hb : ∀ (kV doc pm : Value) (an : Option Addr) (cdv ct : Value) (us : List Value), us.length = ps.length → bindArgs (PySem.W.fnOf m q (defArgs st) (defBody st) (defScope st) .none kV doc pm an cdv ct) ⟨us, []⟩ = pure (ps.zip us)) : DefM K C m q st ps := by
  have F := fun_mk (st := st) l c k
  exact ⟨f, _, F, ⟨a, i, k⟩, F.binds hb⟩
/-- an own error's class -/
structure ErrC (K : PySem.W.Frag) (mg : Str → Option Value) (x : Str) (c : Addr) : Prop where
  g : mg x = some (.ref c)
  x : PySem.W.excIn K c [.type "ValueError", .type "Exception", .type "BaseException", .type "object"] "ValueError.__new__" = true
  k : PySem.W.keepIn K (.ref c) = true
  b : PySem.W.subIn K (.ref c) (.type "BaseException") = some true
  t : PySem.W.typeIn K (.ref c) = some (.type "type")
theorem ps_err {X : Cx} {W : WX} {x m : Str} {c : Addr} {j : Nat} {p p2 pos pos2 : Pos} (hc : X.calm = true) (tk : Takes X W) (e : ErrC X.K X.mg x c) (hg : Gl X x) (hdb : (x == ("__debug__" : Str)) = false := by decide) :
    PS X (.Raise (some (.Call (.Name x p) [.Constant (.str m) j p2] [] pos)) none pos2) (fun _ σ H => W (.ref c) none σ H) :=
  ps_raise hc tk (pmk_own PySem.F.excBase_ValueError e.x e.g e.k (raises_own e.b e.t) hg hdb)
/-- a def that may raise, by its promise -/
def ClX (P : Program) (w : World) (K : PySem.W.Frag) (mg : Str → Option Value) (base : Heap) (k : Nat) (x : Str) (ps : List Str) (sp : Sp) : Prop :=
  ∃ (f : Addr) (fd : FuncData), FnOk P w K mg base (L2.CX P w) k f fd ps sp ∧ mg x = some (.ref f) ∧ PySem.W.keepIn K (.ref f) = true ∧ Binds K fd ps []
theorem pe_clx {X : Cx} {E : XK} {j k : Nat} {x : Str} {ps : List Str} {sp : Sp} {e : Expr} {es : List Expr} {t : TA} {p pos : Pos} (D : ClX X.prog X.w X.K X.mg X.base k x ps sp) (hx : Passes (L2.CX X.prog X.w) X E) (hr : Room j X.A) (ha : PA X (e :: es) t) (hk : k ≤ j := by decide) (hg : Gl X x := by rfl)
    (hdb : (x == ("__debug__" : Str)) = false := by decide) (he : starEach (e :: es) X.env = (false, eval e X.env) :: starEach es X.env := by rfl) (hpl : (backTo pos (starEach es X.env)).any (·.1) = false := by rfl) :
    PE X (.Call (.Name x p) (e :: es) [] pos) (tCall sp [] E t) := by
  obtain ⟨f, fd, G, g, kp, b⟩ := D
  exact pe_call G (hr.mono hk) hg g kp b .nil hx ha hdb he hpl
theorem DefAt.clx {P : Program} {w : World} {K : PySem.W.Frag} {mg : Str → Option Value} {base : Heap} {k : Nat} {x : Str} {st : Stmt} {ps : List Str} {sp : Sp} (D : DefAt K mg x st ps)
    (h : ∀ f fd, Fun K x x st f fd → FnOk P w K mg base (L2.CX P w) k f fd ps sp) : ClX P w K mg base k x ps sp := by
  obtain ⟨f, fd, F, g, b⟩ := D
  exact ⟨f, fd, h f fd F, g, F.kp, b⟩
/-! ### the program: refusals -/
/-- a def by its promise alone, however it is bound -/
def ClR (P : Program) (w : World) (K : PySem.W.Frag) (mg : Str → Option Value) (base : Heap) (k : Nat) (x : Str) (sp : Sp) : Prop :=
  ∃ f : Addr, FnR P w K mg base (L2.CX P w) k f sp ∧ mg x = some (.ref f) ∧ PySem.W.keepIn K (.ref f) = true
section
variable {P : Program} {w : World} {K : PySem.W.Frag} {mg : Str → Option Value} {base : Heap}
theorem ClX.raw {k : Nat} {x : Str} {ps : List Str} {sp : Sp} (C : ClX P w K mg base k x ps sp) : ClR P w K mg base k x sp := by
  obtain ⟨f, fd, F, g, kp, b⟩ := C
  exact ⟨f, (F.raw b .nil).imp fun vs H Q E h => (show sp (vs ++ []) H Q E by rw [List.append_nil]; exact h), g, kp⟩
theorem Cl.raw {k : Nat} {x : Str} {ps : List Str} {sp : Sp} (C : Cl P w K mg base k x ps sp) : ClR P w K mg base k x sp := by
  obtain ⟨f, fd, F, g, kp, b⟩ := C
  refine ⟨f, ?_, g, kp⟩
  have R := (F.raw (dvs := []) b .nil)
  intro A outer s H us vs Q E hr e0 r hs
  refine codeAny_mono (R A outer s H us vs Q E hr e0 r (show sp (vs ++ []) H Q E by rw [List.append_nil]; exact hs)) fun r s' hq => ?_
  cases r with
  | error e => exact (show False from hq).elim
  | ok fl =>
    cases fl with
    | ret u => exact hq
    | next => exact hq
    | brk => exact hq
    | cont => exact hq
theorem ClR.mono {j k : Nat} {x : Str} {sp : Sp} (C : ClR P w K mg base j x sp) (h : j ≤ k) : ClR P w K mg base k x sp := by
  obtain ⟨f, F, g, kp⟩ := C
  exact ⟨f, F.mono h, g, kp⟩
/-- two promises of one def -/
theorem ClR.or {k : Nat} {x : Str} {sp sp' : Sp} (C : ClR P w K mg base k x sp) (D : ClR P w K mg base k x sp') : ClR P w K mg base k x (fun vs H Q E => sp vs H Q E ∨ sp' vs H Q E) := by
  obtain ⟨f, F, g, kp⟩ := C
  obtain ⟨f', F', g', _⟩ := D
  have e := g.symm.trans g'
  cases e
  exact ⟨f, fun A outer s H us vs Q E hr e0 r hs => hs.elim (F A outer s H us vs Q E hr e0 r) (F' A outer s H us vs Q E hr e0 r), g, kp⟩
end
section
variable {X : Cx} {E : XK} {j k : Nat} {x : Str} {sp : Sp} {e : Expr} {es : List Expr} {t : TA} {p pos : Pos}
theorem pe_clr (D : ClR X.prog X.w X.K X.mg X.base k x sp) (hx : Passes (L2.CX X.prog X.w) X E) (hr : Room j X.A) (ha : PA X (e :: es) t) (hk : k ≤ j := by decide) (hg : Gl X x := by rfl)
    (hdb : (x == ("__debug__" : Str)) = false := by decide) (he : starEach (e :: es) X.env = (false, eval e X.env) :: starEach es X.env := by rfl) (hpl : (backTo pos (starEach es X.env)).any (·.1) = false := by rfl) :
    PE X (.Call (.Name x p) (e :: es) [] pos) (tCall sp [] E t) := by
  obtain ⟨f, F, g, kp⟩ := D
  refine ⟨fun pins s σ H Q I h => ?_⟩
  refine wpAny_Call_Name_kw (ld_glob I hg g ?_ hdb)
  refine PySem.W.callWith_K (h₀ := X.base) I.ok.mod.kin kp (thn (ha.run pos pins s σ H _ I h) fun us s1 ⟨vs, H1, I1, r, q⟩ => ⟨I1.kIn, ?_⟩) he hpl
  have q' : sp vs H1 Q E := by
    have q0 : sp (vs ++ []) H1 Q E := q
    rw [List.append_nil] at q0
    exact q0
  exact wpAny_call (codeAny_mono (run_fnR F (hr.mono hk) hx I1 r q') fun r s' hq => hq)
end
def notRule (H : Hp) (p : Addr) : Prop := ∃ (k : Str) (is : List Int), H p = some (.tup (rtup k is)) ∧ kindOk k ∧ is.length ≤ 10 ∧ isRuleL k is = false
theorem notRule.same {H H' : Hp} {p : Addr} (a : notRule H p) (k : Same H H') : notRule H' p := let ⟨x, y, h, r⟩ := a; ⟨x, y, k _ _ h, r⟩
def spCheckRuleX (c0 : Addr) : Sp := fun vs H Q E => ∃ p : Addr, vs = [.ref p] ∧ ((∃ R : Ru, RuAt H p R ∧ R.ok ∧ ∀ H', Same H H' → Q .non H') ∨ (notRule H p ∧ ∀ H', Same H H' → E (.ref c0) none H'))
def spCheckMarkX (c1 : Addr) : Sp := fun vs H Q E => ∃ (p : Addr) (R : Ru) (i : Int), vs = [.ref p, .int i] ∧ RuAt H p R ∧ R.ok ∧ ((0 ≤ i ∧ i ≤ (R.most : Int) ∧ Q .non H) ∨ (¬ (0 ≤ i ∧ i ≤ (R.most : Int)) ∧ E (.ref c1) none H))
def okMom (i : Int) : Prop := 0 ≤ i ∧ i ≤ 1000000000
def spCheckMomentX (c2 : Addr) : Sp := fun vs H Q E => ∃ i : Int, vs = [.int i] ∧ ((okMom i ∧ Q .non H) ∨ (¬ okMom i ∧ E (.ref c2) none H))
def spAgedBad (c0 c1 c2 : Addr) : Sp := fun vs H Q E => ∃ (p : Addr) (m b e : Int), vs = [.ref p, .int m, .int b, .int e] ∧
  ((notRule H p ∧ ∀ H', Same H H' → E (.ref c0) none H') ∨ ∃ R : Ru, RuAt H p R ∧ R.ok ∧ ((¬ (0 ≤ m ∧ m ≤ (R.most : Int)) ∧ ∀ H', Same H H' → E (.ref c1) none H') ∨
    ((0 ≤ m ∧ m ≤ (R.most : Int)) ∧ (¬ okMom b ∨ ¬ okMom e ∨ e < b) ∧ ∀ H', Same H H' → E (.ref c2) none H')))
def spSpanBad (c0 c1 c2 : Addr) : Sp := fun vs H Q E => ∃ (p : Addr) (n m : Int), vs = [.ref p, .int n, .int m] ∧
  ((notRule H p ∧ ∀ H', Same H H' → E (.ref c0) none H') ∨ ∃ R : Ru, RuAt H p R ∧ R.ok ∧ ((¬ okMom n ∧ ∀ H', Same H H' → E (.ref c2) none H') ∨
    (okMom n ∧ ¬ (0 ≤ m ∧ m ≤ (R.most : Int)) ∧ ∀ H', Same H H' → E (.ref c1) none H')))
def spRuleBad (c0 : Addr) : Sp := fun vs H Q E => ∃ p : Addr, vs = [.ref p] ∧ notRule H p ∧ ∀ H', Same H H' → E (.ref c0) none H'
theorem isRule_ok {R : Ru} (h : R.ok) : isRuleL R.kind R.nums = true ∧ kindOk R.kind ∧ R.nums.length ≤ 10 := by
  cases R with
  | cnt b s =>
    obtain ⟨h1, h2, h3, h4⟩ : 1 ≤ b ∧ b ≤ 6 ∧ 1 ≤ s ∧ s ≤ 20 := h
    refine ⟨?_, .inl rfl, by show 2 ≤ 10; decide⟩
    show (match limL "count" with | none => false | some ls => decide (2 = ls.length) && (List.zipWith inL [(b : Int), (s : Int)] ls).all id) = true
    rw [show limL "count" = some [6, 20] by decide +kernel]
    simp [inL]
    omega
  | shf b s =>
    obtain ⟨h1, h2, h3, h4⟩ : 1 ≤ b ∧ b ≤ 10 ∧ 1 ≤ s ∧ s ≤ 20 := h
    refine ⟨?_, .inr (.inl rfl), by show 2 ≤ 10; decide⟩
    show (match limL "shift" with | none => false | some ls => decide (2 = ls.length) && (List.zipWith inL [(b : Int), (s : Int)] ls).all id) = true
    rw [show limL "shift" = some [10, 20] by decide +kernel]
    simp [inL]
    omega
  | rgh b =>
    obtain ⟨h1, h2⟩ : 1 ≤ b ∧ b ≤ 3 := h
    refine ⟨?_, .inr (.inr (.inl rfl)), by show 1 ≤ 10; decide⟩
    show (match limL "rough" with | none => false | some ls => decide (1 = ls.length) && (List.zipWith inL [(b : Int)] ls).all id) = true
    rw [show limL "rough" = some [3] by decide +kernel]
    simp [inL]
    omega
section
variable {P : Program} {w : World} {K : PySem.W.Frag} {mg : Str → Option Value} {base : Heap}
theorem ok_check_ruleX {c0 : Addr} (D : DefAt K mg "check_rule" s_check_rule ["rule"]) (C1 : Cl P w K mg base 1 "is_rule" ["rule"] spIsRuleX) (e0 : ErrC K mg "BadRule" c0) : ClR P w K mg base 2 "check_rule" (spCheckRuleX c0) := by
  refine (D.clx fun f fd F => ?_).raw
  refine F.okX sc_check_rule (fun vs H Q E h => ?_) (fun cdv A outer s H vs Q E hr h => ?_)
  · obtain ⟨p, rfl, _⟩ := h
    rfl
  · obtain ⟨p, rfl, q⟩ := h
    refine ⟨_, pss_one (ps_if (pt_not (pt_val (pe_cl C1 hr (pa_cons (pv 0) pa_nil)))) (pss_one (ps_err rfl (takes_of rfl rfl rfl rfl) e0 rfl)) pss_nil), ?_⟩
    rcases q with ⟨R, hp, ok, q⟩ | ⟨⟨k, is, hp, kok, l, hf⟩, q⟩
    · obtain ⟨h1, h2, h3⟩ := isRule_ok ok
      refine ⟨_, rfl, p, R.kind, R.nums, rfl, hp, h2, h3, fun H' sm => ?_⟩
      rw [h1]
      exact ⟨true, rfl, iteF (q H' sm)⟩
    · refine ⟨_, rfl, p, k, is, rfl, hp, kok, l, fun H' sm => ?_⟩
      rw [hf]
      exact ⟨false, rfl, iteT (q H' sm)⟩
theorem ok_check_markX {c1 : Addr} (D : DefAt K mg "check_mark" s_check_mark ["rule", "mark"]) (C1 : Cl P w K mg base 1 "top_mark" ["rule"] spTopMark) (e1 : ErrC K mg "BadMark" c1) : ClR P w K mg base 2 "check_mark" (spCheckMarkX c1) := by
  refine (D.clx fun f fd F => ?_).raw
  refine F.okX sc_check_mark (fun vs H Q E h => ?_) (fun cdv A outer s H vs Q E hr h => ?_)
  · obtain ⟨p, R, i, rfl, _⟩ := h
    rfl
  · obtain ⟨p, R, i, rfl, hp, ok, q⟩ := h
    refine ⟨_, pss_one (ps_if (PW.pt (pw_or (pt_cmpR op_lt (pv 1) pe_int (nomark _)) (pw_or1 (pt_cmpR op_gt (pv 1) (pe_cl C1 hr (pa_cons (pv 0) pa_nil)) (nomark _))))) (pss_one (ps_err rfl (takes_of rfl rfl rfl rfl) e1 rfl)) pss_nil), ?_⟩
    refine ⟨_, rfl, _, _, rfl, rfl, _, rfl, ?_⟩
    by_cases h0 : i < 0
    · rw [decide_eq_true h0]
      rcases q with ⟨a, _, _⟩ | ⟨_, q⟩
      · exact absurd h0 (by omega)
      · exact iteT (iteT q)
    · rw [decide_eq_false h0]
      refine iteF ⟨_, rfl, _, rfl, p, R, rfl, hp, ok, _, _, rfl, rfl, _, rfl, ?_⟩
      by_cases h1 : (R.most : Int) < i
      · rw [decide_eq_true h1]
        rcases q with ⟨_, a, _⟩ | ⟨_, q⟩
        · exact absurd h1 (by omega)
        · exact iteT q
      · rw [decide_eq_false h1]
        rcases q with ⟨_, _, q⟩ | ⟨n, _⟩
        · exact iteF q
        · exact absurd (show 0 ≤ i ∧ i ≤ (R.most : Int) by omega) n
theorem ok_check_momentX {c2 : Addr} (D : DefAt K mg "check_moment" s_check_moment ["moment"]) {tk : Tok} (gl : mg "LAST_MOMENT" = some (.int 1000000000 tk)) (e2 : ErrC K mg "BadMoment" c2) : ClR P w K mg base 1 "check_moment" (spCheckMomentX c2) := by
  refine (D.clx fun f fd F => ?_).raw
  refine F.okX sc_check_moment (fun vs H Q E h => ?_) (fun cdv A outer s H vs Q E hr h => ?_)
  · obtain ⟨i, rfl, _⟩ := h
    rfl
  · obtain ⟨i, rfl, q⟩ := h
    refine ⟨_, pss_one (ps_if (PW.pt (pw_or (pt_cmpR op_lt (pv 0) pe_int (nomark _)) (pw_or1 (pt_cmpR op_gt (pv 0) (pe_glob (v := .int 1000000000) (by rfl) gl ⟨_, rfl⟩) (nomark _))))) (pss_one (ps_err rfl (takes_of rfl rfl rfl rfl) e2 rfl)) pss_nil), ?_⟩
    unfold okMom at q
    refine ⟨_, rfl, _, _, rfl, rfl, _, rfl, ?_⟩
    by_cases h0 : i < 0
    · rw [decide_eq_true h0]
      rcases q with ⟨a, _⟩ | ⟨_, q⟩
      · exact absurd h0 (by omega)
      · exact iteT (iteT q)
    · rw [decide_eq_false h0]
      refine iteF ⟨_, rfl, _, _, rfl, rfl, _, rfl, ?_⟩
      by_cases h1 : (1000000000 : Int) < i
      · rw [decide_eq_true h1]
        rcases q with ⟨a, _⟩ | ⟨_, q⟩
        · exact absurd h1 (by omega)
        · exact iteT q
      · rw [decide_eq_false h1]
        rcases q with ⟨_, q⟩ | ⟨n, _⟩
        · exact iteF q
        · exact absurd (show 0 ≤ i ∧ i ≤ 1000000000 by omega) n
theorem ok_agedBad {c0 c1 c2 : Addr} (D : DefAt K mg "aged" s_aged ["rule", "mark", "begin", "end"]) (C1 : ClR P w K mg base 2 "check_rule" (spCheckRuleX c0)) (C2 : ClR P w K mg base 2 "check_mark" (spCheckMarkX c1)) (C3 : ClR P w K mg base 1 "check_moment" (spCheckMomentX c2)) (e2 : ErrC K mg "BadMoment" c2) :
    ClR P w K mg base 3 "aged" (spAgedBad c0 c1 c2) := by
  refine (D.clx fun f fd F => ?_).raw
  refine F.okX sc_aged (fun vs H Q E h => ?_) (fun cdv A outer s H vs Q E hr h => ?_)
  · obtain ⟨p, m, b, e, rfl, _⟩ := h
    rfl
  · obtain ⟨p, m, b, e, rfl, q⟩ := h
    have hx := passes_call (X := cxOf (L2.CX P w) P w K mg base ["rule", "mark", "begin", "end"] "aged" (defScope s_aged) f cdv A outer s H E) (takes_of rfl rfl rfl rfl) (fun cls d σ H h => h)
    refine ⟨_, pss_cons (ps_expr (pe_clr C1 hx hr (pa_cons (pv 0) pa_nil)))
      (pss_cons (ps_expr (pe_clr C2 hx hr (pa_cons (pv 0) (pa_cons (pv 1) pa_nil))))
      (pss_cons (ps_expr (pe_clr C3 hx hr (pa_cons (pv 2) pa_nil)))
      (pss_cons (ps_expr (pe_clr C3 hx hr (pa_cons (pv 3) pa_nil)))
      (pss_cons (ps_if (pt_cmpR op_lt (pv 3) (pv 2) (nomark _)) (pss_one (ps_err rfl (takes_of rfl rfl rfl rfl) e2 rfl)) pss_nil)
      pss_never)))), ?_⟩
    rcases q with ⟨nr, q⟩ | ⟨R, hp, ok, q⟩
    · exact ⟨_, rfl, p, rfl, .inr ⟨nr, q⟩⟩
    · refine ⟨_, rfl, p, rfl, .inl ⟨R, hp, ok, fun H1 s1 => ?_⟩⟩
      have hp1 := s1 _ _ hp
      rcases q with ⟨nm, q⟩ | ⟨hm, ho, q⟩
      · exact ⟨_, rfl, _, rfl, p, R, m, rfl, hp1, ok, .inr ⟨nm, q _ s1⟩⟩
      · refine ⟨_, rfl, _, rfl, p, R, m, rfl, hp1, ok, .inl ⟨hm.1, hm.2, ?_⟩⟩
        by_cases hb : okMom b
        · refine ⟨_, rfl, b, rfl, .inl ⟨hb, ?_⟩⟩
          by_cases he : okMom e
          · refine ⟨_, rfl, e, rfl, .inl ⟨he, ?_⟩⟩
            have hlt : e < b := by
              rcases ho with z | z | z
              · exact absurd hb z
              · exact absurd he z
              · exact z
            refine ⟨_, rfl, _, rfl, _, _, rfl, rfl, _, rfl, ?_⟩
            rw [decide_eq_true hlt]
            exact iteT (q _ s1)
          · exact ⟨_, rfl, e, rfl, .inr ⟨he, q _ s1⟩⟩
        · exact ⟨_, rfl, b, rfl, .inr ⟨hb, q _ s1⟩⟩
theorem ok_spanBad {c0 c1 c2 : Addr} (D : DefAt K mg "span" s_span ["rule", "now", "mark"]) (C1 : ClR P w K mg base 2 "check_rule" (spCheckRuleX c0)) (C2 : ClR P w K mg base 2 "check_mark" (spCheckMarkX c1)) (C3 : ClR P w K mg base 1 "check_moment" (spCheckMomentX c2)) :
    ClR P w K mg base 3 "span" (spSpanBad c0 c1 c2) := by
  refine (D.clx fun f fd F => ?_).raw
  refine F.okX sc_span (fun vs H Q E h => ?_) (fun cdv A outer s H vs Q E hr h => ?_)
  · obtain ⟨p, n, m, rfl, _⟩ := h
    rfl
  · obtain ⟨p, n, m, rfl, q⟩ := h
    have hx := passes_call (X := cxOf (L2.CX P w) P w K mg base ["rule", "now", "mark"] "span" (defScope s_span) f cdv A outer s H E) (takes_of rfl rfl rfl rfl) (fun cls d σ H h => h)
    refine ⟨_, pss_cons (ps_expr (pe_clr C1 hx hr (pa_cons (pv 0) pa_nil)))
      (pss_cons (ps_expr (pe_clr C3 hx hr (pa_cons (pv 1) pa_nil)))
      (pss_cons (ps_expr (pe_clr C2 hx hr (pa_cons (pv 0) (pa_cons (pv 2) pa_nil))))
      pss_never)), ?_⟩
    rcases q with ⟨nr, q⟩ | ⟨R, hp, ok, q⟩
    · exact ⟨_, rfl, p, rfl, .inr ⟨nr, q⟩⟩
    · refine ⟨_, rfl, p, rfl, .inl ⟨R, hp, ok, fun H1 s1 => ?_⟩⟩
      have hp1 := s1 _ _ hp
      rcases q with ⟨hn, q⟩ | ⟨hn, hm, q⟩
      · exact ⟨_, rfl, n, rfl, .inr ⟨hn, q _ s1⟩⟩
      · exact ⟨_, rfl, n, rfl, .inl ⟨hn, ⟨_, rfl, _, rfl, p, R, m, rfl, hp1, ok, .inr ⟨hm, q _ s1⟩⟩⟩⟩
theorem ok_offBad {c0 : Addr} (D : DefAt K mg "off" s_off ["rule"]) (C1 : ClR P w K mg base 2 "check_rule" (spCheckRuleX c0)) : ClR P w K mg base 3 "off" (spRuleBad c0) := by
  refine (D.clx fun f fd F => ?_).raw
  refine F.okX sc_off (fun vs H Q E h => ?_) (fun cdv A outer s H vs Q E hr h => ?_)
  · obtain ⟨p, rfl, _⟩ := h
    rfl
  · obtain ⟨p, rfl, nr, q⟩ := h
    have hx := passes_call (X := cxOf (L2.CX P w) P w K mg base ["rule", "now"] "off" (defScope s_off) f cdv A outer s H E) (takes_of rfl rfl rfl rfl) (fun cls d σ H h => h)
    exact ⟨_, pss_cons (ps_expr (pe_clr C1 hx hr (pa_cons (pv 0) pa_nil))) pss_never, ⟨_, rfl, p, rfl, .inr ⟨nr, q⟩⟩⟩
theorem ok_reachBad {c0 : Addr} (D : DefAt K mg "reach" s_reach ["rule"]) (C1 : ClR P w K mg base 2 "check_rule" (spCheckRuleX c0)) : ClR P w K mg base 3 "reach" (spRuleBad c0) := by
  refine (D.clx fun f fd F => ?_).raw
  refine F.okX sc_reach (fun vs H Q E h => ?_) (fun cdv A outer s H vs Q E hr h => ?_)
  · obtain ⟨p, rfl, _⟩ := h
    rfl
  · obtain ⟨p, rfl, nr, q⟩ := h
    have hx := passes_call (X := cxOf (L2.CX P w) P w K mg base ["rule", "end", "now"] "reach" (defScope s_reach) f cdv A outer s H E) (takes_of rfl rfl rfl rfl) (fun cls d σ H h => h)
    exact ⟨_, pss_cons (ps_expr (pe_clr C1 hx hr (pa_cons (pv 0) pa_nil))) pss_never, ⟨_, rfl, p, rfl, .inr ⟨nr, q⟩⟩⟩
end
/-! ### the program: boards -/
theorem kRM : ¬ (("_rule" : Str) = "_marks") := by decide +kernel
theorem kRT : ¬ (("_rule" : Str) = "_moment") := by decide +kernel
theorem kMT : ¬ (("_marks" : Str) = "_moment") := by decide +kernel
def bfl (p am : Addr) (now : Nat) : List (Str × V) := putF "_moment" (.int (now : Int)) (putF "_marks" (.ref am) (putF "_rule" (.ref p) []))
theorem bfl_eq (p am : Addr) (now : Nat) : bfl p am now = ([("_rule", V.ref p), ("_marks", V.ref am), ("_moment", V.int (now : Int))] : List (Str × V)) := by
  have e : putF "_marks" (.ref am) ([("_rule", V.ref p)] : List (Str × V)) = ([("_rule", V.ref p), ("_marks", V.ref am)] : List (Str × V)) := by
    show (if ("_rule" : Str) = "_marks" then [(("_rule" : Str), V.ref am)] else (("_rule" : Str), V.ref p) :: putF "_marks" (V.ref am) []) = ([("_rule", V.ref p), ("_marks", V.ref am)] : List (Str × V))
    rw [if_neg kRM]
    rfl
  show putF "_moment" (.int (now : Int)) (putF "_marks" (.ref am) ([("_rule", V.ref p)] : List (Str × V))) = ([("_rule", V.ref p), ("_marks", V.ref am), ("_moment", V.int (now : Int))] : List (Str × V))
  rw [e]
  show (if ("_rule" : Str) = "_moment" then _ else (("_rule" : Str), V.ref p) :: (if ("_marks" : Str) = "_moment" then _ else (("_marks" : Str), V.ref am) :: putF "_moment" (V.int (now : Int)) [])) = ([("_rule", V.ref p), ("_marks", V.ref am), ("_moment", V.int (now : Int))] : List (Str × V))
  rw [if_neg kRT, if_neg kMT]
  rfl
theorem bfl_rule (p am : Addr) (now : Nat) : (bfl p am now).lookup ("_rule" : Str) = some (.ref p) := by
  unfold bfl
  rw [lookup_putF, if_neg kRT, lookup_putF, if_neg kRM, lookup_putF, if_pos rfl]
theorem bfl_marks (p am : Addr) (now : Nat) : (bfl p am now).lookup ("_marks" : Str) = some (.ref am) := by
  unfold bfl
  rw [lookup_putF, if_neg kMT, lookup_putF, if_pos rfl]
theorem bfl_moment (p am : Addr) (now : Nat) : (bfl p am now).lookup ("_moment" : Str) = some (.int (now : Int)) := by
  unfold bfl
  rw [lookup_putF, if_pos rfl]
theorem bfl_no (p am : Addr) (now : Nat) {m : Str} (h1 : ¬ m = "_moment") (h2 : ¬ m = "_marks") (h3 : ¬ m = "_rule") : (bfl p am now).lookup m = none := by
  unfold bfl
  rw [lookup_putF, if_neg h1, lookup_putF, if_neg h2, lookup_putF, if_neg h3]
  rfl
theorem bfl_put_marks (p am am' : Addr) (now : Nat) : putF "_marks" (.ref am') (bfl p am now) = bfl p am' now := by
  rw [bfl_eq, bfl_eq]
  show (if ("_rule" : Str) = "_marks" then _ else (("_rule" : Str), V.ref p) :: (if ("_marks" : Str) = "_marks" then (("_marks" : Str), V.ref am') :: [(("_moment" : Str), V.int (now : Int))] else _)) = ([("_rule", V.ref p), ("_marks", V.ref am'), ("_moment", V.int (now : Int))] : List (Str × V))
  rw [if_neg kRM, if_pos rfl]
theorem bfl_put_moment (p am : Addr) (now t : Nat) : putF "_moment" (.int (t : Int)) (bfl p am now) = bfl p am t := by
  rw [bfl_eq, bfl_eq]
  show (if ("_rule" : Str) = "_moment" then _ else (("_rule" : Str), V.ref p) :: (if ("_marks" : Str) = "_moment" then _ else (("_marks" : Str), V.ref am) :: (if ("_moment" : Str) = "_moment" then (("_moment" : Str), V.int (t : Int)) :: [] else _))) = ([("_rule", V.ref p), ("_marks", V.ref am), ("_moment", V.int (t : Int))] : List (Str × V))
  rw [if_neg kRT, if_neg kMT, if_pos rfl]
/-- a board stands at b, its marks at am -/
structure BAt (C : Addr) (H : Hp) (b p am : Addr) (R : Ru) (ms : List Nat) (now : Nat) : Prop where
  ob : ∃ dx, H b = some (.ins C dx (bfl p am now))
  rl : RuAt H p R
  mrk : H am = some (.lst (nvs ms))
  few : ms.length ≤ 8
  bd : ∀ x, x ∈ ms → x ≤ R.most
  ok : R.ok
theorem BAt.kp {C : Addr} {H H' : Hp} {b p am : Addr} {R : Ru} {ms : List Nat} {now : Nat} (a : BAt C H b p am R ms now) {L : List Addr} (k : KpL L H H') (n1 : ¬ b ∈ L) (n2 : ¬ p ∈ L) (n3 : ¬ am ∈ L) : BAt C H' b p am R ms now :=
  ⟨let ⟨dx, e⟩ := a.ob; ⟨dx, k _ _ e n1⟩, k _ _ a.rl n2, k _ _ a.mrk n3, a.few, a.bd, a.ok⟩
theorem BAt.same {C : Addr} {H H' : Hp} {b p am : Addr} {R : Ru} {ms : List Nat} {now : Nat} (a : BAt C H b p am R ms now) (k : Same H H') : BAt C H' b p am R ms now :=
  ⟨let ⟨dx, e⟩ := a.ob; ⟨dx, k _ _ e⟩, k _ _ a.rl, k _ _ a.mrk, a.few, a.bd, a.ok⟩
structure Bcl (K : PySem.W.Frag) (mg : Str → Option Value) (C : Addr) : Prop where
  cl : Cls K C
  nR : NoAttr K C "_rule"
  nM : NoAttr K C "_marks"
  nT : NoAttr K C "_moment"
def spInit (C : Addr) : Sp := fun vs H Q _ => ∃ (b dx p : Addr) (R : Ru) (n : Nat) (i : Int), vs = [.ref b, .ref p, .int i] ∧ i = (n : Int) ∧ H b = some (.ins C dx []) ∧ RuAt H p R ∧ R.ok ∧ 1 ≤ n ∧ n ≤ 8 ∧
  ∀ H' am, BAt C H' b p am R (List.replicate n R.fin) 0 → H am = none → KpL [b] H H' → Q .non H'
def spChk (C cN : Addr) : Sp := fun vs H Q E => ∃ (b p am : Addr) (R : Ru) (ms : List Nat) (now : Nat) (i : Int), vs = [.ref b, .int i] ∧ BAt C H b p am R ms now ∧
  ((0 ≤ i ∧ i < (ms.length : Int) ∧ Q .non H) ∨ (¬ (0 ≤ i ∧ i < (ms.length : Int)) ∧ E (.ref cN) none H))
def spSee (C cN : Addr) : Sp := fun vs H Q E => ∃ (b p am : Addr) (R : Ru) (ms : List Nat) (now : Nat) (i : Int), vs = [.ref b, .int i] ∧ BAt C H b p am R ms now ∧
  ((∃ k : Nat, i = (k : Int) ∧ k < ms.length ∧ ∀ H', BAt C H' b p am R (ms.set k (seenM R (ms.getD k 0))) now → KpL [am] H H' → Q .non H') ∨ (¬ (0 ≤ i ∧ i < (ms.length : Int)) ∧ E (.ref cN) none H))
def spPass (C cM : Addr) : Sp := fun vs H Q E => ∃ (b p am : Addr) (R : Ru) (ms : List Nat) (now : Nat) (i : Int), vs = [.ref b, .int i] ∧ BAt C H b p am R ms now ∧
  ((∃ k : Nat, i = (k : Int) ∧ 1 ≤ k ∧ k ≤ 1000 ∧ now + k ≤ 1000000000 ∧ ∀ H' am', BAt C H' b p am' R (ms.map fun x => ag R x now k) (now + k) → H am' = none → KpL [b] H H' → Q (.int ((now + k : Nat) : Int)) H') ∨
   (¬ (1 ≤ i ∧ i ≤ 1000) ∧ E (.ref cM) none H))
def spMarks (C : Addr) : Sp := fun vs H Q _ => ∃ (b p am : Addr) (R : Ru) (ms : List Nat) (now : Nat), vs = [.ref b] ∧ BAt C H b p am R ms now ∧ ∀ H' l, H l = none → Same H H' → H' l = some (.lst (nvs ms)) → Q (.ref l) H'
def spNow (C : Addr) : Sp := fun vs H Q _ => ∃ (b p am : Addr) (R : Ru) (ms : List Nat) (now : Nat), vs = [.ref b] ∧ BAt C H b p am R ms now ∧ Q (.int (now : Int)) H
def spAge (C cN : Addr) : Sp := fun vs H Q E => ∃ (b p am : Addr) (R : Ru) (ms : List Nat) (now : Nat) (i : Int), vs = [.ref b, .int i] ∧ BAt C H b p am R ms now ∧ now ≤ 1000000000 ∧
  ((∃ k : Nat, i = (k : Int) ∧ k < ms.length ∧ ∀ H' T x y, IsSpan R now (ms.getD k 0) x y → H T = none → Same H H' → H' T = some (.tup [oV x, oV y]) → Q (.ref T) H') ∨ (¬ (0 ≤ i ∧ i < (ms.length : Int)) ∧ E (.ref cN) none H))
section
variable {P : Program} {w : World} {K : PySem.W.Frag} {mg : Str → Option Value} {base : Heap} {C : Addr}
theorem sc_init : FnScope ["self", "rule", "things"] ["self", "rule", "things"] (defScope m_Board_init) := ⟨rfl, rfl, rfl, by decide +kernel, rfl, by decide +kernel, by decide +kernel⟩
theorem sc_marks : FnScope ["self"] ["self"] (defScope m_Board_marks) := ⟨rfl, rfl, rfl, by decide +kernel, rfl, by decide +kernel, by decide +kernel⟩
theorem ok_marks (D : DefM K C "marks" "Board.marks" m_Board_marks ["self"]) (T : Bcl K mg C) (m_list : mg "list" = none) : ClM P w K mg base CX0 1 C "marks" ["self"] (spMarks C) := by
  refine D.cl fun f fd F => ?_
  refine F.ok sc_marks (fun vs H Q E h => ?_) (fun cdv A outer s H vs Q E hr h => ?_)
  · obtain ⟨b, p, am, R, ms, now, rfl, _⟩ := h
    rfl
  · obtain ⟨b, p, am, R, ms, now, rfl, ba, q⟩ := h
    obtain ⟨dx, ob⟩ := ba.ob
    refine ⟨_, pss_one (ps_ret (pe_callTy call_list_of (by rfl) m_list (by decide +kernel) (pa_cons (pe_fld (pv 0) rfl) pa_nil))), ?_⟩
    refine ⟨_, rfl, b, C, dx, _, _, rfl, ob, T.cl, T.nM, bfl_marks _ _ _, am, _, rfl, .inl (SqL.of ba.mrk), fun l hl => ?_⟩
    exact q _ l hl (same_upd hl) upd_same
end
/-! ### the program: boards that are refused -/
def spInitX (C c0 c5 : Addr) : Sp := fun vs H Q E => spInit C vs H Q E ∨ ∃ (b p : Addr) (i : Int), vs = [.ref b, .ref p, .int i] ∧ ((notRule H p ∧ ∀ H', Same H H' → E (.ref c0) none H') ∨ ∃ R : Ru, RuAt H p R ∧ R.ok ∧ ¬ (1 ≤ i ∧ i ≤ 8) ∧ ∀ H', Same H H' → E (.ref c5) none H')
section
variable {P : Program} {w : World} {K : PySem.W.Frag} {mg : Str → Option Value} {base : Heap} {C : Addr}
theorem ok_initX {c0 c5 : Addr} (D : DefM K C "__init__" "Board.__init__" m_Board_init ["self", "rule", "things"]) (T : Bcl K mg C) {tk : Tok} (gT : mg "MOST_THINGS" = some (.int 8 tk)) (C1 : ClR P w K mg base 2 "check_rule" (spCheckRuleX c0)) (e5 : ErrC K mg "BadThings" c5) (C2 : Cl P w K mg base 2 "end_mark" ["rule"] spEndMark) :
    ClM P w K mg base (L2.CX P w) 3 C "__init__" ["self", "rule", "things"] (spInitX C c0 c5) := by
  refine D.cl fun f fd F => ?_
  refine F.okX sc_init (fun vs H Q E h => ?_) (fun cdv A outer s H vs Q E hr h => ?_)
  · rcases h with ⟨b, dx, p, R, n, i, rfl, _⟩ | ⟨b, p, i, rfl, _⟩ <;> rfl
  · have hx := passes_call (X := cxOf (L2.CX P w) P w K mg base ["self", "rule", "things"] "Board.__init__" (defScope m_Board_init) f cdv A outer s H E) (takes_of rfl rfl rfl rfl) (fun cls d σ H h => h)
    refine ⟨_, pss_cons (ps_expr (pe_clr C1 hx hr (pa_cons (pv 1) pa_nil)))
      (pss_cons (ps_if (PW.pt (pw_or (pt_cmpR op_lt (pv 2) pe_int (nomark _)) (pw_or1 (pt_cmpR op_gt (pv 2) (pe_glob (v := .int 8) (by rfl) gT ⟨_, rfl⟩) (nomark _))))) (pss_one (ps_err rfl (takes_of rfl rfl rfl rfl) e5 rfl)) pss_nil)
      (pss_cons (ps_fld (pv 0) (pv 1) rfl)
      (pss_cons (ps_fld (pv 0) (pe_op op_rep (pe_lst (pa_cons (pe_cl C2 hr (pa_cons (pv 1) pa_nil)) pa_nil)) (pv 2)) rfl)
      (pss_one (ps_fld (pv 0) pe_int rfl))))), ?_⟩
    rcases h with ⟨b, dx, p, R, n, i, rfl, rfl, hb, hp, ok, n1, n8, q⟩ | ⟨b, p, i, rfl, q⟩
    rotate_left
    · rcases q with ⟨nr, q⟩ | ⟨R, hp, ok, hi, q⟩
      · exact ⟨_, rfl, p, rfl, .inr ⟨nr, q⟩⟩
      · refine ⟨_, rfl, p, rfl, .inl ⟨R, hp, ok, fun H1 s1 => ?_⟩⟩
        refine ⟨_, rfl, _, _, rfl, rfl, _, rfl, ?_⟩
        by_cases h1 : i < 1
        · rw [decide_eq_true h1]
          exact iteT (iteT (q _ s1))
        · rw [decide_eq_false h1]
          refine iteF ⟨_, rfl, _, _, rfl, rfl, _, rfl, ?_⟩
          rw [decide_eq_true (show (8 : Int) < i by omega)]
          exact iteT (q _ s1)
    refine ⟨_, rfl, p, rfl, .inl ⟨R, hp, ok, fun H1 s1 => ?_⟩⟩
    have hb1 := s1 _ _ hb
    have hp1 := s1 _ _ hp
    refine ⟨_, rfl, _, _, rfl, rfl, _, rfl, ?_⟩
    rw [decide_eq_false (show ¬ (n : Int) < 1 by omega)]
    refine iteF ⟨_, rfl, _, _, rfl, rfl, _, rfl, ?_⟩
    rw [decide_eq_false (show ¬ (8 : Int) < (n : Int) by omega)]
    refine iteF ?_
    have npb : p ≠ b := ne_of hp1 hb1 (fun z => nomatch z)
    refine ⟨_, rfl, _, rfl, b, C, dx, [], rfl, hb1, T.cl, T.nR, (by show 0 < 1000; decide), ?_⟩
    have hp2 : (upd H1 b (.ins C dx (putF "_rule" (.ref p) []))) p = some (.tup R.tup) := by rw [upd_ne npb]; exact hp1
    refine ⟨_, rfl, p, R, rfl, hp2, ok, ?_⟩
    refine ⟨(by show 1 ≤ sizeLine; decide), fun l1 nl1 => ?_⟩
    refine ⟨_, rfl, l1, _, _, rfl, rfl, upd_same, by omega, by omega, ?_, fun am nam => ?_⟩
    · rw [Int.toNat_natCast]
      exact Nat.le_trans (show 1 * n ≤ 8 by omega) (by decide)
    rw [Int.toNat_natCast, rep_one]
    have b2 : (upd H1 b (.ins C dx (putF "_rule" (.ref p) []))) b = some (.ins C dx (putF "_rule" (.ref p) [])) := upd_same
    have b3 := same_upd (o := .lst [V.int (R.fin : Int)]) nl1 _ _ b2
    have b4 := same_upd (o := .lst (List.replicate n (V.int (R.fin : Int)))) nam _ _ b3
    refine ⟨_, rfl, b, C, dx, _, rfl, b4, T.cl, T.nM, (by show 1 < 1000; decide), ?_⟩
    have e2 : putF "_marks" (.ref am) (putF "_rule" (.ref p) []) = ([("_rule", V.ref p), ("_marks", V.ref am)] : List (Str × V)) := by
      show (if ("_rule" : Str) = "_marks" then [(("_rule" : Str), V.ref am)] else (("_rule" : Str), V.ref p) :: putF "_marks" (V.ref am) []) = ([("_rule", V.ref p), ("_marks", V.ref am)] : List (Str × V))
      rw [if_neg kRM]
      rfl
    refine ⟨_, rfl, b, C, dx, _, rfl, upd_same, T.cl, T.nT, (by rw [e2]; show 2 < 1000; decide), ?_⟩
    have nba : b ≠ am := ne_of_none b3 nam
    refine q _ am ⟨⟨dx, upd_same⟩, ?_, ?_, ?_, fun x hx => ?_, ok⟩ ?_ fun x o e n => ?_
    · unfold RuAt
      rw [upd_ne npb, upd_ne npb]
      exact same_upd nam _ _ (same_upd nl1 _ _ hp2)
    · rw [upd_ne nba.symm, upd_ne nba.symm, upd_same]
      unfold nvs
      rw [List.map_replicate, List.map_replicate]
      rfl
    · rw [List.length_replicate]; exact n8
    · rw [List.eq_of_mem_replicate hx]
      exact fin_most R
    · refine s1.free ?_
      have z := (same_upd (o := .lst [V.int (R.fin : Int)]) nl1).free nam
      rw [upd_ne nba.symm] at z
      exact z
    · have nx : x ≠ b := fun z => n (by rw [z]; simp)
      rw [upd_ne nx, upd_ne nx]
      refine same_upd nam _ _ (same_upd nl1 _ _ ?_)
      rw [upd_ne nx]
      exact s1 _ _ e
end
/-! ### a lambda in the def that calls it -/
section
open PySem.W NdefX LamX
/-- what is known of a lambda's texts -/
structure LamOk (P : Program) (w : World) (K : Frag) (mg : Str → Option Value) (base : Heap) (N ps fr : List Str) (F : NF) (e : Expr) (k : Nat) (sp : LSp) : Prop where
  S : NScope N ps fr F.scope
  B : BindL F e ps
  hB : LBody P w K mg base N ps F e k sp
/-- what its call asks, its cells tracked -/
def tlKept (f : Addr) (F : NF) (e : Expr) (ps fr : List Str) (sp : LSp) : XK → Hp → VK → Prop := fun E HZ Q => LamAt HZ f F e ps ∧ ∃ ws : List V, TrC HZ F.cl fr ws ∧ sp (ws.map some) (fgt (F.cl.map (·.2)) HZ) (fun v H' => Q v (bck (F.cl.map (·.2)) HZ H')) fun cls d H' => E cls d (bck (F.cl.map (·.2)) HZ H')
/-- x(y), y a name that holds a kept lambda -/
def tKindv (P : Program) (w : World) (K : Frag) (mg : Str → Option Value) (base : Heap) (k : Nat) (TT : (XK → Hp → VK → Prop) → Hp → VK → Prop) (i : Nat) : TE := fun σ H Q =>
  ∃ f F e N ps fr sp, LamOk P w K mg base N ps fr F e k sp ∧ σ[i]? = some (some (.ref f)) ∧ H F.c = some (CodeO F.c F.qual) ∧ TT (tlKept f F e ps fr sp) H Q
section
variable {X : Cx} {TT : (XK → Hp → VK → Prop) → Hp → VK → Prop} {x a y : Str} {g : Addr} {k i : Nat} {pg : Arguments} {bg : List Stmt} {sg : Scope} {dV kV doc pm cdv ct oc : Value} {an od : Option Addr} {osl : Array (Option Value)} {Ng : List Str} {p py pos : Pos}
/-- the def is called with f in its hand -/
theorem run_hand {pins : List (Addr × Obj)} {σ : L2.St} {H : Hp} {s : Shared} {Q : VK} {f c' : Addr} {q : Str} {tl : XK → Hp → VK → Prop} (lk : X.K.lookup g = some ⟨oc, od, .func (PySem.W.fnOf x x pg bg sg dV kV doc pm an cdv ct), osl⟩) (hcg : PySem.W.codeIn X.K cdv x = true)
    (hb : L2.Binds X.K (PySem.W.fnOf x x pg bg sg dV kV doc pm an cdv ct) [a] []) (Sg : FnScope Ng [a] sg) (hNg : Ng[0]? = some a) (hva : Vis sg a) (hG : GivesTo X Ng x sg g cdv bg a q TT) (hr : Room (k + 2) X.A) (I : Inv X pins σ H s) (hc : H c' = some (CodeO c' q))
    (hrun : Room (k + 1) (X.A.deeper (envOfC x sg s.heap.objs.size g cdv)) → ∀ E pinsZ σZ HZ sZ Q, Inv ((cxOf C8.CX0 X.prog X.w X.K X.mg X.base Ng x sg g cdv X.A X.stack s H C8.E0)) pinsZ σZ HZ sZ → tl E HZ Q →
      FnAt f sZ.heap ∧ codeAny (model X.prog X.w) (X.A.deeper (envOfC x sg s.heap.objs.size g cdv)) (.call (.ref f) ⟨[], []⟩) (CR (L2.CX X.prog X.w) (envOfC x sg s.heap.objs.size g cdv :: X.stack) X.prog X.w HZ sZ Q E) sZ)
    (h : TT tl H Q) (hd : (a == ("__debug__" : Str)) = false := by decide) (hcd : (a == ("__classdict__" : Str)) = false := by decide) : wpAny (model X.prog X.w) X.A (call (.ref g) [.ref f]) (EP X pins σ Q) X.xe s := by
  have rc : codeAny (model X.prog X.w) X.A (.call (.ref g) ⟨[.ref f], []⟩) (CR C8.CX0 X.stack X.prog X.w H s Q C8.E0) s := by
    refine run_ofS (N := Ng) (ps := [a]) (us := [.ref f]) (vs := [.ref f]) lk hcg Sg hr I.env0 (hb s [.ref f] I.kIn rfl) (.cons rfl .nil) rfl fun hr' => ?_
    have act : ∀ (W : WX) (pn : List (Addr × Obj)) (xe : Value → Shared → Prop) (E : XK) (p1 p2 : Pos), Takes ((cxOf C8.CX0 X.prog X.w X.K X.mg X.base Ng x sg g cdv X.A X.stack s H C8.E0).tr pn xe) W → (∀ cls d σ' H', E cls d H' → W cls d σ' H') →
        PE ((cxOf C8.CX0 X.prog X.w X.K X.mg X.base Ng x sg g cdv X.A X.stack s H C8.E0).tr pn xe) (.Call (.Name a p1) [] [] p2) (fun σZ HZ Q => σZ[0]? = some (some (.ref f)) ∧ HZ c' = some (CodeO c' q) ∧ tl E HZ Q) := fun W pn xe E p1 p2 tk hW =>
      call_lam (Z := (cxOf C8.CX0 X.prog X.w X.K X.mg X.base Ng x sg g cdv X.A X.stack s H C8.E0).tr pn xe) (f := f) (i := 0) (p1 := p1) (p2 := p2) (te := fun HZ Q => HZ c' = some (CodeO c' q) ∧ tl E HZ Q) tk hW (fun pinsZ σZ HZ sZ Q IZ h2 => hrun hr' E (pn ++ pinsZ) σZ HZ sZ Q
        ⟨⟨IZ.ok.mod, IZ.ok.kind, IZ.ok.glob, IZ.ok.blt, IZ.ok.above, IZ.ok.inj, IZ.ok.has, IZ.ok.cab, IZ.ok.hd, IZ.ok.frames, IZ.ok.stk, IZ.ok.exf, IZ.ok.bs, IZ.ok.bsz, IZ.ok.noex, IZ.ok.exfs, IZ.ok.funs, IZ.ok.frf⟩, IZ.os, IZ.bare, IZ.base, IZ.loc, IZ.cell, IZ.free, IZ.freeC, fun p hp => IZ.pin p hp, IZ.hok, IZ.len⟩ h2.2) hNg hva hd hcd
    obtain ⟨t', ht', hq'⟩ := hG f c' s H Q tl act hc h
    exact ⟨t', ht'.nox, hq'⟩
  refine wpAny_call (codeAny_mono rc fun r s2 hq => ?_)
  cases r with
  | error e => exact (show False from hq).elim
  | ok fl =>
    cases fl with
    | ret u => exact I.after hq
    | next => exact False.elim hq
    | brk => exact False.elim hq
    | cont => exact False.elim hq
theorem pe_kindv (hg : Gl X x) (hm : X.mg x = some (.ref g)) (hk : keepIn X.K (.ref g) = true) (lk : X.K.lookup g = some ⟨oc, od, .func (PySem.W.fnOf x x pg bg sg dV kV doc pm an cdv ct), osl⟩) (hcg : PySem.W.codeIn X.K cdv x = true)
    (hb : L2.Binds X.K (PySem.W.fnOf x x pg bg sg dV kV doc pm an cdv ct) [a] []) (Sg : FnScope Ng [a] sg) (hNg : Ng[0]? = some a) (hva : Vis sg a) (hG : ∀ q, GivesTo X Ng x sg g cdv bg a q TT) (hr : Room (k + 2) X.A) (hN : X.N[i]? = some y) (hv : Vis X.env.scope y)
    (hdb : (x == ("__debug__" : Str)) = false := by decide) (hd : (a == ("__debug__" : Str)) = false := by decide) (hcd : (a == ("__classdict__" : Str)) = false := by decide) (hd2 : (y == ("__debug__" : Str)) = false := by decide) (hcd2 : (y == ("__classdict__" : Str)) = false := by decide) :
    PE X (.Call (.Name x p) [.Name y py] [] pos) (tKindv X.prog X.w X.K X.mg X.base k TT i) := by
  refine ⟨fun pins s σ H Q I h => ?_⟩
  obtain ⟨f, F, e, N, ps, fr, sp, L, hs, hc, hT⟩ := h
  refine wpAny_Call_Name_kw (ld_glob I hg hm ?_ hdb)
  refine PySem.W.callWith_K (h₀ := X.base) I.ok.mod.kin hk (thn ((pa_cons (pe_var (pos := py) hN hv hd2 hcd2) pa_nil).run pos pins s σ H (fun vs H1 => vs = [.ref f] ∧ H1 = H) I ⟨.ref f, hs, rfl, rfl⟩) fun us s1 hh => ?_) (by rfl) (by rfl)
  obtain ⟨vs, H1, I1, r, rfl, rfl⟩ := hh
  obtain ⟨u, rfl, ru⟩ := r.one
  obtain rfl : u = Value.ref f := ru
  exact ⟨I1.kIn, run_hand lk hcg hb Sg hNg hva (hG _) hr I1 hc (fun hr' E pinsZ σZ HZ sZ Q IZ h2 => run_kept (Z := cxOf C8.CX0 X.prog X.w X.K X.mg X.base Ng x sg g cdv X.A X.stack s1 _ C8.E0) L.S L.B L.hB hr' pinsZ σZ HZ sZ Q IZ h2) hT hd hcd⟩
/-- x(lambda: ..), the cells the running frame's own -/
def tLamD (T : List (Addr × Str)) (TT : (XK → Hp → VK → Prop) → Hp → VK → Prop) (sp : LSp) (js : List Nat) : TE := fun σ H Q =>
  Tabs T H ∧ ∀ (H1 : Hp) (LaF : Hp → Prop), ExtN H H1 → Tabs T H1 → LaF H1 → TT (fun E HZ Q => LaF HZ ∧ sp (js.map (slotAt σ)) HZ Q E) H1 Q
theorem pe_lamcallD {T : List (Addr × Str)} {c P : Addr} {params : Arguments} {body : Expr} {scope : Scope} {lpos : Pos} {N ps fr : List Str} {js : List Nat} {sp : LSp} (hg : Gl X x) (hm : X.mg x = some (.ref g)) (hk : keepIn X.K (.ref g) = true)
    (lk : X.K.lookup g = some ⟨oc, od, .func (PySem.W.fnOf x x pg bg sg dV kV doc pm an cdv ct), osl⟩) (hcg : PySem.W.codeIn X.K cdv x = true) (hb : L2.Binds X.K (PySem.W.fnOf x x pg bg sg dV kV doc pm an cdv ct) [a] []) (Sg : FnScope Ng [a] sg) (hNg : Ng[0]? = some a) (hva : Vis sg a)
    (hG : GivesTo X Ng x sg g cdv bg a (X.env.qual ++ "<lambda>") TT) (TB : TabB X.base X.mg c P) (hcode : X.env.code = .ref c) (hmT : (P, X.env.qual ++ "<lambda>") ∈ T) (hu : ∀ p ∈ T, p.1 = P → p.2 = X.env.qual ++ "<lambda>") (hr : Room (k + 2) X.A) (S : NScope N ps fr scope)
    (hfree : ndefB X.env.scope scope fr = true) (hjs : js.map (fun j => X.N[j]?) = fr.map some) (hdf : DfltOk X params ps) (B : ∀ c', BindL (lamF X params scope c') body ps) (hB : ∀ c', LBody X.prog X.w X.K X.mg X.base N ps (lamF X params scope c') body k sp)
    (hdb : (x == ("__debug__" : Str)) = false := by decide) (hd : (a == ("__debug__" : Str)) = false := by decide) (hcd : (a == ("__classdict__" : Str)) = false := by decide) :
    PE X (.Call (.Name x p) [.Lambda params body scope lpos] [] pos) (tLamD T TT sp js) := by
  refine ⟨fun pins s σ H Q I h => ?_⟩
  obtain ⟨hT, h⟩ := h
  refine wpAny_Call_Name_kw (ld_glob I hg hm ?_ hdb)
  refine PySem.W.callWith_K (h₀ := X.base) I.ok.mod.kin hk ?_ (by rfl) (by rfl)
  show wpAny _ _ (spliced ((false, eval (.Lambda params body scope lpos) X.env) :: backTo pos (starEach [] X.env))) _ _ s
  have hf2 := ndef_free hfree
  have hfr : ∀ y ∈ scope.names, y.2 = .free → ∃ c, X.env.cells.lookup y.1 = some c := fun y hy e => (hf2 y hy e).elim (fun z => I.ok.has _ (.inl z)) fun z => I.ok.has _ (.inr z)
  refine Calls.spliced_cons (lam_make3 I TB hcode hmT hu hT hfr hdf fun f c' H1 s' I1 eN nn T1 f0 la => ?_)
  refine Calls.spliced_nil ⟨I1.kIn, ?_⟩
  have C := cells_of I1 (Caps.made (fr := fr) (js := js) I1.ok hf2 (ndef_fr hfree) hjs)
  obtain ⟨dV', _, hc, _⟩ := id la
  exact run_hand lk hcg hb Sg hNg hva hG hr I1 hc (fun hr' E pinsZ σZ HZ sZ Q IZ h2 => run_live (Z := cxOf C8.CX0 X.prog X.w X.K X.mg X.base Ng x sg g cdv X.A X.stack s' _ C8.E0) S (B c') (hB c') hr' C (fun b z => absurd (show b ∈ ([] : List Addr) from z) (by simp)) pinsZ σZ HZ sZ Q IZ h2)
    (h H1 (fun HZ => LamAt HZ f (lamF X params scope c') body ps) eN T1 la) hd hcd
end
end
/-! ### the lambdas of `_law_works` -/
def asgE : Stmt → Expr
  | .Assign (value := v) .. => v
  | .Return (value := some v) .. => v
  | _ => .Constant .none 0 ⟨0, 0, 0, 0⟩
def lstE : Expr → List Expr
  | .List (elts := es) .. => es
  | .BinOp (right := .List (elts := es) ..) .. => es
  | _ => []
def lamA : Expr → Arguments
  | .Lambda (args := a) .. => a
  | _ => ⟨[], [], none, [], [], none, []⟩
def lamE : Expr → Expr
  | .Lambda (body := b) .. => b
  | e => e
def lamS : Expr → Scope
  | .Lambda (scope := s) .. => s
  | _ => ⟨.function, [], false, false, []⟩
def wl (k i : Nat) : Expr := (lstE (asgE ((defBody s_L_works).getD k (.Pass ⟨0, 0, 0, 0⟩)))).getD i (.Constant .none 0 ⟨0, 0, 0, 0⟩)
section
open PySem.W NdefX LamX
abbrev lfn (x : Expr) (q : Str) (cl : List (Str × Addr)) (c' : Addr) : NF := ⟨"<lambda>", q, lamA x, [], lamS x, cl, c'⟩
theorem cells_w (n : Nat) : cellsFrom n (defScope s_L_works).names [] = [(("_law_end_here" : Str), n + 3), (("_law_begin" : Str), n + 2), (("_law_mark" : Str), n + 1), (("_law_rule_here" : Str), n)] := by kernel_rfl
abbrev cell4 (n : Nat) : List (Str × Addr) := [(("_law_end_here" : Str), n + 3), (("_law_begin" : Str), n + 2), (("_law_mark" : Str), n + 1), (("_law_rule_here" : Str), n)]
theorem clo0 (n : Nat) : cloFrom (cell4 n) (lamS (wl 0 0)).names [] = [(("_law_rule_here" : Str), n), (("_law_mark" : Str), n + 1), (("_law_end_here" : Str), n + 3), (("_law_begin" : Str), n + 2)] := by kernel_rfl
theorem clo1 (n : Nat) : cloFrom (cell4 n) (lamS (wl 0 1)).names [] = [(("_law_rule_here" : Str), n), (("_law_mark" : Str), n + 1), (("_law_begin" : Str), n + 2)] := by kernel_rfl
theorem clo2 (n : Nat) : cloFrom (cell4 n) (lamS (wl 1 0)).names [] = [(("_law_rule_here" : Str), n)] := by kernel_rfl
theorem clo3 (n : Nat) : cloFrom (cell4 n) (lamS (wl 1 1)).names [] = [(("_law_rule_here" : Str), n)] := by kernel_rfl
theorem clo4 (n : Nat) : cloFrom (cell4 n) (lamS (wl 1 2)).names [] = [(("_law_rule_here" : Str), n), (("_law_mark" : Str), n + 1)] := by kernel_rfl
section
variable {P : Program} {w : World} {K : PySem.W.Frag} {mg : Str → Option Value} {base : Heap} {q : Str} {cl : List (Str × Addr)} {c' : Addr}
theorem lam0 {spA : Sp} (C : ClR P w K mg base 7 "aged" spA) : LamOk P w K mg base ["_law_rule_here", "_law_mark", "_law_begin", "_law_end_here"] [] ["_law_rule_here", "_law_mark", "_law_begin", "_law_end_here"] (lfn (wl 0 0) q cl c') (lamE (wl 0 0)) 7
    (fun ws H Q E => ∃ v1 v2 v3 v4 : V, ws = [some v1, some v2, some v3, some v4] ∧ spA [v1, v2, v3, v4] H Q E) := by
  refine ⟨nscope_by (show nscB _ _ _ (lamS (wl 0 0)) = true by decide +kernel), fun _ _ _ => by kernel_rfl, fun A outer s f H ws Q E hr h => ?_⟩
  obtain ⟨v1, v2, v3, v4, rfl, h⟩ := h
  exact ⟨_, pe_clr C (passes_call (takes_of rfl rfl rfl rfl) (fun _ _ _ _ h => h)) hr (pa_cons (pv 0) (pa_cons (pv 1) (pa_cons (pv 2) (pa_cons (pv 3) pa_nil)))), v1, rfl, v2, rfl, v3, rfl, v4, rfl, h⟩
theorem lam1 {spA : Sp} (C : ClR P w K mg base 7 "span" spA) : LamOk P w K mg base ["_law_a", "_law_rule_here", "_law_begin", "_law_mark"] ["_law_a"] ["_law_rule_here", "_law_begin", "_law_mark"] (lfn (wl 0 1) q cl c') (lamE (wl 0 1)) 7
    (fun ws H Q E => ∃ v1 v2 v3 : V, ws = [some v1, some v2, some v3] ∧ spA [v1, v2, v3] H Q E) := by
  refine ⟨nscope_by (show nscB _ _ _ (lamS (wl 0 1)) = true by decide +kernel), fun _ _ _ _ => ⟨_, rfl, fun _ => rfl⟩, fun A outer s f H ws Q E hr h => ?_⟩
  obtain ⟨v1, v2, v3, rfl, h⟩ := h
  exact ⟨_, pe_clr C (passes_call (takes_of rfl rfl rfl rfl) (fun _ _ _ _ h => h)) hr (pa_cons (pv 1) (pa_cons (pv 2) (pa_cons (pv 3) pa_nil))), v1, rfl, v2, rfl, v3, rfl, h⟩
theorem lam2 {spA : Sp} (C : ClR P w K mg base 7 "off" spA) : LamOk P w K mg base ["_law_rule_here"] [] ["_law_rule_here"] (lfn (wl 1 0) q cl c') (lamE (wl 1 0)) 7 (fun ws H Q E => ∃ v1 : V, ws = [some v1] ∧ spA [v1] H Q E) := by
  refine ⟨nscope_by (show nscB _ _ _ (lamS (wl 1 0)) = true by decide +kernel), fun _ _ _ => by kernel_rfl, fun A outer s f H ws Q E hr h => ?_⟩
  obtain ⟨v1, rfl, h⟩ := h
  exact ⟨_, pe_clr C (passes_call (takes_of rfl rfl rfl rfl) (fun _ _ _ _ h => h)) hr (pa_cons (pv 0) pa_nil), v1, rfl, h⟩
theorem lam3 {spA : Sp} (C : ClR P w K mg base 7 "reach" spA) : LamOk P w K mg base ["_law_a", "_law_rule_here"] ["_law_a"] ["_law_rule_here"] (lfn (wl 1 1) q cl c') (lamE (wl 1 1)) 7 (fun ws H Q E => ∃ v1 : V, ws = [some v1] ∧ spA [v1] H Q E) := by
  refine ⟨nscope_by (show nscB _ _ _ (lamS (wl 1 1)) = true by decide +kernel), fun _ _ _ _ => ⟨_, rfl, fun _ => rfl⟩, fun A outer s f H ws Q E hr h => ?_⟩
  obtain ⟨v1, rfl, h⟩ := h
  exact ⟨_, pe_clr C (passes_call (takes_of rfl rfl rfl rfl) (fun _ _ _ _ h => h)) hr (pa_cons (pv 1) pa_nil), v1, rfl, h⟩
/-- Board(..), its promise: the reading of a made thing -/
def spMk (C : Addr) (sp : Sp) : Sp := fun vs H Q E => ∀ x dx, H x = none → H dx = none → dx ≠ x → sp (.ref x :: vs) (upd (upd H dx (.own x)) x (.ins C dx [])) (fun v H2 => v = .non ∧ Q (.ref x) H2) E
theorem lam4 {C fI : Addr} {fdI : FuncData} {spA : Sp} (M : Mk K C fI) (GI : FnOk P w K mg base (L2.CX P w) 3 fI fdI ["self", "rule", "things"] spA) (gB : mg "Board" = some (.ref C)) (bI : L2.Binds K fdI ["self", "rule", "things"] []) :
    LamOk P w K mg base ["_law_b", "_law_rule_here", "_law_mark"] ["_law_b"] ["_law_rule_here", "_law_mark"] (lfn (wl 1 2) q cl c') (lamE (wl 1 2)) 7 (fun ws H Q E => ∃ v1 v2 : V, ws = [some v1, some v2] ∧ spMk C spA [v1, v2] H Q E) := by
  refine ⟨nscope_by (show nscB _ _ _ (lamS (wl 1 2)) = true by decide +kernel), fun _ _ _ _ => ⟨_, rfl, fun _ => rfl⟩, fun A outer s f H ws Q E hr h => ?_⟩
  obtain ⟨v1, v2, rfl, h⟩ := h
  have hr4 : Room 4 (A.deeper (envF (lfn (wl 1 2) q cl c') f s.heap.objs.size)) := hr.mono (by decide)
  exact ⟨_, pe_make M GI hr4 (by rfl) gB bI .nil (passes_call (takes_of rfl rfl rfl rfl) (fun _ _ _ _ h => h)) (pa_cons (pv 1) (pa_cons (pv 2) pa_nil)), v1, rfl, v2, rfl, fun x dx h1 h2 h3 => h x dx h1 h2 h3⟩
end
end
/-! ### `_law_works` -/
section
open PySem.W NdefX LamX
theorem un_trk {fs : List Addr} {H0 H : Hp} {h0 h : Heap} {b : Addr} {o : HO} (u : Un fs [] H0 H h0 h) (hb : h0.objs.size ≤ b) (hn : H b = none) : Un fs [] H0 (upd H b o) h0 h where
  keep := u.keep
  slot := u.slot
  free := fun c ob q n hx => by
    rw [upd_ne (Nat.ne_of_lt (Nat.lt_of_lt_of_le (Heap.lt_size q) hb))]
    exact u.free c ob q n hx
  there := u.there
  tups := fun c xs q => same_upd hn _ _ (u.tups c xs q)
  frzs := fun c o xs q => same_upd hn _ _ (u.frzs c o xs q)
  tbls := fun c ps q => by
    obtain ⟨more, e⟩ := u.tbls c ps q
    exact ⟨more, same_upd hn _ _ e⟩
theorem hok_trk {P : Program} {w : World} {H : Hp} {h : Heap} {b : Addr} {v : V} {u : Value} (ok : HOk P w H h) (hn : H b = none) (r : RelV v u) (hc : h.IsCell b (some u)) : HOk P w (upd H b (CellO b v)) h := fun a o e => by
  by_cases hb : a = b
  · rw [hb, upd_same] at e
    cases e
    rw [hb]
    obtain ⟨oc, ho, hd⟩ := hc
    exact ⟨⟨u, r, oc, ho, hd⟩, ⟨oc, ho⟩, fun h1 h2 ⟨u1, r1, o1, a1, a2⟩ st => ⟨u1, r1, o1, st _ a1, a2⟩⟩
  · rw [upd_ne hb] at e
    exact (ok a o e).stay (fun _ _ _ q => q) (fun c q => same_upd hn _ _ q) fun c xs q => same_upd hn _ _ q
theorem nodup_lookup {cl : List (Str × Addr)} (nd : (cl.map (·.1)).Nodup) : ∀ p ∈ cl, cl.lookup p.1 = some p.2 := by
  induction cl with
  | nil => intro p hp; cases hp
  | cons a r ih =>
    intro p hp
    rw [List.map_cons] at nd
    obtain ⟨n1, n2⟩ := List.nodup_cons.mp nd
    obtain ⟨ak, av⟩ := a
    rcases List.mem_cons.mp hp with rfl | hq
    · simp [List.lookup]
    · have hne : (p.1 == ak) = false := by
        cases z : (p.1 == ak) with
        | false => rfl
        | true => exact absurd (List.mem_map.mpr ⟨p, hq, eq_of_beq z⟩) n1
      simp only [List.lookup, hne]
      exact ih n2 p hq
theorem trC_of {H : Hp} {cl : List (Str × Addr)} {fr : List Str} (val : Str → V) (ks : List Str) (h : ∀ q ∈ cl, H q.2 = some (CellO q.2 (val q.1))) (hk : cl.map (·.1) = ks) (n1 : ks.Nodup) (n2 : (cl.map (·.2)).Nodup) (hfr : ∀ y ∈ fr, y ∈ ks) : TrC H cl fr (fr.map val) := by
  subst hk
  have sub := nodup_lookup n1
  refine ⟨by rw [List.length_map], fun y c e => ⟨_, h _ (PySem.mem_of_lookup e)⟩, fun x y c e1 e2 => ?_, fun i y v e1 e2 => ?_, sub⟩
  · have m1 := PySem.mem_of_lookup e1
    have m2 := PySem.mem_of_lookup e2
    obtain ⟨i, hi⟩ := List.mem_iff_getElem?.mp m1
    obtain ⟨j, hj⟩ := List.mem_iff_getElem?.mp m2
    have a1 : (cl.map (·.2))[i]? = some c := by rw [List.getElem?_map, hi]; rfl
    have a2 : (cl.map (·.2))[j]? = some c := by rw [List.getElem?_map, hj]; rfl
    have li : i < (cl.map (·.2)).length := (List.getElem?_eq_some_iff.mp a1).1
    have eij : i = j := List.getElem?_inj li n2 |>.mp (a1.trans a2.symm)
    rw [eij, hj] at hi
    exact (Prod.mk.inj (Option.some.inj hi)).1.symm
  · obtain ⟨p, hp, e⟩ := List.mem_map.mp (hfr y (List.mem_of_getElem? e1))
    have ev : v = val y := by
      rw [List.getElem?_map, e1] at e2
      exact (Option.some.inj e2).symm
    subst e
    exact ⟨p.2, sub p hp, by rw [ev]; exact h p hp⟩
theorem works_end {P : Program} {w : World} {fs : List Addr} {H0 H : Hp} {h0 h : Heap} {v1 v2 v3 v4 : V} {u1 u2 u3 u4 : Value} {G : Prop} (u : Un fs [] H0 H h0 h) (ok : HOk P w H h) (z1 : H (h0.objs.size + 1) = none) (z2 : H (h0.objs.size + 1 + 1) = none) (z3 : H (h0.objs.size + 1 + 2) = none) (z4 : H (h0.objs.size + 1 + 3) = none)
    (r1 : RelV v1 u1) (r2 : RelV v2 u2) (r3 : RelV v3 u3) (r4 : RelV v4 u4) (k1 : h.IsCell (h0.objs.size + 1) (some u1)) (k2 : h.IsCell (h0.objs.size + 1 + 1) (some u2)) (k3 : h.IsCell (h0.objs.size + 1 + 2) (some u3)) (k4 : h.IsCell (h0.objs.size + 1 + 3) (some u4))
    (g : ∀ H4 : Hp, Same H H4 → (∀ b, H4 b = Option.none → H b = Option.none) → H4 (h0.objs.size + 1) = some (CellO (h0.objs.size + 1) v1) → H4 (h0.objs.size + 1 + 1) = some (CellO (h0.objs.size + 1 + 1) v2) → H4 (h0.objs.size + 1 + 2) = some (CellO (h0.objs.size + 1 + 2) v3) → H4 (h0.objs.size + 1 + 3) = some (CellO (h0.objs.size + 1 + 3) v4) → Un fs [] H0 H4 h0 h → HOk P w H4 h → G) : G := by
  have d21 : h0.objs.size + 1 + 1 ≠ h0.objs.size + 1 := by omega
  have d31 : h0.objs.size + 1 + 2 ≠ h0.objs.size + 1 := by omega
  have d41 : h0.objs.size + 1 + 3 ≠ h0.objs.size + 1 := by omega
  have d32 : h0.objs.size + 1 + 2 ≠ h0.objs.size + 1 + 1 := by omega
  have d42 : h0.objs.size + 1 + 3 ≠ h0.objs.size + 1 + 1 := by omega
  have d43 : h0.objs.size + 1 + 3 ≠ h0.objs.size + 1 + 2 := by omega
  have y2 := (upd_ne (H := H) (o := CellO (h0.objs.size + 1) v1) d21).trans z2
  have y3 := (upd_ne (H := upd H (h0.objs.size + 1) (CellO (h0.objs.size + 1) v1)) (o := CellO (h0.objs.size + 1 + 1) v2) d32).trans ((upd_ne d31).trans z3)
  have y4 := (upd_ne (H := upd (upd H (h0.objs.size + 1) (CellO (h0.objs.size + 1) v1)) (h0.objs.size + 1 + 1) (CellO (h0.objs.size + 1 + 1) v2)) (o := CellO (h0.objs.size + 1 + 2) v3) d43).trans ((upd_ne d42).trans ((upd_ne d41).trans z4))
  have a1 := un_trk (o := CellO (h0.objs.size + 1) v1) u (show h0.objs.size ≤ h0.objs.size + 1 by omega) z1
  have a2 := un_trk (o := CellO (h0.objs.size + 1 + 1) v2) a1 (show h0.objs.size ≤ h0.objs.size + 1 + 1 by omega) y2
  have a3 := un_trk (o := CellO (h0.objs.size + 1 + 2) v3) a2 (show h0.objs.size ≤ h0.objs.size + 1 + 2 by omega) y3
  have a4 := un_trk (o := CellO (h0.objs.size + 1 + 3) v4) a3 (show h0.objs.size ≤ h0.objs.size + 1 + 3 by omega) y4
  have o4 := hok_trk (hok_trk (hok_trk (hok_trk ok z1 r1 k1) y2 r2 k2) y3 r3 k3) y4 r4 k4
  refine g _ (((same_upd z1).trans (same_upd y2)).trans ((same_upd y3).trans (same_upd y4))) (fun b e => upd_none (upd_none (upd_none (upd_none e)))) ?_ ?_ ?_ upd_same a4 o4
  · rw [upd_ne d41.symm, upd_ne d31.symm, upd_ne d21.symm, upd_same]
  · rw [upd_ne d42.symm, upd_ne d32.symm, upd_same]
  · rw [upd_ne d43.symm, upd_same]
/-- the lambda at f does R -/
def WorkAt (P : Program) (w : World) (K : Frag) (mg : Str → Option Value) (base : Heap) (H : Hp) (f : Addr) (R : Hp → VK → XK → Prop) : Prop :=
  ∃ (F : NF) (e : Expr) (N ps fr : List Str) (sp : LSp) (ws : List V), LamOk P w K mg base N ps fr F e 7 sp ∧ LamAt H f F e ps ∧ TrC H F.cl fr ws ∧ ∀ H1 Q E, R H1 Q E → sp (ws.map some) H1 Q E
theorem WorkAt.same {P : Program} {w : World} {K : Frag} {mg : Str → Option Value} {base : Heap} {H H' : Hp} {f : Addr} {R : Hp → VK → XK → Prop} (a : WorkAt P w K mg base H f R) (k : Same H H') : WorkAt P w K mg base H' f R := by
  obtain ⟨F, e, N, ps, fr, sp, ws, h1, h2, h3, h4⟩ := a
  exact ⟨F, e, N, ps, fr, sp, ws, h1, h2.ext (ExtN.of k), h3.ext (ExtN.of k), h4⟩
/-- a lambda as a value -/
def tLam3 (X : Cx) (T : List (Addr × Str)) (params : Arguments) (body : Expr) (scope : Scope) (ps : List Str) : TE := fun σ H Q =>
  Tabs T H ∧ ∀ f c' H1, ExtN H H1 → (∀ b, H1 b = Option.none → H b = Option.none) → Tabs T H1 → H f = none → LamAt H1 f (lamF X params scope c') body ps → Q (.ref f) H1
theorem pe_lam {X : Cx} {T : List (Addr × Str)} {c P : Addr} {params : Arguments} {body : Expr} {scope : Scope} {pos : Pos} {ps : List Str} (TB : TabB X.base X.mg c P) (hcode : X.env.code = .ref c) (hm : (P, X.env.qual ++ "<lambda>") ∈ T) (hu : ∀ p ∈ T, p.1 = P → p.2 = X.env.qual ++ "<lambda>")
    (hf : ndefB X.env.scope scope [] = true) (hd : DfltOk X params ps) : PE X (.Lambda params body scope pos) (tLam3 X T params body scope ps) := by
  refine ⟨fun pins s σ H Q I h => ?_⟩
  obtain ⟨hT, h⟩ := h
  have hf2 := ndef_free hf
  refine lam_make3 I TB hcode hm hu hT (fun y hy e => (hf2 y hy e).elim (fun z => I.ok.has _ (.inl z)) fun z => I.ok.has _ (.inr z)) hd fun f c' H1 s' I1 eN nn T1 f0 la => ?_
  exact ⟨.ref f, H1, I1, rfl, h f c' H1 eN nn T1 f0 la⟩
abbrev Nwk : List Str := ["_law_rule_here", "_law_mark", "_law_begin", "_law_end_here", "_law_works_here"]
theorem sc_works : FnScope Nwk ["_law_rule_here", "_law_mark", "_law_begin", "_law_end_here"] (defScope s_L_works) := ⟨rfl, rfl, rfl, by decide +kernel, rfl, by decide +kernel, by decide +kernel⟩
abbrev qW : Str := ("_law_works" : Str) ++ ".<locals>." ++ "<lambda>"
/-- the five that it tells; spA .. what aged, span, off, reach, Board's __init__ promise -/
def spWorks (P : Program) (w : World) (K : Frag) (mg : Str → Option Value) (base : Heap) (T : List (Addr × Str)) (C : Addr) (spA spS spO spR spI : Sp) : Sp := fun vs H Q _ =>
  ∃ (v1 v2 v3 v4 : V), vs = [v1, v2, v3, v4] ∧ Tabs T H ∧ ∀ (l f0 f1 f2 f3 f4 : Addr) (H' : Hp), ExtN H H' → (∀ b, H' b = Option.none → H b = Option.none) → Tabs T H' → H' l = some (.lst [.ref f0, .ref f1, .ref f2, .ref f3, .ref f4]) →
    WorkAt P w K mg base H' f0 (fun H Q E => spA [v1, v2, v3, v4] H Q E) → WorkAt P w K mg base H' f1 (fun H Q E => spS [v1, v3, v2] H Q E) → WorkAt P w K mg base H' f2 (fun H Q E => spO [v1] H Q E) → WorkAt P w K mg base H' f3 (fun H Q E => spR [v1] H Q E) →
    WorkAt P w K mg base H' f4 (fun H Q E => spMk C spI [v1, v2] H Q E) → Q (.ref l) H'
section
variable {P : Program} {w : World} {K : Frag} {mg : Str → Option Value} {base : Heap}
theorem ok_works {f cW PW C fI : Addr} {fdI : FuncData} {kV doc pm ct oc : Value} {an od : Option Addr} {osl : Array (Option Value)} {T : List (Addr × Str)} {spA spS spO spR spI : Sp}
    (lk : K.lookup f = some ⟨oc, od, .func (PySem.W.fnOf "_law_works" "_law_works" (defArgs s_L_works) (defBody s_L_works) (defScope s_L_works) .none kV doc pm an (.ref cW) ct), osl⟩) (hcd : PySem.W.codeIn K (.ref cW) "_law_works" = true) (TB : TabB base mg cW PW) (mT : (PW, qW) ∈ T) (tT : ∀ p ∈ T, p.1 = PW → p.2 = qW)
    (CA : ClR P w K mg base 7 "aged" spA) (CS : ClR P w K mg base 7 "span" spS) (CO : ClR P w K mg base 7 "off" spO) (CR' : ClR P w K mg base 7 "reach" spR) (M : Mk K C fI) (GI : FnOk P w K mg base (L2.CX P w) 3 fI fdI ["self", "rule", "things"] spI) (gB : mg "Board" = some (.ref C)) (bI : L2.Binds K fdI ["self", "rule", "things"] []) :
    FnOk P w K mg base CX0 1 f (PySem.W.fnOf "_law_works" "_law_works" (defArgs s_L_works) (defBody s_L_works) (defScope s_L_works) .none kV doc pm an (.ref cW) ct) ["_law_rule_here", "_law_mark", "_law_begin", "_law_end_here"] (spWorks P w K mg base T C spA spS spO spR spI) := by
  refine ⟨fun vs H Q E h => by obtain ⟨v1, v2, v3, v4, rfl, _⟩ := h; rfl, fun A outer s H args us vs Q E hr e0 hb r hsp => ?_⟩
  obtain ⟨v1, v2, v3, v4, rfl, hT, q⟩ := hsp
  have KX : K.In s.heap := e0.mod.kin.keeps fun b o e => (e0.bs b o e).1
  have lim : s.heap.NoLimit := e0.mod.nolimit.keeps fun b o e => (e0.bs b o e).1
  have S := sc_works
  have hkind : ∀ y ∈ (["_law_rule_here", "_law_mark", "_law_begin", "_law_end_here"] : List Str).zip us, (defScope s_L_works).names.lookup y.1 = some .local ∨ ((defScope s_L_works).names.lookup y.1 = some .cell ∧ ((cellsFrom (s.heap.objs.size + 1) (defScope s_L_works).names []).lookup y.1).isSome = true) := fun ⟨n, v⟩ hy => by
    rcases S.par n (List.of_mem_zip hy).1 with q | q
    · exact .inl q
    · exact .inr ⟨q, PySem.W.cellsFrom_some _ _ _ (.inl q)⟩
  refine codeAny_call_function hr.depth (KX _ _ lk) rfl S.co S.gen rfl (codeRec_of KX hcd) (hb _ _ _ _ ?_)
  refine wpAny_newFunctionEnv_cells S.kind hkind fun env he s1 x => ?_
  subst he
  refine ⟨lim.keeps x.toInCall.keep, codeAny_func ?_⟩
  have I := inv_start (CX := CX0) (E := E) (f := f) (qual := "_law_works") (cd := .ref cW) (K := K) (mg := mg) (base := base) S hr.hd e0 rfl r x
  have lf : ∀ (x : Expr) (ps : List Str) (pos : Pos), ndefB (defScope s_L_works) (lamS x) [] = true → DfltOk (cxOf CX0 P w K mg base Nwk "_law_works" (defScope s_L_works) f (.ref cW) A outer s H E) (lamA x) ps →
      PE (cxOf CX0 P w K mg base Nwk "_law_works" (defScope s_L_works) f (.ref cW) A outer s H E) (.Lambda (lamA x) (lamE x) (lamS x) pos) (tLam3 (cxOf CX0 P w K mg base Nwk "_law_works" (defScope s_L_works) f (.ref cW) A outer s H E) T (lamA x) (lamE x) (lamS x) ps) := fun x ps pos h1 h2 => pe_lam TB rfl mT tT h1 h2
  refine' wpAny_execs_cons (thn (PS.run (X := cxOf CX0 P w K mg base Nwk "_law_works" (defScope s_L_works) f (.ref cW) A outer s H E) (t := _) ?P1 [] s1 _ H { rt := (fun _ _ => False), nx := fun σ1 H1 => ∃ lw f0 c0 f1 c1, σ1 = [some v1, some v2, some v3, some v4, some (.ref lw)] ∧ H1 lw = some (.lst [.ref f0, .ref f1]) ∧ ExtN H H1 ∧ (∀ b, H1 b = Option.none → H b = Option.none) ∧ Tabs T H1 ∧ LamAt H1 f0 (lfn (wl 0 0) qW (cloFrom (cellsFrom (s.heap.objs.size + 1) (defScope s_L_works).names []) (lamS (wl 0 0)).names []) c0) (lamE (wl 0 0)) [] ∧ LamAt H1 f1 (lfn (wl 0 1) qW (cloFrom (cellsFrom (s.heap.objs.size + 1) (defScope s_L_works).names []) (lamS (wl 0 1)).names []) c1) (lamE (wl 0 1)) ["_law_a"] } I ?h1) ?k1)
  case P1 => exact ps_set (i := 4) S.nd rfl (Or.inl rfl) (pe_lst (pa_cons (lf (wl 0 0) [] _ (by decide +kernel) (.inl ⟨rfl, rfl⟩)) (pa_cons (lf (wl 0 1) ["_law_a"] _ (by decide +kernel) (.inr ⟨_, _, _, rfl, rfl, rfl⟩)) pa_nil)))
  case h1 =>
    refine ⟨hT, fun f0 c0 H1 e1 n1 T1 z1 la0 => ⟨T1, fun f1 c1 H2 e2 n2 T2 z2 la1 => ⟨(by show 2 ≤ sizeLine; decide), fun lw nl => ?_⟩⟩⟩
    have sl := same_upd (o := .lst [V.ref f0, V.ref f1]) nl
    exact ⟨lw, f0, c0, f1, c1, rfl, upd_same, (e1.trans e2).trans (ExtN.of sl), fun b z => n1 b (n2 b (upd_none z)), T2.ext sl, (la0.ext e2).ext (ExtN.of sl), la1.ext (ExtN.of sl)⟩
  case k1 =>
    intro fl s2 q1
    cases fl with
    | ret u =>
      obtain ⟨_, _, _, _, _, z⟩ := q1
      exact z.elim
    | brk =>
      obtain ⟨_, _, _, z⟩ := q1
      exact z.elim
    | cont =>
      obtain ⟨_, _, _, z⟩ := q1
      exact z.elim
    | next =>
      obtain ⟨σ1, H1, I1, lw, f0, c0, f1, c1, rfl, hlw, e1, n1, T1, la0, la1⟩ := q1
      refine' wpAny_execs_cons (wpAny_Return_some (thn (PE.run (X := (cxOf CX0 P w K mg base Nwk "_law_works" (defScope s_L_works) f (.ref cW) A outer s H E)) (t := _) ?P2 [] s2 _ H1 (fun v H3 => ∃ l f0 c0 f1 c1 f2 c2 f3 c3 f4 c4, v = V.ref l ∧ H3 l = some (.lst [.ref f0, .ref f1, .ref f2, .ref f3, .ref f4]) ∧ ExtN H H3 ∧ (∀ b, H3 b = Option.none → H b = Option.none) ∧ Tabs T H3 ∧ LamAt H3 f0 (lfn (wl 0 0) qW (cloFrom (cellsFrom (s.heap.objs.size + 1) (defScope s_L_works).names []) (lamS (wl 0 0)).names []) c0) (lamE (wl 0 0)) [] ∧ LamAt H3 f1 (lfn (wl 0 1) qW (cloFrom (cellsFrom (s.heap.objs.size + 1) (defScope s_L_works).names []) (lamS (wl 0 1)).names []) c1) (lamE (wl 0 1)) ["_law_a"] ∧ LamAt H3 f2 (lfn (wl 1 0) qW (cloFrom (cellsFrom (s.heap.objs.size + 1) (defScope s_L_works).names []) (lamS (wl 1 0)).names []) c2) (lamE (wl 1 0)) [] ∧ LamAt H3 f3 (lfn (wl 1 1) qW (cloFrom (cellsFrom (s.heap.objs.size + 1) (defScope s_L_works).names []) (lamS (wl 1 1)).names []) c3) (lamE (wl 1 1)) ["_law_a"] ∧ LamAt H3 f4 (lfn (wl 1 2) qW (cloFrom (cellsFrom (s.heap.objs.size + 1) (defScope s_L_works).names []) (lamS (wl 1 2)).names []) c4) (lamE (wl 1 2)) ["_law_b"]) I1 ?h2) ?k2))
      case P2 => exact pe_op op_cat (pv 4) (pe_lst (pa_cons (lf (wl 1 0) [] _ (by decide +kernel) (.inl ⟨rfl, rfl⟩)) (pa_cons (lf (wl 1 1) ["_law_a"] _ (by decide +kernel) (.inr ⟨_, _, _, rfl, rfl, rfl⟩)) (pa_cons (lf (wl 1 2) ["_law_b"] _ (by decide +kernel) (.inr ⟨_, _, _, rfl, rfl, rfl⟩)) pa_nil))))
      case h2 =>
        refine ⟨_, rfl, T1, fun f2 c2 H2 e2 n2 T2 z2 la2 => ⟨T2, fun f3 c3 H3 e3 n3 T3 z3 la3 => ⟨T3, fun f4 c4 H4 e4 n4 T4 z4 la4 => ⟨(by show 3 ≤ sizeLine; decide), fun l2 nl2 => ?_⟩⟩⟩⟩
        have sl := same_upd (o := .lst [V.ref f2, V.ref f3, V.ref f4]) nl2
        have ee := (e2.trans e3).trans e4
        have hl1 := sl _ _ (ee _ _ hlw (fun _ z => nomatch z))
        refine ⟨lw, l2, _, _, rfl, rfl, hl1, upd_same, (by show 2 + 3 ≤ sizeLine; decide), fun l3 nl3 => ?_⟩
        have s3 := same_upd (o := .lst ([V.ref f0, V.ref f1] ++ [V.ref f2, V.ref f3, V.ref f4])) nl3
        have ss := ExtN.of (sl.trans s3)
        exact ⟨l3, f0, c0, f1, c1, f2, c2, f3, c3, f4, c4, rfl, upd_same, (e1.trans ee).trans ss, fun b z => n1 b (n2 b (n3 b (n4 b (upd_none (upd_none z))))), T4.ext (sl.trans s3), (la0.ext ee).ext ss, (la1.ext ee).ext ss, ((la2.ext e3).ext e4).ext ss, (la3.ext e4).ext ss, la4.ext ss⟩
      case k2 =>
        intro u s3 hh
        obtain ⟨v, H3, I3, rv, l, f0, c0, f1, c1, f2, c2, f3, c3, f4, c4, rfl, hl, eH, nn, T3, la0, la1, la2, la3, la4⟩ := hh
        have look : ∀ (i : Nat) (y : Str) (v : V) (c : Addr), Nwk[i]? = some y → ([some v1, some v2, some v3, some v4, some (V.ref lw)] : List (Option V))[i]? = some (some v) → (defScope s_L_works).names.lookup y = some .cell → (cell4 (s.heap.objs.size + 1)).lookup y = some c → H3 c = none ∧ ∃ u, RelV v u ∧ s3.heap.IsCell c (some u) := fun i y v c h1 h2 h3 h4 => by
          have h4 : (cellsFrom (s.heap.objs.size + 1) (defScope s_L_works).names []).lookup y = some c := by
            rw [cells_w]
            exact h4
          refine ⟨I3.freeC y c h4, ?_⟩
          obtain ⟨m, _, hl⟩ := I3.loc
          obtain ⟨u, ru, lk⟩ := hl i y v h1 h2 (.inr (.inl h3))
          rcases lk with ⟨z, _⟩ | ⟨_, c', h5, h6⟩
          · have z' : (defScope s_L_works).names.lookup y = some .local := z
            rw [h3] at z'
            cases z'
          · have e : c' = c := Option.some.inj (h5.symm.trans h4)
            rw [← e]
            exact ⟨u, ru, h6⟩
        obtain ⟨z1, u1, r1, k1⟩ := look 0 "_law_rule_here" v1 (s.heap.objs.size + 1) rfl rfl (by decide +kernel) (by kernel_rfl)
        obtain ⟨z2, u2, r2, k2⟩ := look 1 "_law_mark" v2 (s.heap.objs.size + 1 + 1) rfl rfl (by decide +kernel) (by kernel_rfl)
        obtain ⟨z3, u3, r3, k3⟩ := look 2 "_law_begin" v3 (s.heap.objs.size + 1 + 2) rfl rfl (by decide +kernel) (by kernel_rfl)
        obtain ⟨z4, u4, r4, k4⟩ := look 3 "_law_end_here" v4 (s.heap.objs.size + 1 + 3) rfl rfl (by decide +kernel) (by kernel_rfl)
        exact works_end I3.base I3.hok z1 z2 z3 z4 r1 r2 r3 r4 k1 k2 k3 k4 fun H4 sm n4 x1 x2 x3 x4 un ok => by
          refine ⟨.ref l, H4, I3.os, I3.bare, un, ok, rv, ?_⟩
          let val : Str → V := fun y => (([("_law_rule_here", v1), ("_law_mark", v2), ("_law_begin", v3), ("_law_end_here", v4)] : List (Str × V)).lookup y).getD .non
          have b1 : val "_law_rule_here" = v1 := by kernel_rfl
          have b2 : val "_law_mark" = v2 := by kernel_rfl
          have b3 : val "_law_begin" = v3 := by kernel_rfl
          have b4 : val "_law_end_here" = v4 := by kernel_rfl
          have W0 : TrC H4 (cloFrom (cellsFrom (s.heap.objs.size + 1) (defScope s_L_works).names []) (lamS (wl 0 0)).names []) ["_law_rule_here", "_law_mark", "_law_begin", "_law_end_here"] ((["_law_rule_here", "_law_mark", "_law_begin", "_law_end_here"] : List Str).map val) := by
            rw [cells_w, clo0]
            refine trC_of val ["_law_rule_here", "_law_mark", "_law_end_here", "_law_begin"] (fun q hq => ?_) rfl (by decide +kernel) (by simp) (by decide +kernel)
            simp only [List.mem_cons, List.not_mem_nil, or_false] at hq
            rcases hq with rfl | rfl | rfl | rfl
            · rw [show val _ = _ from b1]; exact x1
            · rw [show val _ = _ from b2]; exact x2
            · rw [show val _ = _ from b4]; exact x4
            · rw [show val _ = _ from b3]; exact x3
          have W1 : TrC H4 (cloFrom (cellsFrom (s.heap.objs.size + 1) (defScope s_L_works).names []) (lamS (wl 0 1)).names []) ["_law_rule_here", "_law_begin", "_law_mark"] ((["_law_rule_here", "_law_begin", "_law_mark"] : List Str).map val) := by
            rw [cells_w, clo1]
            refine trC_of val ["_law_rule_here", "_law_mark", "_law_begin"] (fun q hq => ?_) rfl (by decide +kernel) (by simp) (by decide +kernel)
            simp only [List.mem_cons, List.not_mem_nil, or_false] at hq
            rcases hq with rfl | rfl | rfl
            · rw [show val _ = _ from b1]; exact x1
            · rw [show val _ = _ from b2]; exact x2
            · rw [show val _ = _ from b3]; exact x3
          have W2 : TrC H4 (cloFrom (cellsFrom (s.heap.objs.size + 1) (defScope s_L_works).names []) (lamS (wl 1 0)).names []) ["_law_rule_here"] ((["_law_rule_here"] : List Str).map val) := by
            rw [cells_w, clo2]
            refine trC_of val ["_law_rule_here"] (fun q hq => ?_) rfl (by decide +kernel) (by simp) (by decide +kernel)
            simp only [List.mem_cons, List.not_mem_nil, or_false] at hq
            subst hq
            rw [show val _ = _ from b1]; exact x1
          have W3 : TrC H4 (cloFrom (cellsFrom (s.heap.objs.size + 1) (defScope s_L_works).names []) (lamS (wl 1 1)).names []) ["_law_rule_here"] ((["_law_rule_here"] : List Str).map val) := by
            rw [cells_w, clo3]
            refine trC_of val ["_law_rule_here"] (fun q hq => ?_) rfl (by decide +kernel) (by simp) (by decide +kernel)
            simp only [List.mem_cons, List.not_mem_nil, or_false] at hq
            subst hq
            rw [show val _ = _ from b1]; exact x1
          have W4 : TrC H4 (cloFrom (cellsFrom (s.heap.objs.size + 1) (defScope s_L_works).names []) (lamS (wl 1 2)).names []) ["_law_rule_here", "_law_mark"] ((["_law_rule_here", "_law_mark"] : List Str).map val) := by
            rw [cells_w, clo4]
            refine trC_of val ["_law_rule_here", "_law_mark"] (fun q hq => ?_) rfl (by decide +kernel) (by simp) (by decide +kernel)
            simp only [List.mem_cons, List.not_mem_nil, or_false] at hq
            rcases hq with rfl | rfl
            · rw [show val _ = _ from b1]; exact x1
            · rw [show val _ = _ from b2]; exact x2
          exact q l f0 f1 f2 f3 f4 H4 (eH.trans (ExtN.of sm)) (fun b z => nn b (n4 b z)) (T3.ext sm) (sm _ _ hl)
            ⟨_, _, _, _, _, _, _, lam0 CA, la0.ext (ExtN.of sm), W0, fun _ _ _ h => ⟨v1, v2, v3, v4, by kernel_rfl, h⟩⟩
            ⟨_, _, _, _, _, _, _, lam1 CS, la1.ext (ExtN.of sm), W1, fun _ _ _ h => ⟨v1, v3, v2, by kernel_rfl, h⟩⟩
            ⟨_, _, _, _, _, _, _, lam2 CO, la2.ext (ExtN.of sm), W2, fun _ _ _ h => ⟨v1, by kernel_rfl, h⟩⟩
            ⟨_, _, _, _, _, _, _, lam3 CR', la3.ext (ExtN.of sm), W3, fun _ _ _ h => ⟨v1, by kernel_rfl, h⟩⟩
            ⟨_, _, _, _, _, _, _, lam4 M GI gB bI, la4.ext (ExtN.of sm), W4, fun _ _ _ h => ⟨v1, v2, by kernel_rfl, h⟩⟩
end
end
/-! ### `_law_odd`: rules that are none -/
theorem cat_same {K : PySem.W.Frag} {H : Hp} {a b : Addr} {xs ys : List V} {Q : VK} (ha : H a = some (.tup xs)) (hb : H b = some (.tup ys)) (ne : xs ≠ []) (hl : xs.length + ys.length ≤ 20) (q : ∀ p H', Same H H' → H' p = some (.tup (xs ++ ys)) → Q (.ref p) H') : rCatT K (.ref a) (.ref b) H Q :=
  ⟨a, b, xs, ys, rfl, rfl, SqT.of ha, SqT.of hb, ne, Nat.le_trans hl (by decide), fun e => q a H (Same.refl _) (by rw [e, List.append_nil]; exact ha), fun _ p np => q p _ (same_upd np) upd_same⟩
theorem cut_same {K : PySem.W.Frag} {H : Hp} {a : Addr} {xs : List V} {lo hi : Option Int} {Q : VK} (ha : H a = some (.tup xs)) (nw : ¬ (HT.sIx xs.length 0 lo = 0 ∧ HT.sIx xs.length xs.length hi = xs.length)) (q : ∀ u H', Same H H' → H' u = some (.tup (cutV xs lo hi)) → Q (.ref u) H') : rSlT K (.ref a) lo hi H Q :=
  ⟨a, xs, rfl, SqT.of ha, nw, fun p np => q p _ (same_upd np) upd_same⟩
theorem tup_same {H : Hp} {xs : List V} {Q : VK} (hl : xs.length ≤ 20) (q : ∀ t H', Same H H' → H' t = some (.tup xs) → Q (.ref t) H') : xs.length ≤ sizeLine ∧ ∀ p, H p = none → Q (.ref p) (upd H p (.tup xs)) :=
  ⟨Nat.le_trans hl (by decide), fun p np => q p _ (same_upd np) upd_same⟩
def Ru.far7 : Ru → Int
  | .cnt _ _ => 7
  | .shf _ _ => 11
  | .rgh _ => 4
def oddT (R : Ru) (far : Nat) : List (Str × List Int) := [(R.kind, 0 :: R.nums.drop 1), (R.kind, (R.far7 + (far : Int)) :: R.nums.drop 1), (R.kind, (-1 - (far : Int)) :: R.nums.drop 1), (R.kind, R.nums ++ [1]), (R.kind, R.nums.dropLast), ("Count", R.nums), ("", R.nums), ("counts", [3, 3]), ("count", [3]), ("rough", [2, 1]), ("shift", [3, 0]), ("count", [3, 21 + (far : Int)]), ("shift", [3, -1 - (far : Int)]), ("rough", [])]
theorem isR_c (is : List Int) : isRuleL "count" is = (decide (is.length = 2) && (List.zipWith inL is [6, 20]).all id) := by
  unfold isRuleL
  rw [show limL "count" = some [6, 20] by decide +kernel]
  rfl
theorem isR_s (is : List Int) : isRuleL "shift" is = (decide (is.length = 2) && (List.zipWith inL is [10, 20]).all id) := by
  unfold isRuleL
  rw [show limL "shift" = some [10, 20] by decide +kernel]
  rfl
theorem isR_r (is : List Int) : isRuleL "rough" is = (decide (is.length = 1) && (List.zipWith inL is [3]).all id) := by
  unfold isRuleL
  rw [show limL "rough" = some [3] by decide +kernel]
  rfl
theorem isR_n {k : Str} (is : List Int) (h : limL k = none) : isRuleL k is = false := by
  unfold isRuleL
  rw [h]
theorem R_len (R : Ru) : 1 ≤ R.nums.length ∧ R.nums.length ≤ 2 := by
  cases R
  · exact ⟨by show 1 ≤ 2; decide, by show 2 ≤ 2; decide⟩
  · exact ⟨by show 1 ≤ 2; decide, by show 2 ≤ 2; decide⟩
  · exact ⟨by show 1 ≤ 1; decide, by show 1 ≤ 2; decide⟩
theorem kind_ok (R : Ru) : kindOk R.kind := by
  cases R
  · exact .inl rfl
  · exact .inr (.inl rfl)
  · exact .inr (.inr (.inl rfl))
theorem first_no (R : Ru) (x : Int) (h : ¬ (1 ≤ x ∧ x < R.far7)) : isRuleL R.kind (x :: R.nums.drop 1) = false := by
  cases R with
  | cnt b s =>
    show isRuleL "count" [x, (s : Int)] = false
    rw [isR_c]
    have h : ¬ (1 ≤ x ∧ x < 7) := h
    simp only [List.length_cons, List.length_nil, List.zipWith_cons_cons, List.zipWith_nil_left, List.all_cons, List.all_nil, id, inL, Bool.and_true]
    have : (decide (1 ≤ x) && decide (x ≤ 6)) = false := by
      rw [Bool.and_eq_false_iff]
      simp only [decide_eq_false_iff_not]
      omega
    rw [this, Bool.false_and, Bool.and_false]
  | shf b s =>
    show isRuleL "shift" [x, (s : Int)] = false
    rw [isR_s]
    have h : ¬ (1 ≤ x ∧ x < 11) := h
    simp only [List.length_cons, List.length_nil, List.zipWith_cons_cons, List.zipWith_nil_left, List.all_cons, List.all_nil, id, inL, Bool.and_true]
    have : (decide (1 ≤ x) && decide (x ≤ 10)) = false := by
      rw [Bool.and_eq_false_iff]
      simp only [decide_eq_false_iff_not]
      omega
    rw [this, Bool.false_and, Bool.and_false]
  | rgh b =>
    show isRuleL "rough" [x] = false
    rw [isR_r]
    have h : ¬ (1 ≤ x ∧ x < 4) := h
    simp only [List.length_cons, List.length_nil, List.zipWith_cons_cons, List.zipWith_nil_left, List.all_cons, List.all_nil, id, inL, Bool.and_true]
    have : (decide (1 ≤ x) && decide (x ≤ 3)) = false := by
      rw [Bool.and_eq_false_iff]
      simp only [decide_eq_false_iff_not]
      omega
    rw [this, Bool.and_false]
theorem len_no (R : Ru) (is : List Int) (h : ¬ is.length = R.nums.length) : isRuleL R.kind is = false := by
  cases R with
  | cnt b s =>
    show isRuleL "count" is = false
    rw [isR_c, decide_eq_false (show ¬ is.length = 2 from h), Bool.false_and]
  | shf b s =>
    show isRuleL "shift" is = false
    rw [isR_s, decide_eq_false (show ¬ is.length = 2 from h), Bool.false_and]
  | rgh b =>
    show isRuleL "rough" is = false
    rw [isR_r, decide_eq_false (show ¬ is.length = 1 from h), Bool.false_and]
theorem odd_bad {R : Ru} {far : Nat} {x : Str × List Int} (h : x ∈ oddT R far) : kindOk x.1 ∧ x.2.length ≤ 10 ∧ isRuleL x.1 x.2 = false := by
  obtain ⟨l1, l2⟩ := R_len R
  have f7 : 4 ≤ R.far7 := by
    cases R
    · show (4 : Int) ≤ 7; decide
    · show (4 : Int) ≤ 11; decide
    · show (4 : Int) ≤ 4; decide
  unfold oddT at h
  simp only [List.mem_cons, List.not_mem_nil, or_false] at h
  rcases h with rfl | rfl | rfl | rfl | rfl | rfl | rfl | rfl | rfl | rfl | rfl | rfl | rfl | rfl
  · exact ⟨kind_ok R, by simp only [List.length_cons, List.length_drop]; omega, first_no R 0 (by omega)⟩
  · exact ⟨kind_ok R, by simp only [List.length_cons, List.length_drop]; omega, first_no R _ (by omega)⟩
  · exact ⟨kind_ok R, by simp only [List.length_cons, List.length_drop]; omega, first_no R _ (by omega)⟩
  · exact ⟨kind_ok R, by simp only [List.length_append, List.length_cons, List.length_nil]; omega, len_no R _ (by simp only [List.length_append, List.length_cons, List.length_nil]; omega)⟩
  · exact ⟨kind_ok R, by simp only [List.length_dropLast]; omega, len_no R _ (by simp only [List.length_dropLast]; omega)⟩
  · exact ⟨.inr (.inr (.inr (.inl rfl))), by show R.nums.length ≤ 10; omega, isR_n _ (show limL "Count" = none by decide +kernel)⟩
  · exact ⟨.inr (.inr (.inr (.inr (.inl rfl)))), by show R.nums.length ≤ 10; omega, isR_n _ (show limL "" = none by decide +kernel)⟩
  · exact ⟨.inr (.inr (.inr (.inr (.inr rfl)))), by show 2 ≤ 10; decide, isR_n _ (by decide +kernel)⟩
  · exact ⟨.inl rfl, by show 1 ≤ 10; decide, by rw [isR_c]; rfl⟩
  · exact ⟨.inr (.inr (.inl rfl)), by show 2 ≤ 10; decide, by rw [isR_r]; rfl⟩
  · exact ⟨.inr (.inl rfl), by show 2 ≤ 10; decide, by rw [isR_s]; rfl⟩
  · refine ⟨.inl rfl, by show 2 ≤ 10; decide, ?_⟩
    show isRuleL "count" [3, 21 + (far : Int)] = false
    rw [isR_c]
    simp only [List.zipWith_cons_cons, List.zipWith_nil_left, List.all_cons, List.all_nil, id, inL, Bool.and_true, decide_eq_false (show ¬ 21 + (far : Int) ≤ 20 by omega), Bool.and_false]
  · refine ⟨.inr (.inl rfl), by show 2 ≤ 10; decide, ?_⟩
    show isRuleL "shift" [3, -1 - (far : Int)] = false
    rw [isR_s]
    simp only [List.zipWith_cons_cons, List.zipWith_nil_left, List.all_cons, List.all_nil, id, inL, Bool.and_true, decide_eq_false (show ¬ (1 : Int) ≤ -1 - (far : Int) by omega), Bool.false_and, Bool.and_false]
  · exact ⟨.inr (.inr (.inl rfl)), by show 0 ≤ 10; decide, by rw [isR_r]; rfl⟩
def kvsO : List (Key × V) := [(.inr "count", .int 7), (.inr "shift", .int 11), (.inr "rough", .int 4)]
theorem kvsO_merge : mergeK [] kvsO = kvsO := by kernel_rfl
theorem kvsO_at (R : Ru) : valV kvsO (.inr R.kind) = some (.int R.far7) := by
  cases R
  · kernel_rfl
  · kernel_rfl
  · kernel_rfl
theorem dgO {H : Hp} {a : Addr} {kvs : List (Key × V)} {k : Str} {v : V} (e : H a = some (.dK kvs)) (h : valV kvs (.inr k) = some v) : DGet H a (.str k) (some v) := .inl ⟨kvs, .inr k, .inl e, rfl, h.symm⟩
def spOdd : Sp := fun vs H Q _ => ∃ (h c p : Addr) (R : Ru), vs = [.ref h, .ref p] ∧ HAt H h c ∧ RuAt H p R ∧ R.ok ∧ ∀ po H', HAt H' h c → Kp2 h c H H' → notRule H' po → Q (.ref po) H'
/-! ### the law's own helpers -/
def spMix (K : PySem.W.Frag) : Sp := fun vs H Q _ => ∃ (a : Addr) (sd : Int) (ns : List Int), vs = [.ref a, .int sd] ∧ SqL K H a (ns.map V.int) ∧ ns.length ≤ 63 ∧ 0 ≤ sd ∧ sd < 2147483647 ∧ ∀ H' h c, HAt H' h c → H h = none → H c = none → Same H H' → Q (.ref h) H'
def spNext : Sp := fun vs H Q _ => ∃ (h c : Addr) (m : Int), vs = [.ref h, .int m] ∧ 1 ≤ m ∧ m < 1073741824 ∧ HAt H h c ∧ ∀ (r : Nat) H', (r : Int) < m → HAt H' h c → Kp2 h c H H' → Q (.int (r : Int)) H'
section
variable {P : Program} {w : World} {K : PySem.W.Frag} {mg : Str → Option Value} {base : Heap}
theorem sc_mix : FnScope ["_law_script", "_law_seed", "_law_mixed", "_law_cell"] ["_law_script", "_law_seed"] (defScope s_L_mix) := ⟨rfl, rfl, rfl, by decide +kernel, rfl, by decide +kernel, by decide +kernel⟩
theorem ok_mix (D : DefAt K mg "_law_mix" s_L_mix ["_law_script", "_law_seed"]) (m_list : mg "list" = none) : Cl P w K mg base 1 "_law_mix" ["_law_script", "_law_seed"] (spMix K) := by
  refine D.cl fun f fd F => ?_
  refine F.ok sc_mix (fun vs H Q E h => ?_) (fun cdv A outer s H vs Q E hr h => ?_)
  · obtain ⟨a, sd, ns, rfl, _⟩ := h
    rfl
  · obtain ⟨a, sd, ns, rfl, hS, hl, s0, s1, q⟩ := h
    refine ⟨_, pss_cons (ps_set (i := 2) sc_mix.nd rfl (Or.inl rfl) (pv 1))
      (pss_cons (ps_for PassesOwn.never rfl (pi_list (pv 0)) (pg_name (i := 3) sc_mix.nd rfl (Or.inl rfl))
        (pss_one (ps_set (i := 2) sc_mix.nd rfl (Or.inl rfl) (pe_op op_mod (pe_op op_add (pe_op op_add (pe_op op_mul (pv 2) pe_int) (pe_op op_mod (pv 3) pe_int)) pe_int) pe_int))))
      (pss_one (ps_ret (pe_lst (pa_cons (pv 2) (pa_cons (pe_callTy call_list_of (by rfl) m_list (by decide +kernel) (pa_cons (pv 0) pa_nil)) (pa_cons pe_int pa_nil))))))), ?_⟩
    refine ⟨_, rfl, ?_⟩
    refine ⟨_, rfl, a, rfl, ⟨_, hS⟩, for_list (K := K) (a := a) (xs := ns.map V.int) (fun i σ H' => ∃ (mx : Int) (v : Option V), σ = [some (.ref a), some (.int sd), some (.int mx), v] ∧ H' = H ∧ 0 ≤ mx ∧ mx < 2147483647)
      ⟨sd, none, rfl, rfl, s0, s1⟩ (fun i σ H' _ ⟨_, _, _, e, _⟩ => by rw [e]; exact hS) ?_ ?_⟩
    · rintro i y σ H' hi ⟨mx, v, rfl, rfl, m0, m1⟩
      obtain ⟨z, rfl⟩ : ∃ z, y = V.int z := by
        rw [List.getElem?_map] at hi
        cases e : ns[i]? with
        | none =>
          rw [e] at hi
          cases hi
        | some z =>
          rw [e] at hi
          exact ⟨z, (Option.some.inj hi).symm⟩
      refine ⟨_, rfl, _, _, rfl, rfl, .inl (le64 m0 (by omega)), _, rfl, _, _, rfl, rfl, (by show (0 : Int) < 2147483629; decide), _, _, rfl, rfl, _, _, rfl, rfl, _, _, rfl, rfl, (by show (0 : Int) < 2147483647; decide), ?_⟩
      exact ⟨_, some (.int z), rfl, rfl, Int.emod_nonneg _ (by decide), Int.emod_lt_of_pos _ (by decide)⟩
    · rintro σ H' ⟨mx, v, rfl, rfl, m0, m1⟩
      refine ⟨_, rfl, _, rfl, a, ns.map V.int, rfl, .inl hS, fun c nc => ?_⟩
      refine ⟨(by show 3 ≤ sizeLine; decide), fun h nh => ?_⟩
      have sc' : Same H' (upd H' c (.lst (ns.map V.int))) := same_upd nc
      have nch : c ≠ h := ne_of_none upd_same nh
      refine q _ h c ⟨⟨mx, 0, ns, upd_same, ?_, m0, m1, Int.le_refl 0, hl⟩, nch.symm⟩ (sc'.free nh) nc (sc'.trans (same_upd nh))
      rw [upd_ne nch, upd_same]
theorem sc_next : FnScope ["_law_h", "_law_many", "_law_at", "_law_cell"] ["_law_h", "_law_many"] (defScope s_L_next) := ⟨rfl, rfl, rfl, by decide +kernel, rfl, by decide +kernel, by decide +kernel⟩
theorem ok_next (D : DefAt K mg "_law_next" s_L_next ["_law_h", "_law_many"]) (m_max : mg "max" = none) (m_len : mg "len" = none) : Cl P w K mg base 1 "_law_next" ["_law_h", "_law_many"] spNext := by
  refine D.cl fun f fd F => ?_
  refine F.ok sc_next (fun vs H Q E h => ?_) (fun cdv A outer s H vs Q E hr h => ?_)
  · obtain ⟨h, c, m, rfl, _⟩ := h
    rfl
  · obtain ⟨h, c, m, rfl, h1, h2, ha, q⟩ := h
    obtain ⟨⟨mx, pl, ns, eh, ec, m0, m1, p0, hl⟩, nhc⟩ := ha
    refine ⟨_, pss_cons (ps_set (i := 2) sc_next.nd rfl (Or.inl rfl) (pe_op op_mod (pe_ix ix_list (pv 0) pe_int (fun _ _ => rfl)) (pe_callB (call_max2 rfl) (by rfl) m_max (by decide +kernel) (pa_cons pe_int (pa_cons (pe_callB call_len_seq (by rfl) m_len PySem.boot_len (pa_cons (pe_ix ix_list (pv 0) pe_int (fun _ _ => rfl)) pa_nil)) pa_nil)))))
      (pss_cons (ps_set (i := 3) sc_next.nd rfl (Or.inl rfl) (pe_ifExp (pt_cmpR (op_neD hr.units) (pe_ix ix_list (pv 0) pe_int (fun _ _ => rfl)) (pe_lst pa_nil) (nomark _)) (pe_ix ix_list (pe_ix ix_list (pv 0) pe_int (fun _ _ => rfl)) (pv 2) (fun _ _ => rfl)) pe_int))
      (pss_cons (ps_if (pt_cmpR op_ge (pv 3) (pe_op op_pow pe_int pe_int) (nomark _))
        (pss_cons (ps_asg (pe_op op_fdiv (pv 3) (pv 1)) (pg_sub (pe_ix ix_list (pv 0) pe_int (fun _ _ => rfl)) (pv 2) set_list)) (pss_one (ps_ret (pe_op op_mod (pv 3) (pv 1))))) pss_nil)
      (pss_cons (ps_asg (pe_op op_mod (pe_op op_add (pe_op op_add (pe_op op_mul (pe_ix ix_list (pv 0) pe_int (fun _ _ => rfl)) pe_int) (pe_op op_mul (pv 3) pe_int)) pe_int) pe_int) (pg_sub (pv 0) pe_int set_list))
      (pss_cons (ps_asg (pe_op op_add (pe_ix ix_list (pv 0) pe_int (fun _ _ => rfl)) pe_int) (pg_sub (pv 0) pe_int set_list))
      (pss_one (ps_ret (pe_op op_mod (pe_op op_fdiv (pe_ix ix_list (pv 0) pe_int (fun _ _ => rfl)) pe_int) (pv 1)))))))), ?_⟩
    have a1 : atI [V.int mx, V.ref c, V.int pl] 1 = some (.ref c) := atI_nat (j := 1) rfl
    have a0 : atI [V.int mx, V.ref c, V.int pl] 0 = some (.int mx) := atI_nat (j := 0) rfl
    have a2 : atI [V.int mx, V.ref c, V.int pl] 2 = some (.int pl) := atI_nat (j := 2) rfl
    have hz : ((ns.map V.int).length : Int) = (ns.length : Int) := by rw [List.length_map]
    obtain ⟨M, hM, hM1, hM2⟩ : ∃ M : Int, (if ((ns.map V.int).length : Int) > 1 then ((ns.map V.int).length : Int) else 1) = M ∧ 1 ≤ M ∧ (ns ≠ [] → M = ns.length) := by
      refine ⟨_, rfl, ?_, ?_⟩
      · split <;> omega
      · intro hn
        have : 1 ≤ ns.length := List.length_pos_iff.mpr hn
        rw [hz]
        split <;> omega
    -- _law_at
    refine ⟨_, rfl, h, _, _, _, rfl, rfl, SqL.of eh, a2, _, rfl, h, _, _, _, rfl, rfl, SqL.of eh, a1, c, _, rfl, .inl (SqL.of ec), _, _, rfl, ?_⟩
    dsimp only
    rw [hM]
    refine ⟨_, _, rfl, rfl, (by show 0 < M; omega), ?_⟩
    have at0 : 0 ≤ pl % M := Int.emod_nonneg _ (by omega)
    have at1 : pl % M < M := Int.emod_lt_of_pos _ (by omega)
    -- _law_cell
    refine ⟨_, rfl, h, _, _, _, rfl, rfl, SqL.of eh, a1, (by show 0 ≤ sizeLine; decide), fun p np => ?_⟩
    have sp : Same H (upd H p (.lst [])) := same_upd np
    have eh1 := sp _ _ eh
    have ec1 := sp _ _ ec
    refine ⟨.list (ns.map PyData.int), .list [], Dp.lst (SqL.of ec1) (dpAll_ints ns), Dp.lst (SqL.of upd_same) .nil, PySem.W.shaped_ints ns, PySem.W.shaped_ints [], _, rfl, ?_⟩
    rw [eqv_nil]
    refine join_if (fun v H' => ∃ z : Int, v = .int z ∧ H' = upd H p (.lst []) ∧ (1000000000000000000 ≤ z → ns ≠ [])) ?_ ?_ ?_
    · rintro v H' ⟨z, rfl, rfl, hzn⟩
      refine ⟨_, rfl, _, _, rfl, rfl, ⟨by decide, by decide, by decide⟩, _, _, rfl, rfl, _, rfl, ?_⟩
      have e18 : (10 : Int) ^ (18 : Int).toNat = 1000000000000000000 := by decide
      dsimp only
      rw [e18]
      by_cases big : 1000000000000000000 ≤ z
      · rw [decide_eq_true big]
        refine iteT ?_
        have hn := hzn big
        have hj : (pl % M).toNat < ns.length := by
          have := hM2 hn
          omega
        refine ⟨_, rfl, _, rfl, _, _, rfl, rfl, ⟨by omega, by omega⟩, _, rfl, h, _, _, _, rfl, rfl, SqL.of eh1, a1, _, rfl, c, _, _, (pl % M).toNat, rfl, rfl, ec1, ?_, ?_⟩
        · rw [List.length_map]
          exact ixN_nn at0 (by omega)
        · refine ⟨_, rfl, _, rfl, _, _, rfl, rfl, (by show 0 < m; omega), ?_⟩
          dsimp only
          have e : z % m = ((z % m).toNat : Int) := (Int.toNat_of_nonneg (Int.emod_nonneg _ (by omega))).symm
          have lt := Int.emod_lt_of_pos z (show 0 < m by omega)
          rw [e]
          refine q _ _ (by omega) ⟨⟨mx, pl, ns.set (pl % M).toNat (z / m), ?_, ?_, m0, m1, p0, by rw [List.length_set]; exact hl⟩, nhc⟩ fun b o eb n1 n2 => ?_
          · rw [upd_ne nhc]
            exact eh1
          · rw [upd_same, List.map_set]
          · rw [upd_ne n2]
            exact sp _ _ eb
      · rw [decide_eq_false big]
        refine iteF ?_
        refine ⟨_, rfl, h, _, _, _, rfl, rfl, SqL.of eh1, a0, _, _, rfl, rfl, .inl (le64 m0 (by omega)), _, rfl, _, _, rfl, rfl, .inr ⟨by decide, by decide⟩, _, _, rfl, rfl, _, _, rfl, rfl, _, _, rfl, rfl, (by show (0 : Int) < 2147483647; decide),
          _, rfl, h, _, _, 0, rfl, rfl, eh1, rfl, ?_⟩
        refine ⟨_, rfl, h, _, _, _, rfl, rfl, SqL.of upd_same, atI_nat (j := 2) rfl, _, _, rfl, rfl, _, rfl, h, _, _, 2, rfl, rfl, upd_same, rfl, ?_⟩
        refine ⟨_, rfl, h, _, _, _, rfl, rfl, SqL.of upd_same, atI_nat (j := 0) rfl, _, _, rfl, rfl, ⟨by decide, by decide⟩, _, rfl, _, _, rfl, rfl, (by show 0 < m; omega), ?_⟩
        dsimp only
        have n0 := Int.emod_nonneg (mx * 48271 + z * 69621 + 11) (show (2147483647 : Int) ≠ 0 by decide)
        have n1 := Int.emod_lt_of_pos (mx * 48271 + z * 69621 + 11) (show (0 : Int) < 2147483647 by decide)
        generalize (mx * 48271 + z * 69621 + 11) % 2147483647 = y at n0 n1 ⊢
        have e : y / 7 % m = ((y / 7 % m).toNat : Int) := (Int.toNat_of_nonneg (Int.emod_nonneg _ (by omega))).symm
        have lt := Int.emod_lt_of_pos (y / 7) (show 0 < m by omega)
        rw [e]
        refine q _ _ (by omega) ⟨⟨y, pl + 1, ns, ?_, ?_, n0, n1, by omega, hl⟩, nhc⟩ fun b o eb n1 n2 => ?_
        · rw [upd_same]
          rfl
        · rw [upd_ne nhc.symm, upd_ne nhc.symm]
          exact ec1
        · rw [upd_ne n1, upd_ne n1]
          exact sp _ _ eb
    · intro e
      have hn : ns ≠ [] := by
        intro z
        subst z
        cases e
      have hj : (pl % M).toNat < ns.length := by
        have := hM2 hn
        omega
      exact ⟨.int ns[(pl % M).toNat], _, fun Q q => ⟨_, rfl, h, _, _, _, rfl, rfl, SqL.of eh1, a1, _, rfl, c, _, _, _, rfl, rfl, SqL.of ec1, at_of (j := (pl % M).toNat) (by omega) (by rw [List.getElem?_map, List.getElem?_eq_getElem hj]; rfl), q⟩, _, rfl, rfl, fun _ => hn⟩
    · intro e
      exact ⟨.int 0, _, fun Q q => q, 0, rfl, rfl, fun h => absurd h (by decide)⟩
end
theorem HAt.fresh01 {H : Hp} {h c l : Addr} (a : HAt H h c) (n : H l = none) : l ≠ h ∧ l ≠ c := by
  obtain ⟨⟨mx, pl, ns, e1, e2, _⟩, _⟩ := a
  exact ⟨(ne_of_none e1 n).symm, (ne_of_none e2 n).symm⟩
theorem cutR2 (R : Ru) : cutV R.tup (some 2) none = (R.nums.drop 1).map V.int := by cases R <;> rfl
theorem cutR1 (R : Ru) : cutV R.tup (some 1) none = R.nums.map V.int := by cases R <;> rfl
theorem cutRm (R : Ru) : cutV R.tup none (some (-1)) = rtup R.kind R.nums.dropLast := by cases R <;> rfl
theorem nw2 (R : Ru) : ¬ (HT.sIx R.tup.length 0 (some 2) = 0 ∧ HT.sIx R.tup.length R.tup.length none = R.tup.length) := by
  cases R
  · show ¬ (HT.sIx 3 0 (some 2) = 0 ∧ HT.sIx 3 3 none = 3); decide
  · show ¬ (HT.sIx 3 0 (some 2) = 0 ∧ HT.sIx 3 3 none = 3); decide
  · show ¬ (HT.sIx 2 0 (some 2) = 0 ∧ HT.sIx 2 2 none = 2); decide
theorem nw1 (R : Ru) : ¬ (HT.sIx R.tup.length 0 (some 1) = 0 ∧ HT.sIx R.tup.length R.tup.length none = R.tup.length) := by
  cases R
  · show ¬ (HT.sIx 3 0 (some 1) = 0 ∧ HT.sIx 3 3 none = 3); decide
  · show ¬ (HT.sIx 3 0 (some 1) = 0 ∧ HT.sIx 3 3 none = 3); decide
  · show ¬ (HT.sIx 2 0 (some 1) = 0 ∧ HT.sIx 2 2 none = 2); decide
theorem nwm (R : Ru) : ¬ (HT.sIx R.tup.length 0 none = 0 ∧ HT.sIx R.tup.length R.tup.length (some (-1)) = R.tup.length) := by
  cases R
  · show ¬ (HT.sIx 3 0 none = 0 ∧ HT.sIx 3 3 (some (-1)) = 3); decide
  · show ¬ (HT.sIx 3 0 none = 0 ∧ HT.sIx 3 3 (some (-1)) = 3); decide
  · show ¬ (HT.sIx 2 0 none = 0 ∧ HT.sIx 2 2 (some (-1)) = 2); decide
theorem cut_len (xs : List V) (lo hi : Option Int) : (cutV xs lo hi).length ≤ xs.length := by
  unfold cutV
  rw [List.length_take, List.length_drop]
  omega
theorem tup_len (R : Ru) : R.tup.length ≤ 3 := by
  cases R
  · show 3 ≤ 3; decide
  · show 3 ≤ 3; decide
  · show 2 ≤ 3; decide
theorem tup_ne (R : Ru) : R.tup ≠ [] := by cases R <;> exact fun z => nomatch z
section
variable {P : Program} {w : World} {K : PySem.W.Frag} {mg : Str → Option Value} {base : Heap}
abbrev Nodd : List Str := ["_law_h", "_law_rule_here", "_law_far", "_law_bits", "_law_some"]
theorem sc_odd : FnScope Nodd ["_law_h", "_law_rule_here"] (defScope s_L_odd) := ⟨rfl, rfl, rfl, by decide +kernel, rfl, by decide +kernel, by decide +kernel⟩
theorem ok_odd (D : DefAt K mg "_law_odd" s_L_odd ["_law_h", "_law_rule_here"]) (C1 : Cl P w K mg base 1 "_law_next" ["_law_h", "_law_many"] spNext) : Cl P w K mg base 2 "_law_odd" ["_law_h", "_law_rule_here"] spOdd := by
  refine D.cl fun f fd F => ?_
  refine F.ok sc_odd (fun vs H Q E h => ?_) (fun cdv A outer s H vs Q E hr h => ?_)
  · obtain ⟨h, c, p, R, rfl, _⟩ := h
    rfl
  · obtain ⟨h, c, p, R, rfl, ha, hp, ok, q⟩ := h
    have hu := hu_of hr
    refine ⟨_, pss_cons (ps_set (i := 2) sc_odd.nd rfl (Or.inl rfl) (pe_cl C1 hr (pa_cons (pv 0) (pa_cons (pe_op op_pow pe_int pe_int) pa_nil))))
      (pss_cons (ps_set (i := 3) sc_odd.nd rfl (Or.inl rfl) (pe_dget hu (pe_disp (pps_cons pe_str pe_int (pps_cons pe_str pe_int (pps_cons pe_str pe_int pps_nil))) (by rfl) (by rfl) (fun z => by cases z) (by decide)) (pe_ix ix_tup (pv 1) pe_int (fun _ _ => rfl)) (fun _ _ => rfl)))
      (pss_cons (ps_set (i := 4) sc_odd.nd rfl (Or.inl rfl) (pe_lst (pa_cons (pe_op op_catT (pe_tup (pa_cons (pe_ix ix_tup (pv 1) pe_int (fun _ _ => rfl)) (pa_cons pe_int pa_nil))) (pe_slice sl_tup (pv 1) (po_some pe_int) po_none)) (pa_cons (pe_op op_catT (pe_tup (pa_cons (pe_ix ix_tup (pv 1) pe_int (fun _ _ => rfl)) (pa_cons (pe_op op_add (pv 3) (pv 2)) pa_nil))) (pe_slice sl_tup (pv 1) (po_some pe_int) po_none)) (pa_cons (pe_op op_catT (pe_tup (pa_cons (pe_ix ix_tup (pv 1) pe_int (fun _ _ => rfl)) (pa_cons (pe_op op_sub (pe_un un_neg pe_int) (pv 2)) pa_nil))) (pe_slice sl_tup (pv 1) (po_some pe_int) po_none)) (pa_cons (pe_op op_catT (pv 1) (pe_tup (pa_cons pe_int pa_nil))) pa_nil))))))
      (pss_cons (ps_set (i := 4) sc_odd.nd rfl (Or.inl rfl) (pe_op op_cat (pv 4) (pe_lst (pa_cons (pe_slice sl_tup (pv 1) po_none (po_some (pe_un un_neg pe_int))) (pa_cons (pe_op op_catT (pe_tup (pa_cons pe_str pa_nil)) (pe_slice sl_tup (pv 1) (po_some pe_int) po_none)) (pa_cons (pe_op op_catT (pe_tup (pa_cons pe_str pa_nil)) (pe_slice sl_tup (pv 1) (po_some pe_int) po_none)) (pa_cons (pe_tup (pa_cons pe_str (pa_cons pe_int (pa_cons pe_int pa_nil)))) (pa_cons (pe_tup (pa_cons pe_str (pa_cons pe_int pa_nil))) (pa_cons (pe_tup (pa_cons pe_str (pa_cons pe_int (pa_cons pe_int pa_nil)))) pa_nil)))))))))
      (pss_one (ps_ret (pe_ix ix_list (pe_op op_cat (pv 4) (pe_lst (pa_cons (pe_tup (pa_cons pe_str (pa_cons pe_int (pa_cons pe_int pa_nil)))) (pa_cons (pe_tup (pa_cons pe_str (pa_cons pe_int (pa_cons (pe_op op_add pe_int (pv 2)) pa_nil)))) (pa_cons (pe_tup (pa_cons pe_str (pa_cons pe_int (pa_cons (pe_op op_sub (pe_un un_neg pe_int) (pv 2)) pa_nil)))) (pa_cons (pe_tup (pa_cons pe_str pa_nil)) pa_nil)))))) (pe_cl C1 hr (pa_cons (pv 0) (pa_cons pe_int pa_nil))) (fun _ _ => rfl))))))), ?_⟩
    refine ⟨_, rfl, _, _, rfl, rfl, ⟨by decide, by decide, by decide⟩, h, c, _, rfl, by decide, by decide, ha, fun far F1 fl ha1 k1 => ?_⟩
    have hp1 := k1.tup ha hp
    refine fun dd ndd => ⟨upd_same, kvsO, rfl, (by show 3 ≤ 15; decide), ?_⟩
    rw [kvsO_merge, upd_upd]
    have sd := same_upd (o := .dK kvsO) ndd
    refine ⟨_, rfl, p, _, _, _, rfl, rfl, SqT.of (sd _ _ hp1), R.at0, dd, _, rfl, dgO upd_same (kvsO_at R), ?_⟩
    generalize hG0 : upd F1 dd (.dK kvsO) = G0 at sd
    have ha0 : HAt G0 h c := ha1.same sd
    have hp0 : G0 p = some (.tup R.tup) := sd _ _ hp1
    have S0 : Same G0 G0 := Same.refl _
    refine ⟨_, rfl, p, _, _, _, rfl, rfl, SqT.of (S0 _ _ hp0), R.at0, (by show 2 ≤ sizeLine; decide), fun x0 nx0 => ?_⟩
    have s1 := same_upd (o := .tup [V.str R.kind, V.int 0]) nx0
    generalize hG1 : upd G0 x0 (.tup [V.str R.kind, V.int 0]) = G1 at s1
    have S1 : Same G0 G1 := S0.trans s1
    have e_x0 : G1 x0 = some (.tup [V.str R.kind, V.int 0]) := by rw [← hG1]; exact upd_same
    refine ⟨_, rfl, 2, rfl, p, R.tup, rfl, SqT.of (S1 _ _ hp0), (by exact nw2 R), fun y0 ny0 => ?_⟩
    have s2 := same_upd (o := .tup (cutV R.tup (some (2)) none)) ny0
    generalize hG2 : upd G1 y0 (.tup (cutV R.tup (some (2)) none)) = G2 at s2
    have S2 : Same G0 G2 := S1.trans s2
    have e_y0 : G2 y0 = some (.tup (cutV R.tup (some (2)) none)) := by rw [← hG2]; exact upd_same
    refine cat_same (s2 _ _ e_x0) e_y0 (by exact fun z => nomatch z) (by have h1 := cut_len R.tup (some 2) none; have h2 := tup_len R; show 2 + (cutV R.tup (some 2) none).length ≤ 20; omega) fun t0 G3 s3 e_t0 => ?_
    have S3 : Same G0 G3 := S2.trans s3
    refine ⟨_, rfl, p, _, _, _, rfl, rfl, SqT.of (S3 _ _ hp0), R.at0, _, rfl, _, rfl, _, _, rfl, rfl, (by show 2 ≤ sizeLine; decide), fun x1 nx1 => ?_⟩
    have s4 := same_upd (o := .tup [V.str R.kind, V.int (R.far7 + (far : Int))]) nx1
    generalize hG4 : upd G3 x1 (.tup [V.str R.kind, V.int (R.far7 + (far : Int))]) = G4 at s4
    have S4 : Same G0 G4 := S3.trans s4
    have e_x1 : G4 x1 = some (.tup [V.str R.kind, V.int (R.far7 + (far : Int))]) := by rw [← hG4]; exact upd_same
    refine ⟨_, rfl, 2, rfl, p, R.tup, rfl, SqT.of (S4 _ _ hp0), (by exact nw2 R), fun y1 ny1 => ?_⟩
    have s5 := same_upd (o := .tup (cutV R.tup (some (2)) none)) ny1
    generalize hG5 : upd G4 y1 (.tup (cutV R.tup (some (2)) none)) = G5 at s5
    have S5 : Same G0 G5 := S4.trans s5
    have e_y1 : G5 y1 = some (.tup (cutV R.tup (some (2)) none)) := by rw [← hG5]; exact upd_same
    refine cat_same (s5 _ _ e_x1) e_y1 (by exact fun z => nomatch z) (by have h1 := cut_len R.tup (some 2) none; have h2 := tup_len R; show 2 + (cutV R.tup (some 2) none).length ≤ 20; omega) fun t1 G6 s6 e_t1 => ?_
    have S6 : Same G0 G6 := S5.trans s6
    refine ⟨_, rfl, p, _, _, _, rfl, rfl, SqT.of (S6 _ _ hp0), R.at0, _, rfl, _, rfl, _, _, rfl, rfl, (by show 2 ≤ sizeLine; decide), fun x2 nx2 => ?_⟩
    have s7 := same_upd (o := .tup [V.str R.kind, V.int (-1 - (far : Int))]) nx2
    generalize hG7 : upd G6 x2 (.tup [V.str R.kind, V.int (-1 - (far : Int))]) = G7 at s7
    have S7 : Same G0 G7 := S6.trans s7
    have e_x2 : G7 x2 = some (.tup [V.str R.kind, V.int (-1 - (far : Int))]) := by rw [← hG7]; exact upd_same
    refine ⟨_, rfl, 2, rfl, p, R.tup, rfl, SqT.of (S7 _ _ hp0), (by exact nw2 R), fun y2 ny2 => ?_⟩
    have s8 := same_upd (o := .tup (cutV R.tup (some (2)) none)) ny2
    generalize hG8 : upd G7 y2 (.tup (cutV R.tup (some (2)) none)) = G8 at s8
    have S8 : Same G0 G8 := S7.trans s8
    have e_y2 : G8 y2 = some (.tup (cutV R.tup (some (2)) none)) := by rw [← hG8]; exact upd_same
    refine cat_same (s8 _ _ e_x2) e_y2 (by exact fun z => nomatch z) (by have h1 := cut_len R.tup (some 2) none; have h2 := tup_len R; show 2 + (cutV R.tup (some 2) none).length ≤ 20; omega) fun t2 G9 s9 e_t2 => ?_
    have S9 : Same G0 G9 := S8.trans s9
    refine ⟨_, rfl, (by show 1 ≤ sizeLine; decide), fun x3 nx3 => ?_⟩
    have s10 := same_upd (o := .tup [V.int 1]) nx3
    generalize hG10 : upd G9 x3 (.tup [V.int 1]) = G10 at s10
    have S10 : Same G0 G10 := S9.trans s10
    have e_x3 : G10 x3 = some (.tup [V.int 1]) := by rw [← hG10]; exact upd_same
    refine cat_same (S10 _ _ hp0) e_x3 (by exact tup_ne R) (by have h2 := tup_len R; show R.tup.length + 1 ≤ 20; omega) fun t3 G11 s11 e_t3 => ?_
    have S11 : Same G0 G11 := S10.trans s11
    refine ⟨(by show 4 ≤ sizeLine; decide), fun l1 nl1 => ?_⟩
    have s12 := same_upd (o := .lst [V.ref t0, V.ref t1, V.ref t2, V.ref t3]) nl1
    generalize hG12 : upd G11 l1 (.lst [V.ref t0, V.ref t1, V.ref t2, V.ref t3]) = G12 at s12
    have S12 : Same G0 G12 := S11.trans s12
    have e_l1 : G12 l1 = some (.lst [V.ref t0, V.ref t1, V.ref t2, V.ref t3]) := by rw [← hG12]; exact upd_same
    refine ⟨_, rfl, ?_⟩
    refine ⟨_, rfl, _, rfl, _, rfl, p, R.tup, rfl, SqT.of (S12 _ _ hp0), (by exact nwm R), fun t4 nt4 => ?_⟩
    have s13 := same_upd (o := .tup (cutV R.tup none (some (-1)))) nt4
    generalize hG13 : upd G12 t4 (.tup (cutV R.tup none (some (-1)))) = G13 at s13
    have S13 : Same G0 G13 := S12.trans s13
    have e_t4 : G13 t4 = some (.tup (cutV R.tup none (some (-1)))) := by rw [← hG13]; exact upd_same
    refine ⟨(by show 1 ≤ sizeLine; decide), fun x5 nx5 => ?_⟩
    have s14 := same_upd (o := .tup [V.str "Count"]) nx5
    generalize hG14 : upd G13 x5 (.tup [V.str "Count"]) = G14 at s14
    have S14 : Same G0 G14 := S13.trans s14
    have e_x5 : G14 x5 = some (.tup [V.str "Count"]) := by rw [← hG14]; exact upd_same
    refine ⟨_, rfl, 1, rfl, p, R.tup, rfl, SqT.of (S14 _ _ hp0), (by exact nw1 R), fun y5 ny5 => ?_⟩
    have s15 := same_upd (o := .tup (cutV R.tup (some (1)) none)) ny5
    generalize hG15 : upd G14 y5 (.tup (cutV R.tup (some (1)) none)) = G15 at s15
    have S15 : Same G0 G15 := S14.trans s15
    have e_y5 : G15 y5 = some (.tup (cutV R.tup (some (1)) none)) := by rw [← hG15]; exact upd_same
    refine cat_same (s15 _ _ e_x5) e_y5 (by exact fun z => nomatch z) (by have h1 := cut_len R.tup (some 1) none; have h2 := tup_len R; show 1 + (cutV R.tup (some 1) none).length ≤ 20; omega) fun t5 G16 s16 e_t5 => ?_
    have S16 : Same G0 G16 := S15.trans s16
    refine ⟨(by show 1 ≤ sizeLine; decide), fun x6 nx6 => ?_⟩
    have s17 := same_upd (o := .tup [V.str ""]) nx6
    generalize hG17 : upd G16 x6 (.tup [V.str ""]) = G17 at s17
    have S17 : Same G0 G17 := S16.trans s17
    have e_x6 : G17 x6 = some (.tup [V.str ""]) := by rw [← hG17]; exact upd_same
    refine ⟨_, rfl, 1, rfl, p, R.tup, rfl, SqT.of (S17 _ _ hp0), (by exact nw1 R), fun y6 ny6 => ?_⟩
    have s18 := same_upd (o := .tup (cutV R.tup (some (1)) none)) ny6
    generalize hG18 : upd G17 y6 (.tup (cutV R.tup (some (1)) none)) = G18 at s18
    have S18 : Same G0 G18 := S17.trans s18
    have e_y6 : G18 y6 = some (.tup (cutV R.tup (some (1)) none)) := by rw [← hG18]; exact upd_same
    refine cat_same (s18 _ _ e_x6) e_y6 (by exact fun z => nomatch z) (by have h1 := cut_len R.tup (some 1) none; have h2 := tup_len R; show 1 + (cutV R.tup (some 1) none).length ≤ 20; omega) fun t6 G19 s19 e_t6 => ?_
    have S19 : Same G0 G19 := S18.trans s19
    refine ⟨(by show 3 ≤ sizeLine; decide), fun t7 nt7 => ?_⟩
    have s20 := same_upd (o := .tup [V.str "counts", V.int 3, V.int 3]) nt7
    generalize hG20 : upd G19 t7 (.tup [V.str "counts", V.int 3, V.int 3]) = G20 at s20
    have S20 : Same G0 G20 := S19.trans s20
    have e_t7 : G20 t7 = some (.tup [V.str "counts", V.int 3, V.int 3]) := by rw [← hG20]; exact upd_same
    refine ⟨(by show 2 ≤ sizeLine; decide), fun t8 nt8 => ?_⟩
    have s21 := same_upd (o := .tup [V.str "count", V.int 3]) nt8
    generalize hG21 : upd G20 t8 (.tup [V.str "count", V.int 3]) = G21 at s21
    have S21 : Same G0 G21 := S20.trans s21
    have e_t8 : G21 t8 = some (.tup [V.str "count", V.int 3]) := by rw [← hG21]; exact upd_same
    refine ⟨(by show 3 ≤ sizeLine; decide), fun t9 nt9 => ?_⟩
    have s22 := same_upd (o := .tup [V.str "rough", V.int 2, V.int 1]) nt9
    generalize hG22 : upd G21 t9 (.tup [V.str "rough", V.int 2, V.int 1]) = G22 at s22
    have S22 : Same G0 G22 := S21.trans s22
    have e_t9 : G22 t9 = some (.tup [V.str "rough", V.int 2, V.int 1]) := by rw [← hG22]; exact upd_same
    refine ⟨(by show 6 ≤ sizeLine; decide), fun l2 nl2 => ?_⟩
    have s23 := same_upd (o := .lst [V.ref t4, V.ref t5, V.ref t6, V.ref t7, V.ref t8, V.ref t9]) nl2
    generalize hG23 : upd G22 l2 (.lst [V.ref t4, V.ref t5, V.ref t6, V.ref t7, V.ref t8, V.ref t9]) = G23 at s23
    have S23 : Same G0 G23 := S22.trans s23
    have e_l2 : G23 l2 = some (.lst [V.ref t4, V.ref t5, V.ref t6, V.ref t7, V.ref t8, V.ref t9]) := by rw [← hG23]; exact upd_same
    refine ⟨l1, l2, _, _, rfl, rfl, (s23 _ _ (s22 _ _ (s21 _ _ (s20 _ _ (s19 _ _ (s18 _ _ (s17 _ _ (s16 _ _ (s15 _ _ (s14 _ _ (s13 _ _ e_l1))))))))))), e_l2, (by show 4 + 6 ≤ sizeLine; decide), fun l3 nl3 => ?_⟩
    have s24 := same_upd (o := .lst ([V.ref t0, V.ref t1, V.ref t2, V.ref t3] ++ [V.ref t4, V.ref t5, V.ref t6, V.ref t7, V.ref t8, V.ref t9])) nl3
    generalize hG24 : upd G23 l3 (.lst ([V.ref t0, V.ref t1, V.ref t2, V.ref t3] ++ [V.ref t4, V.ref t5, V.ref t6, V.ref t7, V.ref t8, V.ref t9])) = G24 at s24
    have S24 : Same G0 G24 := S23.trans s24
    have e_l3 : G24 l3 = some (.lst ([V.ref t0, V.ref t1, V.ref t2, V.ref t3] ++ [V.ref t4, V.ref t5, V.ref t6, V.ref t7, V.ref t8, V.ref t9])) := by rw [← hG24]; exact upd_same
    refine ⟨_, rfl, ?_⟩
    refine ⟨(by show 3 ≤ sizeLine; decide), fun t10 nt10 => ?_⟩
    have s25 := same_upd (o := .tup [V.str "shift", V.int 3, V.int 0]) nt10
    generalize hG25 : upd G24 t10 (.tup [V.str "shift", V.int 3, V.int 0]) = G25 at s25
    have S25 : Same G0 G25 := S24.trans s25
    have e_t10 : G25 t10 = some (.tup [V.str "shift", V.int 3, V.int 0]) := by rw [← hG25]; exact upd_same
    refine ⟨_, rfl, _, _, rfl, rfl, (by show 3 ≤ sizeLine; decide), fun t11 nt11 => ?_⟩
    have s26 := same_upd (o := .tup [V.str "count", V.int 3, V.int (21 + (far : Int))]) nt11
    generalize hG26 : upd G25 t11 (.tup [V.str "count", V.int 3, V.int (21 + (far : Int))]) = G26 at s26
    have S26 : Same G0 G26 := S25.trans s26
    have e_t11 : G26 t11 = some (.tup [V.str "count", V.int 3, V.int (21 + (far : Int))]) := by rw [← hG26]; exact upd_same
    refine ⟨_, rfl, _, rfl, _, _, rfl, rfl, (by show 3 ≤ sizeLine; decide), fun t12 nt12 => ?_⟩
    have s27 := same_upd (o := .tup [V.str "shift", V.int 3, V.int (-1 - (far : Int))]) nt12
    generalize hG27 : upd G26 t12 (.tup [V.str "shift", V.int 3, V.int (-1 - (far : Int))]) = G27 at s27
    have S27 : Same G0 G27 := S26.trans s27
    have e_t12 : G27 t12 = some (.tup [V.str "shift", V.int 3, V.int (-1 - (far : Int))]) := by rw [← hG27]; exact upd_same
    refine ⟨(by show 1 ≤ sizeLine; decide), fun t13 nt13 => ?_⟩
    have s28 := same_upd (o := .tup [V.str "rough"]) nt13
    generalize hG28 : upd G27 t13 (.tup [V.str "rough"]) = G28 at s28
    have S28 : Same G0 G28 := S27.trans s28
    have e_t13 : G28 t13 = some (.tup [V.str "rough"]) := by rw [← hG28]; exact upd_same
    refine ⟨(by show 4 ≤ sizeLine; decide), fun l4 nl4 => ?_⟩
    have s29 := same_upd (o := .lst [V.ref t10, V.ref t11, V.ref t12, V.ref t13]) nl4
    generalize hG29 : upd G28 l4 (.lst [V.ref t10, V.ref t11, V.ref t12, V.ref t13]) = G29 at s29
    have S29 : Same G0 G29 := S28.trans s29
    have e_l4 : G29 l4 = some (.lst [V.ref t10, V.ref t11, V.ref t12, V.ref t13]) := by rw [← hG29]; exact upd_same
    refine ⟨l3, l4, _, _, rfl, rfl, (s29 _ _ (s28 _ _ (s27 _ _ (s26 _ _ (s25 _ _ e_l3))))), e_l4, (by show 10 + 4 ≤ sizeLine; decide), fun l5 nl5 => ?_⟩
    have s30 := same_upd (o := .lst (([V.ref t0, V.ref t1, V.ref t2, V.ref t3] ++ [V.ref t4, V.ref t5, V.ref t6, V.ref t7, V.ref t8, V.ref t9]) ++ [V.ref t10, V.ref t11, V.ref t12, V.ref t13])) nl5
    generalize hG30 : upd G29 l5 (.lst (([V.ref t0, V.ref t1, V.ref t2, V.ref t3] ++ [V.ref t4, V.ref t5, V.ref t6, V.ref t7, V.ref t8, V.ref t9]) ++ [V.ref t10, V.ref t11, V.ref t12, V.ref t13])) = G30 at s30
    have S30 : Same G0 G30 := S29.trans s30
    have e_l5 : G30 l5 = some (.lst (([V.ref t0, V.ref t1, V.ref t2, V.ref t3] ++ [V.ref t4, V.ref t5, V.ref t6, V.ref t7, V.ref t8, V.ref t9]) ++ [V.ref t10, V.ref t11, V.ref t12, V.ref t13])) := by rw [← hG30]; exact upd_same
    refine ⟨_, rfl, h, c, 14, rfl, by decide, by decide, ha0.same S30, fun r H9 rl ha9 k9 => ?_⟩
    have K9 : Kp2 h c H H9 := (k1.trans (Same.kp2 (sd.trans S30))).trans k9
    have fl5 := (ha0.same S29).fresh01 nl5
    have el5 := k9 _ _ e_l5 fl5.1 fl5.2
    have X0 : G30 t0 = some (.tup (rtup R.kind (0 :: R.nums.drop 1))) := by
      rw [← show ([V.str R.kind, V.int 0] ++ cutV R.tup (some 2) none : List V) = rtup R.kind (0 :: R.nums.drop 1) from (by rw [cutR2]; rfl)]
      exact (s30 _ _ (s29 _ _ (s28 _ _ (s27 _ _ (s26 _ _ (s25 _ _ (s24 _ _ (s23 _ _ (s22 _ _ (s21 _ _ (s20 _ _ (s19 _ _ (s18 _ _ (s17 _ _ (s16 _ _ (s15 _ _ (s14 _ _ (s13 _ _ (s12 _ _ (s11 _ _ (s10 _ _ (s9 _ _ (s8 _ _ (s7 _ _ (s6 _ _ (s5 _ _ (s4 _ _ e_t0)))))))))))))))))))))))))))
    have X1 : G30 t1 = some (.tup (rtup R.kind ((R.far7 + (far : Int)) :: R.nums.drop 1))) := by
      rw [← show ([V.str R.kind, V.int (R.far7 + (far : Int))] ++ cutV R.tup (some 2) none : List V) = rtup R.kind ((R.far7 + (far : Int)) :: R.nums.drop 1) from (by rw [cutR2]; rfl)]
      exact (s30 _ _ (s29 _ _ (s28 _ _ (s27 _ _ (s26 _ _ (s25 _ _ (s24 _ _ (s23 _ _ (s22 _ _ (s21 _ _ (s20 _ _ (s19 _ _ (s18 _ _ (s17 _ _ (s16 _ _ (s15 _ _ (s14 _ _ (s13 _ _ (s12 _ _ (s11 _ _ (s10 _ _ (s9 _ _ (s8 _ _ (s7 _ _ e_t1))))))))))))))))))))))))
    have X2 : G30 t2 = some (.tup (rtup R.kind ((-1 - (far : Int)) :: R.nums.drop 1))) := by
      rw [← show ([V.str R.kind, V.int (-1 - (far : Int))] ++ cutV R.tup (some 2) none : List V) = rtup R.kind ((-1 - (far : Int)) :: R.nums.drop 1) from (by rw [cutR2]; rfl)]
      exact (s30 _ _ (s29 _ _ (s28 _ _ (s27 _ _ (s26 _ _ (s25 _ _ (s24 _ _ (s23 _ _ (s22 _ _ (s21 _ _ (s20 _ _ (s19 _ _ (s18 _ _ (s17 _ _ (s16 _ _ (s15 _ _ (s14 _ _ (s13 _ _ (s12 _ _ (s11 _ _ (s10 _ _ e_t2)))))))))))))))))))))
    have X3 : G30 t3 = some (.tup (rtup R.kind (R.nums ++ [1]))) := by
      rw [← show (R.tup ++ [V.int 1] : List V) = rtup R.kind (R.nums ++ [1]) from (by unfold rtup; rw [List.map_append]; rfl)]
      exact (s30 _ _ (s29 _ _ (s28 _ _ (s27 _ _ (s26 _ _ (s25 _ _ (s24 _ _ (s23 _ _ (s22 _ _ (s21 _ _ (s20 _ _ (s19 _ _ (s18 _ _ (s17 _ _ (s16 _ _ (s15 _ _ (s14 _ _ (s13 _ _ (s12 _ _ e_t3)))))))))))))))))))
    have X4 : G30 t4 = some (.tup (rtup R.kind R.nums.dropLast)) := by
      rw [← show (cutV R.tup none (some (-1)) : List V) = rtup R.kind R.nums.dropLast from (cutRm R)]
      exact (s30 _ _ (s29 _ _ (s28 _ _ (s27 _ _ (s26 _ _ (s25 _ _ (s24 _ _ (s23 _ _ (s22 _ _ (s21 _ _ (s20 _ _ (s19 _ _ (s18 _ _ (s17 _ _ (s16 _ _ (s15 _ _ (s14 _ _ e_t4)))))))))))))))))
    have X5 : G30 t5 = some (.tup (rtup "Count" R.nums)) := by
      rw [← show ([V.str "Count"] ++ cutV R.tup (some 1) none : List V) = rtup "Count" R.nums from (by rw [cutR1]; rfl)]
      exact (s30 _ _ (s29 _ _ (s28 _ _ (s27 _ _ (s26 _ _ (s25 _ _ (s24 _ _ (s23 _ _ (s22 _ _ (s21 _ _ (s20 _ _ (s19 _ _ (s18 _ _ (s17 _ _ e_t5))))))))))))))
    have X6 : G30 t6 = some (.tup (rtup "" R.nums)) := by
      rw [← show ([V.str ""] ++ cutV R.tup (some 1) none : List V) = rtup "" R.nums from (by rw [cutR1]; rfl)]
      exact (s30 _ _ (s29 _ _ (s28 _ _ (s27 _ _ (s26 _ _ (s25 _ _ (s24 _ _ (s23 _ _ (s22 _ _ (s21 _ _ (s20 _ _ e_t6)))))))))))
    have X7 : G30 t7 = some (.tup (rtup "counts" [3, 3])) := (s30 _ _ (s29 _ _ (s28 _ _ (s27 _ _ (s26 _ _ (s25 _ _ (s24 _ _ (s23 _ _ (s22 _ _ (s21 _ _ e_t7))))))))))
    have X8 : G30 t8 = some (.tup (rtup "count" [3])) := (s30 _ _ (s29 _ _ (s28 _ _ (s27 _ _ (s26 _ _ (s25 _ _ (s24 _ _ (s23 _ _ (s22 _ _ e_t8)))))))))
    have X9 : G30 t9 = some (.tup (rtup "rough" [2, 1])) := (s30 _ _ (s29 _ _ (s28 _ _ (s27 _ _ (s26 _ _ (s25 _ _ (s24 _ _ (s23 _ _ e_t9))))))))
    have X10 : G30 t10 = some (.tup (rtup "shift" [3, 0])) := (s30 _ _ (s29 _ _ (s28 _ _ (s27 _ _ (s26 _ _ e_t10)))))
    have X11 : G30 t11 = some (.tup (rtup "count" [3, 21 + (far : Int)])) := (s30 _ _ (s29 _ _ (s28 _ _ (s27 _ _ e_t11))))
    have X12 : G30 t12 = some (.tup (rtup "shift" [3, -1 - (far : Int)])) := (s30 _ _ (s29 _ _ (s28 _ _ e_t12)))
    have X13 : G30 t13 = some (.tup (rtup "rough" [])) := (s30 _ _ (s29 _ _ e_t13))
    have fin : ∃ (a : Addr) (x : Str × List Int), atI (([V.ref t0, V.ref t1, V.ref t2, V.ref t3] ++ [V.ref t4, V.ref t5, V.ref t6, V.ref t7, V.ref t8, V.ref t9]) ++ [V.ref t10, V.ref t11, V.ref t12, V.ref t13]) (r : Int) = some (.ref a) ∧ G30 a = some (.tup (rtup x.1 x.2)) ∧ x ∈ oddT R far := by
      have r14 : r < 14 := by omega
      match r, r14 with
      | 0, _ => exact ⟨t0, _, atI_nat (j := 0) rfl, X0, List.mem_of_getElem? (i := 0) rfl⟩
      | 1, _ => exact ⟨t1, _, atI_nat (j := 1) rfl, X1, List.mem_of_getElem? (i := 1) rfl⟩
      | 2, _ => exact ⟨t2, _, atI_nat (j := 2) rfl, X2, List.mem_of_getElem? (i := 2) rfl⟩
      | 3, _ => exact ⟨t3, _, atI_nat (j := 3) rfl, X3, List.mem_of_getElem? (i := 3) rfl⟩
      | 4, _ => exact ⟨t4, _, atI_nat (j := 4) rfl, X4, List.mem_of_getElem? (i := 4) rfl⟩
      | 5, _ => exact ⟨t5, _, atI_nat (j := 5) rfl, X5, List.mem_of_getElem? (i := 5) rfl⟩
      | 6, _ => exact ⟨t6, _, atI_nat (j := 6) rfl, X6, List.mem_of_getElem? (i := 6) rfl⟩
      | 7, _ => exact ⟨t7, _, atI_nat (j := 7) rfl, X7, List.mem_of_getElem? (i := 7) rfl⟩
      | 8, _ => exact ⟨t8, _, atI_nat (j := 8) rfl, X8, List.mem_of_getElem? (i := 8) rfl⟩
      | 9, _ => exact ⟨t9, _, atI_nat (j := 9) rfl, X9, List.mem_of_getElem? (i := 9) rfl⟩
      | 10, _ => exact ⟨t10, _, atI_nat (j := 10) rfl, X10, List.mem_of_getElem? (i := 10) rfl⟩
      | 11, _ => exact ⟨t11, _, atI_nat (j := 11) rfl, X11, List.mem_of_getElem? (i := 11) rfl⟩
      | 12, _ => exact ⟨t12, _, atI_nat (j := 12) rfl, X12, List.mem_of_getElem? (i := 12) rfl⟩
      | 13, _ => exact ⟨t13, _, atI_nat (j := 13) rfl, X13, List.mem_of_getElem? (i := 13) rfl⟩
      | r + 14, z => exact absurd z (by omega)
    obtain ⟨a, x, ea, Xa, mx⟩ := fin
    obtain ⟨b1, b2, b3⟩ := odd_bad mx
    exact ⟨l5, _, _, _, rfl, rfl, SqL.of el5, ea, q a H9 ha9 K9 ⟨x.1, x.2, k9.tup (ha0.same S30) Xa, b1, b2, b3⟩⟩
end
/-! ### shapes of data (short) -/
theorem canLayAll_of : ∀ {ds : List PyData}, (∀ d, d ∈ ds → PyData.canLay0 d = true) → PyData.canLayAll0 ds = true
  | [], _ => by simp only [PyData.canLayAll0]
  | d :: r, h => by
    have h1 := h d List.mem_cons_self
    have h2 := canLayAll_of (ds := r) fun x hx => h x (List.mem_cons_of_mem _ hx)
    simp only [PyData.canLayAll0, h1, h2, Bool.and_self]
theorem shaped_of {d : PyData} (h : PyData.canLay0 d = true) (h2 : PyData.depth d ≤ 64) : SeqAt.shaped d = true := by
  unfold SeqAt.shaped
  rw [h, decide_eq_true h2]
  rfl
theorem eqv_nilL (ds : List PyData) : PyData.eqv (.list ds) (.list []) = ds.isEmpty := by
  cases ds with
  | nil => simp [PyData.eqv, PyData.eqvAll]
  | cons n r => simp [PyData.eqv, PyData.eqvAll]
theorem shaped_nil : SeqAt.shaped (.list []) = true := PySem.W.shaped_ints []
theorem eqv_same {d : PyData} (h : SeqAt.shaped d = true) : PyData.eqv d d = true := by
  first
    | exact PySem.Calls.eqv_refl d (SeqAt.canLay_of_shaped h)
    | exact PyData.eqv_refl d (SeqAt.canLay_of_shaped h)
    | exact SeqAt.eqv_refl d (SeqAt.canLay_of_shaped h)
    | exact eqv_refl d (SeqAt.canLay_of_shaped h)

def Ru.small : Ru → Prop
  | .cnt b s => b ≤ 4 ∧ s ≤ 6
  | .shf b s => b ≤ 5 ∧ s ≤ 6
  | .rgh _ => True
def spRule : Sp := fun vs H Q _ => ∃ (h c : Addr) (sm : Int), vs = [.ref h, .int sm] ∧ (sm = 0 ∨ sm = 1) ∧ HAt H h c ∧ ∀ (R : Ru) H' p, R.ok → (sm = 1 → R.small) → HAt H' h c → Kp2 h c H H' → RuAt H' p R → Q (.ref p) H'
def spEnd : Sp := fun vs H Q _ => ∃ (p : Addr) (R : Ru), vs = [.ref p] ∧ RuAt H p R ∧ R.ok ∧ ∀ H', Same H H' → Q (.int (R.fin : Int)) H'
def spTick : Sp := fun vs H Q _ => ∃ (p : Addr) (R : Ru) (m t : Nat) (i1 i2 : Int), vs = [.ref p, .int i1, .int i2] ∧ i1 = (m : Int) ∧ i2 = (t : Int) ∧ RuAt H p R ∧ R.ok ∧ m ≤ R.most ∧ ∀ H', Same H H' → Q (.int (tick R m t : Int)) H'
theorem fin_at {b : Nat} (h1 : 1 ≤ b) (h2 : b ≤ 6) : atI [V.int 1, V.int 3, V.int 7, V.int 15, V.int 31, V.int 63] ((b : Int) - 1) = some (.int ((2 ^ b - 1 : Nat) : Int)) := by
  have : b = 1 ∨ b = 2 ∨ b = 3 ∨ b = 4 ∨ b = 5 ∨ b = 6 := by omega
  rcases this with rfl | rfl | rfl | rfl | rfl | rfl
  · exact atI_nat (j := 0) rfl
  · exact atI_nat (j := 1) rfl
  · exact atI_nat (j := 2) rfl
  · exact atI_nat (j := 3) rfl
  · exact atI_nat (j := 4) rfl
  · exact atI_nat (j := 5) rfl
theorem pow_at {m : Nat} (h : m ≤ 7) : atI [V.int 1, V.int 2, V.int 4, V.int 8, V.int 16, V.int 32, V.int 64, V.int 128] (m : Int) = some (.int ((2 ^ m : Nat) : Int)) := by
  have : m = 0 ∨ m = 1 ∨ m = 2 ∨ m = 3 ∨ m = 4 ∨ m = 5 ∨ m = 6 ∨ m = 7 := by omega
  rcases this with rfl | rfl | rfl | rfl | rfl | rfl | rfl | rfl
  · exact atI_nat (j := 0) rfl
  · exact atI_nat (j := 1) rfl
  · exact atI_nat (j := 2) rfl
  · exact atI_nat (j := 3) rfl
  · exact atI_nat (j := 4) rfl
  · exact atI_nat (j := 5) rfl
  · exact atI_nat (j := 6) rfl
  · exact atI_nat (j := 7) rfl
section
variable {P : Program} {w : World} {K : PySem.W.Frag} {mg : Str → Option Value} {base : Heap}
theorem sc_rule : FnScope ["_law_h", "_law_small", "_law_kind_here", "_law_step"] ["_law_h", "_law_small"] (defScope s_L_rule) := ⟨rfl, rfl, rfl, by decide +kernel, rfl, by decide +kernel, by decide +kernel⟩
theorem ok_rule (D : DefAt K mg "_law_rule" s_L_rule ["_law_h", "_law_small"]) (m_int : mg "int" = none) (C1 : Cl P w K mg base 1 "_law_next" ["_law_h", "_law_many"] spNext) : Cl P w K mg base 2 "_law_rule" ["_law_h", "_law_small"] spRule := by
  refine D.cl fun f fd F => ?_
  refine F.ok sc_rule (fun vs H Q E h => ?_) (fun cdv A outer s H vs Q E hr h => ?_)
  · obtain ⟨h, c, sm, rfl, _⟩ := h
    rfl
  · obtain ⟨h, c, sm, rfl, hsm, ha, q⟩ := h
    refine ⟨_, pss_cons (ps_set (i := 2) sc_rule.nd rfl (Or.inl rfl) (pe_ix ix_list (pe_lst (pa_cons pe_str (pa_cons pe_str (pa_cons pe_str pa_nil)))) (pe_cl C1 hr (pa_cons (pv 0) (pa_cons pe_int pa_nil))) (fun _ _ => rfl)))
      (pss_cons (ps_if (pt_cmpR op_eq (pv 2) pe_str (nomark _)) (pss_one (ps_ret (pe_tup (pa_cons (pv 2) (pa_cons (pe_op op_add pe_int (pe_cl C1 hr (pa_cons (pv 0) (pa_cons pe_int pa_nil)))) pa_nil))))) pss_nil)
      (pss_cons (ps_set (i := 3) sc_rule.nd rfl (Or.inl rfl) (pe_op op_add pe_int (pe_cl C1 hr (pa_cons (pv 0) (pa_cons (pe_ix ix_list (pe_lst (pa_cons pe_int (pa_cons pe_int pa_nil))) (pv 1) (fun _ _ => rfl)) pa_nil)))))
      (pss_one (ps_ret (pe_tup (pa_cons (pv 2) (pa_cons (pe_op op_add pe_int (pe_cl C1 hr (pa_cons (pv 0) (pa_cons (pe_ix ix_list (pe_ix ix_list (pe_lst (pa_cons (pe_lst (pa_cons pe_int (pa_cons pe_int pa_nil))) (pa_cons (pe_lst (pa_cons pe_int (pa_cons pe_int pa_nil))) pa_nil)))
        (pe_callTy call_int1 (by rfl) m_int (by decide +kernel) (pa_cons (pe_cmpR op_eq (pv 2) pe_str (nomark _)) pa_nil)) (fun _ _ => rfl)) (pv 1) (fun _ _ => rfl)) pa_nil)))) (pa_cons (pv 3) pa_nil)))))))), ?_⟩
    refine ⟨(by show 3 ≤ sizeLine; decide), fun l0 n0 => ?_⟩
    have s0 : Same H (upd H l0 (.lst [.str "count", .str "shift", .str "rough"])) := same_upd n0
    refine ⟨_, rfl, h, c, 3, rfl, by decide, by decide, ha.same s0, fun r0 H1 r0l ha1 k1 => ?_⟩
    have el : (upd H l0 (.lst [.str "count", .str "shift", .str "rough"])) l0 = some (.lst [.str "count", .str "shift", .str "rough"]) := upd_same
    have nl : l0 ≠ h ∧ l0 ≠ c := by
      obtain ⟨⟨mx, pl, ns, e1, e2, _⟩, _⟩ := ha
      exact ⟨(ne_of_none e1 n0).symm, (ne_of_none e2 n0).symm⟩
    have el1 := k1 _ _ el nl.1 nl.2
    have K1 : Kp2 h c H H1 := (Same.kp2 s0).trans k1
    have hr0 : r0 = 0 ∨ r0 = 1 ∨ r0 = 2 := by omega
    obtain ⟨kd, ek, hk⟩ : ∃ kd : Str, atI [V.str "count", V.str "shift", V.str "rough"] (r0 : Int) = some (.str kd) ∧ (kd = "count" ∨ kd = "shift" ∨ kd = "rough") := by
      rcases hr0 with rfl | rfl | rfl
      · exact ⟨"count", atI_nat (j := 0) rfl, .inl rfl⟩
      · exact ⟨"shift", atI_nat (j := 1) rfl, .inr (.inl rfl)⟩
      · exact ⟨"rough", atI_nat (j := 2) rfl, .inr (.inr rfl)⟩
    refine ⟨l0, _, _, _, rfl, rfl, SqL.of el1, ek, ?_⟩
    refine ⟨_, rfl, rfl, _, rfl, ?_⟩
    by_cases er : kd = "rough"
    · subst er
      rw [dec_str, decide_eq_true rfl]
      refine iteT ?_
      refine ⟨_, rfl, _, rfl, h, c, 3, rfl, by decide, by decide, ha1, fun r H2 rl ha2 k2 => ?_⟩
      refine ⟨_, _, rfl, rfl, (by show 2 ≤ sizeLine; decide), fun p np => ?_⟩
      refine q (.rgh (1 + r)) _ p ⟨by omega, by omega⟩ (fun _ => trivial) (ha2.same (same_upd np)) ((K1.trans k2).trans (Same.kp2 (same_upd np))) ?_
      exact upd_same
    · rw [dec_str, decide_eq_false er]
      refine iteF ?_
      refine ⟨_, rfl, (by show 2 ≤ sizeLine; decide), fun l1 n1 => ?_⟩
      have s1 : Same H1 (upd H1 l1 (.lst [.int 20, .int 6])) := same_upd n1
      obtain ⟨m1, em1, h11, h12, h13⟩ : ∃ m1 : Int, atI [V.int 20, V.int 6] sm = some (.int m1) ∧ 1 ≤ m1 ∧ m1 ≤ 20 ∧ (sm = 1 → m1 ≤ 6) := by
        rcases hsm with rfl | rfl
        · exact ⟨20, atI_nat (j := 0) rfl, by decide, by decide, fun e => nomatch e⟩
        · exact ⟨6, atI_nat (j := 1) rfl, by decide, by decide, fun _ => by decide⟩
      refine ⟨_, rfl, l1, _, _, _, rfl, rfl, SqL.of upd_same, em1, h, c, m1, rfl, h11, by omega, ha1.same s1, fun r2 H2 r2l ha2 k2 => ?_⟩
      refine ⟨_, _, rfl, rfl, ?_⟩
      refine ⟨_, rfl, _, rfl, (by show 2 ≤ sizeLine; decide), fun l2 n2 => ?_⟩
      have s2 : Same H2 (upd H2 l2 (.lst [.int 6, .int 4])) := same_upd n2
      refine ⟨(by show 2 ≤ sizeLine; decide), fun l3 n3 => ?_⟩
      have s3 : Same (upd H2 l2 (.lst [.int 6, .int 4])) (upd (upd H2 l2 (.lst [.int 6, .int 4])) l3 (.lst [.int 10, .int 5])) := same_upd n3
      refine ⟨(by show 2 ≤ sizeLine; decide), fun l4 n4 => ?_⟩
      have s4 : Same (upd (upd H2 l2 (.lst [.int 6, .int 4])) l3 (.lst [.int 10, .int 5])) (upd (upd (upd H2 l2 (.lst [.int 6, .int 4])) l3 (.lst [.int 10, .int 5])) l4 (.lst [.ref l2, .ref l3])) := same_upd n4
      have e2 := s4 _ _ (s3 _ _ (show (upd H2 l2 (.lst [.int 6, .int 4])) l2 = some (.lst [.int 6, .int 4]) from upd_same))
      have e3 := s4 _ _ (show (upd (upd H2 l2 (.lst [.int 6, .int 4])) l3 (.lst [.int 10, .int 5])) l3 = some (.lst [.int 10, .int 5]) from upd_same)
      have sa := (s2.trans s3).trans s4
      refine ⟨_, rfl, rfl, .inr ⟨_, rfl, ?_⟩⟩
      rw [dec_str]
      have hkd : kd = "count" ∨ kd = "shift" := by
        rcases hk with z | z | z
        · exact .inl z
        · exact .inr z
        · exact absurd z er
      obtain ⟨lx, elx, hlx⟩ : ∃ lx, atI [V.ref l2, V.ref l3] (if decide (kd = "shift") = true then 1 else 0) = some (.ref lx) ∧ (kd = "count" ∧ lx = l2 ∨ kd = "shift" ∧ lx = l3) := by
        rcases hkd with rfl | rfl
        · refine ⟨l2, ?_, .inl ⟨rfl, rfl⟩⟩
          rw [decide_eq_false k_cs]
          exact atI_nat (j := 0) rfl
        · refine ⟨l3, ?_, .inr ⟨rfl, rfl⟩⟩
          rw [decide_eq_true rfl]
          exact atI_nat (j := 1) rfl
      obtain ⟨u, v, euv, hu⟩ : ∃ u v : Int, (upd (upd (upd H2 l2 (.lst [.int 6, .int 4])) l3 (.lst [.int 10, .int 5])) l4 (.lst [.ref l2, .ref l3])) lx = some (.lst [.int u, .int v]) ∧ (kd = "count" ∧ u = 6 ∧ v = 4 ∨ kd = "shift" ∧ u = 10 ∧ v = 5) := by
        rcases hlx with ⟨z, rfl⟩ | ⟨z, rfl⟩
        · exact ⟨6, 4, e2, .inl ⟨z, rfl, rfl⟩⟩
        · exact ⟨10, 5, e3, .inr ⟨z, rfl, rfl⟩⟩
      obtain ⟨m2, em2, hm2⟩ : ∃ m2 : Int, atI [V.int u, V.int v] sm = some (.int m2) ∧ (sm = 0 ∧ m2 = u ∨ sm = 1 ∧ m2 = v) := by
        rcases hsm with rfl | rfl
        · exact ⟨u, atI_nat (j := 0) rfl, .inl ⟨rfl, rfl⟩⟩
        · exact ⟨v, atI_nat (j := 1) rfl, .inr ⟨rfl, rfl⟩⟩
      have b2 : 1 ≤ m2 ∧ m2 ≤ 10 := by
        rcases hu with ⟨_, rfl, rfl⟩ | ⟨_, rfl, rfl⟩ <;> rcases hm2 with ⟨_, rfl⟩ | ⟨_, rfl⟩ <;> decide
      refine ⟨l4, _, _, _, rfl, rfl, SqL.of upd_same, elx, _, rfl, lx, _, _, _, rfl, rfl, SqL.of euv, em2, h, c, m2, rfl, b2.1, by omega, ha2.same sa, fun r5 H5 r5l ha5 k5 => ?_⟩
      refine ⟨_, _, rfl, rfl, _, rfl, (by show 3 ≤ sizeLine; decide), fun p np => ?_⟩
      have KK : Kp2 h c H (upd H5 p (.tup [.str kd, .int (1 + (r5 : Int)), .int (1 + (r2 : Int))])) := (((K1.trans (Same.kp2 s1)).trans k2).trans (Same.kp2 sa)).trans (k5.trans (Same.kp2 (same_upd np)))
      rcases hu with ⟨rfl, rfl, rfl⟩ | ⟨rfl, rfl, rfl⟩
      · have x1 : (r5 : Int) < 6 ∧ (sm = 1 → (r5 : Int) < 4) := by
          rcases hm2 with ⟨z, rfl⟩ | ⟨z, rfl⟩
          · exact ⟨r5l, fun z' => by omega⟩
          · exact ⟨by omega, fun _ => r5l⟩
        exact q (.cnt (1 + r5) (1 + r2)) _ p ⟨by omega, by omega, by omega, by omega⟩ (fun z => by have := h13 z; have := x1.2 z; exact ⟨by omega, by omega⟩) (ha5.same (same_upd np)) KK upd_same
      · have x1 : (r5 : Int) < 10 ∧ (sm = 1 → (r5 : Int) < 5) := by
          rcases hm2 with ⟨z, rfl⟩ | ⟨z, rfl⟩
          · exact ⟨r5l, fun z' => by omega⟩
          · exact ⟨by omega, fun _ => r5l⟩
        exact q (.shf (1 + r5) (1 + r2)) _ p ⟨by omega, by omega, by omega, by omega⟩ (fun z => by have := h13 z; have := x1.2 z; exact ⟨by omega, by omega⟩) (ha5.same (same_upd np)) KK upd_same
theorem sc_end : FnScope ["_law_rule_here"] ["_law_rule_here"] (defScope s_L_end) := ⟨rfl, rfl, rfl, by decide +kernel, rfl, by decide +kernel, by decide +kernel⟩
theorem ok_end (D : DefAt K mg "_law_end" s_L_end ["_law_rule_here"]) : Cl P w K mg base 1 "_law_end" ["_law_rule_here"] spEnd := by
  refine D.cl fun f fd F => ?_
  refine F.ok sc_end (fun vs H Q E h => ?_) (fun cdv A outer s H vs Q E hr h => ?_)
  · obtain ⟨p, R, rfl, _⟩ := h
    rfl
  · obtain ⟨p, R, rfl, hp, ok, q⟩ := h
    refine ⟨_, pss_one (ps_ret (pe_ifExp (pt_cmpR op_ne (pe_ix ix_tup (pv 0) pe_int (fun _ _ => rfl)) pe_str (nomark _)) (pe_ix ix_list (pe_lst (pa_cons pe_int (pa_cons pe_int (pa_cons pe_int (pa_cons pe_int (pa_cons pe_int (pa_cons pe_int pa_nil))))))) (pe_op op_sub (pe_ix ix_tup (pv 0) pe_int (fun _ _ => rfl)) pe_int) (fun _ _ => rfl)) pe_int)), ?_⟩
    refine ⟨_, rfl, p, _, _, _, rfl, rfl, SqT.of hp, R.at0, rfl, _, rfl, ?_⟩
    rw [dec_str]
    by_cases hk : R.kind = "shift"
    · rw [decide_eq_true hk]
      refine iteF ?_
      cases R with
      | cnt b s => exact absurd hk k_cs
      | rgh b => exact absurd hk k_rs
      | shf b s => exact q H (Same.refl H)
    · rw [decide_eq_false hk]
      have eb : R.fin = 2 ^ R.bits - 1 ∧ R.bits ≤ 6 := by
        cases R with
        | cnt b s => exact ⟨rfl, ok.2.1⟩
        | rgh b => exact ⟨rfl, Nat.le_trans ok.2 (by decide)⟩
        | shf b s => exact absurd rfl hk
      refine iteT ⟨(by show 6 ≤ sizeLine; decide), fun l nl => ?_⟩
      have sl : Same H (upd H l (.lst [.int 1, .int 3, .int 7, .int 15, .int 31, .int 63])) := same_upd nl
      refine ⟨_, rfl, p, _, _, _, rfl, rfl, SqT.of (sl _ _ hp), R.at1, _, _, rfl, rfl, l, _, _, _, rfl, rfl, SqL.of upd_same, fin_at (R.bits_pos ok).1 eb.2, ?_⟩
      rw [← eb.1]
      exact q _ sl
theorem sc_most : FnScope ["_law_rule_here", "_law_most_here", "_law_turn"] ["_law_rule_here"] (defScope s_L_most) := ⟨rfl, rfl, rfl, by decide +kernel, rfl, by decide +kernel, by decide +kernel⟩
theorem ok_most (D : DefAt K mg "_law_most" s_L_most ["_law_rule_here"]) (m_range : mg "range" = none) (m_int : mg "int" = none) : Cl P w K mg base 1 "_law_most" ["_law_rule_here"] spTopMark := by
  refine D.cl fun f fd F => ?_
  refine F.ok sc_most (fun vs H Q E h => ?_) (fun cdv A outer s H vs Q E hr h => ?_)
  · obtain ⟨p, R, rfl, _⟩ := h
    rfl
  · obtain ⟨p, R, rfl, hp, ok, q⟩ := h
    refine ⟨_, pss_cons (ps_set (i := 1) sc_most.nd rfl (Or.inl rfl) pe_int)
      (pss_cons (ps_for PassesOwn.never rfl (pi_range1 (by rfl) m_range (pa_cons (pe_op op_add (pe_ix ix_tup (pv 0) pe_int (fun _ _ => rfl)) (pe_callTy call_int1 (by rfl) m_int (by decide +kernel) (pa_cons (pe_cmpR op_eq (pe_ix ix_tup (pv 0) pe_int (fun _ _ => rfl)) pe_str (nomark _)) pa_nil))) pa_nil))
        (pg_name (i := 2) sc_most.nd rfl (Or.inl rfl)) (pss_one (ps_set (i := 1) sc_most.nd rfl (Or.inl rfl) (pe_op op_mul (pv 1) pe_int))))
      (pss_one (ps_ret (pe_op op_sub (pv 1) pe_int)))), ?_⟩
    refine ⟨_, rfl, p, _, _, _, rfl, rfl, SqT.of hp, R.at1, _, rfl, p, _, _, _, rfl, rfl, SqT.of hp, R.at0, rfl, .inr ⟨_, rfl, ?_⟩⟩
    rw [dec_str]
    obtain ⟨n, en, hn, hm⟩ : ∃ n : Nat, (R.bits : Int) + (if decide (R.kind = "shift") = true then 1 else 0) = (n : Int) ∧ n ≤ 11 ∧ R.most = 2 ^ n - 1 := by
      have hb := R.bits_pos ok
      cases R with
      | cnt b s =>
        refine ⟨b, ?_, by have : b ≤ 10 := hb.2; omega, rfl⟩
        rw [decide_eq_false (show ¬ (Ru.cnt b s).kind = "shift" from k_cs)]
        rfl
      | rgh b =>
        refine ⟨b, ?_, by have : b ≤ 10 := hb.2; omega, rfl⟩
        rw [decide_eq_false (show ¬ (Ru.rgh b).kind = "shift" from k_rs)]
        rfl
      | shf b s =>
        refine ⟨b + 1, ?_, by have : b ≤ 10 := hb.2; omega, rfl⟩
        rw [decide_eq_true (show (Ru.shf b s).kind = "shift" from rfl)]
        rfl
    refine ⟨_, _, rfl, rfl, _, rfl, by omega, by omega, ?_⟩
    rw [en, Int.toNat_natCast]
    refine for_range (lo := 0) (n := n) (fun i σ H' => ∃ v : Option V, σ = [some (.ref p), some (.int ((2 ^ i : Nat) : Int)), v] ∧ H' = H ∧ i ≤ n) ⟨none, rfl, rfl, Nat.zero_le _⟩ ?_ ?_
    · rintro i σ H' hi ⟨v, rfl, rfl, _⟩
      have pw : 2 ^ i ≤ 2 ^ 11 := Nat.pow_le_pow_right (by decide) (by omega)
      refine ⟨_, rfl, _, _, rfl, rfl, .inl (le64 (Int.natCast_nonneg _) (by omega)), some (.int (0 + (i : Int))), ?_, rfl, hi⟩
      rw [Nat.pow_succ]
      rfl
    · rintro σ H' ⟨v, rfl, rfl, _⟩
      refine ⟨_, rfl, _, _, rfl, rfl, ?_⟩
      dsimp only
      have pp := Nat.two_pow_pos n
      rw [show ((2 ^ n : Nat) : Int) - 1 = (R.most : Int) by rw [hm]; omega]
      exact q
end
/-! ### bs.count(True), a list of truth values -/
def eqT (v : Value) : Bool := match v with
  | .bool b => b
  | _ => false
theorem countT (bs : List Bool) : (bs.map Value.bool).countP eqT = bs.count true := by
  induction bs with
  | nil => rfl
  | cons b r ih =>
    rw [List.map_cons, List.countP_cons, List.count_cons, ih]
    cases b <;> rfl
section
variable {X : Cx}
def rCntB (K : PySem.W.Frag) : V → List V → Hp → VK → Prop := fun x xs H Q => ∃ (p : Addr) (bs : List Bool), x = .ref p ∧ xs = [.bl true] ∧ SqL K H p (bs.map V.bl) ∧ Q (.int ((bs.count true : Nat) : Int)) H
theorem mt_countB : MtR X "list.count" (rCntB X.K) := by
  intro pins s σ H x xs v us Q I rx rxs h
  obtain ⟨p, bs, rfl, rfl, hs, q⟩ := h
  cases rx
  obtain ⟨u, rfl, ru⟩ := rxs.one
  obtain rfl : u = Value.bool true := ru
  obtain ⟨its, rv, ⟨⟨cls, dd, data, sl⟩, n, ho, hc, hdn, hd⟩, hlen⟩ := I.list hs
  simp only at hc hd
  subst hc hd
  have hb := rv.bls
  refine call_meets PySem.F.slot_list_count ⟨_, ho, rfl⟩ PySem.F.entry_list_count (PySem.F.args_list_count_2 _ _) (SeqAt.list_countAt p its.toArray n dd sl (.bool true) eqT) ⟨ho, fun y hy => ?_, ?_⟩
  · have hy' : y ∈ bs.map Value.bool := by
      rw [← hb]
      simpa using hy
    obtain ⟨b, _, rfl⟩ := List.mem_map.mp hy'
    have e := SeqAt.EqAt.bool_bool (A := X.A.in1) (s := s) b true
    have eb : (b == true) = eqT (.bool b) := by cases b <;> rfl
    rw [eb] at e
    first
      | exact e
      | exact SeqAt.EqAt.bool_bool b true
  · refine ⟨.int ((bs.count true : Nat) : Int), H, I.tok _, ⟨s.toks, ?_⟩, q⟩
    show Value.int ((its.toArray.toList.countP eqT : Nat) : Int) s.toks = Value.int ((bs.count true : Nat) : Int) s.toks
    rw [List.toList_toArray, hb, countT]
end
/-! ### lambdas are made: all but the tables of code stands (short) -/
theorem HAt.ext {H H' : Hp} {h c : Addr} (a : HAt H h c) (e : LamX.ExtN H H') : HAt H' h c := by
  obtain ⟨⟨mx, pl, ns, e1, e2, rest⟩, hne⟩ := a
  exact ⟨⟨mx, pl, ns, e _ _ e1 (fun _ z => nomatch z), e _ _ e2 (fun _ z => nomatch z), rest⟩, hne⟩
abbrev plainO (o : HO) : Prop := (∀ ps, o ≠ .tbl ps) ∧ ∀ F, o ≠ .ext F
theorem TabS_kpL {H H' : Hp} {P : Addr} {q : Str} {L : List Addr} (t : LamX.TabS H P q) (k : KpL L H H') (n : ∀ x, x ∈ L → ∃ o, H x = some o ∧ plainO o) : LamX.TabS H' P q := by
  obtain ⟨ps, h1, h2, h3⟩ := t
  refine ⟨ps, k _ _ h1 (fun z => ?_), h2, fun pos cv hc => ?_⟩
  · obtain ⟨o, e, n1, _⟩ := n _ z
    rw [h1] at e
    exact n1 ps (Option.some.inj e).symm
  · obtain ⟨c, e1, e2⟩ := h3 pos cv hc
    refine ⟨c, e1, k _ _ e2 fun z => ?_⟩
    obtain ⟨o, e, _, n2⟩ := n _ z
    rw [e2] at e
    exact n2 _ (Option.some.inj e).symm
theorem HAt.plain {H : Hp} {h c x : Addr} (a : HAt H h c) (hx : x ∈ [h, c]) : ∃ o, H x = some o ∧ plainO o := by
  obtain ⟨⟨mx, pl, ns, e1, e2, _⟩, _⟩ := a
  rcases List.mem_cons.mp hx with rfl | hx
  · exact ⟨_, e1, ⟨(fun _ z => nomatch z), (fun _ z => nomatch z)⟩⟩
  · rw [List.mem_singleton.mp hx]
    exact ⟨_, e2, ⟨(fun _ z => nomatch z), (fun _ z => nomatch z)⟩⟩
abbrev qL : Str := ("law" : Str) ++ ".<locals>." ++ "<lambda>"
/-! ### with which class a thing is refused -/
def kwords : List Str := ["BadRule", "BadMark", "BadMoment", "BadBounds", "NoRule", "BadThings", "NoThing", "BadText"]
structure ErrG (mg : Str → Option Value) (cS c0 c1 c2 c3 c4 c5 c6 c7 : Addr) : Prop where
  gS : mg "SeenError" = some (.ref cS)
  g0 : mg "BadRule" = some (.ref c0)
  g1 : mg "BadMark" = some (.ref c1)
  g2 : mg "BadMoment" = some (.ref c2)
  g3 : mg "BadBounds" = some (.ref c3)
  g4 : mg "NoRule" = some (.ref c4)
  g5 : mg "BadThings" = some (.ref c5)
  g6 : mg "NoThing" = some (.ref c6)
  g7 : mg "BadText" = some (.ref c7)
/-- the class at D is the j-th of the words, and none of the others -/
structure ErrIs (K : PySem.W.Frag) (cS c0 c1 c2 c3 c4 c5 c6 c7 D : Addr) (j : Nat) : Prop where
  ex : ExcC K D
  em : PySem.W.exmOne K (.ref D) (.ref cS) = some true
  k0 : PySem.W.kitOne K (.ref D) (.ref c0) = some (decide (j = 0))
  k1 : PySem.W.kitOne K (.ref D) (.ref c1) = some (decide (j = 1))
  k2 : PySem.W.kitOne K (.ref D) (.ref c2) = some (decide (j = 2))
  k3 : PySem.W.kitOne K (.ref D) (.ref c3) = some (decide (j = 3))
  k4 : PySem.W.kitOne K (.ref D) (.ref c4) = some (decide (j = 4))
  k5 : PySem.W.kitOne K (.ref D) (.ref c5) = some (decide (j = 5))
  k6 : PySem.W.kitOne K (.ref D) (.ref c6) = some (decide (j = 6))
  k7 : PySem.W.kitOne K (.ref D) (.ref c7) = some (decide (j = 7))
  kv : PySem.W.kitOne K (.ref D) (.type "ValueError") = some true
  lt : j < 8
def hot (j : Nat) : List Bool := [decide (j = 0), decide (j = 1), decide (j = 2), decide (j = 3), decide (j = 4), decide (j = 5), decide (j = 6), decide (j = 7)]
theorem hot_count {j : Nat} (h : j < 8) : (hot j).count true = 1 := by
  have : j = 0 ∨ j = 1 ∨ j = 2 ∨ j = 3 ∨ j = 4 ∨ j = 5 ∨ j = 6 ∨ j = 7 := by omega
  rcases this with rfl | rfl | rfl | rfl | rfl | rfl | rfl | rfl <;> rfl
theorem hot_at {j : Nat} (h : j < 8) : ((hot j).map V.bl)[j]? = some (.bl true) := by
  have : j = 0 ∨ j = 1 ∨ j = 2 ∨ j = 3 ∨ j = 4 ∨ j = 5 ∨ j = 6 ∨ j = 7 := by omega
  rcases this with rfl | rfl | rfl | rfl | rfl | rfl | rfl | rfl <;> rfl
theorem hot_get {j m : Nat} {z : V} (h : ((hot j).map V.bl)[m]? = some z) : z = .bl (decide (j = m)) := by
  match m, h with
  | 0, h => exact (Option.some.inj h).symm
  | 1, h => exact (Option.some.inj h).symm
  | 2, h => exact (Option.some.inj h).symm
  | 3, h => exact (Option.some.inj h).symm
  | 4, h => exact (Option.some.inj h).symm
  | 5, h => exact (Option.some.inj h).symm
  | 6, h => exact (Option.some.inj h).symm
  | 7, h => exact (Option.some.inj h).symm
  | m + 8, h => simp [hot] at h
theorem hot_flat (j : Nat) : ((hot j).map V.bl).all flatV = true := rfl
/-- what the def makes of the reading of what it calls -/
def TKind (K : PySem.W.Frag) (cS c0 c1 c2 c3 c4 c5 c6 c7 : Addr) : (XK → Hp → VK → Prop) → Hp → VK → Prop := fun tl H Q =>
  tl (fun cls d H' => ∃ D j wd, cls = .ref D ∧ d = none ∧ ErrIs K cS c0 c1 c2 c3 c4 c5 c6 c7 D j ∧ kwords[j]? = some wd ∧ ∀ H'', Same H' H'' → Q (.str wd) H'') H (fun _ H' => Q (.str "") H')
section
theorem sc_kind : FnScope ["_law_work", "e", "_law_kinds", "_law_words"] ["_law_work"] (defScope s_L_kind) := ⟨rfl, rfl, rfl, by decide +kernel, rfl, by decide +kernel, by decide +kernel⟩
theorem kind_gives {X : Cx} {g : Addr} {cdg : Value} {q : Str} {cS c0 c1 c2 c3 c4 c5 c6 c7 : Addr} (G : ErrG X.mg cS c0 c1 c2 c3 c4 c5 c6 c7) (m_isi : X.mg "isinstance" = none) (m_ve : X.mg "ValueError" = none) (hu : X.A.units + 300 < cLine) :
    LamX.GivesTo X ["_law_work", "e", "_law_kinds", "_law_words"] "_law_kind" (defScope s_L_kind) g cdg (defBody s_L_kind) "_law_work" q (TKind X.K cS c0 c1 c2 c3 c4 c5 c6 c7) := by
  intro f c' s H Q tl act hc h
  refine ⟨_, pss_cons (ps_try_as (X := (cxOf C8.CX0 X.prog X.w X.K X.mg X.base ["_law_work", "e", "_law_kinds", "_law_words"] "_law_kind" (defScope s_L_kind) g cdg X.A X.stack s H C8.E0).nox) (i := 1) (c := .ref cS)
      (tb := fun W D σ H => ∃ Ech : XK, (∀ cls d σ' H', Ech cls d H' → W cls d σ' H') ∧ σ[0]? = some (some (.ref f)) ∧ H c' = some (LamX.CodeO c' q) ∧ tl Ech H (fun _ H' => D.nx σ H'))
      (ts := fun a cls d D σ H => ∃ Dc j wd, cls = .ref Dc ∧ d = none ∧ ErrIs X.K cS c0 c1 c2 c3 c4 c5 c6 c7 Dc j ∧ kwords[j]? = some wd ∧ (∃ σ0 : L2.St, σ = σ0.set 1 (some (.ref a))) ∧ ∀ H', Same H H' → D.rt (.str wd) H')
      rfl rfl sc_kind.nd rfl rfl ⟨rfl, by decide, .inl G.gS⟩ takes0 (fun W pn xe tk _ => ?_) (fun a oe cls d pn hz hf => ?_)) (pss_one (ps_ret pe_str)), ?_⟩
  · refine ⟨fun pins s' σ H' D I h' => ?_⟩
    obtain ⟨Ech, hW, h1, h2, h3⟩ := h'
    exact (pss_one (ps_expr (act W pn xe Ech _ _ tk hW))).run pins s' σ H' D I ⟨h1, h2, h3⟩
  · refine ⟨fun pins s' σ H' D I h' => ?_⟩
    obtain ⟨Dc, j, wd, rfl, rfl, er, hwd, ⟨σ0, rfl⟩, hq⟩ := h'
    have ln := I.len
    rw [List.length_set] at ln
    obtain ⟨y0, y1, y2, y3, rfl⟩ : ∃ y0 y1 y2 y3, σ0 = [y0, y1, y2, y3] := by
      match σ0, ln with
      | [y0, y1, y2, y3], _ => exact ⟨_, _, _, _, rfl⟩
    have isE := call_isE (X := (cxOf C8.CX0 X.prog X.w X.K X.mg X.base ["_law_work", "e", "_law_kinds", "_law_words"] "_law_kind" (defScope s_L_kind) g cdg X.A X.stack s H C8.E0).nox) (a := a) (pn := pn) er.ex hz hf
    refine' PSs.run (X := ((cxOf C8.CX0 X.prog X.w X.K X.mg X.base ["_law_work", "e", "_law_kinds", "_law_words"] "_law_kind" (defScope s_L_kind) g cdg X.A X.stack s H C8.E0).nox).suite a ((a, oe) :: pn)) (t := _) ?hh pins s' _ H' D I ?rr
    case hh =>
      refine' pss_cons (ps_set (i := 2) sc_kind.nd rfl (Or.inl rfl) (pe_lst (pa_cons (pe_callB isE (by rfl) m_isi (by decide +kernel) (pa_cons (pv 1) (pa_cons (pe_glob (v := .ref c0) (by rfl) G.g0 rfl) pa_nil)))
        (pa_cons (pe_callB isE (by rfl) m_isi (by decide +kernel) (pa_cons (pv 1) (pa_cons (pe_glob (v := .ref c1) (by rfl) G.g1 rfl) pa_nil)))
        (pa_cons (pe_callB isE (by rfl) m_isi (by decide +kernel) (pa_cons (pv 1) (pa_cons (pe_glob (v := .ref c2) (by rfl) G.g2 rfl) pa_nil)))
        (pa_cons (pe_callB isE (by rfl) m_isi (by decide +kernel) (pa_cons (pv 1) (pa_cons (pe_glob (v := .ref c3) (by rfl) G.g3 rfl) pa_nil))) pa_nil)))))) ?n0
      case n0 =>
        refine' pss_cons (ps_set (i := 2) sc_kind.nd rfl (Or.inl rfl) (pe_op op_cat (pv 2) (pe_lst (pa_cons (pe_callB isE (by rfl) m_isi (by decide +kernel) (pa_cons (pv 1) (pa_cons (pe_glob (v := .ref c4) (by rfl) G.g4 rfl) pa_nil)))
        (pa_cons (pe_callB isE (by rfl) m_isi (by decide +kernel) (pa_cons (pv 1) (pa_cons (pe_glob (v := .ref c5) (by rfl) G.g5 rfl) pa_nil)))
        (pa_cons (pe_callB isE (by rfl) m_isi (by decide +kernel) (pa_cons (pv 1) (pa_cons (pe_glob (v := .ref c6) (by rfl) G.g6 rfl) pa_nil))) pa_nil)))))) ?n1
        case n1 =>
          refine' pss_cons (ps_expr (pe_bm PySem.F.plainAttrs_list PySem.F.slot_list_append PySem.F.type_list_append mt_append (pv 2) (pa_cons (pe_callB isE (by rfl) m_isi (by decide +kernel) (pa_cons (pv 1) (pa_cons (pe_glob (v := .ref c7) (by rfl) G.g7 rfl) pa_nil))) pa_nil))) ?n2
          case n2 =>
            refine' pss_cons (ps_set (i := 3) sc_kind.nd rfl (Or.inl rfl) (pe_lst (pa_cons pe_str (pa_cons pe_str (pa_cons pe_str (pa_cons pe_str (pa_cons pe_str (pa_cons pe_str (pa_cons pe_str (pa_cons pe_str pa_nil)))))))))) ?n3
            case n3 =>
              refine' pss_cons (ps_if (PW.pt (pw_or (pt_cmpR op_ne (pe_bm PySem.F.plainAttrs_list PySem.F.slot_list_count PySem.F.type_list_count mt_countB (pv 2) (pa_cons pe_bl pa_nil)) pe_int (nomark _)) (pw_or1 (pt_not (pt_val (pe_callB isE (by rfl) m_isi (by decide +kernel) (pa_cons (pv 1) (pa_cons (pe_bltn (v := .ty "ValueError") (u := .type "ValueError") (by rfl) m_ve (by decide +kernel) rfl) pa_nil)))))))) pss_never pss_nil) ?n4
              case n4 =>
                exact pss_one (ps_ret (pe_ix ix_list (pv 3) (pe_bm PySem.F.plainAttrs_list PySem.F.slot_list_index PySem.F.type_list_index mt_index (pv 2) (pa_cons pe_bl pa_nil)) (fun _ _ => rfl)))
    case rr =>
      refine ⟨_, rfl, .ref c0, .ref c0, _, rfl, fun u r => r, er.k0, _, rfl, .ref c1, .ref c1, _, rfl, fun u r => r, er.k1, _, rfl, .ref c2, .ref c2, _, rfl, fun u r => r, er.k2, _, rfl, .ref c3, .ref c3, _, rfl, fun u r => r, er.k3, (by show 4 ≤ sizeLine; decide), fun l1 n1 => ?_⟩
      have s1 := same_upd (o := .lst [V.bl (decide (j = 0)), V.bl (decide (j = 1)), V.bl (decide (j = 2)), V.bl (decide (j = 3))]) n1
      refine ⟨_, rfl, _, rfl, .ref c4, .ref c4, _, rfl, fun u r => r, er.k4, _, rfl, .ref c5, .ref c5, _, rfl, fun u r => r, er.k5, _, rfl, .ref c6, .ref c6, _, rfl, fun u r => r, er.k6, (by show 3 ≤ sizeLine; decide), fun l2 n2 => ?_⟩
      have s2 := same_upd (o := .lst [V.bl (decide (j = 4)), V.bl (decide (j = 5)), V.bl (decide (j = 6))]) n2
      refine ⟨l1, l2, _, _, rfl, rfl, s2 _ _ upd_same, upd_same, (by show 4 + 3 ≤ sizeLine; decide), fun l3 n3 => ?_⟩
      have s3 := same_upd (o := .lst ([V.bl (decide (j = 0)), V.bl (decide (j = 1)), V.bl (decide (j = 2)), V.bl (decide (j = 3))] ++ [V.bl (decide (j = 4)), V.bl (decide (j = 5)), V.bl (decide (j = 6))])) n3
      refine ⟨_, rfl, .inl ⟨rfl, _, SqL.of upd_same⟩, _, rfl, .ref c7, .ref c7, _, rfl, fun u r => r, er.k7, l3, _, _, rfl, rfl, upd_same, (by show 7 < sizeLine; decide), ?_⟩
      rw [upd_upd]
      have sa : Same H' (upd (upd (upd H' l1 (.lst [V.bl (decide (j = 0)), V.bl (decide (j = 1)), V.bl (decide (j = 2)), V.bl (decide (j = 3))])) l2 (.lst [V.bl (decide (j = 4)), V.bl (decide (j = 5)), V.bl (decide (j = 6))])) l3 (.lst ((hot j).map V.bl))) := (s1.trans s2).trans (same_upd n3)
      refine ⟨(by show 8 ≤ sizeLine; decide), fun l4 n4 => ?_⟩
      have s4 := same_upd (o := .lst (kwords.map V.str)) n4
      have e3 := s4 _ _ (show (upd (upd (upd H' l1 (HO.lst [V.bl (decide (j = 0)), V.bl (decide (j = 1)), V.bl (decide (j = 2)), V.bl (decide (j = 3))])) l2 (.lst [V.bl (decide (j = 4)), V.bl (decide (j = 5)), V.bl (decide (j = 6))])) l3 (.lst ((hot j).map V.bl))) l3 = some (.lst ((hot j).map V.bl)) from upd_same)
      refine ⟨_, rfl, .inl ⟨rfl, _, SqL.of e3⟩, l3, hot j, rfl, rfl, SqL.of e3, rfl, _, rfl, ?_⟩
      rw [hot_count er.lt]
      refine iteNS rfl ?_
      refine ⟨_, rfl, .ty "ValueError", .type "ValueError", _, rfl, fun u r => r, er.kv, _, rfl, iteF ?_⟩
      refine ⟨_, rfl, _, rfl, .inl ⟨rfl, _, SqL.of e3⟩, l3, (hot j).map V.bl, .bl true, j, .bl true, rfl, rfl, SqL.of e3, rfl, hot_flat j, hot_at er.lt, rfl, fun m z' hm hz' => ?_, ?_⟩
      · rw [hot_get hz', decide_eq_false (show ¬ j = m by omega)]
        rfl
      · refine ⟨l4, kwords.map V.str, _, _, rfl, rfl, SqL.of upd_same, atI_nat (j := j) (by rw [List.getElem?_map, hwd]; rfl), hq _ (sa.trans s4)⟩
  · exact ⟨fun cls d H' => ∃ D j wd, cls = .ref D ∧ d = none ∧ ErrIs X.K cS c0 c1 c2 c3 c4 c5 c6 c7 D j ∧ kwords[j]? = some wd ∧ ∀ H'', Same H' H'' → Q (.str wd) H'', fun cls d σ' H' ⟨D, j, wd, e1, e2, er, hwd, hq⟩ => by
      subst e1 e2
      exact ⟨true, er.em, fun _ a _ => ⟨D, j, wd, rfl, rfl, er, hwd, ⟨σ', rfl⟩, hq⟩, fun e => nomatch e⟩, rfl, hc, h⟩
end
/-! ### which of the words a class is, as one test -/
def errIsB (K : PySem.W.Frag) (cS c0 c1 c2 c3 c4 c5 c6 c7 D : Addr) (j : Nat) : Bool :=
  (decide (PySem.W.findIn K (.ref D) "__getattribute__" = some (some (.builtin "BaseException.__getattribute__"))) && decide (PySem.W.findIn K (.ref D) "__getattr__" = some none) && decide (PySem.W.subIn K (.ref D) (.type "BaseException") = some true) && PySem.W.hasDictIn K D &&
    decide (PySem.W.findIn K (.ref D) "__class__" = some (some (.builtin "object.__class__"))) && decide (PySem.W.specialIn K (.builtin "object.__class__") "__get__" = some (some (.builtin "getset_descriptor.__get__"))) && decide (PySem.W.takesIn K (.builtin "object.__class__") = some true) && decide (PySem.W.mroIn K D (.type "object") = some true)) &&
  (decide (PySem.W.exmOne K (.ref D) (.ref cS) = some true) && decide (PySem.W.kitOne K (.ref D) (.ref c0) = some (decide (j = 0))) && decide (PySem.W.kitOne K (.ref D) (.ref c1) = some (decide (j = 1))) && decide (PySem.W.kitOne K (.ref D) (.ref c2) = some (decide (j = 2))) && decide (PySem.W.kitOne K (.ref D) (.ref c3) = some (decide (j = 3))) &&
    decide (PySem.W.kitOne K (.ref D) (.ref c4) = some (decide (j = 4))) && decide (PySem.W.kitOne K (.ref D) (.ref c5) = some (decide (j = 5))) && decide (PySem.W.kitOne K (.ref D) (.ref c6) = some (decide (j = 6))) && decide (PySem.W.kitOne K (.ref D) (.ref c7) = some (decide (j = 7))) && decide (PySem.W.kitOne K (.ref D) (.type "ValueError") = some true) && decide (j < 8))
theorem errIs_of {K : PySem.W.Frag} {cS c0 c1 c2 c3 c4 c5 c6 c7 D : Addr} {j : Nat} (h : errIsB K cS c0 c1 c2 c3 c4 c5 c6 c7 D j = true) : ErrIs K cS c0 c1 c2 c3 c4 c5 c6 c7 D j := by
  unfold errIsB at h
  simp only [Bool.and_eq_true, decide_eq_true_eq] at h
  obtain ⟨⟨⟨⟨⟨⟨⟨⟨h1, h2⟩, h3⟩, h4⟩, h5⟩, h6⟩, h7⟩, h8⟩, ⟨⟨⟨⟨⟨⟨⟨⟨⟨⟨g0, g1⟩, g2⟩, g3⟩, g4⟩, g5⟩, g6⟩, g7⟩, g8⟩, g9⟩, g10⟩⟩ := h
  exact ⟨⟨h1, h2, h3, h4, h5, h6, h7, h8⟩, g0, g1, g2, g3, g4, g5, g6, g7, g8, g9, g10⟩
/-! ### what the law's lambdas do -/
section
open PySem.W NdefX LamX
theorem same_bck {L : List Addr} {H H' : Hp} (x : Exts L H) (s : Same (fgt L H) H') : Same H (bck L H H') := fun b o e => by
  by_cases hb : b ∈ L
  · rw [bck_in hb]
    exact e
  · rw [bck_out hb]
    exact s b o (by rw [fgt_out hb]; exact e)
theorem notRule.fgt {L : List Addr} {H : Hp} {p : Addr} (x : Exts L H) (a : notRule H p) : notRule (LS.fgt L H) p := let ⟨k, is, h, r⟩ := a; ⟨k, is, x.fgt h (fun _ z => nomatch z), r⟩
abbrev ruFgt {L : List Addr} {H : Hp} {p : Addr} {R : Ru} (x : Exts L H) (a : RuAt H p R) : RuAt (LS.fgt L H) p R := x.fgt a (fun _ z => nomatch z)
section
variable {P : Program} {w : World} {K : Frag} {mg : Str → Option Value} {base : Heap} {cS c0 c1 c2 c3 c4 c5 c6 c7 : Addr} {H : Hp} {f : Addr} {R : Hp → VK → XK → Prop} {Q : VK} {σ : L2.St} {i : Nat}
/-- the def that tells the word, on a kept lambda that is refused -/
theorem kind_bad {D : Addr} {j : Nat} {wd : Str} (er : ErrIs K cS c0 c1 c2 c3 c4 c5 c6 c7 D j) (hw : kwords[j]? = some wd) (W : WorkAt P w K mg base H f R) (hs : σ[i]? = some (some (.ref f))) (hR : ∀ L, Exts L H → ∀ Q E, (∀ H', Same (LS.fgt L H) H' → E (.ref D) none H') → R (LS.fgt L H) Q E) (q : ∀ H', Same H H' → Q (.str wd) H') :
    tKindv P w K mg base 7 (TKind K cS c0 c1 c2 c3 c4 c5 c6 c7) i σ H Q := by
  obtain ⟨F, e, N, ps, fr, sp, ws, L, la, tc, hsp⟩ := W
  have hc : H F.c = some (CodeO F.c F.qual) := let ⟨_, _, z, _⟩ := la; z
  have x := tc.exts
  exact ⟨f, F, e, N, ps, fr, sp, L, hs, hc, la, ws, tc, hsp _ _ _ (hR _ x _ _ fun H' s => ⟨D, j, wd, rfl, rfl, er, hw, fun H'' s2 => q H'' ((same_bck x s).trans s2)⟩)⟩
/-- .. on one that is let by -/
theorem kind_ok1 (W : WorkAt P w K mg base H f R) (hs : σ[i]? = some (some (.ref f))) (hR : ∀ L, Exts L H → ∀ Q E, (∀ v H', Same (LS.fgt L H) H' → Q v H') → R (LS.fgt L H) Q E) (q : ∀ H', Same H H' → Q (.str "") H') :
    tKindv P w K mg base 7 (TKind K cS c0 c1 c2 c3 c4 c5 c6 c7) i σ H Q := by
  obtain ⟨F, e, N, ps, fr, sp, ws, L, la, tc, hsp⟩ := W
  have hc : H F.c = some (CodeO F.c F.qual) := let ⟨_, _, z, _⟩ := la; z
  have x := tc.exts
  exact ⟨f, F, e, N, ps, fr, sp, L, hs, hc, la, ws, tc, hsp _ _ _ (hR _ x _ _ fun v H' s => q _ (same_bck x s))⟩
end
section
variable {H : Hp} {Q : VK} {E : XK} {C c0 c1 c2 c5 : Addr}
abbrev spA (c0 c1 c2 : Addr) : Sp := fun vs H Q E => spAged vs H Q E ∨ spAgedBad c0 c1 c2 vs H Q E
abbrev spS (c0 c1 c2 : Addr) : Sp := fun vs H Q E => spSpan vs H Q E ∨ spSpanBad c0 c1 c2 vs H Q E
abbrev spO (c0 : Addr) : Sp := fun vs H Q E => spOff vs H Q E ∨ spRuleBad c0 vs H Q E
abbrev spRe (c0 : Addr) : Sp := fun vs H Q E => spReach vs H Q E ∨ spRuleBad c0 vs H Q E
theorem nr_aged {p : Addr} {m b e : Int} (nr : notRule H p) (h : ∀ H', Same H H' → E (.ref c0) none H') : spA c0 c1 c2 [.ref p, .int m, .int b, .int e] H Q E := .inr ⟨p, m, b, e, rfl, .inl ⟨nr, h⟩⟩
theorem nr_span {p : Addr} {n m : Int} (nr : notRule H p) (h : ∀ H', Same H H' → E (.ref c0) none H') : spS c0 c1 c2 [.ref p, .int n, .int m] H Q E := .inr ⟨p, n, m, rfl, .inl ⟨nr, h⟩⟩
theorem nr_off {p : Addr} (nr : notRule H p) (h : ∀ H', Same H H' → E (.ref c0) none H') : spO c0 [.ref p] H Q E := .inr ⟨p, rfl, nr, h⟩
theorem nr_reach {p : Addr} (nr : notRule H p) (h : ∀ H', Same H H' → E (.ref c0) none H') : spRe c0 [.ref p] H Q E := .inr ⟨p, rfl, nr, h⟩
theorem mk_same {x dx : Addr} (h1 : H x = none) (h2 : H dx = none) (h3 : dx ≠ x) : Same H (upd (upd H dx (.own x)) x (.ins C dx [])) := (same_upd h2).trans (same_upd ((upd_ne h3.symm).trans h1))
theorem nr_board {p : Addr} {i : Int} (nr : notRule H p) (h : ∀ H', Same H H' → E (.ref c0) none H') : spMk C (spInitX C c0 c5) [.ref p, .int i] H Q E := fun x dx h1 h2 h3 =>
  .inr ⟨x, p, i, rfl, .inl ⟨nr.same (mk_same h1 h2 h3), fun H' s => h H' ((mk_same h1 h2 h3).trans s)⟩⟩
theorem th_board {p : Addr} {R : Ru} {i : Int} (hp : RuAt H p R) (ok : R.ok) (hi : ¬ (1 ≤ i ∧ i ≤ 8)) (h : ∀ H', Same H H' → E (.ref c5) none H') : spMk C (spInitX C c0 c5) [.ref p, .int i] H Q E := fun x dx h1 h2 h3 =>
  .inr ⟨x, p, i, rfl, .inr ⟨R, mk_same h1 h2 h3 _ _ hp, ok, hi, fun H' s => h H' ((mk_same h1 h2 h3).trans s)⟩⟩
theorem most_pos {R : Ru} (ok : R.ok) : 1 ≤ R.most := by
  cases R with
  | cnt b s =>
    obtain ⟨h1, _⟩ : 1 ≤ b ∧ _ := ok
    have : 2 ^ 1 ≤ 2 ^ b := Nat.pow_le_pow_right (by decide) h1
    show 1 ≤ 2 ^ b - 1
    omega
  | shf b s =>
    obtain ⟨h1, _⟩ : 1 ≤ b ∧ _ := ok
    have : 2 ^ 1 ≤ 2 ^ (b + 1) := Nat.pow_le_pow_right (by decide) (by omega)
    show 1 ≤ 2 ^ (b + 1) - 1
    omega
  | rgh b =>
    obtain ⟨h1, _⟩ : 1 ≤ b ∧ _ := ok
    have : 2 ^ 1 ≤ 2 ^ b := Nat.pow_le_pow_right (by decide) h1
    show 1 ≤ 2 ^ b - 1
    omega
theorem ok_agedQ {p : Addr} {R : Ru} (hp : RuAt H p R) (ok : R.ok) (h : ∀ v H', Same H H' → Q v H') : spA c0 c1 c2 [.ref p, .int 1, .int 1000000000, .int 1000000000] H Q E := .inl ⟨p, R, 1, 1000000000, 0, 1, 1000000000, 1000000000, rfl, rfl, rfl, rfl, hp, ok, most_pos ok, by decide, fun H' s => h _ H' s⟩
theorem ok_spanQ {p : Addr} {R : Ru} (hp : RuAt H p R) (ok : R.ok) (h : ∀ v H', Same H H' → Q v H') : spS c0 c1 c2 [.ref p, .int 1000000000, .int 1] H Q E := .inl ⟨p, R, 1000000000, 1, 1000000000, 1, rfl, rfl, rfl, hp, ok, most_pos ok, by decide, fun H' T x y _ _ s _ => h _ H' s⟩
theorem ok_offQ {p : Addr} {R : Ru} (hp : RuAt H p R) (ok : R.ok) (h : ∀ v H', Same H H' → Q v H') : spO c0 [.ref p] H Q E := .inl ⟨p, R, rfl, hp, ok, fun v H' _ s => h _ H' s⟩
theorem ok_reachQ {p : Addr} {R : Ru} (hp : RuAt H p R) (ok : R.ok) (h : ∀ v H', Same H H' → Q v H') : spRe c0 [.ref p] H Q E := .inl ⟨p, R, rfl, hp, ok, fun v H' _ s => h _ H' s⟩
theorem ok_boardQ {p : Addr} {R : Ru} (hp : RuAt H p R) (ok : R.ok) (h : ∀ v H', Same H H' → Q v H') : spMk C (spInitX C c0 c5) [.ref p, .int 1] H Q E := fun x dx h1 h2 h3 =>
  .inl ⟨x, dx, p, R, 1, 1, rfl, rfl, upd_same, mk_same h1 h2 h3 _ _ hp, ok, by decide, by decide, fun H' am ba na k => ⟨rfl, h _ H' fun b o e => by
    have hb : b ≠ x := fun z => by rw [z, h1] at e; cases e
    exact k b o (mk_same h1 h2 h3 _ _ e) (fun z => hb (List.mem_singleton.mp z))⟩⟩
end
/-! ### the law's things -/
structure HW (T : List (Addr × Str)) (H : Hp) (h c : Addr) : Prop where
  ha : HAt H h c
  tb : Tabs T H
theorem HW.same {T : List (Addr × Str)} {H H' : Hp} {h c : Addr} (a : HW T H h c) (k : Same H H') : HW T H' h c := ⟨a.ha.same k, a.tb.ext k⟩
theorem HW.drawn {T : List (Addr × Str)} {H H' : Hp} {h c : Addr} (a : HW T H h c) (ha : HAt H' h c) (k : Kp2 h c H H') : HW T H' h c := ⟨ha, fun p hp => TabS_kpL (a.tb p hp) (Kp2.kpL k) fun _ hx => a.ha.plain hx⟩
theorem HW.lam {T : List (Addr × Str)} {H H' : Hp} {h c : Addr} (a : HW T H h c) (e : ExtN H H') (t : Tabs T H') : HW T H' h c := ⟨a.ha.ext e, t⟩
theorem HW.put {T : List (Addr × Str)} {H : Hp} {h c lw : Addr} {xs : List V} {o : HO} (a : HW T H h c) (e : H lw = some (.lst xs)) (n : lw ≠ h ∧ lw ≠ c) : HW T (upd H lw o) h c := by
  obtain ⟨⟨⟨mx, pl, ns, e1, e2, rest⟩, hne⟩, tb⟩ := a
  refine ⟨⟨⟨mx, pl, ns, by rw [upd_ne n.1.symm]; exact e1, by rw [upd_ne n.2.symm]; exact e2, rest⟩, hne⟩, fun p hp => TabS_kpL (L := [lw]) (tb p hp) (fun x o e' nn => ?_) fun x hx => ?_⟩
  · rw [upd_ne (fun z => nn (by rw [z]; simp))]
    exact e'
  · rw [List.mem_singleton.mp hx]
    exact ⟨_, e, (fun _ z => nomatch z), (fun _ z => nomatch z)⟩
theorem notRule.kp2 {H H' : Hp} {h c p : Addr} (a : notRule H p) (ha : HAt H h c) (k : Kp2 h c H H') : notRule H' p := let ⟨x, y, e, r⟩ := a; ⟨x, y, k.tup ha e, r⟩
theorem notRule.ext {H H' : Hp} {p : Addr} (a : notRule H p) (k : ExtN H H') : notRule H' p := let ⟨x, y, e, r⟩ := a; ⟨x, y, k _ _ e (fun _ z => nomatch z), r⟩
end
/-! ### the law -/
theorem dp_rep {K : PySem.W.Frag} {H : Hp} {i : Int} : ∀ n : Nat, DpAll K H (List.replicate n (V.int i)) (List.replicate n (PyData.int i))
  | 0 => .nil
  | n + 1 => .cons (.int _) (dp_rep n)
theorem nvs_rep (n m : Nat) : nvs (List.replicate n m) = List.replicate n (V.int (m : Int)) := by
  unfold nvs
  rw [List.map_replicate, List.map_replicate]
  rfl
theorem shaped_rep (n : Nat) (i : Int) : SeqAt.shaped (.list (List.replicate n (PyData.int i))) = true := by
  have := PySem.W.shaped_ints (List.replicate n i)
  rw [List.map_replicate] at this
  exact this
def spLaw (K : PySem.W.Frag) (PL PV : Addr) : Sp := fun vs H Q _ => ∃ (a : Addr) (ns : List Int), vs = [.ref a] ∧ SqL K H a (ns.map V.int) ∧ ns.length ≤ 63 ∧ H PL = some (.tbl #[]) ∧ H PV = some (.tbl #[]) ∧ ∀ H', Q (.bl true) H'
section
open PySem.W NdefX LamX
variable {P : Program} {w : World} {K : PySem.W.Frag} {mg : Str → Option Value} {base : Heap} {C : Addr}
abbrev Nlaw : List Str := ["_law_script", "_law_h", "_law_turn", "_law_rule_here", "_law_odd_here", "_law_far", "_law_most_here", "_law_mark", "_law_moment", "_law_work", "_law_words", "_law_things"]
theorem sc_law : FnScope Nlaw ["_law_script"] (defScope s_law) := ⟨rfl, rfl, rfl, by decide +kernel, rfl, by decide +kernel, by decide +kernel⟩
theorem ok_law {f fI cL PL PV cS c0 c1 c2 c3 c4 c5 c6 c7 : Addr} {fdI : FuncData} {kV doc pm ct oc : Value} {an od : Option Addr} {osl : Array (Option Value)} {T : List (Addr × Str)}
    (lk : K.lookup f = some ⟨oc, od, .func (PySem.W.fnOf "law" "law" (defArgs s_law) (defBody s_law) (defScope s_law) .none kV doc pm an (.ref cL) ct), osl⟩) (hcd : PySem.W.codeIn K (.ref cL) "law" = true) (TB : LamX.TabB base mg cL PL) (hTT : T = [(PL, qL), (PV, qW)]) (hPW : PL ≠ PV)
    (DK : DefAt K mg "_law_kind" s_L_kind ["_law_work"]) (G : ErrG mg cS c0 c1 c2 c3 c4 c5 c6 c7) (e0 : ErrIs K cS c0 c1 c2 c3 c4 c5 c6 c7 c0 0) (e1 : ErrIs K cS c0 c1 c2 c3 c4 c5 c6 c7 c1 1) (e2 : ErrIs K cS c0 c1 c2 c3 c4 c5 c6 c7 c2 2) (e5 : ErrIs K cS c0 c1 c2 c3 c4 c5 c6 c7 c5 5)
    (m_isi : mg "isinstance" = none) (m_ve : mg "ValueError" = none) (m_range : mg "range" = none) (TB_ : Bcl K mg C) (gB : mg "Board" = some (.ref C))
    (M : Mk K C fI) (GI : FnOk P w K mg base (L2.CX P w) 3 fI fdI ["self", "rule", "things"] (spInitX C c0 c5)) (bI : L2.Binds K fdI ["self", "rule", "things"] [])
    (C_mix : Cl P w K mg base 1 "_law_mix" ["_law_script", "_law_seed"] (spMix K)) (C_next : Cl P w K mg base 1 "_law_next" ["_law_h", "_law_many"] spNext) (C_rule : Cl P w K mg base 2 "_law_rule" ["_law_h", "_law_small"] spRule) (C_odd : Cl P w K mg base 2 "_law_odd" ["_law_h", "_law_rule_here"] spOdd)
    (C_most : Cl P w K mg base 1 "_law_most" ["_law_rule_here"] spTopMark) (C_end : Cl P w K mg base 1 "_law_end" ["_law_rule_here"] spEnd) (C_aged : Cl P w K mg base 3 "aged" ["rule", "mark", "begin", "end"] spAged) (CM : ClM P w K mg base CX0 1 C "marks" ["self"] (spMarks C))
    (CW : Cl P w K mg base 1 "_law_works" ["_law_rule_here", "_law_mark", "_law_begin", "_law_end_here"] (spWorks P w K mg base T C (spA c0 c1 c2) (spS c0 c1 c2) (spO c0) (spRe c0) (spInitX C c0 c5)))
    (CA : ClR P w K mg base 7 "aged" (spA c0 c1 c2)) (CS : ClR P w K mg base 7 "span" (spS c0 c1 c2)) :
    FnOk P w K mg base CX0 10 f (PySem.W.fnOf "law" "law" (defArgs s_law) (defBody s_law) (defScope s_law) .none kV doc pm an (.ref cL) ct) ["_law_script"] (spLaw K PL PV) := by
  obtain ⟨fk, fdk, ⟨⟨ock, odk, kVk, dock, pmk, ank, cdk, ctk, oslk, rfl, lkk, hck⟩, kpk⟩, gk, bk⟩ := DK
  refine fn_of lk hcd sc_law (fun vs H Q E h => ?_) (fun A outer s H vs Q E hr h => ?_)
  · obtain ⟨a, ns, rfl, _⟩ := h
    rfl
  · obtain ⟨a, ns, rfl, hS, hl, hTL, hTW, q⟩ := h
    have hu := hu_of hr
    have hu300 : (A.deeper (envOfC "law" (defScope s_law) s.heap.objs.size f (Value.ref cL))).units + 300 < cLine := by
      have := hr.un
      omega
    have mL : (PL, qL) ∈ T := by rw [hTT]; simp
    have tL : ∀ p ∈ T, p.1 = PL → p.2 = qL := fun p hp e => by
      rw [hTT] at hp
      simp only [List.mem_cons, List.not_mem_nil, or_false] at hp
      rcases hp with rfl | rfl
      · rfl
      · exact absurd e.symm hPW
    refine ⟨_, PSs.nox (pss_cons (ps_set (i := 1) sc_law.nd rfl (Or.inl rfl) (pe_cl C_mix hr (pa_cons (pv 0) (pa_cons pe_int pa_nil))))
      (pss_cons (ps_for PassesOwn.never rfl (pi_range1 (by rfl) m_range (pa_cons pe_int pa_nil)) (pg_name (i := 2) sc_law.nd rfl (Or.inl rfl))
        (pss_cons (ps_set (i := 3) sc_law.nd rfl (Or.inr rfl) (pe_cl C_rule hr (pa_cons (pv 1) (pa_cons pe_int pa_nil))))
        (pss_cons (ps_set (i := 4) sc_law.nd rfl (Or.inl rfl) (pe_cl C_odd hr (pa_cons (pv 1) (pa_cons (pv 3) pa_nil))))
        (pss_cons (ps_set (i := 5) sc_law.nd rfl (Or.inr rfl) (pe_cl C_next hr (pa_cons (pv 1) (pa_cons (pe_op op_pow pe_int pe_int) pa_nil))))
        (pss_cons (ps_set (i := 6) sc_law.nd rfl (Or.inr rfl) (pe_cl C_most hr (pa_cons (pv 3) pa_nil)))
        (pss_cons (ps_set (i := 7) sc_law.nd rfl (Or.inr rfl) (pe_ix ix_list (pe_lst (pa_cons (pe_un un_neg pe_int) (pa_cons (pe_op op_sub (pe_un un_neg pe_int) (pv 5)) (pa_cons (pe_op op_add (pv 6) pe_int) (pa_cons (pe_op op_add (pe_op op_add (pv 6) pe_int) (pv 5)) pa_nil))))) (pe_cl C_next hr (pa_cons (pv 1) (pa_cons pe_int pa_nil))) (fun _ _ => rfl)))
        (pss_cons (ps_set (i := 8) sc_law.nd rfl (Or.inr rfl) (pe_ix ix_list (pe_lst (pa_cons (pe_un un_neg pe_int) (pa_cons (pe_op op_sub (pe_un un_neg pe_int) (pv 5)) (pa_cons (pe_op op_add (pe_op op_pow pe_int pe_int) pe_int) (pa_cons (pe_op op_add (pe_op op_add (pe_op op_pow pe_int pe_int) pe_int) (pv 5)) pa_nil))))) (pe_cl C_next hr (pa_cons (pv 1) (pa_cons pe_int pa_nil))) (fun _ _ => rfl)))
        (pss_cons (ps_if (pt_cmpR (op_neD hr.units) (pe_lc (own := [("_law_work", 9)]) (g := gName 9) (tt := (tTest (tOp rNe (tKindv P w K mg base 7 (TKind K cS c0 c1 c2 c3 c4 c5 c6 c7) 9) (tC (.str "BadRule"))))) (te := (tVar 9)) rfl sc_law.nd (pi_list (pe_cl CW hr (pa_cons (pv 4) (pa_cons (pv 7) (pa_cons (pv 8) (pa_cons (pv 8) pa_nil)))))) (blkOk_by (N := Nlaw) (sc := defScope s_law) (by decide +kernel)) (fun _ _ _ _ _ => by exact pg_name (i := 9) sc_law.nd rfl (Or.inl rfl)) (fun _ _ _ _ _ => by exact pts_one (pt_cmpR op_ne (pe_kindv (k := 7) (by rfl) gk kpk lkk hck bk sc_kind rfl (Or.inl rfl) (fun q => kind_gives G m_isi m_ve hu300) (hr.mono (by decide)) rfl (Or.inl rfl)) pe_str (nomark _))) (fun _ _ _ _ _ => by exact pv 9)) (pe_lst pa_nil) (nomark _)) pss_never pss_nil)
        (pss_cons (ps_setLc (i := 10) (own := [("_law_work", 9)]) (g := gName 9) (tt := tYes) (te := (tKindv P w K mg base 7 (TKind K cS c0 c1 c2 c3 c4 c5 c6 c7) 9)) rfl sc_law.nd rfl rfl (sw_true rfl rfl rfl (by decide +kernel)) (pi_list (pe_slice sl_list (pe_cl CW hr (pa_cons (pv 3) (pa_cons (pv 7) (pa_cons (pv 8) (pa_cons (pv 8) pa_nil))))) po_none (po_some pe_int))) (blkOk_by (N := Nlaw) (sc := defScope s_law) (by decide +kernel)) (fun _ _ _ _ _ => by exact pg_name (i := 9) sc_law.nd rfl (Or.inl rfl)) (fun _ _ _ _ _ => by exact pts_nil) (fun _ _ _ _ _ => by exact (pe_kindv (k := 7) (by rfl) gk kpk lkk hck bk sc_kind rfl (Or.inl rfl) (fun q => kind_gives G m_isi m_ve hu300) (hr.mono (by decide)) rfl (Or.inl rfl))))
        (pss_cons (ps_expr (pe_bm PySem.F.plainAttrs_list PySem.F.slot_list_append PySem.F.type_list_append mt_append (pv 10) (pa_cons (pe_lamcallD (sp := (fun ws H Q E => ∃ v1 v2 v3 : V, ws = [some v1, some v2, some v3] ∧ spA c0 c1 c2 [v1, v2, v3, .int 5] H Q E)) (N := ["_law_rule_here", "_law_most_here", "_law_moment"]) (ps := []) (fr := ["_law_rule_here", "_law_most_here", "_law_moment"]) (js := [3, 6, 8]) (k := 7) (c := cL) (P := PL) (T := T) (by rfl) gk kpk lkk hck bk sc_kind rfl (Or.inl rfl) (kind_gives G m_isi m_ve ?hu1) TB rfl mL tL (hr.mono (by decide)) (nscope_by (by decide +kernel)) (show ndefB (defScope s_law) _ _ = true by decide +kernel) rfl (.inl ⟨rfl, rfl⟩) (fun _ _ _ _ => by rfl) (fun c' A outer s f H ws Q E hr2 hs => by obtain ⟨v1, v2, v3, rfl, hs⟩ := hs; exact ⟨_, pe_clr CA (passes_call (takes_of rfl rfl rfl rfl) (fun _ _ _ _ h => h)) hr2 (pa_cons (pv 0) (pa_cons (pv 1) (pa_cons (pv 2) (pa_cons pe_int pa_nil)))), v1, rfl, v2, rfl, v3, rfl, hs⟩)) pa_nil)))
        (pss_cons (ps_expr (pe_bm PySem.F.plainAttrs_list PySem.F.slot_list_append PySem.F.type_list_append mt_append (pv 10) (pa_cons (pe_lamcallD (sp := (fun ws H Q E => ∃ v1 v2 v3 : V, ws = [some v1, some v2, some v3] ∧ spA c0 c1 c2 [v1, v2, .int 5, v3] H Q E)) (N := ["_law_rule_here", "_law_most_here", "_law_moment"]) (ps := []) (fr := ["_law_rule_here", "_law_most_here", "_law_moment"]) (js := [3, 6, 8]) (k := 7) (c := cL) (P := PL) (T := T) (by rfl) gk kpk lkk hck bk sc_kind rfl (Or.inl rfl) (kind_gives G m_isi m_ve ?hu2) TB rfl mL tL (hr.mono (by decide)) (nscope_by (by decide +kernel)) (show ndefB (defScope s_law) _ _ = true by decide +kernel) rfl (.inl ⟨rfl, rfl⟩) (fun _ _ _ _ => by rfl) (fun c' A outer s f H ws Q E hr2 hs => by obtain ⟨v1, v2, v3, rfl, hs⟩ := hs; exact ⟨_, pe_clr CA (passes_call (takes_of rfl rfl rfl rfl) (fun _ _ _ _ h => h)) hr2 (pa_cons (pv 0) (pa_cons (pv 1) (pa_cons pe_int (pa_cons (pv 2) pa_nil)))), v1, rfl, v2, rfl, v3, rfl, hs⟩)) pa_nil)))
        (pss_cons (ps_set (i := 10) sc_law.nd rfl (Or.inl rfl) (pe_op op_cat (pv 10) (pe_lst (pa_cons (pe_lamcallD (sp := (fun ws H Q E => ∃ (v1 : V) (n : Int), ws = [some v1, some (.int n)] ∧ spA c0 c1 c2 [v1, .int 0, .int (6 + n), .int 5] H Q E)) (N := ["_law_rule_here", "_law_far"]) (ps := []) (fr := ["_law_rule_here", "_law_far"]) (js := [3, 5]) (k := 7) (c := cL) (P := PL) (T := T) (by rfl) gk kpk lkk hck bk sc_kind rfl (Or.inl rfl) (kind_gives G m_isi m_ve ?hu3) TB rfl mL tL (hr.mono (by decide)) (nscope_by (by decide +kernel)) (show ndefB (defScope s_law) _ _ = true by decide +kernel) rfl (.inl ⟨rfl, rfl⟩) (fun _ _ _ _ => by rfl) (fun c' A outer s f H ws Q E hr2 hs => by obtain ⟨v1, n, rfl, hs⟩ := hs; exact ⟨_, pe_clr CA (passes_call (takes_of rfl rfl rfl rfl) (fun _ _ _ _ h => h)) hr2 (pa_cons (pv 0) (pa_cons pe_int (pa_cons (pe_op op_add pe_int (pv 1)) (pa_cons pe_int pa_nil)))), v1, rfl, _, rfl, _, _, rfl, rfl, hs⟩)) (pa_cons (pe_lamcallD (sp := (fun ws H Q E => ∃ v1 v2 : V, ws = [some v1, some v2] ∧ spS c0 c1 c2 [v1, .int 5, v2] H Q E)) (N := ["_law_a", "_law_rule_here", "_law_mark"]) (ps := ["_law_a"]) (fr := ["_law_rule_here", "_law_mark"]) (js := [3, 7]) (k := 7) (c := cL) (P := PL) (T := T) (by rfl) gk kpk lkk hck bk sc_kind rfl (Or.inl rfl) (kind_gives G m_isi m_ve ?hu4) TB rfl mL tL (hr.mono (by decide)) (nscope_by (by decide +kernel)) (show ndefB (defScope s_law) _ _ = true by decide +kernel) rfl (.inr ⟨_, _, _, rfl, rfl, rfl⟩) (fun _ _ _ _ _ => ⟨_, rfl, fun _ => rfl⟩) (fun c' A outer s f H ws Q E hr2 hs => by obtain ⟨v1, v2, rfl, hs⟩ := hs; exact ⟨_, pe_clr CS (passes_call (takes_of rfl rfl rfl rfl) (fun _ _ _ _ h => h)) hr2 (pa_cons (pv 1) (pa_cons pe_int (pa_cons (pv 2) pa_nil))), v1, rfl, v2, rfl, hs⟩)) pa_nil)))))
        (pss_cons (ps_if (pt_cmpR (op_neD hr.units) (pv 10) (pe_lst (pa_cons pe_str (pa_cons pe_str (pa_cons pe_str (pa_cons pe_str (pa_cons pe_str (pa_cons pe_str pa_nil))))))) (nomark _)) pss_never pss_nil)
        (pss_cons (ps_set (i := 11) sc_law.nd rfl (Or.inr rfl) (pe_ix ix_list (pe_lst (pa_cons pe_int (pa_cons pe_int (pa_cons (pe_op op_add pe_int (pv 5)) (pa_cons (pe_op op_sub (pe_un un_neg pe_int) (pv 5)) pa_nil))))) (pe_cl C_next hr (pa_cons (pv 1) (pa_cons pe_int pa_nil))) (fun _ _ => rfl)))
        (pss_cons (ps_if (pt_cmpR op_ne (pe_lamcallD (sp := (fun ws H Q E => ∃ v1 v2 : V, ws = [some v1, some v2] ∧ spMk C (spInitX C c0 c5) [v1, v2] H Q E)) (N := ["_law_rule_here", "_law_things"]) (ps := []) (fr := ["_law_rule_here", "_law_things"]) (js := [3, 11]) (k := 7) (c := cL) (P := PL) (T := T) (by rfl) gk kpk lkk hck bk sc_kind rfl (Or.inl rfl) (kind_gives G m_isi m_ve ?hu5) TB rfl mL tL (hr.mono (by decide)) (nscope_by (by decide +kernel)) (show ndefB (defScope s_law) _ _ = true by decide +kernel) rfl (.inl ⟨rfl, rfl⟩) (fun _ _ _ _ => by rfl) (fun c' A outer s f H ws Q E hr2 hs => by obtain ⟨v1, v2, rfl, hs⟩ := hs; exact ⟨_, pe_make M GI (hr2.mono (by decide)) (by rfl) gB bI .nil (passes_call (takes_of rfl rfl rfl rfl) (fun _ _ _ _ h => h)) (pa_cons (pv 0) (pa_cons (pv 1) pa_nil)), v1, rfl, v2, rfl, fun x dx h1 h2 h3 => hs x dx h1 h2 h3⟩)) pe_str (nomark _)) pss_never pss_nil)
        (pss_cons (ps_if (pt_cmpR (op_neD hr.units) (pe_lc (own := [("_law_work", 9)]) (g := gName 9) (tt := (tTest (tOp rNe (tKindv P w K mg base 7 (TKind K cS c0 c1 c2 c3 c4 c5 c6 c7) 9) (tC (.str ""))))) (te := (tVar 9)) rfl sc_law.nd (pi_list (pe_cl CW hr (pa_cons (pv 3) (pa_cons pe_int (pa_cons (pe_op op_pow pe_int pe_int) (pa_cons (pe_op op_pow pe_int pe_int) pa_nil)))))) (blkOk_by (N := Nlaw) (sc := defScope s_law) (by decide +kernel)) (fun _ _ _ _ _ => by exact pg_name (i := 9) sc_law.nd rfl (Or.inl rfl)) (fun _ _ _ _ _ => by exact pts_one (pt_cmpR op_ne (pe_kindv (k := 7) (by rfl) gk kpk lkk hck bk sc_kind rfl (Or.inl rfl) (fun q => kind_gives G m_isi m_ve hu300) (hr.mono (by decide)) rfl (Or.inl rfl)) pe_str (nomark _))) (fun _ _ _ _ _ => by exact pv 9)) (pe_lst pa_nil) (nomark _)) pss_never pss_nil)
        (pss_one (ps_if (PW.pt (pw_or (pt_cmpR op_ne (pe_cl C_aged hr (pa_cons (pv 3) (pa_cons (pv 6) (pa_cons (pv 5) (pa_cons (pv 5) pa_nil))))) (pv 6) (nomark _)) (pw_or1 (pt_cmpR (op_neD hr.units) (pe_cm0 (E := E0) CM TB_.cl pass0 hr (pe_make (E := E0) M GI (hr.mono (by decide)) (by rfl) gB bI .nil passL (pa_cons (pv 3) (pa_cons pe_int pa_nil)))) (pe_op op_rep (pe_lst (pa_cons (pe_cl C_end hr (pa_cons (pv 3) pa_nil)) pa_nil)) pe_int) (nomark _))))) pss_never pss_nil))))))))))))))))))
      (pss_one (ps_ret pe_bl)))), ?_⟩
    case hu1 => exact hu300
    case hu2 => exact hu300
    case hu3 => exact hu300
    case hu4 => exact hu300
    case hu5 => exact hu300
    have e9 : (10 : Int) ^ (9 : Int).toNat = 1000000000 := by decide
    have e6 : (10 : Int) ^ (6 : Int).toNat = 1000000 := by decide
    refine ⟨_, rfl, a, 3, ns, rfl, hS, hl, by decide, by decide, fun H0 h c ha0 _ _ s0 => ?_⟩
    have ht0 : HW T H0 h c := ⟨ha0, fun p hp => by
      rw [hTT] at hp
      simp only [List.mem_cons, List.not_mem_nil, or_false] at hp
      rcases hp with rfl | rfl
      · exact LamX.TabS.nil (s0 _ _ hTL)
      · exact LamX.TabS.nil (s0 _ _ hTW)⟩
    refine ⟨8, rfl, by decide, by decide, for_range (lo := 0) (n := 8) (fun i σ H' => ∃ v2 v3 v4 v5 v6 v7 v8 v9 v10 v11 : Option V, σ = [some (.ref a), some (.ref h), v2, v3, v4, v5, v6, v7, v8, v9, v10, v11] ∧ HW T H' h c) ⟨none, none, none, none, none, none, none, none, none, none, rfl, ht0⟩ ?_ ?_⟩
    · rintro i σ H1 hi ⟨v2, v3, v4, v5, v6, v7, v8, v9, v10, v11, rfl, ht1⟩
      refine ⟨_, rfl, h, c, 0, rfl, .inl rfl, ht1.ha, fun R Ha p ok _ haa ka hp1 => ?_⟩
      have hta := ht1.drawn haa ka
      refine ⟨_, rfl, _, rfl, h, c, p, R, rfl, haa, hp1, ok, fun po Hb hab kb no1 => ?_⟩
      have htb := hta.drawn hab kb
      have hp2 := kb.tup haa hp1
      refine ⟨_, rfl, _, _, rfl, rfl, ⟨by decide, by decide, by decide⟩, h, c, _, rfl, by decide, by decide, hab, fun far Hc fl hac kc => ?_⟩
      have htc := htb.drawn hac kc
      have hp3 := kc.tup hab hp2
      have no3 := no1.kp2 hab kc
      have f6 : far < 1000000 := by
        rw [e6] at fl
        omega
      refine ⟨_, rfl, p, R, rfl, hp3, ok, ?_⟩
      -- a mark that is none
      refine ⟨_, rfl, _, rfl, _, rfl, _, _, rfl, rfl, _, rfl, _, _, rfl, rfl, _, rfl, _, _, rfl, rfl, _, rfl, _, _, rfl, rfl, (by show 4 ≤ sizeLine; decide), fun lm nlm => ?_⟩
      have sm := same_upd (o := .lst [V.int (-1), V.int (-1 - (far : Int)), V.int ((R.most : Int) + 1), V.int ((R.most : Int) + 1 + (far : Int))]) nlm
      have htd := htc.same sm
      have fm := htc.ha.fresh01 nlm
      refine ⟨_, rfl, h, c, 4, rfl, by decide, by decide, htd.ha, fun r1 Hd r1l had kd => ?_⟩
      have hte := htd.drawn had kd
      obtain ⟨mk, hmk, bmk⟩ : ∃ mk : Int, atI [V.int (-1), V.int (-1 - (far : Int)), V.int ((R.most : Int) + 1), V.int ((R.most : Int) + 1 + (far : Int))] (r1 : Int) = some (.int mk) ∧ ¬ (0 ≤ mk ∧ mk ≤ (R.most : Int)) := by
        have : r1 = 0 ∨ r1 = 1 ∨ r1 = 2 ∨ r1 = 3 := by omega
        rcases this with rfl | rfl | rfl | rfl
        · exact ⟨_, atI_nat (j := 0) rfl, by omega⟩
        · exact ⟨_, atI_nat (j := 1) rfl, by omega⟩
        · exact ⟨_, atI_nat (j := 2) rfl, by omega⟩
        · exact ⟨_, atI_nat (j := 3) rfl, by omega⟩
      refine ⟨lm, _, _, _, rfl, rfl, SqL.of (kd _ _ upd_same fm.1 fm.2), hmk, ?_⟩
      have hp4 := kd.tup htd.ha (sm _ _ hp3)
      have no4 := (no3.same sm).kp2 htd.ha kd
      -- a moment that is none
      refine ⟨_, rfl, _, rfl, _, rfl, _, _, rfl, rfl, _, _, rfl, rfl, ⟨by decide, by decide, by decide⟩, _, _, rfl, rfl, _, _, rfl, rfl, ⟨by decide, by decide, by decide⟩, _, _, rfl, rfl, _, rfl, _, _, rfl, rfl, (by show 4 ≤ sizeLine; decide), fun lo nlo => ?_⟩
      have so := same_upd (o := .lst [V.int (-1), V.int (-1 - (far : Int)), V.int ((10 : Int) ^ (9 : Int).toNat + 1), V.int ((10 : Int) ^ (9 : Int).toNat + 1 + (far : Int))]) nlo
      have htf := hte.same so
      have fo := hte.ha.fresh01 nlo
      refine ⟨_, rfl, h, c, 4, rfl, by decide, by decide, htf.ha, fun r2 He r2l hae ke => ?_⟩
      have htg := htf.drawn hae ke
      obtain ⟨mo, hmo, bmo⟩ : ∃ mo : Int, atI [V.int (-1), V.int (-1 - (far : Int)), V.int ((10 : Int) ^ (9 : Int).toNat + 1), V.int ((10 : Int) ^ (9 : Int).toNat + 1 + (far : Int))] (r2 : Int) = some (.int mo) ∧ ¬ okMom mo := by
        rw [e9]
        unfold okMom
        have : r2 = 0 ∨ r2 = 1 ∨ r2 = 2 ∨ r2 = 3 := by omega
        rcases this with rfl | rfl | rfl | rfl
        · exact ⟨_, atI_nat (j := 0) rfl, by omega⟩
        · exact ⟨_, atI_nat (j := 1) rfl, by omega⟩
        · exact ⟨_, atI_nat (j := 2) rfl, by omega⟩
        · exact ⟨_, atI_nat (j := 3) rfl, by omega⟩
      refine ⟨lo, _, _, _, rfl, rfl, SqL.of (ke _ _ upd_same fo.1 fo.2), hmo, ?_⟩
      have hp5 := ke.tup htf.ha (so _ _ hp4)
      have no5 := (no4.same so).kp2 htf.ha ke
      -- all that is handed what is no rule
      refine ⟨_, rfl, _, rfl, _, rfl, _, rfl, _, _, _, _, rfl, htg.tb, fun l1 f0 f1 f2 f3 f4 Hf ef _ tf el1 W0 W1 W2 W3 W4 => ⟨l1, rfl, ⟨_, SqL.of el1⟩, fun D nD => ?_⟩⟩
      have hth := htg.lam ef tf
      have hp6 : RuAt Hf p R := ef _ _ hp5 (fun _ z => nomatch z)
      have no6 := no5.ext ef
      refine lc_list (K := K) (a := l1) (xs := [V.ref f0, V.ref f1, V.ref f2, V.ref f3, V.ref f4]) (fun k H' => Same Hf H' ∧ H' D = some (.lst [])) ⟨same_upd nD, upd_same⟩ (fun k H' _ h => SqL.of (h.1 _ _ el1)) ?_ ?_
      · rintro k y H' hy ⟨sk, eD⟩
        obtain ⟨g, Rg, rfl, Wg, hRg⟩ : ∃ (g : Addr) (Rg : Hp → VK → XK → Prop), y = .ref g ∧ WorkAt P w K mg base Hf g Rg ∧ ∀ H2 Q E, notRule H2 po → (∀ H', Same H2 H' → E (.ref c0) none H') → Rg H2 Q E := by
          match k, hy with
          | 0, hy => exact ⟨f0, _, (Option.some.inj hy).symm, W0, fun H2 Q E nr z => nr_aged nr z⟩
          | 1, hy => exact ⟨f1, _, (Option.some.inj hy).symm, W1, fun H2 Q E nr z => nr_span nr z⟩
          | 2, hy => exact ⟨f2, _, (Option.some.inj hy).symm, W2, fun H2 Q E nr z => nr_off nr z⟩
          | 3, hy => exact ⟨f3, _, (Option.some.inj hy).symm, W3, fun H2 Q E nr z => nr_reach nr z⟩
          | 4, hy => exact ⟨f4, _, (Option.some.inj hy).symm, W4, fun H2 Q E nr z => nr_board nr z⟩
          | k + 5, hy => simp at hy
        refine ⟨rfl, kind_bad e0 rfl (Wg.same sk) rfl (fun L x Q E z => hRg _ Q E ((no6.same sk).fgt x) z) fun H2 s2 => ⟨rfl, _, rfl, iteNS rfl ⟨sk.trans s2, s2 _ _ eD⟩⟩⟩
      · rintro Hg ⟨sg, eD⟩
        have hti := hth.same sg
        have hp7 := sg _ _ hp6
        refine ⟨(by show 0 ≤ sizeLine; decide), fun l2 nl2 => ?_⟩
        have s2 := same_upd (o := .lst []) nl2
        refine ⟨.list [], .list [], .lst (SqL.of (s2 _ _ eD)) .nil, .lst (SqL.of upd_same) .nil, shaped_nil, shaped_nil, _, rfl, ?_⟩
        rw [show PyData.eqv (.list []) (.list []) = true by decide +kernel]
        refine iteF ?_
        have htj := hti.same s2
        have hp8 := s2 _ _ hp7
        -- a rule, a mark and moments that are none
        refine ⟨_, rfl, _, rfl, _, rfl, _, rfl, _, _, _, _, rfl, htj.tb, fun l3 g0 g1 g2 g3 g4 Hh eh _ th el3 V0 V1 _ _ _ => ⟨2, rfl, l3, _, rfl, SqL.of el3, fun l4 nl4 => ?_⟩⟩
        rw [show cutV [V.ref g0, V.ref g1, V.ref g2, V.ref g3, V.ref g4] none (some 2) = [V.ref g0, V.ref g1] from rfl]
        have s4 := same_upd (o := .lst [V.ref g0, V.ref g1]) nl4
        have e4 : (upd Hh l4 (.lst [V.ref g0, V.ref g1])) l4 = some (.lst [V.ref g0, V.ref g1]) := upd_same
        generalize hG4 : upd Hh l4 (.lst [V.ref g0, V.ref g1]) = G4 at s4 e4
        refine ⟨l4, rfl, ⟨_, SqL.of e4⟩, fun D2 nD2 => ?_⟩
        have htk := (htj.lam eh th).same s4
        have hp9 : RuAt G4 p R := s4 _ _ (eh _ _ hp8 (fun _ z => nomatch z))
        have fw := htk.ha.fresh01 nD2
        refine lc_list (K := K) (a := l4) (xs := [V.ref g0, V.ref g1]) (fun k H' => Same G4 H' ∧ H' D2 = some (.lst (((["BadMark", "BadMoment"] : List Str).take k).map V.str))) ⟨same_upd nD2, upd_same⟩ (fun k H' _ h => SqL.of (h.1 _ _ e4)) ?_ ?_
        · rintro k y H' hy ⟨sk, eD2⟩
          have nxt : ∀ (H2 : Hp) (ws : List V), Same H' H2 → Same G4 (upd H2 D2 (.lst ws)) := fun H2 ws s2 x o e => by
            rw [upd_ne (ne_of_none e nD2)]
            exact s2 _ _ (sk _ _ e)
          match k, hy, eD2 with
          | 0, hy, eD2 =>
            obtain rfl : V.ref g0 = y := Option.some.inj hy
            exact ⟨rfl, by exact kind_bad (i := 9) e1 rfl ((V0.same s4).same sk) rfl (fun L x Q E z => .inr ⟨p, mk, mo, mo, rfl, .inr ⟨R, ruFgt x (sk _ _ hp9), ok, .inl ⟨bmk, z⟩⟩⟩) fun H2 s2 => ⟨_, s2 _ _ eD2, (by show 0 < sizeLine; decide), nxt _ _ s2, upd_same⟩⟩
          | 1, hy, eD2 =>
            obtain rfl : V.ref g1 = y := Option.some.inj hy
            exact ⟨rfl, by exact kind_bad (i := 9) e2 rfl ((V1.same s4).same sk) rfl (fun L x Q E z => .inr ⟨p, mo, mk, rfl, .inr ⟨R, ruFgt x (sk _ _ hp9), ok, .inl ⟨bmo, z⟩⟩⟩) fun H2 s2 => ⟨_, s2 _ _ eD2, (by show 1 < sizeLine; decide), nxt _ _ s2, upd_same⟩⟩
          | k + 2, hy, eD2 => exact absurd hy (by simp)
        · rintro Hi ⟨si, eD2⟩
          have eW : Hi D2 = some (.lst [V.str "BadMark", V.str "BadMoment"]) := eD2
          have htl := htk.same si
          have hpi := si _ _ hp9
          -- the first moment
          refine ⟨_, rfl, .inl ⟨rfl, _, SqL.of eW⟩, htl.tb, fun Hj LaF ej tj la => ⟨la, _, _, _, rfl, .inr ⟨p, _, _, _, rfl, .inr ⟨R, ej _ _ hpi (fun _ z => nomatch z), ok, .inr ⟨⟨by omega, Int.le_refl _⟩, .inl bmo, fun H2 s2 => ⟨c2, 2, "BadMoment", rfl, rfl, e2, rfl, fun H3 s3 => ?_⟩⟩⟩⟩⟩⟩
          have eW3 : H3 D2 = some (.lst [V.str "BadMark", V.str "BadMoment"]) := s3 _ _ (s2 _ _ (ej _ _ eW (fun _ z => nomatch z)))
          have hp10 : RuAt H3 p R := s3 _ _ (s2 _ _ (ej _ _ hpi (fun _ z => nomatch z)))
          refine ⟨D2, _, _, rfl, rfl, eW3, (by show 2 < sizeLine; decide), ?_⟩
          have htm := (((htl.lam ej tj).same s2).same s3).put (o := .lst ([V.str "BadMark", V.str "BadMoment"] ++ [V.str "BadMoment"])) eW3 fw
          have hp11 : RuAt (upd H3 D2 (.lst ([V.str "BadMark", V.str "BadMoment"] ++ [V.str "BadMoment"]))) p R := (upd_ne (ne_of hp10 eW3 (fun z => nomatch z))).trans hp10
          have eW4 : (upd H3 D2 (.lst ([V.str "BadMark", V.str "BadMoment"] ++ [V.str "BadMoment"]))) D2 = some (.lst [V.str "BadMark", V.str "BadMoment", V.str "BadMoment"]) := upd_same
          generalize hG5 : upd H3 D2 (.lst ([V.str "BadMark", V.str "BadMoment"] ++ [V.str "BadMoment"])) = G5 at htm hp11 eW4
          -- the second moment
          refine ⟨_, rfl, .inl ⟨rfl, _, SqL.of eW4⟩, htm.tb, fun Hj LaF ej tj la => ⟨la, _, _, _, rfl, .inr ⟨p, _, _, _, rfl, .inr ⟨R, ej _ _ hp11 (fun _ z => nomatch z), ok, .inr ⟨⟨by omega, Int.le_refl _⟩, .inr (.inl bmo), fun H4 s4 => ⟨c2, 2, "BadMoment", rfl, rfl, e2, rfl, fun H5 s5 => ?_⟩⟩⟩⟩⟩⟩
          have eW5 : H5 D2 = some (.lst [V.str "BadMark", V.str "BadMoment", V.str "BadMoment"]) := s5 _ _ (s4 _ _ (ej _ _ eW4 (fun _ z => nomatch z)))
          have hp12 : RuAt H5 p R := s5 _ _ (s4 _ _ (ej _ _ hp11 (fun _ z => nomatch z)))
          refine ⟨D2, _, _, rfl, rfl, eW5, (by show 3 < sizeLine; decide), ?_⟩
          have htn := (((htm.lam ej tj).same s4).same s5).put (o := .lst ([V.str "BadMark", V.str "BadMoment", V.str "BadMoment"] ++ [V.str "BadMoment"])) eW5 fw
          have hp13 : RuAt (upd H5 D2 (.lst ([V.str "BadMark", V.str "BadMoment", V.str "BadMoment"] ++ [V.str "BadMoment"]))) p R := (upd_ne (ne_of hp12 eW5 (fun z => nomatch z))).trans hp12
          have eW6 : (upd H5 D2 (.lst ([V.str "BadMark", V.str "BadMoment", V.str "BadMoment"] ++ [V.str "BadMoment"]))) D2 = some (.lst [V.str "BadMark", V.str "BadMoment", V.str "BadMoment", V.str "BadMoment"]) := upd_same
          generalize hG6 : upd H5 D2 (.lst ([V.str "BadMark", V.str "BadMoment", V.str "BadMoment"] ++ [V.str "BadMoment"])) = G6 at htn hp13 eW6
          -- the second one less; a span
          refine ⟨_, rfl, htn.tb, fun Hj LaF ej tj la => ⟨la, _, _, rfl, .inr ⟨p, _, _, _, rfl, .inr ⟨R, ej _ _ hp13 (fun _ z => nomatch z), ok, .inr ⟨⟨by omega, by omega⟩, .inr (.inr (by omega)), fun H6 s6 => ⟨c2, 2, "BadMoment", rfl, rfl, e2, rfl, fun H7 s7 => ?_⟩⟩⟩⟩⟩⟩
          have hto := ((htn.lam ej tj).same s6).same s7
          have hp14 : RuAt H7 p R := s7 _ _ (s6 _ _ (ej _ _ hp13 (fun _ z => nomatch z)))
          have eW7 := s7 _ _ (s6 _ _ (ej _ _ eW6 (fun _ z => nomatch z)))
          refine ⟨hto.tb, fun Hk LaF ek tk la => ⟨la, _, _, rfl, .inr ⟨p, _, _, rfl, .inr ⟨R, ek _ _ hp14 (fun _ z => nomatch z), ok, .inr ⟨⟨by decide, by decide⟩, bmk, fun H8 s8 => ⟨c1, 1, "BadMark", rfl, rfl, e1, rfl, fun H9 s9 => ?_⟩⟩⟩⟩⟩⟩
          have htp := ((hto.lam ek tk).same s8).same s9
          have hp15 : RuAt H9 p R := s9 _ _ (s8 _ _ (ek _ _ hp14 (fun _ z => nomatch z)))
          have eW9 := s9 _ _ (s8 _ _ (ek _ _ eW7 (fun _ z => nomatch z)))
          refine ⟨(by show 2 ≤ sizeLine; decide), fun l5 nl5 => ?_⟩
          have s10 := same_upd (o := .lst [V.str "BadMoment", V.str "BadMark"]) nl5
          refine ⟨D2, l5, _, _, rfl, rfl, s10 _ _ eW9, upd_same, (by show 4 + 2 ≤ sizeLine; decide), fun l6 nl6 => ?_⟩
          have s11 := same_upd (o := .lst ([V.str "BadMark", V.str "BadMoment", V.str "BadMoment", V.str "BadMoment"] ++ [V.str "BadMoment", V.str "BadMark"])) nl6
          refine ⟨_, rfl, (by show 6 ≤ sizeLine; decide), fun l7 nl7 => ?_⟩
          have s12 := same_upd (o := .lst [V.str "BadMark", V.str "BadMoment", V.str "BadMoment", V.str "BadMoment", V.str "BadMoment", V.str "BadMark"]) nl7
          refine ⟨.list [.str "BadMark", .str "BadMoment", .str "BadMoment", .str "BadMoment", .str "BadMoment", .str "BadMark"], .list [.str "BadMark", .str "BadMoment", .str "BadMoment", .str "BadMoment", .str "BadMoment", .str "BadMark"], .lst (SqL.of (s12 _ _ upd_same)) (.cons (.str _) (.cons (.str _) (.cons (.str _) (.cons (.str _) (.cons (.str _) (.cons (.str _) .nil)))))), .lst (SqL.of upd_same) (.cons (.str _) (.cons (.str _) (.cons (.str _) (.cons (.str _) (.cons (.str _) (.cons (.str _) .nil)))))), by decide +kernel, by decide +kernel, _, rfl, ?_⟩
          rw [show PyData.eqv (.list [.str "BadMark", .str "BadMoment", .str "BadMoment", .str "BadMoment", .str "BadMoment", .str "BadMark"]) (.list [.str "BadMark", .str "BadMoment", .str "BadMoment", .str "BadMoment", .str "BadMoment", .str "BadMark"]) = true by decide +kernel]
          refine iteF ?_
          have htq := ((htp.same s10).same s11).same s12
          have hp16 := s12 _ _ (s11 _ _ (s10 _ _ hp15))
          -- things that are too few or too many
          refine ⟨_, rfl, _, _, rfl, rfl, _, rfl, _, rfl, _, _, rfl, rfl, (by show 4 ≤ sizeLine; decide), fun l8 nl8 => ?_⟩
          have s13 := same_upd (o := .lst [V.int 0, V.int 9, V.int (9 + (far : Int)), V.int (-1 - (far : Int))]) nl8
          have f8 := htq.ha.fresh01 nl8
          have htr := htq.same s13
          refine ⟨_, rfl, h, c, 4, rfl, by decide, by decide, htr.ha, fun r3 Hk r3l hak kk => ?_⟩
          have hts := htr.drawn hak kk
          obtain ⟨th, hth2, bth⟩ : ∃ th : Int, atI [V.int 0, V.int 9, V.int (9 + (far : Int)), V.int (-1 - (far : Int))] (r3 : Int) = some (.int th) ∧ ¬ (1 ≤ th ∧ th ≤ 8) := by
            have : r3 = 0 ∨ r3 = 1 ∨ r3 = 2 ∨ r3 = 3 := by omega
            rcases this with rfl | rfl | rfl | rfl
            · exact ⟨_, atI_nat (j := 0) rfl, by omega⟩
            · exact ⟨_, atI_nat (j := 1) rfl, by omega⟩
            · exact ⟨_, atI_nat (j := 2) rfl, by omega⟩
            · exact ⟨_, atI_nat (j := 3) rfl, by omega⟩
          refine ⟨l8, _, _, _, rfl, rfl, SqL.of (kk _ _ upd_same f8.1 f8.2), hth2, ?_⟩
          have hp17 := kk.tup htr.ha (s13 _ _ hp16)
          refine ⟨hts.tb, fun Hj LaF ej tj la => ⟨la, _, _, rfl, th_board (ej _ _ hp17 (fun _ z => nomatch z)) ok bth fun H10 s14 => ⟨c5, 5, "BadThings", rfl, rfl, e5, rfl, fun H11 s15 => ⟨rfl, _, rfl, iteNS rfl ?_⟩⟩⟩⟩
          have htt := ((hts.lam ej tj).same s14).same s15
          have hp18 : RuAt H11 p R := s15 _ _ (s14 _ _ (ej _ _ hp17 (fun _ z => nomatch z)))
          -- all is let by
          refine ⟨_, rfl, _, _, rfl, rfl, ⟨by decide, by decide, by decide⟩, _, _, rfl, rfl, ⟨by decide, by decide, by decide⟩, _, _, _, _, rfl, htt.tb, fun l9 g0 g1 g2 g3 g4 Hl el _ tl el9 V0 V1 V2 V3 V4 => ⟨l9, rfl, ⟨_, SqL.of el9⟩, fun D3 nD3 => ?_⟩⟩
          dsimp only at V0 V1
          rw [e9] at V0 V1
          have htu := htt.lam el tl
          have hp19 : RuAt Hl p R := el _ _ hp18 (fun _ z => nomatch z)
          refine lc_list (K := K) (a := l9) (xs := [V.ref g0, V.ref g1, V.ref g2, V.ref g3, V.ref g4]) (fun k H' => Same Hl H' ∧ H' D3 = some (.lst [])) ⟨same_upd nD3, upd_same⟩ (fun k H' _ h => SqL.of (h.1 _ _ el9)) ?_ ?_
          · rintro k y H' hy ⟨sk, eD⟩
            obtain ⟨g, Rg, rfl, Wg, hRg⟩ : ∃ (g : Addr) (Rg : Hp → VK → XK → Prop), y = .ref g ∧ WorkAt P w K mg base Hl g Rg ∧ ∀ H2 Q E, RuAt H2 p R → (∀ v H', Same H2 H' → Q v H') → Rg H2 Q E := by
              match k, hy with
              | 0, hy => exact ⟨g0, _, (Option.some.inj hy).symm, V0, fun H2 Q E hp z => ok_agedQ hp ok z⟩
              | 1, hy => exact ⟨g1, _, (Option.some.inj hy).symm, V1, fun H2 Q E hp z => ok_spanQ hp ok z⟩
              | 2, hy => exact ⟨g2, _, (Option.some.inj hy).symm, V2, fun H2 Q E hp z => ok_offQ hp ok z⟩
              | 3, hy => exact ⟨g3, _, (Option.some.inj hy).symm, V3, fun H2 Q E hp z => ok_reachQ hp ok z⟩
              | 4, hy => exact ⟨g4, _, (Option.some.inj hy).symm, V4, fun H2 Q E hp z => ok_boardQ hp ok z⟩
              | k + 5, hy => simp at hy
            refine ⟨rfl, kind_ok1 (Wg.same sk) rfl (fun L x Q E z => hRg _ Q E (ruFgt x (sk _ _ hp19)) z) fun H2 s2 => ⟨rfl, _, rfl, iteNS rfl ⟨sk.trans s2, s2 _ _ eD⟩⟩⟩
          · rintro Hm ⟨sm2, eD⟩
            have htv := htu.same sm2
            have hp20 := sm2 _ _ hp19
            refine ⟨(by show 0 ≤ sizeLine; decide), fun l10 nl10 => ?_⟩
            have s16 := same_upd (o := .lst []) nl10
            refine ⟨.list [], .list [], .lst (SqL.of (s16 _ _ eD)) .nil, .lst (SqL.of upd_same) .nil, shaped_nil, shaped_nil, _, rfl, ?_⟩
            rw [show PyData.eqv (.list []) (.list []) = true by decide +kernel]
            refine iteF ?_
            have htw := htv.same s16
            have hp21 := s16 _ _ hp20
            -- what is told at the bounds
            refine ⟨_, rfl, _, rfl, _, rfl, _, rfl, p, R, R.most, far, 0, _, _, _, rfl, rfl, rfl, rfl, hp21, ok, Nat.le_refl _, by omega, fun Hn sn => ⟨_, rfl, rfl, _, rfl, iteNS rfl ?_⟩⟩
            have htx := htw.same sn
            have hp22 := sn _ _ hp21
            refine ⟨_, rfl, fun x dx h1 h2 h3 => .inl ⟨x, dx, p, R, 8, 8, rfl, rfl, upd_same, mk_same h1 h2 h3 _ _ hp22, ok, by decide, by decide, fun Ho am ba na ko => ⟨rfl, ?_⟩⟩⟩
            obtain ⟨dxb, ob⟩ := ba.ob
            have so2 : Same Hn Ho := fun b o e => ko b o (mk_same h1 h2 h3 _ _ e) (fun z => by rw [List.mem_singleton.mp z, h1] at e; cases e)
            refine ⟨x, _, _, rfl, ob, bfl_no _ _ _ (by decide +kernel) (by decide +kernel) (by decide +kernel), x, p, am, R, _, 0, rfl, ba, fun Hq l11 n11 sq e11 => ?_⟩
            have hp23 := sq _ _ (so2 _ _ hp22)
            refine ⟨_, rfl, p, R, rfl, hp23, ok, fun Hr sr => ⟨(by show 1 ≤ sizeLine; decide), fun l12 n12 => ⟨l12, 8, _, rfl, rfl, upd_same, by decide, by decide, (by show 1 * 8 ≤ sizeLine; decide), fun l13 n13 => ?_⟩⟩⟩
            rw [show (8 : Int).toNat = 8 from rfl, rep_one]
            have s17 := same_upd (o := .lst [V.int (R.fin : Int)]) n12
            have s18 := same_upd (o := .lst (List.replicate 8 (V.int (R.fin : Int)))) n13
            have eL := s18 _ _ (s17 _ _ (sr _ _ e11))
            rw [nvs_rep] at eL
            refine ⟨.list (List.replicate 8 (.int (R.fin : Int))), .list (List.replicate 8 (.int (R.fin : Int))), .lst (SqL.of eL) (dp_rep 8), .lst (SqL.of upd_same) (dp_rep 8), shaped_rep 8 _, shaped_rep 8 _, _, rfl, ?_⟩
            rw [eqv_same (shaped_rep 8 _)]
            exact iteF ⟨_, _, _, _, _, _, _, _, _, _, rfl, ((((htx.same so2).same sq).same sr).same s17).same s18⟩
    · rintro σ Ha _
      exact q Ha
end
theorem lims_mk {K : PySem.W.Frag} {w : World} {h : Heap} {mg : Str → Option Value} {d d1 d2 d3 : Addr} {es : Array DictEntry} {n n1 n2 n3 : Nat} {od1 od2 od3 : Option Addr} {sl1 sl2 sl3 : Array (Option Value)} {x1 x2 x3 x4 x5 : Tok} (X : K.In h) (G : h.Ns mainGlobals mg)
    (aL : PySem.W.nsIn K mainGlobals "LIMITS" = some (some (.ref d))) (lL : K.lookup d = some ⟨.type "dict", none, .dict es n, #[]⟩) (kL : PySem.W.KeysLit w.params es.toList) (sL : (d == sysModules) = false)
    (e1 : PySem.W.nsIn K d "count" = some (some (.ref d1))) (t1 : K.lookup d1 = some ⟨.type "tuple", od1, .seq #[.int 6 x1, .int 20 x2] n1, sl1⟩)
    (e2 : PySem.W.nsIn K d "shift" = some (some (.ref d2))) (t2 : K.lookup d2 = some ⟨.type "tuple", od2, .seq #[.int 10 x3, .int 20 x4] n2, sl2⟩)
    (e3 : PySem.W.nsIn K d "rough" = some (some (.ref d3))) (t3 : K.lookup d3 = some ⟨.type "tuple", od3, .seq #[.int 3 x5] n3, sl3⟩) : Lims K w mg := by
  refine ⟨d, es, n, PySem.W.mg_of X G aL, ⟨lL, kL, sL⟩, fun R => ?_⟩
  cases R with
  | cnt b s => exact ⟨d1, e1, _, _, _, t1, rfl, rfl, (by show 2 ≤ sizeLine; decide), .cons ⟨_, rfl⟩ (.cons ⟨_, rfl⟩ .nil)⟩
  | shf b s => exact ⟨d2, e2, _, _, _, t2, rfl, rfl, (by show 2 ≤ sizeLine; decide), .cons ⟨_, rfl⟩ (.cons ⟨_, rfl⟩ .nil)⟩
  | rgh b => exact ⟨d3, e3, _, _, _, t3, rfl, rfl, (by show 1 ≤ sizeLine; decide), .cons ⟨_, rfl⟩ .nil⟩
/-! ### facts of the head -/
theorem limsX_mk {K : PySem.W.Frag} {w : World} {h : Heap} {mg : Str → Option Value} {d d1 d2 d3 : Addr} {es : Array DictEntry} {n n1 n2 n3 : Nat} {od1 od2 od3 : Option Addr} {sl1 sl2 sl3 : Array (Option Value)} {x1 x2 x3 x4 x5 : Tok} (X : K.In h) (G : h.Ns mainGlobals mg)
    (aL : PySem.W.nsIn K mainGlobals "LIMITS" = some (some (.ref d))) (lL : K.lookup d = some ⟨.type "dict", none, .dict es n, #[]⟩) (kL : PySem.W.KeysLit w.params es.toList) (sL : (d == sysModules) = false)
    (e1 : PySem.W.nsIn K d "count" = some (some (.ref d1))) (t1 : K.lookup d1 = some ⟨.type "tuple", od1, .seq #[.int 6 x1, .int 20 x2] n1, sl1⟩)
    (e2 : PySem.W.nsIn K d "shift" = some (some (.ref d2))) (t2 : K.lookup d2 = some ⟨.type "tuple", od2, .seq #[.int 10 x3, .int 20 x4] n2, sl2⟩)
    (e3 : PySem.W.nsIn K d "rough" = some (some (.ref d3))) (t3 : K.lookup d3 = some ⟨.type "tuple", od3, .seq #[.int 3 x5] n3, sl3⟩)
    (k1 : PySem.W.nsIn K d "Count" = some none) (k2 : PySem.W.nsIn K d "" = some none) (k3 : PySem.W.nsIn K d "counts" = some none) : LimsX K w mg := by
  refine ⟨d, es, n, PySem.W.mg_of X G aL, ⟨lL, kL, sL⟩, fun R => ?_, k1, k2, k3⟩
  cases R with
  | cnt b s => exact ⟨d1, e1, _, _, _, t1, rfl, rfl, (by show 2 ≤ sizeLine; decide), .cons ⟨_, rfl⟩ (.cons ⟨_, rfl⟩ .nil)⟩
  | shf b s => exact ⟨d2, e2, _, _, _, t2, rfl, rfl, (by show 2 ≤ sizeLine; decide), .cons ⟨_, rfl⟩ (.cons ⟨_, rfl⟩ .nil)⟩
  | rgh b => exact ⟨d3, e3, _, _, _, t3, rfl, rfl, (by show 1 ≤ sizeLine; decide), .cons ⟨_, rfl⟩ .nil⟩
theorem works_binds {K : PySem.W.Frag} (kV doc pm : Value) (an : Option Addr) (cd ct : Value) : Binds K (PySem.W.fnOf "_law_works" "_law_works" (defArgs s_L_works) (defBody s_L_works) (defScope s_L_works) .none kV doc pm an cd ct) ["_law_rule_here", "_law_mark", "_law_begin", "_law_end_here"] [] :=
  .all fun us hl => match us, hl with | [_, _, _, _], _ => rfl
theorem all_mk {l : PySem.W.OpenLaw} {w : World} {K : PySem.W.Frag} {h : Heap} {mg : Str → Option Value} {fa : Addr} (X : K.In h) (G : h.Ns mainGlobals mg) (hfa : mg "law" = some (.ref fa))
    {f_0 c_0 P_0 f_1 c_1 P_1 : Addr}
    {oc_0 kV_0 doc_0 pm_0 ct_0 : Value} {an_0 od_0 : Option Addr} {osl_0 : Array (Option Value)}
    {oc_1 kV_1 doc_1 pm_1 ct_1 : Value} {an_1 od_1 : Option Addr} {osl_1 : Array (Option Value)}
    {d dd1 dd2 dd3 : Addr} {es : Array DictEntry} {n n1 n2 n3 : Nat} {od1 od2 od3 : Option Addr} {sl1 sl2 sl3 : Array (Option Value)} {x1 x2 x3 x4 x5 : Tok}
    {tk_LAST_MOMENT : Tok}
    {tk_MOST_THINGS : Tok}
    {C : Addr}
    {cSeenError cBadRule cBadMark cBadMoment cBadBounds cNoRule cBadThings cNoThing cBadText : Addr}
    (d_is_rule : DefAt K mg "is_rule" s_is_rule ["rule"])
    (d_check_rule : DefAt K mg "check_rule" s_check_rule ["rule"])
    (d_check_mark : DefAt K mg "check_mark" s_check_mark ["rule", "mark"])
    (d_check_moment : DefAt K mg "check_moment" s_check_moment ["moment"])
    (d_top_mark : DefAt K mg "top_mark" s_top_mark ["rule"])
    (d_end_mark : DefAt K mg "end_mark" s_end_mark ["rule"])
    (d_seen : DefAt K mg "seen" s_seen ["rule", "mark"])
    (d_aged : DefAt K mg "aged" s_aged ["rule", "mark", "begin", "end"])
    (d_aged_on : DefAt K mg "aged_on" s_aged_on ["rule", "mark", "begin", "end"])
    (d_aged_roughly : DefAt K mg "_aged_roughly" s_aged_roughly ["last", "mark", "begin", "end"])
    (d_span : DefAt K mg "span" s_span ["rule", "now", "mark"])
    (d_off : DefAt K mg "off" s_off ["rule"])
    (d_reach : DefAt K mg "reach" s_reach ["rule"])
    (d_agings : DefAt K mg "_agings" s_agings ["rule", "mark"])
    (d_stepped_span : DefAt K mg "_stepped_span" s_stepped_span ["rule", "now", "mark"])
    (d_rough_span : DefAt K mg "_rough_span" s_rough_span ["rule", "now", "mark"])
    (d_rough_moments : DefAt K mg "_rough_moments" s_rough_moments ["rule"])
    (d_rough_width : DefAt K mg "_rough_width" s_rough_width ["rule", "now"])
    (d_L_mix : DefAt K mg "_law_mix" s_L_mix ["_law_script", "_law_seed"])
    (d_L_next : DefAt K mg "_law_next" s_L_next ["_law_h", "_law_many"])
    (d_L_rule : DefAt K mg "_law_rule" s_L_rule ["_law_h", "_law_small"])
    (d_L_end : DefAt K mg "_law_end" s_L_end ["_law_rule_here"])
    (d_L_most : DefAt K mg "_law_most" s_L_most ["_law_rule_here"])
    (d_L_kind : DefAt K mg "_law_kind" s_L_kind ["_law_work"])
    (d_L_odd : DefAt K mg "_law_odd" s_L_odd ["_law_h", "_law_rule_here"])
    (hTab : ∀ P ∈ [P_1, P_0], h.get? P = some (PySem.W.tabObj #[]))
    (gM0 : PySem.W.nsIn K mainGlobals "law" = some (some (.ref f_0)))
    (lM0 : K.lookup f_0 = some ⟨oc_0, od_0, .func (PySem.W.fnOf "law" "law" (defArgs s_law) (defBody s_law) (defScope s_law) .none kV_0 doc_0 pm_0 an_0 (.ref c_0) ct_0), osl_0⟩)
    (cM0 : PySem.W.codeIn K (.ref c_0) "law" = true)
    (kM0 : PySem.W.keepIn K (.ref f_0) = true)
    (nP0 : K.lookup P_0 = none)
    (hP0 : PySem.W.codeHdIn K c_0 P_0 = true)
    (gM1 : PySem.W.nsIn K mainGlobals "_law_works" = some (some (.ref f_1)))
    (lM1 : K.lookup f_1 = some ⟨oc_1, od_1, .func (PySem.W.fnOf "_law_works" "_law_works" (defArgs s_L_works) (defBody s_L_works) (defScope s_L_works) .none kV_1 doc_1 pm_1 an_1 (.ref c_1) ct_1), osl_1⟩)
    (cM1 : PySem.W.codeIn K (.ref c_1) "_law_works" = true)
    (kM1 : PySem.W.keepIn K (.ref f_1) = true)
    (nP1 : K.lookup P_1 = none)
    (hP1 : PySem.W.codeHdIn K c_1 P_1 = true)
    (m_len : mg "len" = none)
    (m_all : mg "all" = none)
    (m_zip : mg "zip" = none)
    (m_min : mg "min" = none)
    (m_max : mg "max" = none)
    (m_list : mg "list" = none)
    (m_range : mg "range" = none)
    (m_int : mg "int" = none)
    (m_isi : mg "isinstance" = none)
    (m_ve : mg "ValueError" = none)
    (aL : PySem.W.nsIn K mainGlobals "LIMITS" = some (some (.ref d)))
    (lL : K.lookup d = some ⟨.type "dict", none, .dict es n, #[]⟩)
    (kL : PySem.W.KeysLit w.params es.toList)
    (sL : (d == sysModules) = false)
    (e1 : PySem.W.nsIn K d "count" = some (some (.ref dd1)))
    (t1 : K.lookup dd1 = some ⟨.type "tuple", od1, .seq #[.int 6 x1, .int 20 x2] n1, sl1⟩)
    (e2 : PySem.W.nsIn K d "shift" = some (some (.ref dd2)))
    (t2 : K.lookup dd2 = some ⟨.type "tuple", od2, .seq #[.int 10 x3, .int 20 x4] n2, sl2⟩)
    (e3 : PySem.W.nsIn K d "rough" = some (some (.ref dd3)))
    (t3 : K.lookup dd3 = some ⟨.type "tuple", od3, .seq #[.int 3 x5] n3, sl3⟩)
    (c_LAST_MOMENT : PySem.W.nsIn K mainGlobals "LAST_MOMENT" = some (some (.int 1000000000 tk_LAST_MOMENT)))
    (c_MOST_THINGS : PySem.W.nsIn K mainGlobals "MOST_THINGS" = some (some (.int 8 tk_MOST_THINGS)))
    (aB : PySem.W.nsIn K mainGlobals "Board" = some (some (.ref C)))
    (pgB : PySem.W.plainGet K C Str.empty = true)
    (hdB : PySem.W.hasDictIn K C = true)
    (poB : PySem.W.plainOver K C = true)
    (saB : PySem.W.findIn K (.ref C) "__setattr__" = some (some (.builtin "object.__setattr__")))
    (mkB : PySem.W.makesIn K C = true)
    (kcB : PySem.W.keepIn K (.ref C) = true)
    (n_rule : PySem.W.findIn K (.ref C) "_rule" = some none)
    (n_marks : PySem.W.findIn K (.ref C) "_marks" = some none)
    (n_moment : PySem.W.findIn K (.ref C) "_moment" = some none)
    (dm_init : DefM K C "__init__" "Board.__init__" m_Board_init ["self", "rule", "things"])
    (dm_marks : DefM K C "marks" "Board.marks" m_Board_marks ["self"])
    (aSeenError : PySem.W.nsIn K mainGlobals "SeenError" = some (some (.ref cSeenError)))
    (aBadRule : PySem.W.nsIn K mainGlobals "BadRule" = some (some (.ref cBadRule)))
    (aBadMark : PySem.W.nsIn K mainGlobals "BadMark" = some (some (.ref cBadMark)))
    (aBadMoment : PySem.W.nsIn K mainGlobals "BadMoment" = some (some (.ref cBadMoment)))
    (aBadBounds : PySem.W.nsIn K mainGlobals "BadBounds" = some (some (.ref cBadBounds)))
    (aNoRule : PySem.W.nsIn K mainGlobals "NoRule" = some (some (.ref cNoRule)))
    (aBadThings : PySem.W.nsIn K mainGlobals "BadThings" = some (some (.ref cBadThings)))
    (aNoThing : PySem.W.nsIn K mainGlobals "NoThing" = some (some (.ref cNoThing)))
    (aBadText : PySem.W.nsIn K mainGlobals "BadText" = some (some (.ref cBadText)))
    (xBadRule : PySem.W.excIn K cBadRule [.type "ValueError", .type "Exception", .type "BaseException", .type "object"] "ValueError.__new__" = true)
    (kBadRule : PySem.W.keepIn K (.ref cBadRule) = true)
    (bBadRule : PySem.W.subIn K (.ref cBadRule) (.type "BaseException") = some true)
    (tBadRule : PySem.W.typeIn K (.ref cBadRule) = some (.type "type"))
    (xBadMark : PySem.W.excIn K cBadMark [.type "ValueError", .type "Exception", .type "BaseException", .type "object"] "ValueError.__new__" = true)
    (kBadMark : PySem.W.keepIn K (.ref cBadMark) = true)
    (bBadMark : PySem.W.subIn K (.ref cBadMark) (.type "BaseException") = some true)
    (tBadMark : PySem.W.typeIn K (.ref cBadMark) = some (.type "type"))
    (xBadMoment : PySem.W.excIn K cBadMoment [.type "ValueError", .type "Exception", .type "BaseException", .type "object"] "ValueError.__new__" = true)
    (kBadMoment : PySem.W.keepIn K (.ref cBadMoment) = true)
    (bBadMoment : PySem.W.subIn K (.ref cBadMoment) (.type "BaseException") = some true)
    (tBadMoment : PySem.W.typeIn K (.ref cBadMoment) = some (.type "type"))
    (xBadThings : PySem.W.excIn K cBadThings [.type "ValueError", .type "Exception", .type "BaseException", .type "object"] "ValueError.__new__" = true)
    (kBadThings : PySem.W.keepIn K (.ref cBadThings) = true)
    (bBadThings : PySem.W.subIn K (.ref cBadThings) (.type "BaseException") = some true)
    (tBadThings : PySem.W.typeIn K (.ref cBadThings) = some (.type "type"))
    (iBadRule : errIsB K cSeenError cBadRule cBadMark cBadMoment cBadBounds cNoRule cBadThings cNoThing cBadText cBadRule 0 = true)
    (iBadMark : errIsB K cSeenError cBadRule cBadMark cBadMoment cBadBounds cNoRule cBadThings cNoThing cBadText cBadMark 1 = true)
    (iBadMoment : errIsB K cSeenError cBadRule cBadMark cBadMoment cBadBounds cNoRule cBadThings cNoThing cBadText cBadMoment 2 = true)
    (iBadThings : errIsB K cSeenError cBadRule cBadMark cBadMoment cBadBounds cNoRule cBadThings cNoThing cBadText cBadThings 5 = true)
    (nk1 : PySem.W.nsIn K d "Count" = some none)
    (nk2 : PySem.W.nsIn K d "" = some none)
    (nk3 : PySem.W.nsIn K d "counts" = some none)
    (neP : P_0 ≠ P_1)
    : LamX.LawAtS l w K L2.CX0 10 63 "_law_script" mg fa h := by
  have e := hfa.symm.trans (PySem.W.mg_of X G gM0)
  cases e
  refine ⟨PySem.W.fnOf "law" "law" (defArgs s_law) (defBody s_law) (defScope s_law) .none kV_0 doc_0 pm_0 an_0 (.ref c_0) ct_0, [(c_0, P_0), (c_1, P_1)], spLaw K P_0 P_1, ?t1, ?t2, ?t3, fun s v => .of_eq rfl, ?t4, fun base hKb hNb TBs => ?t5⟩
  case t1 =>
    intro p hp
    simp only [List.mem_cons, List.not_mem_nil, or_false] at hp
    rcases hp with rfl | rfl
    · exact hTab _ (by simp)
    · exact hTab _ (by simp)
  case t2 =>
    intro p hp
    simp only [List.mem_cons, List.not_mem_nil, or_false] at hp
    rcases hp with rfl | rfl
    · exact nP0
    · exact nP1
  case t3 =>
    intro p hp
    simp only [List.mem_cons, List.not_mem_nil, or_false] at hp
    rcases hp with rfl | rfl
    · exact PySem.W.codeHd_of_K X hP0
    · exact PySem.W.codeHd_of_K X hP1
  case t4 =>
    intro H a ns hl _ hTs hS
    exact ⟨a, ns, rfl, hS, hl, hTs (c_0, P_0) (by simp), hTs (c_1, P_1) (by simp), fun _ => rfl⟩
  case t5 =>
    have TB0 : LamX.TabB base mg c_0 P_0 := TBs (c_0, P_0) (by simp)
    have TB1 : LamX.TabB base mg c_1 P_1 := TBs (c_1, P_1) (by simp)
    have LI : Lims K w mg := lims_mk X G aL lL kL sL e1 t1 e2 t2 e3 t3
    have T : Bcl K mg C := ⟨⟨pgB, hdB, poB, saB⟩, n_rule, n_marks, n_moment⟩
    have gB : mg "Board" = some (.ref C) := PySem.W.mg_of X G aB
    have E_BadRule : ErrC K mg "BadRule" cBadRule := ⟨PySem.W.mg_of X G aBadRule, xBadRule, kBadRule, bBadRule, tBadRule⟩
    have E_BadMark : ErrC K mg "BadMark" cBadMark := ⟨PySem.W.mg_of X G aBadMark, xBadMark, kBadMark, bBadMark, tBadMark⟩
    have E_BadMoment : ErrC K mg "BadMoment" cBadMoment := ⟨PySem.W.mg_of X G aBadMoment, xBadMoment, kBadMoment, bBadMoment, tBadMoment⟩
    have E_BadThings : ErrC K mg "BadThings" cBadThings := ⟨PySem.W.mg_of X G aBadThings, xBadThings, kBadThings, bBadThings, tBadThings⟩
    have EG : ErrG mg cSeenError cBadRule cBadMark cBadMoment cBadBounds cNoRule cBadThings cNoThing cBadText := ⟨PySem.W.mg_of X G aSeenError, PySem.W.mg_of X G aBadRule, PySem.W.mg_of X G aBadMark, PySem.W.mg_of X G aBadMoment, PySem.W.mg_of X G aBadBounds, PySem.W.mg_of X G aNoRule, PySem.W.mg_of X G aBadThings, PySem.W.mg_of X G aNoThing, PySem.W.mg_of X G aBadText⟩
    have I_BadRule := errIs_of iBadRule
    have I_BadMark := errIs_of iBadMark
    have I_BadMoment := errIs_of iBadMoment
    have I_BadThings := errIs_of iBadThings
    have LX : LimsX K w mg := limsX_mk X G aL lL kL sL e1 t1 e2 t2 e3 t3 nk1 nk2 nk3
    have C_is : Cl l.prog w K mg base 1 "is_rule" ["rule"] spIsRule := ok_is_rule d_is_rule LI m_len m_all m_zip
    have C_cr := ok_check_rule d_check_rule C_is
    have C_tm : Cl l.prog w K mg base 1 "top_mark" ["rule"] spTopMark := ok_top_mark d_top_mark
    have C_cm := ok_check_mark d_check_mark C_tm
    have C_mo : Cl l.prog w K mg base 1 "check_moment" ["moment"] spCheckMoment := ok_check_moment d_check_moment (PySem.W.mg_of X G c_LAST_MOMENT)
    have C_ro : Cl l.prog w K mg base 1 "_aged_roughly" ["last", "mark", "begin", "end"] spRoughly := ok_roughly d_aged_roughly
    have C_ao := ok_aged_on d_aged_on m_min C_tm C_ro
    have C_ag := ok_aged d_aged C_cr C_cm C_mo C_ao
    have C_em := ok_end_mark d_end_mark C_tm
    have C_se : Cl l.prog w K mg base 1 "seen" ["rule", "mark"] spSeen := ok_seen d_seen
    have C_gs := ok_agings d_agings C_se C_em
    have C_st := ok_stepped d_stepped_span m_min C_gs C_em
    have C_rs := ok_rough d_rough_span m_range C_em C_se C_ao
    have C_sp := ok_span d_span C_cr C_mo C_cm C_rs C_st
    have C_ms := ok_moments d_rough_moments m_list m_range C_em
    have C_wd := ok_width d_rough_width m_max m_range C_em C_rs
    have C_off := ok_off d_off m_max C_cr C_ms C_wd
    have C_re := ok_reach d_reach m_min C_cr C_ms C_rs C_em C_gs
    have X_is : Cl l.prog w K mg base 1 "is_rule" ["rule"] spIsRuleX := ok_is_ruleX d_is_rule LX m_len m_all m_zip
    have X_cr := ok_check_ruleX d_check_rule X_is E_BadRule
    have X_cm := ok_check_markX d_check_mark C_tm E_BadMark
    have X_mo := ok_check_momentX (P := l.prog) (w := w) (base := base) d_check_moment (PySem.W.mg_of X G c_LAST_MOMENT) E_BadMoment
    have R_ag : ClR l.prog w K mg base 7 "aged" (spA cBadRule cBadMark cBadMoment) := (C_ag.raw.mono (by decide)).or ((ok_agedBad d_aged X_cr X_cm X_mo E_BadMoment).mono (by decide))
    have R_sp : ClR l.prog w K mg base 7 "span" (spS cBadRule cBadMark cBadMoment) := (C_sp.raw.mono (by decide)).or ((ok_spanBad d_span X_cr X_cm X_mo).mono (by decide))
    have R_of : ClR l.prog w K mg base 7 "off" (spO cBadRule) := (C_off.raw.mono (by decide)).or ((ok_offBad d_off X_cr).mono (by decide))
    have R_re : ClR l.prog w K mg base 7 "reach" (spRe cBadRule) := (C_re.raw.mono (by decide)).or ((ok_reachBad d_reach X_cr).mono (by decide))
    have CI := ok_initX dm_init T (PySem.W.mg_of X G c_MOST_THINGS) X_cr E_BadThings C_em
    obtain ⟨fI, fdI, GI, MI, bI⟩ := CI
    have MkB : Mk K C fI := ⟨mkB, MI.at_, MI.fn, kcB⟩
    have CM : ClM l.prog w K mg base CX0 1 C "marks" ["self"] (spMarks C) := ok_marks dm_marks T m_list
  
    have C_mix : Cl l.prog w K mg base 1 "_law_mix" ["_law_script", "_law_seed"] (spMix K) := ok_mix d_L_mix m_list
    have C_next : Cl l.prog w K mg base 1 "_law_next" ["_law_h", "_law_many"] spNext := ok_next d_L_next m_max m_len
  
    have C_rule := ok_rule d_L_rule m_int C_next
    have C_end : Cl l.prog w K mg base 1 "_law_end" ["_law_rule_here"] spEnd := ok_end d_L_end
    have C_most : Cl l.prog w K mg base 1 "_law_most" ["_law_rule_here"] spTopMark := ok_most d_L_most m_range m_int
    have C_odd := ok_odd d_L_odd C_next
    have mT1 : (P_1, qW) ∈ [(P_0, qL), (P_1, qW)] := by simp
    have tT1 : ∀ p ∈ [(P_0, qL), (P_1, qW)], p.1 = P_1 → p.2 = qW := fun p hp e => by
      simp only [List.mem_cons, List.not_mem_nil, or_false] at hp
      rcases hp with rfl | rfl
      · exact absurd e neP
      · rfl
    have F_w := ok_works (T := [(P_0, qL), (P_1, qW)]) lM1 cM1 TB1 mT1 tT1 R_ag R_sp R_of R_re MkB GI gB bI
    have C_w : Cl l.prog w K mg base 1 "_law_works" ["_law_rule_here", "_law_mark", "_law_begin", "_law_end_here"] (spWorks l.prog w K mg base [(P_0, qL), (P_1, qW)] C (spA cBadRule cBadMark cBadMoment) (spS cBadRule cBadMark cBadMoment) (spO cBadRule) (spRe cBadRule) (spInitX C cBadRule cBadThings)) :=
      ⟨f_1, _, F_w, PySem.W.mg_of X G gM1, kM1, works_binds _ _ _ _ _ _⟩
    exact ok_law lM0 cM0 TB0 rfl neP d_L_kind EG I_BadRule I_BadMark I_BadMoment I_BadThings m_isi m_ve m_range T gB MkB GI bI C_mix C_next C_rule C_odd C_most C_end C_ag CM C_w R_ag R_sp
end LS
open PySem PySem.W PyProof.Rows
set_option maxHeartbeats 0 in
theorem PySem.Challenge.cw_lastseen_k01_rules_and_marks_refused_holds : PySem.Challenge.rw_lastseen_k01_rules_and_marks_refused.Holds := by
  w_on; o_law; k_head; (case hw => w_witness2)
  k_fill
  refine LamX.walk_ofTs (l := PySem.Challenge.rw_lastseen_k01_rules_and_marks_refused) (n := 63) (k := 10) (x := "_law_script") (CX := fun _ => L2.CX0) rfl (by decide) rfl ⟨rfl, by decide, by decide⟩ (fun w h Y => PySem.W.km_in_of Y) ?F (fun _ _ _ _ _ h => h)
  case F =>
    intro w mg fa h Y KX G hmg
    have hT := PySem.W.km_tabs_of Y
    refine' LS.all_mk KX G hmg (LS.defAt_mk (st := LS.s_is_rule) (ps := ["rule"]) KX G ?a0 ?l0 ?c0 ?k0 (fun _ _ _ _ _ _ us hl => match us, hl with | [_], _ => rfl)) (LS.defAt_mk (st := LS.s_check_rule) (ps := ["rule"]) KX G ?a1 ?l1 ?c1 ?k1 (fun _ _ _ _ _ _ us hl => match us, hl with | [_], _ => rfl)) (LS.defAt_mk (st := LS.s_check_mark) (ps := ["rule", "mark"]) KX G ?a2 ?l2 ?c2 ?k2 (fun _ _ _ _ _ _ us hl => match us, hl with | [_, _], _ => rfl)) (LS.defAt_mk (st := LS.s_check_moment) (ps := ["moment"]) KX G ?a3 ?l3 ?c3 ?k3 (fun _ _ _ _ _ _ us hl => match us, hl with | [_], _ => rfl)) (LS.defAt_mk (st := LS.s_top_mark) (ps := ["rule"]) KX G ?a4 ?l4 ?c4 ?k4 (fun _ _ _ _ _ _ us hl => match us, hl with | [_], _ => rfl)) (LS.defAt_mk (st := LS.s_end_mark) (ps := ["rule"]) KX G ?a5 ?l5 ?c5 ?k5 (fun _ _ _ _ _ _ us hl => match us, hl with | [_], _ => rfl)) (LS.defAt_mk (st := LS.s_seen) (ps := ["rule", "mark"]) KX G ?a6 ?l6 ?c6 ?k6 (fun _ _ _ _ _ _ us hl => match us, hl with | [_, _], _ => rfl)) (LS.defAt_mk (st := LS.s_aged) (ps := ["rule", "mark", "begin", "end"]) KX G ?a7 ?l7 ?c7 ?k7 (fun _ _ _ _ _ _ us hl => match us, hl with | [_, _, _, _], _ => rfl)) (LS.defAt_mk (st := LS.s_aged_on) (ps := ["rule", "mark", "begin", "end"]) KX G ?a8 ?l8 ?c8 ?k8 (fun _ _ _ _ _ _ us hl => match us, hl with | [_, _, _, _], _ => rfl)) (LS.defAt_mk (st := LS.s_aged_roughly) (ps := ["last", "mark", "begin", "end"]) KX G ?a9 ?l9 ?c9 ?k9 (fun _ _ _ _ _ _ us hl => match us, hl with | [_, _, _, _], _ => rfl)) (LS.defAt_mk (st := LS.s_span) (ps := ["rule", "now", "mark"]) KX G ?a10 ?l10 ?c10 ?k10 (fun _ _ _ _ _ _ us hl => match us, hl with | [_, _, _], _ => rfl)) (LS.defAt_mk (st := LS.s_off) (ps := ["rule"]) KX G ?a11 ?l11 ?c11 ?k11 (fun _ _ _ _ _ _ us hl => match us, hl with | [_], _ => rfl)) (LS.defAt_mk (st := LS.s_reach) (ps := ["rule"]) KX G ?a12 ?l12 ?c12 ?k12 (fun _ _ _ _ _ _ us hl => match us, hl with | [_], _ => rfl)) (LS.defAt_mk (st := LS.s_agings) (ps := ["rule", "mark"]) KX G ?a13 ?l13 ?c13 ?k13 (fun _ _ _ _ _ _ us hl => match us, hl with | [_, _], _ => rfl)) (LS.defAt_mk (st := LS.s_stepped_span) (ps := ["rule", "now", "mark"]) KX G ?a14 ?l14 ?c14 ?k14 (fun _ _ _ _ _ _ us hl => match us, hl with | [_, _, _], _ => rfl)) (LS.defAt_mk (st := LS.s_rough_span) (ps := ["rule", "now", "mark"]) KX G ?a15 ?l15 ?c15 ?k15 (fun _ _ _ _ _ _ us hl => match us, hl with | [_, _, _], _ => rfl)) (LS.defAt_mk (st := LS.s_rough_moments) (ps := ["rule"]) KX G ?a16 ?l16 ?c16 ?k16 (fun _ _ _ _ _ _ us hl => match us, hl with | [_], _ => rfl)) (LS.defAt_mk (st := LS.s_rough_width) (ps := ["rule", "now"]) KX G ?a17 ?l17 ?c17 ?k17 (fun _ _ _ _ _ _ us hl => match us, hl with | [_, _], _ => rfl)) (LS.defAt_mk (st := LS.s_L_mix) (ps := ["_law_script", "_law_seed"]) KX G ?a18 ?l18 ?c18 ?k18 (fun _ _ _ _ _ _ us hl => match us, hl with | [_, _], _ => rfl)) (LS.defAt_mk (st := LS.s_L_next) (ps := ["_law_h", "_law_many"]) KX G ?a19 ?l19 ?c19 ?k19 (fun _ _ _ _ _ _ us hl => match us, hl with | [_, _], _ => rfl)) (LS.defAt_mk (st := LS.s_L_rule) (ps := ["_law_h", "_law_small"]) KX G ?a20 ?l20 ?c20 ?k20 (fun _ _ _ _ _ _ us hl => match us, hl with | [_, _], _ => rfl)) (LS.defAt_mk (st := LS.s_L_end) (ps := ["_law_rule_here"]) KX G ?a21 ?l21 ?c21 ?k21 (fun _ _ _ _ _ _ us hl => match us, hl with | [_], _ => rfl)) (LS.defAt_mk (st := LS.s_L_most) (ps := ["_law_rule_here"]) KX G ?a22 ?l22 ?c22 ?k22 (fun _ _ _ _ _ _ us hl => match us, hl with | [_], _ => rfl)) (LS.defAt_mk (st := LS.s_L_kind) (ps := ["_law_work"]) KX G ?a23 ?l23 ?c23 ?k23 (fun _ _ _ _ _ _ us hl => match us, hl with | [_], _ => rfl)) (LS.defAt_mk (st := LS.s_L_odd) (ps := ["_law_h", "_law_rule_here"]) KX G ?a24 ?l24 ?c24 ?k24 (fun _ _ _ _ _ _ us hl => match us, hl with | [_, _], _ => rfl)) ?hTab ?gM0 ?lM0 ?cM0 ?kM0 ?nP0 ?hP0 ?gM1 ?lM1 ?cM1 ?kM1 ?nP1 ?hP1 (PySem.W.mg_none_of KX G ?zlen) (PySem.W.mg_none_of KX G ?zall) (PySem.W.mg_none_of KX G ?zzip) (PySem.W.mg_none_of KX G ?zmin) (PySem.W.mg_none_of KX G ?zmax) (PySem.W.mg_none_of KX G ?zlist) (PySem.W.mg_none_of KX G ?zrange) (PySem.W.mg_none_of KX G ?zint) (PySem.W.mg_none_of KX G ?zisi) (PySem.W.mg_none_of KX G ?zve) ?aL ?lL ?kL ?sL ?e1 ?t1 ?e2 ?t2 ?e3 ?t3 ?c_LAST_MOMENT ?c_MOST_THINGS ?aB ?pgB ?hdB ?poB ?saB ?mkB ?kcB ?n_rule ?n_marks ?n_moment (LS.defM_mk (st := LS.m_Board_init) (ps := ["self", "rule", "things"]) ?ma0 ?mi0 ?ml0 ?mc0 ?mk0 (fun _ _ _ _ _ _ us hl => match us, hl with | [_, _, _], _ => rfl)) (LS.defM_mk (st := LS.m_Board_marks) (ps := ["self"]) ?ma1 ?mi1 ?ml1 ?mc1 ?mk1 (fun _ _ _ _ _ _ us hl => match us, hl with | [_], _ => rfl)) ?aSeenError ?aBadRule ?aBadMark ?aBadMoment ?aBadBounds ?aNoRule ?aBadThings ?aNoThing ?aBadText ?xBadRule ?kBadRule ?bBadRule ?tBadRule ?xBadMark ?kBadMark ?bBadMark ?tBadMark ?xBadMoment ?kBadMoment ?bBadMoment ?tBadMoment ?xBadThings ?kBadThings ?bBadThings ?tBadThings ?iBadRule ?iBadMark ?iBadMoment ?iBadThings ?nk1 ?nk2 ?nk3 ?neP
    (case a0 => k_is)
    (case l0 => k_is)
    (case c0 => k_is)
    (case k0 => k_is)
    (case a1 => k_is)
    (case l1 => k_is)
    (case c1 => k_is)
    (case k1 => k_is)
    (case a2 => k_is)
    (case l2 => k_is)
    (case c2 => k_is)
    (case k2 => k_is)
    (case a3 => k_is)
    (case l3 => k_is)
    (case c3 => k_is)
    (case k3 => k_is)
    (case a4 => k_is)
    (case l4 => k_is)
    (case c4 => k_is)
    (case k4 => k_is)
    (case a5 => k_is)
    (case l5 => k_is)
    (case c5 => k_is)
    (case k5 => k_is)
    (case a6 => k_is)
    (case l6 => k_is)
    (case c6 => k_is)
    (case k6 => k_is)
    (case a7 => k_is)
    (case l7 => k_is)
    (case c7 => k_is)
    (case k7 => k_is)
    (case a8 => k_is)
    (case l8 => k_is)
    (case c8 => k_is)
    (case k8 => k_is)
    (case a9 => k_is)
    (case l9 => k_is)
    (case c9 => k_is)
    (case k9 => k_is)
    (case a10 => k_is)
    (case l10 => k_is)
    (case c10 => k_is)
    (case k10 => k_is)
    (case a11 => k_is)
    (case l11 => k_is)
    (case c11 => k_is)
    (case k11 => k_is)
    (case a12 => k_is)
    (case l12 => k_is)
    (case c12 => k_is)
    (case k12 => k_is)
    (case a13 => k_is)
    (case l13 => k_is)
    (case c13 => k_is)
    (case k13 => k_is)
    (case a14 => k_is)
    (case l14 => k_is)
    (case c14 => k_is)
    (case k14 => k_is)
    (case a15 => k_is)
    (case l15 => k_is)
    (case c15 => k_is)
    (case k15 => k_is)
    (case a16 => k_is)
    (case l16 => k_is)
    (case c16 => k_is)
    (case k16 => k_is)
    (case a17 => k_is)
    (case l17 => k_is)
    (case c17 => k_is)
    (case k17 => k_is)
    (case a18 => k_is)
    (case l18 => k_is)
    (case c18 => k_is)
    (case k18 => k_is)
    (case a19 => k_is)
    (case l19 => k_is)
    (case c19 => k_is)
    (case k19 => k_is)
    (case a20 => k_is)
    (case l20 => k_is)
    (case c20 => k_is)
    (case k20 => k_is)
    (case a21 => k_is)
    (case l21 => k_is)
    (case c21 => k_is)
    (case k21 => k_is)
    (case a22 => k_is)
    (case l22 => k_is)
    (case c22 => k_is)
    (case k22 => k_is)
    (case a23 => k_is)
    (case l23 => k_is)
    (case c23 => k_is)
    (case k23 => k_is)
    (case a24 => k_is)
    (case l24 => k_is)
    (case c24 => k_is)
    (case k24 => k_is)
    (case hTab => exact hT)
    (case gM0 => k_is)
    (case lM0 => k_is)
    (case cM0 => k_is)
    (case kM0 => k_is)
    (case nP0 => kernel_rfl)
    (case hP0 => kernel_rfl)
    (case gM1 => k_is)
    (case lM1 => k_is)
    (case cM1 => k_is)
    (case kM1 => k_is)
    (case nP1 => kernel_rfl)
    (case hP1 => kernel_rfl)
    (case zlen => k_is)
    (case zall => k_is)
    (case zzip => k_is)
    (case zmin => k_is)
    (case zmax => k_is)
    (case zlist => k_is)
    (case zrange => k_is)
    (case zint => k_is)
    (case zisi => k_is)
    (case zve => k_is)
    (case aL => k_is)
    (case lL => k_is)
    (case kL => k_keys)
    (case sL => decide)
    (case e1 => k_is)
    (case t1 => k_is)
    (case e2 => k_is)
    (case t2 => k_is)
    (case e3 => k_is)
    (case t3 => k_is)
    (case c_LAST_MOMENT => k_is)
    (case c_MOST_THINGS => k_is)
    (case aB => k_is)
    (case pgB => k_is)
    (case hdB => k_is)
    (case poB => k_is)
    (case saB => k_is)
    (case mkB => k_is)
    (case kcB => k_is)
    (case n_rule => k_is)
    (case n_marks => k_is)
    (case n_moment => k_is)
    (case ma0 => k_is)
    (case mi0 => k_is)
    (case ml0 => k_is)
    (case mc0 => k_is)
    (case mk0 => k_is)
    (case ma1 => k_is)
    (case mi1 => k_is)
    (case ml1 => k_is)
    (case mc1 => k_is)
    (case mk1 => k_is)
    (case aSeenError => k_is)
    (case aBadRule => k_is)
    (case aBadMark => k_is)
    (case aBadMoment => k_is)
    (case aBadBounds => k_is)
    (case aNoRule => k_is)
    (case aBadThings => k_is)
    (case aNoThing => k_is)
    (case aBadText => k_is)
    (case xBadRule => k_exc)
    (case kBadRule => k_is)
    (case bBadRule => k_is)
    (case tBadRule => k_is)
    (case xBadMark => k_exc)
    (case kBadMark => k_is)
    (case bBadMark => k_is)
    (case tBadMark => k_is)
    (case xBadMoment => k_exc)
    (case kBadMoment => k_is)
    (case bBadMoment => k_is)
    (case tBadMoment => k_is)
    (case xBadThings => k_exc)
    (case kBadThings => k_is)
    (case bBadThings => k_is)
    (case tBadThings => k_is)
    (case iBadRule => kernel_rfl)
    (case iBadMark => kernel_rfl)
    (case iBadMoment => kernel_rfl)
    (case iBadThings => kernel_rfl)
    (case nk1 => k_is)
    (case nk2 => k_is)
    (case nk3 => k_is)
    (case neP => decide)
