import PyProof.Rows.All
import Wide.All
import OpenK.AllK
import Wide.FinOn
import HandS.ForMost
import HandS.IsInst
import HandS.Zip
import HandS.More
import HandS.WideBits
import HandS.Conv
import HandS.SetFor
import HandS.ExcIs
import HandS.Lambda
import HandS.ForExc
import HandS.EndTab
import HandS.TryMany
import PyProof.DictMoreH
import KE.KNestM
import PySem.Challenge.RW_lastseen_k07_boards_step_by_step
set_option Elab.async false
set_option linter.all false
set_option maxRecDepth 100000
set_option maxHeartbeats 4000000
namespace LS
/-- a rule: its kind, bits, step -/
inductive Ru where
  | cnt (b s : Nat)
  | shf (b s : Nat)
  | rgh (b : Nat)
def Ru.ok : Ru → Prop
  | .cnt b s => 1 ≤ b ∧ b ≤ 6 ∧ 1 ≤ s ∧ s ≤ 20
  | .shf b s => 1 ≤ b ∧ b ≤ 10 ∧ 1 ≤ s ∧ s ≤ 20
  | .rgh b => 1 ≤ b ∧ b ≤ 3
def Ru.bits : Ru → Nat
  | .cnt b _ => b
  | .shf b _ => b
  | .rgh b => b
/-- the greatest mark -/
def Ru.most : Ru → Nat
  | .cnt b _ => 2 ^ b - 1
  | .shf b _ => 2 ^ (b + 1) - 1
  | .rgh b => 2 ^ b - 1
/-- the mark that ageing leaves -/
def Ru.fin : Ru → Nat
  | .cnt b _ => 2 ^ b - 1
  | .shf _ _ => 0
  | .rgh b => 2 ^ b - 1
/-- the mark of a thing that was just seen for the first time -/
def Ru.top : Ru → Nat
  | .shf b _ => 2 ^ b
  | _ => 0
/-- the beginning of a moment -/
def tick : Ru → Nat → Nat → Nat
  | .cnt b s, m, t => if t % s = 0 then min (m + 1) (2 ^ b - 1) else m
  | .shf _ s, m, t => if t % s = 0 then m / 2 else m
  | .rgh b, m, t => if m ≠ 2 ^ b - 1 ∧ t % 2 ^ m = 0 then m + 1 else m
/-- n moments behind moment t -/
def ag (R : Ru) (m t : Nat) : Nat → Nat
  | 0 => m
  | n + 1 => tick R (ag R m t n) (t + n + 1)
theorem ag_add (R : Ru) (m t n : Nat) : ∀ k, ag R m t (n + k) = ag R (ag R m t n) (t + n) k
  | 0 => rfl
  | k + 1 => by
    show tick R (ag R m t (n + k)) (t + (n + k) + 1) = tick R (ag R (ag R m t n) (t + n) k) (t + n + k + 1)
    rw [ag_add R m t n k, Nat.add_assoc t n k]
theorem succ_div (k s : Nat) (hs : 0 < s) : (k + 1) / s = k / s + (if (k + 1) % s = 0 then 1 else 0) := by
  have e := Nat.div_add_mod k s
  have hr : k % s < s := Nat.mod_lt k hs
  by_cases h : k % s + 1 < s
  · have e1 : k + 1 = s * (k / s) + (k % s + 1) := by omega
    have d : (k + 1) / s = k / s := by
      have := congrArg (· / s) e1
      simp only [Nat.mul_add_div hs, Nat.div_eq_of_lt h, Nat.add_zero] at this
      exact this
    have m : (k + 1) % s = k % s + 1 := by
      have := congrArg (· % s) e1
      simp only [Nat.mul_add_mod] at this
      rw [this, Nat.mod_eq_of_lt h]
    rw [d, if_neg (by omega), Nat.add_zero]
  · have e2 : k % s + 1 = s := by omega
    have e1 : k + 1 = s * (k / s + 1) := by rw [Nat.mul_add, Nat.mul_one]; omega
    have d : (k + 1) / s = k / s + 1 := by
      have := congrArg (· / s) e1
      simp only [Nat.mul_div_cancel_left _ hs] at this
      exact this
    have m : (k + 1) % s = 0 := by
      have := congrArg (· % s) e1
      simp only [Nat.mul_mod_right] at this
      exact this
    rw [d, if_pos m]
theorem div_mono {a b : Nat} (s : Nat) (h : a ≤ b) : a / s ≤ b / s := Nat.div_le_div_right h
theorem ag_cnt (b s m t : Nat) (hs : 0 < s) (hm : m ≤ 2 ^ b - 1) : ∀ n, ag (.cnt b s) m t n = min (m + ((t + n) / s - t / s)) (2 ^ b - 1)
  | 0 => by
    show m = _
    rw [Nat.add_zero, Nat.sub_self, Nat.add_zero, Nat.min_eq_left hm]
  | n + 1 => by
    show (if (t + n + 1) % s = 0 then min (ag (.cnt b s) m t n + 1) (2 ^ b - 1) else ag (.cnt b s) m t n) = _
    rw [ag_cnt b s m t hs hm n]
    have e := succ_div (t + n) s hs
    have g := div_mono s (Nat.le_add_right t n)
    rw [show t + (n + 1) = t + n + 1 from rfl, e]
    by_cases h : (t + n + 1) % s = 0
    · rw [if_pos h, if_pos h]; omega
    · rw [if_neg h, if_neg h, Nat.add_zero]
theorem ag_shf (b s m t : Nat) (hs : 0 < s) : ∀ n, ag (.shf b s) m t n = m / 2 ^ ((t + n) / s - t / s)
  | 0 => by
    show m = _
    rw [Nat.add_zero, Nat.sub_self, Nat.pow_zero, Nat.div_one]
  | n + 1 => by
    show (if (t + n + 1) % s = 0 then ag (.shf b s) m t n / 2 else ag (.shf b s) m t n) = _
    rw [ag_shf b s m t hs n]
    have e := succ_div (t + n) s hs
    have g := div_mono s (Nat.le_add_right t n)
    rw [show t + (n + 1) = t + n + 1 from rfl, e]
    by_cases h : (t + n + 1) % s = 0
    · rw [if_pos h, if_pos h, Nat.div_div_eq_div_mul, ← Nat.pow_succ]
      congr 2; omega
    · rw [if_neg h, if_neg h, Nat.add_zero]
/-- where rough stands still -/
theorem ag_rgh_fin (b t : Nat) : ∀ n, ag (.rgh b) (2 ^ b - 1) t n = 2 ^ b - 1
  | 0 => rfl
  | n + 1 => by
    show (if ag (.rgh b) (2 ^ b - 1) t n ≠ 2 ^ b - 1 ∧ _ then _ else _) = _
    rw [ag_rgh_fin b t n, if_neg (fun h => h.1 rfl)]
theorem ag_rgh_still (b m t : Nat) : ∀ n, n < (t / 2 ^ m + 1) * 2 ^ m - t → ag (.rgh b) m t n = m
  | 0, _ => rfl
  | n + 1, h => by
    show (if ag (.rgh b) m t n ≠ 2 ^ b - 1 ∧ (t + n + 1) % 2 ^ ag (.rgh b) m t n = 0 then ag (.rgh b) m t n + 1 else ag (.rgh b) m t n) = _
    rw [ag_rgh_still b m t n (by omega)]
    refine if_neg fun ⟨_, h2⟩ => ?_
    have hp : 0 < 2 ^ m := Nat.two_pow_pos m
    have e := Nat.div_add_mod t (2 ^ m)
    have e2 := Nat.div_add_mod (t + n + 1) (2 ^ m)
    have h3 : t + n + 1 < (t / 2 ^ m + 1) * 2 ^ m := by omega
    have h4 : (t + n + 1) / 2 ^ m < t / 2 ^ m + 1 := (Nat.div_lt_iff_lt_mul hp).mpr h3
    have h5 := div_mono (2 ^ m) (show t ≤ t + n + 1 by omega)
    have h6 : (t + n + 1) / 2 ^ m = t / 2 ^ m := by omega
    rw [h6, h2] at e2
    have h7 : 2 ^ m * (t / 2 ^ m) ≤ t := by omega
    omega
theorem next_gt (m t : Nat) : t < (t / 2 ^ m + 1) * 2 ^ m := by
  have hp : 0 < 2 ^ m := Nat.two_pow_pos m
  have e := Nat.div_add_mod t (2 ^ m)
  have := Nat.mod_lt t hp
  rw [Nat.add_mul, Nat.one_mul, Nat.mul_comm]
  omega
theorem next_le (m t : Nat) : (t / 2 ^ m + 1) * 2 ^ m ≤ t + 2 ^ m := by
  have e := Nat.div_add_mod t (2 ^ m)
  rw [Nat.add_mul, Nat.one_mul, Nat.mul_comm]
  omega
theorem ag_rgh_next (b m t : Nat) (hm : m ≠ 2 ^ b - 1) : ag (.rgh b) m t ((t / 2 ^ m + 1) * 2 ^ m - t) = m + 1 := by
  have g := next_gt m t
  obtain ⟨n, hn⟩ : ∃ n, (t / 2 ^ m + 1) * 2 ^ m - t = n + 1 := ⟨(t / 2 ^ m + 1) * 2 ^ m - t - 1, by omega⟩
  rw [hn]
  show (if ag (.rgh b) m t n ≠ 2 ^ b - 1 ∧ (t + n + 1) % 2 ^ ag (.rgh b) m t n = 0 then ag (.rgh b) m t n + 1 else ag (.rgh b) m t n) = _
  have e3 : (t + n + 1) % 2 ^ m = 0 := by
    rw [show t + n + 1 = (t / 2 ^ m + 1) * 2 ^ m by omega]
    exact Nat.mul_mod_left _ _
  rw [ag_rgh_still b m t n (by omega), if_pos ⟨hm, e3⟩]
theorem tick_le (R : Ru) (m t : Nat) (h : m ≤ R.most) : tick R m t ≤ R.most := by
  cases R with
  | cnt b s =>
    show (if t % s = 0 then min (m + 1) (2 ^ b - 1) else m) ≤ 2 ^ b - 1
    have h' : m ≤ 2 ^ b - 1 := h
    split <;> omega
  | shf b s =>
    show (if t % s = 0 then m / 2 else m) ≤ 2 ^ (b + 1) - 1
    have h' : m ≤ 2 ^ (b + 1) - 1 := h
    split <;> omega
  | rgh b =>
    show (if m ≠ 2 ^ b - 1 ∧ t % 2 ^ m = 0 then m + 1 else m) ≤ 2 ^ b - 1
    have h' : m ≤ 2 ^ b - 1 := h
    split
    · rename_i c
      have := c.1
      omega
    · exact h'
theorem ag_le (R : Ru) (m t : Nat) (h : m ≤ R.most) : ∀ n, ag R m t n ≤ R.most
  | 0 => h
  | n + 1 => tick_le R _ _ (ag_le R m t h n)
/-- the length of a round -/
def Ru.round : Ru → Nat
  | .cnt _ s => s
  | .shf _ s => s
  | .rgh _ => 64
theorem pow_div64 {m : Nat} (h : m ≤ 6) (t k : Nat) : (t + 64 * k) % 2 ^ m = t % 2 ^ m := by
  have : m = 0 ∨ m = 1 ∨ m = 2 ∨ m = 3 ∨ m = 4 ∨ m = 5 ∨ m = 6 := by omega
  rcases this with rfl | rfl | rfl | rfl | rfl | rfl | rfl <;> simp only [Nat.reducePow] <;> omega
theorem tick_round (R : Ru) (hR : R.ok) (m t k : Nat) (h : m ≤ R.most) : tick R m (t + R.round * k) = tick R m t := by
  cases R with
  | cnt b s =>
    show (if (t + s * k) % s = 0 then min (m + 1) (2 ^ b - 1) else m) = if t % s = 0 then min (m + 1) (2 ^ b - 1) else m
    rw [Nat.add_mul_mod_self_left]
  | shf b s =>
    show (if (t + s * k) % s = 0 then m / 2 else m) = if t % s = 0 then m / 2 else m
    rw [Nat.add_mul_mod_self_left]
  | rgh b =>
    show (if m ≠ 2 ^ b - 1 ∧ (t + 64 * k) % 2 ^ m = 0 then m + 1 else m) = if m ≠ 2 ^ b - 1 ∧ t % 2 ^ m = 0 then m + 1 else m
    by_cases e : m = 2 ^ b - 1
    · rw [if_neg (fun h => h.1 e), if_neg (fun h => h.1 e)]
    · have h' : m ≤ 2 ^ b - 1 := h
      obtain ⟨h1, h2⟩ : 1 ≤ b ∧ b ≤ 3 := hR
      have hb : b = 1 ∨ b = 2 ∨ b = 3 := by omega
      have h6 : m ≤ 6 := by
        rcases hb with rfl | rfl | rfl <;> simp only [Nat.reducePow] at h' e <;> omega
      rw [pow_div64 h6]
theorem ag_round (R : Ru) (hR : R.ok) (m t k : Nat) (h : m ≤ R.most) : ∀ n, ag R m (t + R.round * k) n = ag R m t n
  | 0 => rfl
  | n + 1 => by
    show tick R (ag R m (t + R.round * k) n) (t + R.round * k + n + 1) = tick R (ag R m t n) (t + n + 1)
    rw [ag_round R hR m t k h n, show t + R.round * k + n + 1 = (t + n + 1) + R.round * k by omega]
    exact tick_round R hR _ _ k (ag_le R m t h n)
theorem ag_rgh_mono1 (b m t n : Nat) : ag (.rgh b) m t n ≤ ag (.rgh b) m t (n + 1) := by
  show ag (.rgh b) m t n ≤ (if ag (.rgh b) m t n ≠ 2 ^ b - 1 ∧ (t + n + 1) % 2 ^ ag (.rgh b) m t n = 0 then ag (.rgh b) m t n + 1 else ag (.rgh b) m t n)
  split <;> omega
theorem ag_rgh_mono (b m t n : Nat) : ∀ k, ag (.rgh b) m t n ≤ ag (.rgh b) m t (n + k)
  | 0 => Nat.le_refl _
  | k + 1 => Nat.le_trans (ag_rgh_mono b m t n k) (ag_rgh_mono1 b m t (n + k))
theorem rgh_reach (b m t : Nat) : ∀ e, e ≤ 2 ^ b - 1 → e ≤ ag (.rgh b) m t (2 ^ e - 1)
  | 0, _ => Nat.zero_le _
  | e + 1, he => by
    have ih := rgh_reach b m t e (by omega)
    have hp := Nat.two_pow_pos e
    have e2 : 2 ^ (e + 1) - 1 = (2 ^ e - 1) + 2 ^ e := by rw [Nat.pow_succ]; omega
    rw [e2]
    by_cases c : e + 1 ≤ ag (.rgh b) m t (2 ^ e - 1)
    · exact Nat.le_trans c (ag_rgh_mono b m t _ _)
    · have ee : ag (.rgh b) m t (2 ^ e - 1) = e := by omega
      rw [ag_add, ee]
      have nx := next_le e (t + (2 ^ e - 1))
      have gx := next_gt e (t + (2 ^ e - 1))
      have r := ag_rgh_next b e (t + (2 ^ e - 1)) (by omega)
      obtain ⟨k, hk⟩ : ∃ k, 2 ^ e = ((t + (2 ^ e - 1)) / 2 ^ e + 1) * 2 ^ e - (t + (2 ^ e - 1)) + k :=
        ⟨2 ^ e - (((t + (2 ^ e - 1)) / 2 ^ e + 1) * 2 ^ e - (t + (2 ^ e - 1))), by omega⟩
      have mo := ag_rgh_mono b e (t + (2 ^ e - 1)) (((t + (2 ^ e - 1)) / 2 ^ e + 1) * 2 ^ e - (t + (2 ^ e - 1))) k
      rw [r, ← hk] at mo
      exact mo
theorem div_add_ge (t n s : Nat) (hs : 0 < s) : n / s ≤ (t + n) / s - t / s := by
  have h1 := Nat.div_mul_le_self t s
  have h2 := Nat.div_mul_le_self n s
  have : t / s + n / s ≤ (t + n) / s := (Nat.le_div_iff_mul_le hs).mpr (by rw [Nat.add_mul]; omega)
  omega
/-- far behind: the end -/
theorem ag_far (R : Ru) (hR : R.ok) (m t n : Nat) (h : m ≤ R.most) (hn : 1300 ≤ n) : ag R m t n = R.fin := by
  cases R with
  | cnt b s =>
    obtain ⟨h1, h2, h3, h4⟩ : 1 ≤ b ∧ b ≤ 6 ∧ 1 ≤ s ∧ s ≤ 20 := hR
    have h' : m ≤ 2 ^ b - 1 := h
    rw [ag_cnt b s m t h3 h' n]
    show _ = 2 ^ b - 1
    have g := div_add_ge t n s h3
    have : 65 ≤ n / s := (Nat.le_div_iff_mul_le h3).mpr (Nat.le_trans (Nat.mul_le_mul_left 65 h4) hn)
    have : 2 ^ b ≤ 2 ^ 6 := Nat.pow_le_pow_right (by decide) h2
    omega
  | shf b s =>
    obtain ⟨h1, h2, h3, h4⟩ : 1 ≤ b ∧ b ≤ 10 ∧ 1 ≤ s ∧ s ≤ 20 := hR
    have h' : m ≤ 2 ^ (b + 1) - 1 := h
    rw [ag_shf b s m t h3 n]
    show _ = 0
    have g := div_add_ge t n s h3
    have : 65 ≤ n / s := (Nat.le_div_iff_mul_le h3).mpr (Nat.le_trans (Nat.mul_le_mul_left 65 h4) hn)
    have : 2 ^ (b + 1) ≤ 2 ^ ((t + n) / s - t / s) := Nat.pow_le_pow_right (by decide) (by omega)
    have := Nat.two_pow_pos (b + 1)
    exact Nat.div_eq_of_lt (by omega)
  | rgh b =>
    obtain ⟨h1, h2⟩ : 1 ≤ b ∧ b ≤ 3 := hR
    have le := ag_le (.rgh b) m t h n
    have r := rgh_reach b m t (2 ^ b - 1) (Nat.le_refl _)
    have hb : b = 1 ∨ b = 2 ∨ b = 3 := by omega
    have h7 : 2 ^ (2 ^ b - 1) - 1 ≤ 127 := by rcases hb with rfl | rfl | rfl <;> decide
    obtain ⟨k, hk⟩ : ∃ k, n = 2 ^ (2 ^ b - 1) - 1 + k := ⟨n - (2 ^ (2 ^ b - 1) - 1), by omega⟩
    have mo := ag_rgh_mono b m t (2 ^ (2 ^ b - 1) - 1) k
    rw [← hk] at mo
    show _ = 2 ^ b - 1
    have le' : ag (.rgh b) m t n ≤ 2 ^ b - 1 := le
    omega
end LS
namespace LS
def Ru.isShf : Ru → Bool
  | .shf _ _ => true
  | _ => false
def Ru.isRgh : Ru → Bool
  | .rgh _ => true
  | _ => false
/-- what the mark of a thing that was seen so many moments ago comes to -/
def one (R : Ru) (now a : Nat) : Nat := ag R R.top (now - a) a
/-- it may have such a mark -/
def poss (R : Ru) (now mark a : Nat) : Bool :=
  if R.isShf && decide (0 < one R now a) then decide (one R now a ≤ mark) && decide (mark < 2 * one R now a) else decide (one R now a = mark)
def IsSpan (R : Ru) (now mark : Nat) (x y : Option Nat) : Prop :=
  (x = none ∧ y = none ∧ ∀ a, a ≤ now → poss R now mark a = false) ∨
  (∃ lo, x = some lo ∧ lo ≤ now ∧ poss R now mark lo = true ∧ (∀ a, a ≤ now → poss R now mark a = true → lo ≤ a) ∧
    ((mark = R.fin ∧ y = none) ∨ (mark ≠ R.fin ∧ ∃ hi, y = some hi ∧ hi ≤ now ∧ poss R now mark hi = true ∧ ∀ a, a ≤ now → poss R now mark a = true → a ≤ hi)))
theorem IsSpan.uniq {R : Ru} {now mark : Nat} {x y x' y' : Option Nat} (h : IsSpan R now mark x y) (h' : IsSpan R now mark x' y') : x = x' ∧ y = y' := by
  rcases h with ⟨rfl, rfl, h⟩ | ⟨lo, rfl, h1, h2, h3, h4⟩
  · rcases h' with ⟨rfl, rfl, _⟩ | ⟨lo', rfl, k1, k2, _⟩
    · exact ⟨rfl, rfl⟩
    · rw [h lo' k1] at k2
      cases k2
  · rcases h' with ⟨rfl, rfl, h'⟩ | ⟨lo', rfl, k1, k2, k3, k4⟩
    · rw [h' lo h1] at h2
      cases h2
    · have e : lo = lo' := Nat.le_antisymm (h3 _ k1 k2) (k3 _ h1 h2)
      refine ⟨by rw [e], ?_⟩
      rcases h4 with ⟨e1, rfl⟩ | ⟨e1, hi, rfl, a1, a2, a3⟩
      · rcases k4 with ⟨_, rfl⟩ | ⟨n1, _⟩
        · rfl
        · exact absurd e1 n1
      · rcases k4 with ⟨n1, rfl⟩ | ⟨_, hi', rfl, b1, b2, b3⟩
        · exact absurd n1 e1
        · rw [Nat.le_antisymm (b3 _ a1 a2) (a3 _ b1 b2)]
/-! ### the lists that are found -/
def fl (R : Ru) (now mark n : Nat) : List Nat := (List.range n).filter (poss R now mark)
theorem fl_succ (R : Ru) (now mark n : Nat) : fl R now mark (n + 1) = if poss R now mark n = true then fl R now mark n ++ [n] else fl R now mark n := by
  unfold fl
  rw [List.range_succ, List.filter_append]
  by_cases h : poss R now mark n = true
  · rw [if_pos h, List.filter_cons_of_pos h]
    rfl
  · rw [if_neg h, List.filter_cons_of_neg h, List.filter_nil, List.append_nil]
theorem mem_fl {R : Ru} {now mark n a : Nat} : a ∈ fl R now mark n ↔ a < n ∧ poss R now mark a = true := by
  unfold fl
  rw [List.mem_filter, List.mem_range]
theorem fl_len (R : Ru) (now mark n : Nat) : (fl R now mark n).length ≤ n := by
  unfold fl
  exact Nat.le_trans (List.length_filter_le _ _) (by rw [List.length_range]; exact Nat.le_refl n)
/-- the tried ones do -/
def Cov (R : Ru) (now mark cnt : Nat) : Prop := cnt ≤ now + 1 ∧ ∀ a, cnt ≤ a → a ≤ now → poss R now mark a = true → mark = R.fin ∧ ∃ a', a' < cnt ∧ poss R now mark a' = true
theorem span_nil {R : Ru} {now mark cnt : Nat} (c : Cov R now mark cnt) (h : fl R now mark cnt = []) : IsSpan R now mark none none := by
  have no : ∀ a, a < cnt → poss R now mark a = false := fun a ha => by
    cases e : poss R now mark a with
    | false => rfl
    | true =>
      have : a ∈ fl R now mark cnt := mem_fl.mpr ⟨ha, e⟩
      rw [h] at this
      cases this
  refine .inl ⟨rfl, rfl, fun a ha => ?_⟩
  by_cases hc : a < cnt
  · exact no a hc
  · cases e : poss R now mark a with
    | false => rfl
    | true =>
      obtain ⟨_, a', l, p⟩ := c.2 a (by omega) ha e
      rw [no a' l] at p
      cases p
theorem span_some {R : Ru} {now mark cnt lo : Nat} {y : Option Nat} (c : Cov R now mark cnt) (h1 : lo ∈ fl R now mark cnt) (h2 : ∀ a, a ∈ fl R now mark cnt → lo ≤ a)
    (h3 : (mark = R.fin ∧ y = none) ∨ (mark ≠ R.fin ∧ ∃ hi, y = some hi ∧ hi ∈ fl R now mark cnt ∧ ∀ a, a ∈ fl R now mark cnt → a ≤ hi)) : IsSpan R now mark (some lo) y := by
  obtain ⟨l1, l2⟩ := mem_fl.mp h1
  have c1 := c.1
  refine .inr ⟨lo, rfl, by omega, l2, fun a ha hp => ?_, ?_⟩
  · by_cases hc : a < cnt
    · exact h2 a (mem_fl.mpr ⟨hc, hp⟩)
    · omega
  · rcases h3 with h3 | ⟨n1, hi, rfl, m1, m2⟩
    · exact .inl h3
    · obtain ⟨q1, q2⟩ := mem_fl.mp m1
      refine .inr ⟨n1, hi, rfl, by omega, q2, fun a ha hp => ?_⟩
      by_cases hc : a < cnt
      · exact m2 a (mem_fl.mpr ⟨hc, hp⟩)
      · exact absurd (c.2 a (by omega) ha hp).1 n1
theorem fl_pair (R : Ru) (now mark n : Nat) : (fl R now mark n).Pairwise (· < ·) := List.Pairwise.filter _ List.pairwise_lt_range
theorem fl_head {R : Ru} {now mark n lo : Nat} {r : List Nat} (e : fl R now mark n = lo :: r) : lo ∈ fl R now mark n ∧ ∀ a, a ∈ fl R now mark n → lo ≤ a := by
  have p := fl_pair R now mark n
  rw [e] at p ⊢
  refine ⟨List.mem_cons_self, fun a ha => ?_⟩
  rcases List.mem_cons.mp ha with rfl | ha
  · exact Nat.le_refl _
  · exact Nat.le_of_lt ((List.pairwise_cons.mp p).1 a ha)
theorem fl_last {R : Ru} {now mark n hi : Nat} {r : List Nat} (e : fl R now mark n = r ++ [hi]) : hi ∈ fl R now mark n ∧ ∀ a, a ∈ fl R now mark n → a ≤ hi := by
  have p := fl_pair R now mark n
  rw [e] at p ⊢
  refine ⟨List.mem_append_right _ List.mem_cons_self, fun a ha => ?_⟩
  rcases List.mem_append.mp ha with ha | ha
  · exact Nat.le_of_lt ((List.pairwise_append.mp p).2.2 a ha hi List.mem_cons_self)
  · rcases List.mem_cons.mp ha with rfl | ha
    · exact Nat.le_refl _
    · cases ha
/-! ### rough: later is less -/
theorem tick_rgh_mono (b t : Nat) {m m' : Nat} (h : m ≤ m') : tick (.rgh b) m t ≤ tick (.rgh b) m' t := by
  by_cases e : m = m'
  · rw [e]; exact Nat.le_refl _
  · have h1 : tick (.rgh b) m t ≤ m + 1 := by
      show (if m ≠ 2 ^ b - 1 ∧ t % 2 ^ m = 0 then m + 1 else m) ≤ m + 1
      split <;> omega
    have h2 : m' ≤ tick (.rgh b) m' t := by
      show m' ≤ (if m' ≠ 2 ^ b - 1 ∧ t % 2 ^ m' = 0 then m' + 1 else m')
      split <;> omega
    omega
theorem ag_rgh_mark (b t : Nat) {m m' : Nat} (h : m ≤ m') : ∀ n, ag (.rgh b) m t n ≤ ag (.rgh b) m' t n
  | 0 => h
  | n + 1 => tick_rgh_mono b _ (ag_rgh_mark b t h n)
theorem one_rgh_step (b now a : Nat) (h : a + 1 ≤ now) : one (.rgh b) now a ≤ one (.rgh b) now (a + 1) := by
  show ag (.rgh b) 0 (now - a) a ≤ ag (.rgh b) 0 (now - (a + 1)) (a + 1)
  rw [Nat.add_comm a 1, ag_add]
  rw [show now - (1 + a) + 1 = now - a by omega]
  exact ag_rgh_mark b _ (Nat.zero_le _) a
theorem one_rgh_mono (b now a : Nat) : ∀ k, a + k ≤ now → one (.rgh b) now a ≤ one (.rgh b) now (a + k)
  | 0, _ => Nat.le_refl _
  | k + 1, h => Nat.le_trans (one_rgh_mono b now a k (by omega)) (one_rgh_step b now (a + k) (by omega))
theorem one_le (R : Ru) (now a : Nat) (h : R.top ≤ R.most) : one R now a ≤ R.most := ag_le R _ _ h a
theorem top_le (R : Ru) : R.top ≤ R.most := by
  cases R with
  | cnt b s => exact Nat.zero_le _
  | rgh b => exact Nat.zero_le _
  | shf b s =>
    show 2 ^ b ≤ 2 ^ (b + 1) - 1
    have := Nat.two_pow_pos b
    rw [Nat.pow_succ]
    omega
/-- the end is kept -/
theorem one_rgh_fin {b now a a' : Nat} (h : one (.rgh b) now a = 2 ^ b - 1) (h1 : a ≤ a') (h2 : a' ≤ now) : one (.rgh b) now a' = 2 ^ b - 1 := by
  obtain ⟨k, rfl⟩ : ∃ k, a' = a + k := ⟨a' - a, by omega⟩
  have m := one_rgh_mono b now a k h2
  have l : one (.rgh b) now (a + k) ≤ 2 ^ b - 1 := one_le (.rgh b) now (a + k) (top_le _)
  omega
theorem one_rgh_far {b now a : Nat} (hb : b ≤ 3) (ha : 127 ≤ a) : one (.rgh b) now a = 2 ^ b - 1 := by
  have p3 : 2 ^ b ≤ 2 ^ 3 := Nat.pow_le_pow_right (by decide) hb
  have h7 : 2 ^ (2 ^ b - 1) ≤ 2 ^ 7 := Nat.pow_le_pow_right (by decide) (by omega)
  have r := rgh_reach b 0 (now - a) (2 ^ b - 1) (Nat.le_refl _)
  obtain ⟨k, hk⟩ : ∃ k, a = (2 ^ (2 ^ b - 1) - 1) + k := ⟨a - (2 ^ (2 ^ b - 1) - 1), by omega⟩
  have mo := ag_rgh_mono b 0 (now - a) (2 ^ (2 ^ b - 1) - 1) k
  rw [← hk] at mo
  have l : one (.rgh b) now a ≤ 2 ^ b - 1 := one_le (.rgh b) now a (top_le _)
  have l2 : 2 ^ b - 1 ≤ one (.rgh b) now a := Nat.le_trans r mo
  omega
theorem poss_rgh (b now mark a : Nat) : poss (.rgh b) now mark a = decide (one (.rgh b) now a = mark) := rfl
theorem poss_cnt (b s now mark a : Nat) : poss (.cnt b s) now mark a = decide (one (.cnt b s) now a = mark) := rfl
theorem cov_end (R : Ru) (now mark : Nat) : Cov R now mark (now + 1) := ⟨Nat.le_refl _, fun a h1 h2 _ => by omega⟩
theorem cov_rgh {b now mark c : Nat} (h : one (.rgh b) now c = 2 ^ b - 1) (hc : c ≤ now) : Cov (.rgh b) now mark (c + 1) := by
  refine ⟨by omega, fun a h1 h2 h3 => ?_⟩
  have e := one_rgh_fin h (show c ≤ a by omega) h2
  rw [poss_rgh, e] at h3
  have e2 : 2 ^ b - 1 = mark := of_decide_eq_true h3
  exact ⟨e2.symm, c, by omega, by rw [poss_rgh, h, decide_eq_true e2]⟩
/-! ### count and shift: by how often a thing was aged -/
def bl (n : Nat) : Nat := if n = 0 then 0 else n.log2 + 1
theorem bl_pos {n : Nat} (h : n ≠ 0) : 2 ^ (bl n - 1) ≤ n ∧ n < 2 ^ bl n ∧ 1 ≤ bl n := by
  unfold bl
  rw [if_neg h]
  exact ⟨Nat.log2_self_le h, Nat.lt_log2_self, by omega⟩
theorem pow_uniq {i j n : Nat} (h1 : 2 ^ i ≤ n) (h2 : n < 2 ^ (i + 1)) (h3 : 2 ^ j ≤ n) (h4 : n < 2 ^ (j + 1)) : i = j := by
  have a : i < j + 1 := (Nat.pow_lt_pow_iff_right (by decide : 1 < 2)).mp (Nat.lt_of_le_of_lt h1 h4)
  have b : j < i + 1 := (Nat.pow_lt_pow_iff_right (by decide : 1 < 2)).mp (Nat.lt_of_le_of_lt h3 h2)
  omega
theorem bl_le {n b : Nat} (h : n < 2 ^ b) : bl n ≤ b := by
  by_cases e : n = 0
  · unfold bl; rw [if_pos e]; exact Nat.zero_le _
  · obtain ⟨h1, h2, h3⟩ := bl_pos e
    have : bl n - 1 < b := (Nat.pow_lt_pow_iff_right (by decide : 1 < 2)).mp (Nat.lt_of_le_of_lt h1 h)
    omega
/-- how often it was aged, for the end at the least -/
def Ru.ags : Ru → Nat → Nat
  | .cnt _ _, m => m
  | .shf b _, m => b + 1 - bl m
  | .rgh _, _ => 0
def Ru.step : Ru → Nat
  | .cnt _ s => s
  | .shf _ s => s
  | .rgh _ => 1
def dd (s now a : Nat) : Nat := now / s - (now - a) / s
theorem one_cnt (b s now a : Nat) (hs : 0 < s) (h : a ≤ now) : one (.cnt b s) now a = min (dd s now a) (2 ^ b - 1) := by
  show ag (.cnt b s) 0 (now - a) a = _
  rw [ag_cnt b s 0 (now - a) hs (Nat.zero_le _) a, Nat.zero_add, show now - a + a = now by omega]
  rfl
theorem one_shf (b s now a : Nat) (hs : 0 < s) (h : a ≤ now) : one (.shf b s) now a = 2 ^ b / 2 ^ dd s now a := by
  show ag (.shf b s) (2 ^ b) (now - a) a = _
  rw [ag_shf b s (2 ^ b) (now - a) hs a, show now - a + a = now by omega]
  rfl
theorem two_div {b d : Nat} (h : d ≤ b) : 2 ^ b / 2 ^ d = 2 ^ (b - d) := Nat.pow_div h (by decide)
theorem two_div0 {b d : Nat} (h : b < d) : 2 ^ b / 2 ^ d = 0 := Nat.div_eq_of_lt (Nat.pow_lt_pow_right (by decide) h)
theorem poss_stp {R : Ru} (hR : R.isRgh = false) (hs : 0 < R.step) {now mark a : Nat} (hm : mark ≤ R.most) (h : a ≤ now) : poss R now mark a = true ↔ (if mark = R.fin then R.ags mark ≤ dd R.step now a else dd R.step now a = R.ags mark) := by
  cases R with
  | rgh b => cases hR
  | cnt b s =>
    have hm' : mark ≤ 2 ^ b - 1 := hm
    rw [poss_cnt, one_cnt b s now a hs h, decide_eq_true_iff]
    show _ ↔ (if mark = 2 ^ b - 1 then mark ≤ dd s now a else dd s now a = mark)
    split <;> omega
  | shf b s =>
    have hm' : mark ≤ 2 ^ (b + 1) - 1 := hm
    have pb := Nat.two_pow_pos (b + 1)
    show (if (true && decide (0 < one (.shf b s) now a)) = true then decide (one (.shf b s) now a ≤ mark) && decide (mark < 2 * one (.shf b s) now a) else decide (one (.shf b s) now a = mark)) = true ↔ (if mark = 0 then b + 1 - bl mark ≤ dd s now a else dd s now a = b + 1 - bl mark)
    rw [one_shf b s now a hs h, Bool.true_and]
    by_cases hd : dd s now a ≤ b
    · rw [two_div hd]
      have p := Nat.two_pow_pos (b - dd s now a)
      rw [decide_eq_true p, if_pos rfl, Bool.and_eq_true, decide_eq_true_iff, decide_eq_true_iff, Nat.mul_comm, ← Nat.pow_succ]
      by_cases e : mark = 0
      · rw [if_pos e, e, show bl 0 = 0 from rfl]
        omega
      · rw [if_neg e]
        obtain ⟨h1, h2, h3⟩ := bl_pos e
        have h4 : bl mark ≤ b + 1 := bl_le (by omega)
        constructor
        · rintro ⟨q1, q2⟩
          have := pow_uniq q1 q2 h1 (by rw [show bl mark - 1 + 1 = bl mark by omega]; exact h2)
          omega
        · intro q
          have : b - dd s now a = bl mark - 1 := by omega
          rw [this, show (bl mark - 1).succ = bl mark by omega]
          exact ⟨h1, h2⟩
    · rw [two_div0 (by omega), if_neg (by decide)]
      rw [decide_eq_true_iff]
      by_cases e : mark = 0
      · rw [if_pos e, e]
        constructor
        · intro _
          rw [show bl 0 = 0 from rfl]
          omega
        · intro _
          rfl
      · rw [if_neg e]
        obtain ⟨h1, h2, h3⟩ := bl_pos e
        constructor
        · intro q
          exact absurd q.symm e
        · intro q
          omega
theorem span_stp_none {R : Ru} (hR : R.isRgh = false) (hs : 0 < R.step) {now mark : Nat} (hm : mark ≤ R.most) (h : now / R.step < R.ags mark) : IsSpan R now mark none none := by
  refine .inl ⟨rfl, rfl, fun a ha => ?_⟩
  cases e : poss R now mark a with
  | false => rfl
  | true =>
    have p := (poss_stp hR hs hm ha).mp e
    have : dd R.step now a ≤ now / R.step := Nat.sub_le _ _
    split at p <;> omega
theorem span_stp_some {R : Ru} (hR : R.isRgh = false) (hs : 0 < R.step) {now mark run first latest : Nat} (hm : mark ≤ R.most) (h : now / R.step = R.ags mark + run) (hf : first = run * R.step) (hl : latest = min now (first + R.step - 1)) :
    IsSpan R now mark (some (now - latest)) (if mark = R.fin then none else some (now - first)) ∧ first ≤ now := by
  have f1 : first ≤ now := by
    rw [hf]
    have := Nat.div_mul_le_self now R.step
    exact Nat.le_trans (Nat.mul_le_mul_right _ (by omega)) this
  have l1 : first ≤ latest := by omega
  have l2 : latest ≤ first + R.step - 1 := by omega
  have l3 : latest ≤ now := by omega
  have dl : latest / R.step = run := by
    refine Nat.div_eq_of_lt_le (by rw [← hf]; exact l1) ?_
    rw [Nat.add_mul, Nat.one_mul, ← hf]
    omega
  have df : first / R.step = run := by rw [hf]; exact Nat.mul_div_cancel _ hs
  refine ⟨.inr ⟨now - latest, rfl, by omega, ?_, fun a ha hp => ?_, ?_⟩, f1⟩
  · refine (poss_stp hR hs hm (by omega)).mpr ?_
    have : dd R.step now (now - latest) = R.ags mark := by
      unfold dd
      rw [show now - (now - latest) = latest by omega, dl]
      omega
    rw [this]
    split
    · exact Nat.le_refl _
    · rfl
  · have p := (poss_stp hR hs hm ha).mp hp
    have q : R.ags mark ≤ dd R.step now a := by split at p <;> omega
    have dm := div_mono R.step (show now - a ≤ now by omega)
    have q2 : (now - a) / R.step ≤ run := by
      unfold dd at q
      omega
    have q3 : now - a < (run + 1) * R.step := (Nat.div_lt_iff_lt_mul hs).mp (by omega)
    rw [Nat.add_mul, Nat.one_mul, ← hf] at q3
    omega
  · by_cases e : mark = R.fin
    · exact .inl ⟨e, if_pos e⟩
    · refine .inr ⟨e, now - first, if_neg e, by omega, ?_, fun a ha hp => ?_⟩
      · refine (poss_stp hR hs hm (by omega)).mpr ?_
        rw [if_neg e]
        unfold dd
        rw [show now - (now - first) = first by omega, df]
        omega
      · have p := (poss_stp hR hs hm ha).mp hp
        rw [if_neg e] at p
        have dm := div_mono R.step (show now - a ≤ now by omega)
        have q2 : (now - a) / R.step = run := by
          unfold dd at p
          omega
        have := Nat.div_mul_le_self (now - a) R.step
        rw [q2, ← hf] at this
        omega
/-- as far back as the law tries -/
def Ru.far : Ru → Nat
  | .cnt b s => s * (2 + max b (2 ^ b - 1))
  | .shf b s => s * (2 + max b 0)
  | .rgh _ => 140
theorem cov_far {R : Ru} (hR : R.ok) {now mark : Nat} (hm : mark ≤ R.most) : Cov R now mark (min now R.far + 1) := by
  by_cases hn : now ≤ R.far
  · rw [Nat.min_eq_left hn]
    exact cov_end R now mark
  · rw [Nat.min_eq_right (by omega)]
    cases R with
    | rgh b => exact cov_rgh (one_rgh_far hR.2 (show 127 ≤ 140 by decide)) (by omega)
    | cnt b s =>
      obtain ⟨h1, h2, h3, h4⟩ : 1 ≤ b ∧ b ≤ 6 ∧ 1 ≤ s ∧ s ≤ 20 := hR
      have hn' : s * (2 + max b (2 ^ b - 1)) ≤ now := by
        have : ¬ now ≤ s * (2 + max b (2 ^ b - 1)) := hn
        omega
      have big : ∀ a, s * (2 + max b (2 ^ b - 1)) ≤ a → a ≤ now → one (.cnt b s) now a = 2 ^ b - 1 := fun a l1 l2 => by
        rw [one_cnt b s now a h3 l2]
        have g := div_add_ge (now - a) a s h3
        rw [show now - a + a = now by omega] at g
        have : 2 + max b (2 ^ b - 1) ≤ a / s := (Nat.le_div_iff_mul_le h3).mpr (by rw [Nat.mul_comm]; exact l1)
        unfold dd
        omega
      refine ⟨Nat.succ_le_succ hn', fun a l1 l2 l3 => ?_⟩
      have e := big a (Nat.le_of_lt l1) l2
      rw [poss_cnt, e] at l3
      have e2 : 2 ^ b - 1 = mark := of_decide_eq_true l3
      exact ⟨e2.symm, s * (2 + max b (2 ^ b - 1)), Nat.lt_succ_self _, by rw [poss_cnt, big _ (Nat.le_refl _) hn', decide_eq_true e2]⟩
    | shf b s =>
      obtain ⟨h1, h2, h3, h4⟩ : 1 ≤ b ∧ b ≤ 10 ∧ 1 ≤ s ∧ s ≤ 20 := hR
      have hn' : s * (2 + max b 0) ≤ now := by
        have : ¬ now ≤ s * (2 + max b 0) := hn
        omega
      have big : ∀ a, s * (2 + max b 0) ≤ a → a ≤ now → one (.shf b s) now a = 0 := fun a l1 l2 => by
        rw [one_shf b s now a h3 l2]
        have g := div_add_ge (now - a) a s h3
        rw [show now - a + a = now by omega] at g
        have : 2 + max b 0 ≤ a / s := (Nat.le_div_iff_mul_le h3).mpr (by rw [Nat.mul_comm]; exact l1)
        refine two_div0 ?_
        unfold dd
        omega
      have ps : ∀ a, one (.shf b s) now a = 0 → poss (.shf b s) now mark a = decide (0 = mark) := fun a e => by
        unfold poss
        rw [e]
        rfl
      refine ⟨Nat.succ_le_succ hn', fun a l1 l2 l3 => ?_⟩
      have e := big a (Nat.le_of_lt l1) l2
      rw [ps a e] at l3
      have e2 : 0 = mark := of_decide_eq_true l3
      exact ⟨e2.symm, s * (2 + max b 0), Nat.lt_succ_self _, by rw [ps _ (big _ (Nat.le_refl _) hn'), decide_eq_true e2]⟩
theorem far_le {R : Ru} (hR : R.ok) : R.far ≤ 1300 := by
  cases R with
  | rgh b => exact (by decide : 140 ≤ 1300)
  | cnt b s =>
    obtain ⟨h1, h2, h3, h4⟩ : 1 ≤ b ∧ b ≤ 6 ∧ 1 ≤ s ∧ s ≤ 20 := hR
    have : 2 ^ b ≤ 2 ^ 6 := Nat.pow_le_pow_right (by decide) h2
    exact Nat.mul_le_mul h4 (show 2 + max b (2 ^ b - 1) ≤ 65 by omega)
  | shf b s =>
    obtain ⟨h1, h2, h3, h4⟩ : 1 ≤ b ∧ b ≤ 10 ∧ 1 ≤ s ∧ s ≤ 20 := hR
    exact Nat.mul_le_mul h4 (show 2 + max b 0 ≤ 65 by omega)
end LS
namespace LS
/-- a turn of rough -/
def tT (b : Nat) : Nat := 2 ^ (2 ^ b - 2)
theorem two_T {b : Nat} (hb : 1 ≤ b) : 2 ^ (2 ^ b - 1) = 2 * tT b := by
  have : 2 ^ 1 ≤ 2 ^ b := Nat.pow_le_pow_right (by decide) hb
  unfold tT
  rw [show 2 ^ b - 1 = (2 ^ b - 2) + 1 by omega, Nat.pow_succ, Nat.mul_comm]
theorem T_pos (b : Nat) : 1 ≤ tT b := Nat.two_pow_pos _
theorem T_le {b : Nat} (hb : b ≤ 3) : tT b ≤ 64 := by
  have : 2 ^ b ≤ 2 ^ 3 := Nat.pow_le_pow_right (by decide) hb
  have : tT b ≤ 2 ^ 6 := Nat.pow_le_pow_right (by decide) (by omega)
  exact this
theorem tick_T (b m t k : Nat) (h : m ≤ 2 ^ b - 1) : tick (.rgh b) m (t + tT b * k) = tick (.rgh b) m t := by
  show (if m ≠ 2 ^ b - 1 ∧ (t + tT b * k) % 2 ^ m = 0 then m + 1 else m) = if m ≠ 2 ^ b - 1 ∧ t % 2 ^ m = 0 then m + 1 else m
  by_cases e : m = 2 ^ b - 1
  · rw [if_neg (fun h => h.1 e), if_neg (fun h => h.1 e)]
  · have ed : tT b = 2 ^ m * 2 ^ (2 ^ b - 2 - m) := by
      unfold tT
      rw [← Nat.pow_add]
      congr 1
      omega
    rw [ed, Nat.mul_assoc, Nat.add_mul_mod_self_left]
theorem ag_T (b m t k : Nat) (h : m ≤ 2 ^ b - 1) : ∀ n, ag (.rgh b) m (t + tT b * k) n = ag (.rgh b) m t n
  | 0 => rfl
  | n + 1 => by
    show tick (.rgh b) (ag (.rgh b) m (t + tT b * k) n) (t + tT b * k + n + 1) = tick (.rgh b) (ag (.rgh b) m t n) (t + n + 1)
    rw [ag_T b m t k h n, show t + tT b * k + n + 1 = (t + n + 1) + tT b * k by omega]
    exact tick_T b _ _ k (ag_le (.rgh b) m t h n)
theorem one_T (b now k a : Nat) (h : a ≤ now) : one (.rgh b) (now + tT b * k) a = one (.rgh b) now a := by
  show ag (.rgh b) 0 (now + tT b * k - a) a = ag (.rgh b) 0 (now - a) a
  rw [show now + tT b * k - a = (now - a) + tT b * k by omega]
  exact ag_T b 0 (now - a) k (Nat.zero_le _) a
/-- a moment of the third turn that stands for another one -/
def rep (b now : Nat) : Nat := 2 * tT b + now % tT b
theorem rep_in (b now : Nat) : 2 * tT b ≤ rep b now ∧ rep b now < 3 * tT b := by
  have := Nat.mod_lt now (T_pos b)
  unfold rep
  omega
theorem rep_same (b now a : Nat) (h : a ≤ now) (h2 : a ≤ rep b now) : one (.rgh b) (rep b now) a = one (.rgh b) now a := by
  have e := Nat.div_add_mod now (tT b)
  by_cases c : now / tT b ≤ 2
  · obtain ⟨k, hk⟩ : ∃ k, 2 = now / tT b + k := ⟨2 - now / tT b, by omega⟩
    have : rep b now = now + tT b * k := by
      unfold rep
      have : 2 * tT b = tT b * (now / tT b) + tT b * k := by rw [← Nat.mul_add, ← hk, Nat.mul_comm]
      omega
    rw [this]
    exact one_T b now k a h
  · obtain ⟨k, hk⟩ : ∃ k, now / tT b = 2 + k := ⟨now / tT b - 2, by omega⟩
    have : now = rep b now + tT b * k := by
      unfold rep
      have : tT b * (now / tT b) = 2 * tT b + tT b * k := by rw [hk, Nat.mul_add, Nat.mul_comm]
      omega
    have q := one_T b (rep b now) k a h2
    rw [← this] at q
    exact q.symm
theorem one_far2 {b now a : Nat} (hb : 1 ≤ b) (ha : 2 * tT b - 1 ≤ a) : one (.rgh b) now a = 2 ^ b - 1 := by
  have r := rgh_reach b 0 (now - a) (2 ^ b - 1) (Nat.le_refl _)
  rw [two_T hb] at r
  obtain ⟨k, hk⟩ : ∃ k, a = (2 * tT b - 1) + k := ⟨a - (2 * tT b - 1), by omega⟩
  have mo := ag_rgh_mono b 0 (now - a) (2 * tT b - 1) k
  rw [← hk] at mo
  have l : one (.rgh b) now a ≤ 2 ^ b - 1 := one_le (.rgh b) now a (top_le _)
  have l2 : 2 ^ b - 1 ≤ one (.rgh b) now a := Nat.le_trans r mo
  omega
theorem exists_span (R : Ru) (now m : Nat) : ∃ x y, IsSpan R now m x y := by
  have c := cov_end R now m
  cases ef : fl R now m (now + 1) with
  | nil => exact ⟨none, none, span_nil c ef⟩
  | cons lo r =>
    obtain ⟨f1, f2⟩ := fl_head ef
    by_cases e : m = R.fin
    · exact ⟨some lo, none, span_some c f1 f2 (.inl ⟨e, rfl⟩)⟩
    · have hl : lo :: r = (lo :: r).dropLast ++ [(lo :: r).getLast (List.cons_ne_nil _ _)] := (List.dropLast_concat_getLast _).symm
      have g := fl_last (ef.trans hl)
      exact ⟨some lo, some _, span_some c f1 f2 (.inr ⟨e, _, rfl, g.1, g.2⟩)⟩
theorem IsSpan.lo_le {R : Ru} {now m a : Nat} {x y : Option Nat} (h : IsSpan R now m x y) (ha : a ≤ now) (hp : poss R now m a = true) : ∃ lo, x = some lo ∧ lo ≤ a ∧ lo ≤ now ∧ poss R now m lo = true := by
  rcases h with ⟨_, _, h⟩ | ⟨lo, rfl, h1, h2, h3, _⟩
  · rw [h a ha] at hp
    cases hp
  · exact ⟨lo, rfl, h3 a ha hp, h1, h2⟩
theorem IsSpan.hi_ge {R : Ru} {now m a : Nat} {x y : Option Nat} (h : IsSpan R now m x y) (ha : a ≤ now) (hp : poss R now m a = true) (hm : m ≠ R.fin) : ∃ hi, y = some hi ∧ a ≤ hi ∧ hi ≤ now ∧ poss R now m hi = true := by
  rcases h with ⟨_, _, h⟩ | ⟨lo, rfl, h1, h2, h3, h4⟩
  · rw [h a ha] at hp
    cases hp
  · rcases h4 with ⟨e, _⟩ | ⟨_, hi, rfl, k1, k2, k3⟩
    · exact absurd e hm
    · exact ⟨hi, rfl, k3 a ha hp, k1, k2⟩
theorem IsSpan.hi_none {R : Ru} {now m : Nat} {x y : Option Nat} (h : IsSpan R now m x y) (hm : m = R.fin) : y = none := by
  rcases h with ⟨_, e, _⟩ | ⟨lo, rfl, h1, h2, h3, h4⟩
  · exact e
  · rcases h4 with ⟨_, e⟩ | ⟨n, _⟩
    · exact e
    · exact absurd hm n
theorem IsSpan.both {R : Ru} {now m lo hi : Nat} (h : IsSpan R now m (some lo) (some hi)) : lo ≤ now ∧ hi ≤ now ∧ poss R now m lo = true ∧ poss R now m hi = true ∧ lo ≤ hi ∧ m ≠ R.fin := by
  rcases h with ⟨e, _⟩ | ⟨lo', e, h1, h2, h3, h4⟩
  · cases e
  · cases e
    rcases h4 with ⟨_, e⟩ | ⟨n, hi', e, k1, k2, k3⟩
    · cases e
    · cases e
      exact ⟨h1, k1, h2, k2, h3 _ k1 k2, n⟩
def wset (b d : Nat) : Prop := ∃ now m lo hi, 2 * tT b ≤ now ∧ now < 3 * tT b ∧ m < 2 ^ b - 1 ∧ IsSpan (.rgh b) now m (some lo) (some hi) ∧ d = hi - lo
def OffR (b v : Nat) : Prop := (∀ d, wset b d → d ≤ v) ∧ (v = 0 ∨ wset b v)
def lset (b l : Nat) : Prop := ∃ now, 2 * tT b ≤ now ∧ now < 3 * tT b ∧ IsSpan (.rgh b) now (2 ^ b - 1) (some l) none
def ReachR (b v : Nat) : Prop := (∀ l, lset b l → v + 1 ≤ l) ∧ lset b (v + 1)
def IsOff (R : Ru) (v : Nat) : Prop := (R.isRgh = true ∧ OffR R.bits v) ∨ (R.isRgh = false ∧ v = R.step - 1)
def IsReach (R : Ru) (v : Nat) : Prop := (R.isRgh = true ∧ ReachR R.bits v) ∨ (R.isRgh = false ∧ v = (R.ags R.fin - 1) * R.step)
theorem step_pos {R : Ru} (h : R.ok) : 0 < R.step := by
  cases R with
  | cnt b s => exact h.2.2.1
  | shf b s => exact h.2.2.1
  | rgh b => exact Nat.one_pos
theorem dd_lt {s now a k : Nat} (hs : 0 < s) (ha : a ≤ now) (h : k + 1 ≤ dd s now a) : k * s < a := by
  unfold dd at h
  have h1 := Nat.div_mul_le_self now s
  have h2 : now - a < ((now - a) / s + 1) * s := by
    have := Nat.lt_mul_div_succ (now - a) hs
    rw [Nat.mul_comm] at this
    exact this
  have h3 : ((now - a) / s + (k + 1)) * s ≤ now / s * s := Nat.mul_le_mul_right s (by omega)
  rw [Nat.add_mul] at h2 h3
  rw [Nat.add_mul k 1 s] at h3
  omega
theorem dd_eq {s now a c : Nat} (hs : 0 < s) (ha : a ≤ now) (hc : c ≤ now) (h : dd s now a = dd s now c) : c ≤ a + (s - 1) := by
  unfold dd at h
  have m1 := div_mono s (show now - a ≤ now by omega)
  have m2 := div_mono s (show now - c ≤ now by omega)
  have e : (now - a) / s = (now - c) / s := by omega
  have h1 := Nat.div_mul_le_self (now - c) s
  have h2 : now - a < ((now - a) / s + 1) * s := by
    have := Nat.lt_mul_div_succ (now - a) hs
    rw [Nat.mul_comm] at this
    exact this
  rw [e, Nat.add_mul] at h2
  omega
/-- by how much it can be too much -/
theorem off_all {R : Ru} {v now m lo hi : Nat} (hR : R.ok) (hv : IsOff R v) (hm : m ≤ R.most) (h : IsSpan R now m (some lo) (some hi)) : hi ≤ lo + v := by
  obtain ⟨l1, l2, p1, p2, lh, nf⟩ := h.both
  rcases hv with ⟨ir, hv⟩ | ⟨nr, rfl⟩
  · cases R with
    | cnt b s => cases ir
    | shf b s => cases ir
    | rgh b =>
      have b1 : 1 ≤ b := hR.1
      have hm' : m ≤ 2 ^ b - 1 := hm
      have nf' : m ≠ 2 ^ b - 1 := nf
      have lt : ∀ a, poss (.rgh b) now m a = true → a < 2 * tT b := fun a p => by
        by_cases c : a < 2 * tT b
        · exact c
        · rw [poss_rgh, one_far2 b1 (by omega)] at p
          exact absurd (of_decide_eq_true p).symm nf'
      obtain ⟨r1, r2⟩ := rep_in b now
      have tr : ∀ a, a ≤ now → poss (.rgh b) now m a = true → a ≤ rep b now ∧ poss (.rgh b) (rep b now) m a = true := fun a ha p => by
        have := lt a p
        refine ⟨by omega, ?_⟩
        rw [poss_rgh] at p ⊢
        rw [rep_same b now a ha (by omega)]
        exact p
      obtain ⟨x, y, sp⟩ := exists_span (.rgh b) (rep b now) m
      obtain ⟨q1, q2⟩ := tr lo l1 p1
      obtain ⟨q3, q4⟩ := tr hi l2 p2
      obtain ⟨lo', rfl, e1, _⟩ := sp.lo_le q1 q2
      obtain ⟨hi', rfl, e2, _⟩ := sp.hi_ge q3 q4 nf
      have := hv.1 (hi' - lo') ⟨rep b now, m, lo', hi', r1, r2, Nat.lt_of_le_of_ne hm' nf', sp, rfl⟩
      omega
  · have hs := step_pos hR
    have a1 := (poss_stp nr hs hm l1).mp p1
    have a2 := (poss_stp nr hs hm l2).mp p2
    rw [if_neg nf] at a1 a2
    exact dd_eq hs l1 l2 (a1.trans a2.symm)
theorem fin_most (R : Ru) : R.fin ≤ R.most := by
  cases R with
  | cnt b s => exact Nat.le_refl _
  | shf b s => exact Nat.zero_le _
  | rgh b => exact Nat.le_refl _
theorem ags_fin {R : Ru} (hR : R.ok) (nr : R.isRgh = false) : 1 ≤ R.ags R.fin := by
  cases R with
  | cnt b s =>
    have : 2 ^ 1 ≤ 2 ^ b := Nat.pow_le_pow_right (by decide) hR.1
    show 1 ≤ 2 ^ b - 1
    omega
  | shf b s => exact Nat.succ_le_succ (Nat.zero_le b)
  | rgh b => cases nr
/-- within reach no mark is the end -/
theorem reach_all {R : Ru} {v now a : Nat} (hR : R.ok) (hv : IsReach R v) (ha : a ≤ now) (hp : poss R now R.fin a = true) : v < a := by
  rcases hv with ⟨ir, hv⟩ | ⟨nr, rfl⟩
  · cases R with
    | cnt b s => cases ir
    | shf b s => cases ir
    | rgh b =>
      have b1 : 1 ≤ b := hR.1
      obtain ⟨r1, r2⟩ := rep_in b now
      have tp := T_pos b
      obtain ⟨x, y, sp⟩ := exists_span (.rgh b) (rep b now) (2 ^ b - 1)
      have pe : poss (.rgh b) (rep b now) (2 ^ b - 1) (2 * tT b - 1) = true := by
        rw [poss_rgh, one_far2 b1 (Nat.le_refl _), decide_eq_true rfl]
      have yn : y = none := sp.hi_none rfl
      subst yn
      obtain ⟨lo, rfl, e1, e3, _⟩ := sp.lo_le (show 2 * tT b - 1 ≤ rep b now by omega) pe
      have lb := hv.1 lo ⟨rep b now, r1, r2, sp⟩
      by_cases c : a ≤ rep b now
      · have hp' : poss (.rgh b) (rep b now) (2 ^ b - 1) a = true := by
          rw [poss_rgh, rep_same b now a ha c, ← poss_rgh]
          exact hp
        obtain ⟨lo', e, l, _⟩ := sp.lo_le c hp'
        cases e
        omega
      · omega
  · have hs := step_pos hR
    have a1 := (poss_stp nr hs (fin_most R) ha).mp hp
    rw [if_pos rfl] at a1
    have := ags_fin hR nr
    exact dd_lt hs ha (by omega)
/-- the marks of a thing that was just seen -/
def Fresh (R : Ru) (m : Nat) : Prop := if R.isShf = true then R.top ≤ m ∧ m < 2 * R.top else m = 0
/-- a thing that was truly seen may have been seen then -/
theorem poss_true {R : Ru} (hR : R.ok) {m last n : Nat} (h : Fresh R m) : poss R (last + n) (ag R m last n) n = true := by
  cases R with
  | cnt b s =>
    have e : m = 0 := h
    subst e
    rw [poss_cnt]
    refine decide_eq_true ?_
    show ag (.cnt b s) 0 (last + n - n) n = _
    rw [Nat.add_sub_cancel]
  | rgh b =>
    have e : m = 0 := h
    subst e
    rw [poss_rgh]
    refine decide_eq_true ?_
    show ag (.rgh b) 0 (last + n - n) n = _
    rw [Nat.add_sub_cancel]
  | shf b s =>
    obtain ⟨h1, h2⟩ : 2 ^ b ≤ m ∧ m < 2 * 2 ^ b := h
    have hs : 0 < s := hR.2.2.1
    have e1 : one (.shf b s) (last + n) n = 2 ^ b / 2 ^ ((last + n) / s - last / s) := by
      show ag (.shf b s) (2 ^ b) (last + n - n) n = _
      rw [Nat.add_sub_cancel]
      exact ag_shf b s _ last hs n
    rw [ag_shf b s m last hs n]
    generalize (last + n) / s - last / s = d at e1
    have pd := Nat.two_pow_pos d
    unfold poss
    rw [e1]
    by_cases hd : d ≤ b
    · have p := Nat.two_pow_pos (b - d)
      have es : 2 ^ b = 2 ^ (b - d) * 2 ^ d := by rw [← Nat.pow_add]; congr 1; omega
      rw [two_div hd, decide_eq_true p]
      have q1 : 2 ^ (b - d) ≤ m / 2 ^ d := (Nat.le_div_iff_mul_le pd).mpr (by rw [← es]; exact h1)
      have q2 : m / 2 ^ d < 2 * 2 ^ (b - d) := (Nat.div_lt_iff_lt_mul pd).mpr (by rw [Nat.mul_assoc, ← es]; exact h2)
      rw [decide_eq_true q1, decide_eq_true q2]
      rfl
    · have z : m / 2 ^ d = 0 := by
        refine Nat.div_eq_of_lt (Nat.lt_of_lt_of_le h2 ?_)
        rw [Nat.mul_comm, ← Nat.pow_succ]
        exact Nat.pow_le_pow_right (by decide) (by omega)
      rw [two_div0 (by omega), z]
      rfl
theorem fresh_most {R : Ru} {m : Nat} (h : Fresh R m) : m ≤ R.most := by
  cases R with
  | cnt b s =>
    have e : m = 0 := h
    rw [e]; exact Nat.zero_le _
  | rgh b =>
    have e : m = 0 := h
    rw [e]; exact Nat.zero_le _
  | shf b s =>
    obtain ⟨h1, h2⟩ : 2 ^ b ≤ m ∧ m < 2 * 2 ^ b := h
    show m ≤ 2 ^ (b + 1) - 1
    rw [Nat.pow_succ]
    omega
end LS
namespace LS
/-- a round that is tried throughout -/
def Ru.arnd : Ru → Nat
  | .cnt b s => s * (1 + (2 ^ b - 1))
  | .shf b s => s * (1 + (b + 1))
  | .rgh _ => 64
theorem ag_fin (R : Ru) (t : Nat) : ∀ n, ag R R.fin t n = R.fin
  | 0 => rfl
  | n + 1 => by
    show tick R (ag R R.fin t n) (t + n + 1) = R.fin
    rw [ag_fin R t n]
    cases R with
    | cnt b s =>
      show (if _ then min (2 ^ b - 1 + 1) (2 ^ b - 1) else 2 ^ b - 1) = 2 ^ b - 1
      split
      · exact Nat.min_eq_right (Nat.le_succ _)
      · rfl
    | shf b s =>
      show (if _ then 0 / 2 else 0) = 0
      split <;> rfl
    | rgh b => exact if_neg fun h => h.1 rfl
theorem fin_le {R : Ru} {t n n' : Nat} (h : ag R R.top t n = R.fin) (l : n ≤ n') : ag R R.top t n' = R.fin := by
  obtain ⟨k, rfl⟩ : ∃ k, n' = n + k := ⟨n' - n, by omega⟩
  rw [ag_add, h, ag_fin]
theorem one_at {R : Ru} {h b : Nat} (l : b ≤ h) : one R h (h - b) = ag R R.top b (h - b) := by
  show ag R R.top (h - (h - b)) (h - b) = _
  rw [show h - (h - b) = b by omega]
theorem poss_exact {R : Ru} {now m a : Nat} (e : one R now a = m) (h : m ≠ R.fin) : poss R now m a = true := by
  cases R with
  | cnt b s => rw [poss_cnt, decide_eq_true e]
  | rgh b => rw [poss_rgh, decide_eq_true e]
  | shf b s =>
    have h' : m ≠ 0 := h
    unfold poss
    rw [e, decide_eq_true (show 0 < m by omega), decide_eq_true (Nat.le_refl m), decide_eq_true (show m < 2 * m by omega)]
    rfl
theorem poss_fin {R : Ru} {now a : Nat} (e : one R now a = R.fin) : poss R now R.fin a = true := by
  cases R with
  | cnt b s => rw [poss_cnt, decide_eq_true e]
  | rgh b => rw [poss_rgh, decide_eq_true e]
  | shf b s =>
    unfold poss
    rw [e]
    rfl
/-- two begins of one mark -/
theorem begins_off {R : Ru} {v h m b1 b2 : Nat} (hR : R.ok) (hv : IsOff R v) (l1 : b1 ≤ h) (l2 : b2 ≤ h) (e1 : ag R R.top b1 (h - b1) = m) (e2 : ag R R.top b2 (h - b2) = m) (nf : m ≠ R.fin) : b2 ≤ b1 + v := by
  have p1 := poss_exact ((one_at l1).trans e1) nf
  have p2 := poss_exact ((one_at l2).trans e2) nf
  obtain ⟨x, y, sp⟩ := exists_span R h m
  obtain ⟨lo, rfl, e3, _⟩ := sp.lo_le (show h - b2 ≤ h by omega) p2
  obtain ⟨hi, rfl, e4, _⟩ := sp.hi_ge (show h - b1 ≤ h by omega) p1 nf
  have mm : m ≤ R.most := by rw [← e1]; exact ag_le R _ _ (top_le R) _
  have := off_all hR hv mm sp
  omega
theorem begins_reach {R : Ru} {u b n : Nat} (hR : R.ok) (hu : IsReach R u) (e : ag R R.top b n = R.fin) : u + 1 ≤ n := by
  have o : one R (b + n) n = R.fin := by
    show ag R R.top (b + n - n) n = _
    rw [Nat.add_sub_cancel]
    exact e
  exact reach_all hR hu (Nat.le_add_left n b) (poss_fin o)
theorem arnd_step {R : Ru} (hR : R.ok) (nr : R.isRgh = false) : ∃ k, R.arnd = R.step * k ∧ 2 ≤ k := by
  cases R with
  | cnt b s =>
    have : 2 ^ 1 ≤ 2 ^ b := Nat.pow_le_pow_right (by decide) hR.1
    exact ⟨1 + (2 ^ b - 1), rfl, by omega⟩
  | shf b s => exact ⟨1 + (b + 1), rfl, by omega⟩
  | rgh b => cases nr
theorem arnd_le {R : Ru} (hR : R.ok) : 1 ≤ R.arnd ∧ R.arnd ≤ 1280 := by
  cases R with
  | cnt b s =>
    obtain ⟨h1, h2, h3, h4⟩ : 1 ≤ b ∧ b ≤ 6 ∧ 1 ≤ s ∧ s ≤ 20 := hR
    have : 2 ^ b ≤ 2 ^ 6 := Nat.pow_le_pow_right (by decide) h2
    exact ⟨Nat.mul_le_mul h3 (show 1 ≤ 1 + (2 ^ b - 1) by omega), Nat.mul_le_mul h4 (show 1 + (2 ^ b - 1) ≤ 64 by omega)⟩
  | shf b s =>
    obtain ⟨h1, h2, h3, h4⟩ : 1 ≤ b ∧ b ≤ 10 ∧ 1 ≤ s ∧ s ≤ 20 := hR
    exact ⟨Nat.mul_le_mul h3 (show 1 ≤ 1 + (b + 1) by omega), Nat.mul_le_mul h4 (show 1 + (b + 1) ≤ 64 by omega)⟩
  | rgh b => exact ⟨(by decide : 1 ≤ 64), (by decide : 64 ≤ 1280)⟩
/-- by how often it was aged: count and shift -/
theorem ag_dd0 {R : Ru} (hR : R.ok) (nr : R.isRgh = false) {t n : Nat} (h : (t + n) / R.step - t / R.step = 0) : ag R R.top t n = R.top ∧ R.top ≠ R.fin := by
  have hs := step_pos hR
  cases R with
  | cnt b s =>
    have h' : (t + n) / s - t / s = 0 := h
    refine ⟨?_, ?_⟩
    · show ag (.cnt b s) 0 t n = 0
      rw [ag_cnt b s 0 t hs (Nat.zero_le _) n, h']
      omega
    · show 0 ≠ 2 ^ b - 1
      have : 2 ^ 1 ≤ 2 ^ b := Nat.pow_le_pow_right (by decide) hR.1
      omega
  | shf b s =>
    have h' : (t + n) / s - t / s = 0 := h
    refine ⟨?_, ?_⟩
    · show ag (.shf b s) (2 ^ b) t n = 2 ^ b
      rw [ag_shf b s _ t hs n, h', Nat.pow_zero, Nat.div_one]
    · show 2 ^ b ≠ 0
      have := Nat.two_pow_pos b
      omega
  | rgh b => cases nr
theorem ag_ddk {R : Ru} (hR : R.ok) (nr : R.isRgh = false) {t n : Nat} (h : (t + n) / R.step - t / R.step = R.ags R.fin) : ag R R.top t n = R.fin := by
  have hs := step_pos hR
  cases R with
  | cnt b s =>
    have h' : (t + n) / s - t / s = 2 ^ b - 1 := h
    show ag (.cnt b s) 0 t n = 2 ^ b - 1
    rw [ag_cnt b s 0 t hs (Nat.zero_le _) n, h']
    omega
  | shf b s =>
    have h' : (t + n) / s - t / s = b + 1 := h
    show ag (.shf b s) (2 ^ b) t n = 0
    rw [ag_shf b s _ t hs n, h']
    exact two_div0 (Nat.lt_succ_self b)
  | rgh b => cases nr
/-- the widest is met -/
theorem off_met {R : Ru} {v : Nat} (hR : R.ok) (hv : IsOff R v) : ∃ h m b1 b2, 4 * R.arnd ≤ h ∧ h < 5 * R.arnd ∧ b1 ≤ h ∧ b2 ≤ h ∧ ag R R.top b1 (h - b1) = m ∧ ag R R.top b2 (h - b2) = m ∧ m ≠ R.fin ∧ v ≤ b2 - b1 := by
  rcases hv with ⟨ir, hv⟩ | ⟨nr, rfl⟩
  · cases R with
    | cnt b s => cases ir
    | shf b s => cases ir
    | rgh b =>
      obtain ⟨b1, b3⟩ : 1 ≤ b ∧ b ≤ 3 := hR
      have p2 : 2 ^ 1 ≤ 2 ^ b := Nat.pow_le_pow_right (by decide) b1
      have tl := T_le b3
      have tp := T_pos b
      rcases hv.2 with rfl | ⟨now, m, lo, hi, n1, n2, hm, sp, rfl⟩
      · refine ⟨256, 0, 256, 256, Nat.le_refl _, (by decide : 256 < 320), Nat.le_refl _, Nat.le_refl _, rfl, rfl, ?_, Nat.zero_le _⟩
        show 0 ≠ 2 ^ b - 1
        omega
      · have n1' : 2 * tT b ≤ now := n1
        have n2' : now < 3 * tT b := n2
        have hm' : m < 2 ^ b - 1 := hm
        obtain ⟨c1, c2, c3, c4, c5, c6⟩ := sp.both
        have td : 64 % tT b = 0 := by
          have hb : b = 1 ∨ b = 2 ∨ b = 3 := by omega
          rcases hb with rfl | rfl | rfl <;> decide
        have hb0 : b = 1 ∨ b = 2 ∨ b = 3 := by omega
        have hr : rep b (256 + now % tT b) = now := by
          have hmod : (256 + now % tT b) % tT b = now % tT b := by
            rcases hb0 with rfl | rfl | rfl
            · show (256 + now % 1) % 1 = now % 1; omega
            · show (256 + now % 4) % 4 = now % 4; omega
            · show (256 + now % 64) % 64 = now % 64; omega
          unfold rep
          rw [hmod]
          have e := Nat.div_add_mod now (tT b)
          have q : now / tT b = 2 := by
            refine Nat.div_eq_of_lt_le n1' ?_
            exact n2'
          rw [q, Nat.mul_comm] at e
          exact e
        have ml := Nat.mod_lt now tp
        have tr : ∀ a, a ≤ now → poss (.rgh b) now m a = true → a ≤ 256 + now % tT b ∧ ag (.rgh b) 0 (256 + now % tT b - a) a = m := fun a ha p => by
          rw [poss_rgh] at p
          have p' := of_decide_eq_true p
          have al : a < 2 * tT b := by
            by_cases c : a < 2 * tT b
            · exact c
            · rw [one_far2 b1 (by omega)] at p'
              exact absurd p'.symm (Nat.ne_of_lt hm')
          have hle : a ≤ 256 + now % tT b := by omega
          have s := rep_same b (256 + now % tT b) a hle (by rw [hr]; exact ha)
          rw [hr] at s
          exact ⟨hle, s.symm.trans p'⟩
        obtain ⟨q1, q2⟩ := tr lo c1 c3
        obtain ⟨q3, q4⟩ := tr hi c2 c4
        refine ⟨256 + now % tT b, m, 256 + now % tT b - hi, 256 + now % tT b - lo, Nat.le_add_right _ _, ?_, Nat.sub_le _ _, Nat.sub_le _ _, ?_, ?_, Nat.ne_of_lt hm', ?_⟩
        · show 256 + now % tT b < 320
          omega
        · show ag (.rgh b) 0 (256 + now % tT b - hi) (256 + now % tT b - (256 + now % tT b - hi)) = m
          rw [show 256 + now % tT b - (256 + now % tT b - hi) = hi by omega]
          exact q4
        · show ag (.rgh b) 0 (256 + now % tT b - lo) (256 + now % tT b - (256 + now % tT b - lo)) = m
          rw [show 256 + now % tT b - (256 + now % tT b - lo) = lo by omega]
          exact q2
        · omega
  · obtain ⟨k, ek, k2⟩ := arnd_step hR nr
    have hs := step_pos hR
    have sk : R.step * 2 ≤ R.step * k := Nat.mul_le_mul_left _ k2
    have z : ∀ n, n < R.step → (4 * R.arnd + n) / R.step - 4 * R.arnd / R.step = 0 := fun n hn => by
      have e : 4 * R.arnd = R.step * (4 * k) := by rw [ek, Nat.mul_left_comm]
      rw [e, Nat.mul_add_div hs, Nat.div_eq_of_lt hn, Nat.mul_div_cancel_left _ hs]
      omega
    obtain ⟨a1, a2⟩ := ag_dd0 hR nr (z (R.step - 1) (by omega))
    refine ⟨4 * R.arnd + (R.step - 1), R.top, 4 * R.arnd, 4 * R.arnd + (R.step - 1), by omega, by omega, by omega, by omega, ?_, ?_, a2, by omega⟩
    · rw [Nat.add_sub_cancel_left]
      exact a1
    · rw [Nat.sub_self]
      rfl
/-- the soonest end is met -/
theorem reach_met {R : Ru} {u : Nat} (hR : R.ok) (hu : IsReach R u) : ∃ b, b < 6 * R.arnd ∧ ag R R.top b (u + 1) = R.fin := by
  rcases hu with ⟨ir, hu⟩ | ⟨nr, rfl⟩
  · cases R with
    | cnt b s => cases ir
    | shf b s => cases ir
    | rgh b =>
      obtain ⟨b1, b3⟩ : 1 ≤ b ∧ b ≤ 3 := hR
      have tl := T_le b3
      obtain ⟨now, n1, n2, sp⟩ := hu.2
      have n2' : now < 3 * tT b := n2
      rcases sp with ⟨e, _⟩ | ⟨lo, e, h1, h2, _⟩
      · cases e
      · cases e
        rw [poss_rgh] at h2
        exact ⟨now - (u + 1), by show now - (u + 1) < 384; omega, of_decide_eq_true h2⟩
  · obtain ⟨k, ek, k2⟩ := arnd_step hR nr
    have hs := step_pos hR
    have sk : R.step * 2 ≤ R.step * k := Nat.mul_le_mul_left _ k2
    have a1 := ags_fin hR nr
    refine ⟨R.step - 1, by omega, ag_ddk hR nr ?_⟩
    have e : R.step - 1 + ((R.ags R.fin - 1) * R.step + 1) = R.step * R.ags R.fin := by
      obtain ⟨j, hj⟩ : ∃ j, R.ags R.fin = j + 1 := ⟨R.ags R.fin - 1, by omega⟩
      rw [hj, Nat.add_sub_cancel, Nat.mul_add, Nat.mul_one, Nat.mul_comm j]
      omega
    rw [e, Nat.mul_div_cancel_left _ hs, Nat.div_eq_of_lt (show R.step - 1 < R.step by omega), Nat.sub_zero]
end LS
namespace LS
open PySem PySem.Spec PyProof.Rows L2 RZ
/-! ### calls by a promise alone -/
def Cl (P : Program) (w : World) (K : PySem.W.Frag) (mg : Str → Option Value) (base : Heap) (k : Nat) (x : Str) (ps : List Str) (sp : Sp) : Prop :=
  ∃ (f : Addr) (fd : FuncData), FnOk P w K mg base CX0 k f fd ps sp ∧ mg x = some (.ref f) ∧ PySem.W.keepIn K (.ref f) = true ∧ Binds K fd ps []
theorem pe_cl {X : Cx} {j k : Nat} {x : Str} {ps : List Str} {sp : Sp} {e : Expr} {es : List Expr} {t : TA} {p pos : Pos} (D : Cl X.prog X.w X.K X.mg X.base k x ps sp) (hr : Room j X.A) (ha : PA X (e :: es) t) (hk : k ≤ j := by decide) (hg : Gl X x := by rfl)
    (hdb : (x == ("__debug__" : Str)) = false := by decide) (he : starEach (e :: es) X.env = (false, eval e X.env) :: starEach es X.env := by rfl) (hpl : (backTo pos (starEach es X.env)).any (·.1) = false := by rfl) :
    PE X (.Call (.Name x p) (e :: es) [] pos) (tCall sp [] E0 t) := by
  obtain ⟨f, fd, G, g, kp, b⟩ := D
  exact pe_call G (hr.mono hk) hg g kp b .nil pass0 ha hdb he hpl
/-- a def as the top has left it -/
def DefAt (K : PySem.W.Frag) (mg : Str → Option Value) (x : Str) (st : Stmt) (ps : List Str) : Prop :=
  ∃ (f : Addr) (fd : FuncData), Fun K x x st f fd ∧ mg x = some (.ref f) ∧ Binds K fd ps []
theorem DefAt.cl {P : Program} {w : World} {K : PySem.W.Frag} {mg : Str → Option Value} {base : Heap} {k : Nat} {x : Str} {st : Stmt} {ps : List Str} {sp : Sp} (D : DefAt K mg x st ps)
    (h : ∀ f fd, Fun K x x st f fd → FnOk P w K mg base CX0 k f fd ps sp) : Cl P w K mg base k x ps sp := by
  obtain ⟨f, fd, F, g, b⟩ := D
  exact ⟨f, fd, h f fd F, g, F.kp, b⟩
theorem defAt_mk {K : PySem.W.Frag} {h : Heap} {mg : Str → Option Value} {x : Str} {st : Stmt} {ps : List Str} {f : Addr} {od an : Option Addr} {sl : Array (Option Value)} {oc kV dc pm cd ct : Value} (X : K.In h) (G : h.Ns mainGlobals mg)
    (a : PySem.W.nsIn K mainGlobals x = some (some (.ref f))) (l : K.lookup f = some ⟨oc, od, .func (PySem.W.fnOf x x (defArgs st) (defBody st) (defScope st) .none kV dc pm an cd ct), sl⟩) (c : PySem.W.codeIn K cd x = true) (k : PySem.W.keepIn K (.ref f) = true)
    (hb : ∀ (kV doc pm : Value) (an : Option Addr) (cdv ct : Value) (us : List Value), us.length = ps.length → bindArgs (PySem.W.fnOf x x (defArgs st) (defBody st) (defScope st) .none kV doc pm an cdv ct) ⟨us, []⟩ = pure (ps.zip us)) : DefAt K mg x st ps := by
  have F := fun_mk (st := st) l c k
  exact ⟨f, _, F, PySem.W.mg_of X G a, F.binds hb⟩
/-! ### heaps -/
theorem same_upd {H : Hp} {p : Addr} {o : HO} (h : H p = none) : Same H (upd H p o) := fun b x e => by
  rw [upd_ne (ne_of_none e h)]
  exact e
/-- all but two objects stands as it was -/
def Kp2 (h c : Addr) (H H' : Hp) : Prop := ∀ b o, H b = some o → b ≠ h → b ≠ c → H' b = some o
theorem Kp2.refl (h c : Addr) (H : Hp) : Kp2 h c H H := fun _ _ e _ _ => e
theorem Kp2.trans {h c : Addr} {H H1 H2 : Hp} (a : Kp2 h c H H1) (b : Kp2 h c H1 H2) : Kp2 h c H H2 := fun x o e n1 n2 => b x o (a x o e n1 n2) n1 n2
theorem Same.kp2 {h c : Addr} {H H1 : Hp} (a : Same H H1) : Kp2 h c H H1 := fun b o e _ _ => a b o e
/-- the list that is drawn from stands at h, its cells at c -/
structure HAt (H : Hp) (h c : Addr) : Prop where
  ex : ∃ (mx pl : Int) (ns : List Int), H h = some (.lst [.int mx, .ref c, .int pl]) ∧ H c = some (.lst (ns.map V.int)) ∧ 0 ≤ mx ∧ mx < 2147483647 ∧ 0 ≤ pl ∧ ns.length ≤ 63
  ne : h ≠ c
theorem HAt.same {H H' : Hp} {h c : Addr} (a : HAt H h c) (s : Same H H') : HAt H' h c := by
  obtain ⟨⟨mx, pl, ns, e1, e2, e3⟩, n⟩ := a
  exact ⟨⟨mx, pl, ns, s _ _ e1, s _ _ e2, e3⟩, n⟩
theorem HAt.neT {H : Hp} {h c p : Addr} {xs : List V} (a : HAt H h c) (e : H p = some (.tup xs)) : p ≠ h ∧ p ≠ c := by
  obtain ⟨⟨mx, pl, ns, e1, e2, e3⟩, n⟩ := a
  exact ⟨ne_of e e1 (by intro q; cases q), ne_of e e2 (by intro q; cases q)⟩
/-- a tuple stands behind a draw -/
theorem Kp2.tup {H H' : Hp} {h c p : Addr} {xs : List V} (k : Kp2 h c H H') (a : HAt H h c) (e : H p = some (.tup xs)) : H' p = some (.tup xs) := k p _ e (a.neT e).1 (a.neT e).2
/-! ### rules as tuples -/
def Ru.kind : Ru → Str
  | .cnt _ _ => "count"
  | .shf _ _ => "shift"
  | .rgh _ => "rough"
def Ru.nums : Ru → List Int
  | .cnt b s => [(b : Int), (s : Int)]
  | .shf b s => [(b : Int), (s : Int)]
  | .rgh b => [(b : Int)]
def Ru.tup (R : Ru) : List V := .str R.kind :: R.nums.map V.int
def Ru.lim : Ru → List Int
  | .cnt _ _ => [6, 20]
  | .shf _ _ => [10, 20]
  | .rgh _ => [3]
abbrev RuAt (H : Hp) (p : Addr) (R : Ru) : Prop := H p = some (.tup R.tup)
theorem Ru.at0 (R : Ru) : atI R.tup 0 = some (.str R.kind) := atI_nat (j := 0) rfl
theorem Ru.at1 (R : Ru) : atI R.tup 1 = some (.int (R.bits : Int)) := by
  cases R <;> exact atI_nat (j := 1) rfl
theorem Ru.bits_pos {R : Ru} (h : R.ok) : 1 ≤ R.bits ∧ R.bits ≤ 10 := by
  cases R with
  | cnt b s => obtain ⟨h1, h2, h3, h4⟩ : 1 ≤ b ∧ b ≤ 6 ∧ 1 ≤ s ∧ s ≤ 20 := h; exact ⟨h1, by show b ≤ 10; omega⟩
  | shf b s => obtain ⟨h1, h2, h3, h4⟩ : 1 ≤ b ∧ b ≤ 10 ∧ 1 ≤ s ∧ s ≤ 20 := h; exact ⟨h1, h2⟩
  | rgh b => obtain ⟨h1, h2⟩ : 1 ≤ b ∧ b ≤ 3 := h; exact ⟨h1, by show b ≤ 10; omega⟩
theorem cut1 (xs : List V) : cutV xs (some 1) none = xs.drop 1 := by
  unfold cutV
  rw [show HT.sIx xs.length 0 (some 1) = min 1 xs.length from HT.sIx_nat xs.length 0 1, HT.sIx_none]
  cases xs with
  | nil => rfl
  | cons x r =>
    rw [show min 1 (x :: r).length = 1 by
      rw [List.length_cons]
      omega]
    show (List.take ((x :: r).length - 1) r) = r
    rw [List.length_cons, Nat.add_sub_cancel]
    exact List.take_length
/-! ### whether texts are alike -/
theorem dec_str {a b : Str} : decide (V.str a = V.str b) = decide (a = b) := by
  by_cases h : a = b
  · subst h; rw [decide_eq_true rfl, decide_eq_true rfl]
  · rw [decide_eq_false h, decide_eq_false (fun q => h (V.str.inj q))]
theorem dec_int {a b : Int} : decide (V.int a = V.int b) = decide (a = b) := by
  by_cases h : a = b
  · subst h; rw [decide_eq_true rfl, decide_eq_true rfl]
  · rw [decide_eq_false h, decide_eq_false (fun q => h (V.int.inj q))]
/-! ### a comprehension over zip of two tuples -/
theorem lc_zipT {K : PySem.W.Frag} {a b : Addr} {xs ys : List V} {g : TG} {tt : TT} {te : TE} {vs : List Nat} {σ : L2.St} {H1 : Hp} {D : Addr} {Qd : Hp → Prop} (hl : xs.length = ys.length) (Pv : Nat → Hp → Prop) (h0 : Pv 0 (upd H1 D (.lst []))) (hq : ∀ i H, Pv i H → SqT K H a xs ∧ SqT K H b ys)
    (hs : ∀ i x y T H, xs[i]? = some x → ys[i]? = some y → Pv i H → H T = none → g (.ref T) (wipe σ vs) (upd H T (.tup [x, y])) fun σ2 H2 => wipe σ2 vs = wipe σ vs ∧ tt σ2 H2 fun b H3 =>
      if b = true then te σ2 H3 fun y H4 => ∃ acc, H4 D = some (.lst acc) ∧ acc.length < sizeLine ∧ Pv (i + 1) (upd H4 D (.lst (acc ++ [y]))) else Pv (i + 1) H3) (hd : ∀ H, Pv xs.length H → Qd H) :
    ∃ W : Nat → Nat → Hp → Prop, (∃ m, W 0 m (upd H1 D (.lst []))) ∧ ∀ i m H, W i m H →
      ((ItzT K a b).stop i H ∧ Qd H) ∨ ((ItzT K a b).go i H ∧ ∃ Nx : Hp → Prop, (∀ H', Nx H' → ∃ m', m' < m ∧ W (i + 1) m' H') ∧ ∀ x H', (ItzT K a b).yld i H x H' → g x (wipe σ vs) H' fun σ2 H2 => wipe σ2 vs = wipe σ vs ∧ tt σ2 H2 fun b H3 =>
        if b = true then te σ2 H3 fun y H4 => ∃ acc, H4 D = some (.lst acc) ∧ acc.length < sizeLine ∧ Nx (upd H4 D (.lst (acc ++ [y]))) else Nx H3) := by
  refine ⟨fun i m H => m = xs.length - i ∧ i ≤ xs.length ∧ Pv i H, ⟨xs.length, by simp, Nat.zero_le _, h0⟩, ?_⟩
  rintro i m H ⟨rfl, hi, p⟩
  obtain ⟨qx, qy⟩ := hq i H p
  by_cases hlt : i < xs.length
  · have hx : xs[i]? = some xs[i] := List.getElem?_eq_getElem hlt
    have hlt2 : i < ys.length := by omega
    have hy : ys[i]? = some ys[i] := List.getElem?_eq_getElem hlt2
    refine .inr ⟨⟨xs, ys, _, _, qx, qy, hx, hy⟩, Pv (i + 1), fun H' p' => ⟨xs.length - (i + 1), by omega, rfl, hlt, p'⟩, fun x H' y => ?_⟩
    obtain ⟨T, x', y', rfl, hT, rfl, f1, f2⟩ := y
    exact hs i x' y' T H (f1 xs qx) (f2 ys qy) p hT
  · have e : i = xs.length := by omega
    subst e
    exact .inl ⟨⟨xs, ys, qx, qy, Or.inl (Nat.le_refl _)⟩, hd H p⟩
/-! ### lists of ints against the empty list -/
theorem dpAll_ints {K : PySem.W.Frag} {H : Hp} : ∀ ns : List Int, DpAll K H (ns.map V.int) (ns.map PyData.int)
  | [] => .nil
  | n :: r => .cons (.int n) (dpAll_ints r)
theorem eqv_nil (ns : List Int) : PyData.eqv (.list (ns.map PyData.int)) (.list []) = ns.isEmpty := by
  cases ns with
  | nil => simp [PyData.eqv, PyData.eqvAll]
  | cons n r => simp [PyData.eqv, PyData.eqvAll]
theorem ixN_nn {n : Nat} {i : Int} (h0 : 0 ≤ i) (h1 : i < n) : ixN n i = some i.toNat := by
  unfold ixN
  rw [if_pos h0, if_pos h1]
/-- two ways to one value -/
theorem join_if {te1 te2 : TE} {σ : L2.St} {H1 : Hp} {Q' : VK} {c : Bool} (G : V → Hp → Prop) (hG : ∀ v H', G v H' → Q' v H') (h1 : c = true → ∃ v H', (∀ Q : VK, Q v H' → te1 σ H1 Q) ∧ G v H')
    (h2 : c = false → ∃ v H', (∀ Q : VK, Q v H' → te2 σ H1 Q) ∧ G v H') : if c = true then te1 σ H1 Q' else te2 σ H1 Q' := by
  cases c with
  | true =>
    obtain ⟨v, H', e, g⟩ := h1 rfl
    rw [if_pos rfl]
    exact e _ (hG _ _ g)
  | false =>
    obtain ⟨v, H', e, g⟩ := h2 rfl
    rw [if_neg Bool.false_ne_true]
    exact e _ (hG _ _ g)
/-- over a range, with a break -/
theorem for_rangeB {lo : Int} {n : Nat} {g : TG} {tb : TS} {D : Ends} {σ : L2.St} {H : Hp} (Pv : Nat → L2.St → Hp → Prop) (Post : L2.St → Hp → Prop) (h0 : Pv 0 σ H)
    (hs : ∀ (bk : L2.St → Hp → Prop), (∀ σ H, Post σ H → bk σ H) → ∀ i σ H, i < n → Pv i σ H → g (.int (lo + i)) σ H fun σ2 H2 => tb { D with nx := Pv (i + 1), ct := Pv (i + 1), bk := bk } σ2 H2) (hd : ∀ σ H, Pv n σ H → Post σ H) (hp : ∀ σ H, Post σ H → D.nx σ H) :
    ∃ W : Nat → Nat → L2.St → Hp → Prop, (∃ m, W 0 m σ H) ∧ ∀ i m σ H, W i m σ H →
      ((Itr lo n).stop i H ∧ D.nx σ H) ∨ ((Itr lo n).go i H ∧ ∃ N : L2.St → Hp → Prop, (∀ σ' H', N σ' H' → ∃ m', m' < m ∧ W (i + 1) m' σ' H') ∧ ∀ x H', (Itr lo n).yld i H x H' → g x σ H' fun σ2 H2 => tb { D with nx := N, ct := N, bk := D.nx } σ2 H2) :=
  for_range Pv h0 (hs D.nx hp) fun σ H h => hp σ H (hd σ H h)
/-- two ways to values of one kind -/
theorem join_ifA {te1 te2 : TE} {σ : L2.St} {H1 : Hp} {Q' : VK} {c : Bool} (G : V → Hp → Prop) (hG : ∀ v H', G v H' → Q' v H') (h1 : c = true → ∀ Q : VK, (∀ v H', G v H' → Q v H') → te1 σ H1 Q)
    (h2 : c = false → ∀ Q : VK, (∀ v H', G v H' → Q v H') → te2 σ H1 Q) : if c = true then te1 σ H1 Q' else te2 σ H1 Q' := by
  cases c with
  | true =>
    rw [if_pos rfl]
    exact h1 rfl Q' hG
  | false =>
    rw [if_neg Bool.false_ne_true]
    exact h2 rfl Q' hG
/-- a statement by what holds behind it -/
theorem abs_nx {t : TS} {D : Ends} {σ : L2.St} {H : Hp} (G : L2.St → Hp → Prop) (h : ∀ nx' : L2.St → Hp → Prop, (∀ σ' H', G σ' H' → nx' σ' H') → t { D with nx := nx' } σ H) (hG : ∀ σ' H', G σ' H' → D.nx σ' H') : t D σ H := h D.nx hG
theorem le64 {i : Int} (h0 : 0 ≤ i) (h : i < 18446744073709551616) : -(2 ^ 64) < i ∧ i < 2 ^ 64 := by
  constructor <;> omega
end LS
namespace LS
open PySem PySem.Spec PyProof.Rows L2 RZ
def top (i : Nat) : Stmt := PySem.Challenge.pw_lastseen_k07_boards_step_by_step.main.body.getD i (.Pass ⟨0, 0, 0, 0⟩)
abbrev s_wall : Stmt := top 0
abbrev m_BadText_init : Stmt := inClass (top 10) 0
abbrev s_is_rule : Stmt := top 14
abbrev s_check_rule : Stmt := top 15
abbrev s_check_mark : Stmt := top 16
abbrev s_check_moment : Stmt := top 17
abbrev s_top_mark : Stmt := top 18
abbrev s_end_mark : Stmt := top 19
abbrev s_seen : Stmt := top 20
abbrev s_aged_on : Stmt := top 21
abbrev s_aged_roughly : Stmt := top 22
abbrev s_span : Stmt := top 24
abbrev s_agings : Stmt := top 25
abbrev s_stepped_span : Stmt := top 26
abbrev s_rough_span : Stmt := top 27
abbrev m_Board_init : Stmt := inClass (top 31) 0
abbrev m_Board_see : Stmt := inClass (top 31) 1
abbrev m_Board_pass_by : Stmt := inClass (top 31) 2
abbrev m_Board_marks : Stmt := inClass (top 31) 3
abbrev m_Board_age : Stmt := inClass (top 31) 4
abbrev m_Board_ages : Stmt := inClass (top 31) 5
abbrev m_Board_oldest : Stmt := inClass (top 31) 6
abbrev m_Board_now : Stmt := inClass (top 31) 7
abbrev m_Board_check_thing : Stmt := inClass (top 31) 8
abbrev s_L_mix : Stmt := top 33
abbrev s_L_next : Stmt := top 34
abbrev s_L_alike : Stmt := top 35
abbrev s_L_rule : Stmt := top 36
abbrev s_L_end : Stmt := top 37
abbrev s_L_most : Stmt := top 38
abbrev s_L_top : Stmt := top 39
abbrev s_L_tick : Stmt := top 40
abbrev s_L_aged : Stmt := top 41
abbrev s_L_seen : Stmt := top 42
abbrev s_L_kind : Stmt := top 43
abbrev s_L_board : Stmt := top 44
abbrev s_L_do : Stmt := top 45
abbrev s_L_step : Stmt := top 46
abbrev s_L_is : Stmt := top 47
abbrev s_law : Stmt := top 48
/-! ### the program: rules -/
theorem k_cs : ¬ (("count" : Str) = "shift") := by decide +kernel
theorem k_cr : ¬ (("count" : Str) = "rough") := by decide +kernel
theorem k_sc : ¬ (("shift" : Str) = "count") := by decide +kernel
theorem k_sr : ¬ (("shift" : Str) = "rough") := by decide +kernel
theorem k_rc : ¬ (("rough" : Str) = "count") := by decide +kernel
theorem k_rs : ¬ (("rough" : Str) = "shift") := by decide +kernel

/-- what the top has written of the limits, at d -/
def WrT (K : PySem.W.Frag) (a : Addr) (xs : List V) : Prop := ∃ (o : Obj) (its : Array Value) (n : Nat), K.lookup a = some o ∧ o.cls = .type "tuple" ∧ o.data = .seq its n ∧ its.size ≤ sizeLine ∧ Vals xs its.toList
structure Lims (K : PySem.W.Frag) (w : World) (mg : Str → Option Value) : Prop where
  ex : ∃ (d : Addr) (es : Array DictEntry) (n : Nat), mg "LIMITS" = some (.ref d) ∧ KDict K w d es n ∧ ∀ R : Ru, ∃ t, PySem.W.nsIn K d R.kind = some (some (.ref t)) ∧ WrT K t (R.lim.map V.int)
theorem nums_ok {R : Ru} (h : R.ok) {i : Nat} {x y : V} (hx : (R.nums.map V.int)[i]? = some x) (hy : (R.lim.map V.int)[i]? = some y) : ∃ n m : Int, x = .int n ∧ y = .int m ∧ 1 ≤ n ∧ n ≤ m := by
  cases R with
  | cnt b s =>
    obtain ⟨h1, h2, h3, h4⟩ : 1 ≤ b ∧ b ≤ 6 ∧ 1 ≤ s ∧ s ≤ 20 := h
    match i, hx, hy with
    | 0, hx, hy => exact ⟨b, 6, (Option.some.inj hx).symm, (Option.some.inj hy).symm, by omega, by omega⟩
    | 1, hx, hy => exact ⟨s, 20, (Option.some.inj hx).symm, (Option.some.inj hy).symm, by omega, by omega⟩
    | i + 2, hx, hy => simp [Ru.nums] at hx
  | shf b s =>
    obtain ⟨h1, h2, h3, h4⟩ : 1 ≤ b ∧ b ≤ 10 ∧ 1 ≤ s ∧ s ≤ 20 := h
    match i, hx, hy with
    | 0, hx, hy => exact ⟨b, 10, (Option.some.inj hx).symm, (Option.some.inj hy).symm, by omega, by omega⟩
    | 1, hx, hy => exact ⟨s, 20, (Option.some.inj hx).symm, (Option.some.inj hy).symm, by omega, by omega⟩
    | i + 2, hx, hy => simp [Ru.nums] at hx
  | rgh b =>
    obtain ⟨h1, h2⟩ : 1 ≤ b ∧ b ≤ 3 := h
    match i, hx, hy with
    | 0, hx, hy => exact ⟨b, 3, (Option.some.inj hx).symm, (Option.some.inj hy).symm, by omega, by omega⟩
    | i + 1, hx, hy => simp [Ru.nums] at hx
theorem nums_lim (R : Ru) : (R.nums.map V.int).length = (R.lim.map V.int).length := by cases R <;> rfl
theorem lim_short (R : Ru) : (R.lim.map V.int).length ≤ 2 := by
  cases R with
  | cnt b s => exact Nat.le_refl 2
  | shf b s => exact Nat.le_refl 2
  | rgh b => exact (by decide : 1 ≤ 2)
def spIsRule : Sp := fun vs H Q _ => ∃ (p : Addr) (R : Ru), vs = [.ref p] ∧ RuAt H p R ∧ R.ok ∧ ∀ H', Same H H' → Q (.bl true) H'
section
variable {P : Program} {w : World} {K : PySem.W.Frag} {mg : Str → Option Value} {base : Heap}
theorem sc_is_rule : FnScope ["rule", "limits", "numbers", "number", "most"] ["rule"] (defScope s_is_rule) := ⟨rfl, rfl, rfl, by decide +kernel, rfl, by decide +kernel, by decide +kernel⟩
theorem ok_is_rule (D : DefAt K mg "is_rule" s_is_rule ["rule"]) (LI : Lims K w mg) (m_len : mg "len" = none) (m_all : mg "all" = none) (m_zip : mg "zip" = none) : Cl P w K mg base 1 "is_rule" ["rule"] spIsRule := by
  refine D.cl fun f fd F => ?_
  obtain ⟨d, es, n, gL, kd, lt⟩ := LI.ex
  refine F.ok sc_is_rule (fun vs H Q E h => ?_) (fun cdv A outer s H vs Q E hr h => ?_)
  · obtain ⟨p, R, rfl, _⟩ := h
    rfl
  · obtain ⟨p, R, rfl, hp, ok, q⟩ := h
    obtain ⟨t, ht, wt⟩ := lt R
    refine ⟨_, pss_cons (ps_if (pt_cmpR (op_notIn_kd kd) (pe_ix ix_tup (pv 0) pe_int (fun _ _ => rfl)) (pe_glob (v := .ref d) (by rfl) gL rfl) (by rfl)) (pss_one ps_never) pss_nil)
      (pss_cons (ps_set (i := 1) sc_is_rule.nd rfl (Or.inl rfl) (pe_ix ix_kdict (pe_glob (v := .ref d) (by rfl) gL rfl) (pe_ix ix_tup (pv 0) pe_int (fun _ _ => rfl)) (fun _ _ => rfl)))
      (pss_cons (ps_set (i := 2) sc_is_rule.nd rfl (Or.inl rfl) (pe_slice sl_tup (pv 0) (po_some pe_int) po_none))
      (pss_cons (ps_if (pt_cmpR op_ne (pe_callB call_len_seq (by rfl) m_len PySem.boot_len (pa_cons (pv 2) pa_nil)) (pe_callB call_len_seq (by rfl) m_len PySem.boot_len (pa_cons (pv 1) pa_nil)) (nomark _)) (pss_one ps_never) pss_nil)
      (pss_one (ps_ret (pe_callB (cr_all rfl) (by rfl) m_all (by decide +kernel) (pa_cons
        (pe_lc (own := [("number", 3), ("most", 4)]) (g := gTup K 2 (gCons (gName 3) (gCons (gName 4) gNil))) (tt := tYes) rfl sc_is_rule.nd (pi_zipA (by rfl) m_zip (pa_cons (pv 2) (pa_cons (pv 1) pa_nil))) (blkOk_by (N := ["rule", "limits", "numbers", "number", "most"]) (sc := defScope s_is_rule) (by decide +kernel))
          (fun _ _ _ _ _ => by exact pg_tup rfl (pgs_cons (pg_name (i := 3) sc_is_rule.nd rfl (Or.inl rfl)) (pgs_cons (pg_name (i := 4) sc_is_rule.nd rfl (Or.inl rfl)) pgs_nil))) (fun _ _ _ _ _ => by exact pts_nil)
          (fun _ _ _ _ _ => by exact pe_chain op_le op_le pe_int (pv 3) (pv 4))) pa_nil))))))), ?_⟩
    refine ⟨_, rfl, p, _, _, _, rfl, rfl, SqT.of hp, R.at0, R.kind, _, rfl, rfl, ht, _, rfl, iteF ?_⟩
    refine ⟨_, rfl, p, _, _, _, rfl, rfl, SqT.of hp, R.at0, d, R.kind, .ref t, rfl, rfl, ⟨es, n, _, kd.at_, kd.lit, ht, rfl⟩, ?_⟩
    refine ⟨_, rfl, 1, rfl, p, R.tup, rfl, SqT.of hp, ?_, fun u nu => ?_⟩
    · have h1 : R.tup.length = (R.nums.map V.int).length + 1 := rfl
      have h2 : 1 ≤ (R.nums.map V.int).length := by cases R <;> exact Nat.succ_le_succ (Nat.zero_le _)
      rintro ⟨e, _⟩
      rw [show HT.sIx R.tup.length 0 (some 1) = min 1 R.tup.length from HT.sIx_nat _ 0 1] at e
      omega
    have su : Same H (upd H u (.tup (cutV R.tup (some 1) none))) := same_upd nu
    have eu : (upd H u (.tup (cutV R.tup (some 1) none))) u = some (.tup (R.nums.map V.int)) := by
      rw [upd_same, cut1]; rfl
    refine ⟨_, rfl, u, R.nums.map V.int, rfl, .inr (SqT.of eu), _, rfl, t, R.lim.map V.int, rfl, .inr (.inr wt), rfl, _, rfl, ?_⟩
    rw [nums_lim]
    refine iteNS rfl ?_
    refine ⟨_, rfl, _, rfl, u, t, R.nums.map V.int, R.lim.map V.int, rfl, .inr ⟨SqT.of eu, .inr wt, fun D nD => ?_⟩⟩
    refine lc_zipT (K := K) (xs := R.nums.map V.int) (ys := R.lim.map V.int) (nums_lim R) (fun i H' => Same (upd H u (.tup (cutV R.tup (some 1) none))) H' ∧ H' D = some (.lst ((List.replicate i true).map V.bl)))
      ⟨same_upd nD, upd_same⟩ (fun i H' h => ⟨SqT.of (h.1 _ _ eu), .inr wt⟩) ?_ ?_
    · rintro i x y T H' hx hy ⟨sm, hD⟩ hT
      obtain ⟨a, b, rfl, rfl, h1, h2⟩ := nums_ok ok hx hy
      have nT : D ≠ T := ne_of_none hD hT
      refine ⟨T, [.int a, .int b], rfl, .inl (.inl upd_same), rfl, .int a, [.int b], rfl, .int b, [], rfl, rfl, rfl, ?_⟩
      refine ⟨_, rfl, _, _, rfl, rfl, _, rfl, ?_⟩
      rw [decide_eq_true h1]
      refine iteT ?_
      refine ⟨_, rfl, _, _, rfl, rfl, ?_⟩
      dsimp only
      rw [decide_eq_true h2]
      refine ⟨_, (by rw [upd_ne nT]; exact hD), ?_, ?_, ?_⟩
      · rw [List.length_map, List.length_replicate]
        have : i < (R.lim.map V.int).length := (List.getElem?_eq_some_iff.mp hy).1
        have := lim_short R
        exact small1000 (by omega)
      · intro z o e
        rw [upd_ne (show z ≠ D from ne_of_none e nD), upd_ne (ne_of_none (sm _ _ e) hT)]
        exact sm _ _ e
      · rw [upd_same, List.replicate_succ', List.map_append]
        rfl
    · rintro H' ⟨sm, hD⟩
      refine ⟨D, List.replicate _ true, rfl, SqL.of hD, ?_⟩
      rw [show (List.replicate (R.nums.map V.int).length true).all id = true by simp]
      exact q H' (su.trans sm)
end
/-! ### the program: marks and ageing -/
def spCheckRule : Sp := fun vs H Q _ => ∃ (p : Addr) (R : Ru), vs = [.ref p] ∧ RuAt H p R ∧ R.ok ∧ ∀ H', Same H H' → Q .non H'
def spTopMark : Sp := fun vs H Q _ => ∃ (p : Addr) (R : Ru), vs = [.ref p] ∧ RuAt H p R ∧ R.ok ∧ Q (.int (R.most : Int)) H
def spCheckMark : Sp := fun vs H Q _ => ∃ (p : Addr) (R : Ru) (i : Int), vs = [.ref p, .int i] ∧ RuAt H p R ∧ R.ok ∧ 0 ≤ i ∧ i ≤ (R.most : Int) ∧ Q .non H
def spCheckMoment : Sp := fun vs H Q _ => ∃ (i : Int), vs = [.int i] ∧ 0 ≤ i ∧ i ≤ 1000000000 ∧ Q .non H
def spRoughly : Sp := fun vs H Q _ => ∃ (b m t n : Nat) (i1 i2 i3 i4 : Int), vs = [.int i1, .int i2, .int i3, .int i4] ∧ i1 = ((2 ^ b - 1 : Nat) : Int) ∧ i2 = (m : Int) ∧ i3 = (t : Int) ∧ i4 = ((t + n : Nat) : Int) ∧
  1 ≤ b ∧ b ≤ 3 ∧ m ≤ 2 ^ b - 1 ∧ t + n ≤ 1000000000 ∧ Q (.int (ag (.rgh b) m t n : Int)) H
def spAged : Sp := fun vs H Q _ => ∃ (p : Addr) (R : Ru) (m t n : Nat) (i1 i2 i3 : Int), vs = [.ref p, .int i1, .int i2, .int i3] ∧ i1 = (m : Int) ∧ i2 = (t : Int) ∧ i3 = ((t + n : Nat) : Int) ∧
  RuAt H p R ∧ R.ok ∧ m ≤ R.most ∧ t + n ≤ 1000000000 ∧ ∀ H', Same H H' → Q (.int (ag R m t n : Int)) H'
theorem pow_sub (k : Nat) : (2 : Int) ^ k - 1 = ((2 ^ k - 1 : Nat) : Int) := by
  have := Nat.two_pow_pos k
  have e : ((2 ^ k : Nat) : Int) = (2 : Int) ^ k := by rw [Int.natCast_pow]; rfl
  omega
theorem top_is {i : Int} {k : Nat} (h : i = (k : Int)) : (1 : Int) * 2 ^ i.toNat - 1 = ((2 ^ k - 1 : Nat) : Int) := by
  rw [h, Int.toNat_natCast, Int.one_mul, pow_sub]
theorem Ru.most_lt {R : Ru} (h : R.ok) : R.most < 2048 := by
  cases R with
  | cnt b s =>
    obtain ⟨h1, h2, h3, h4⟩ : 1 ≤ b ∧ b ≤ 6 ∧ 1 ≤ s ∧ s ≤ 20 := h
    have : 2 ^ b ≤ 2 ^ 6 := Nat.pow_le_pow_right (by decide) h2
    show 2 ^ b - 1 < 2048
    omega
  | shf b s =>
    obtain ⟨h1, h2, h3, h4⟩ : 1 ≤ b ∧ b ≤ 10 ∧ 1 ≤ s ∧ s ≤ 20 := h
    have : 2 ^ (b + 1) ≤ 2 ^ 11 := Nat.pow_le_pow_right (by decide) (by omega)
    show 2 ^ (b + 1) - 1 < 2048
    omega
  | rgh b =>
    obtain ⟨h1, h2⟩ : 1 ≤ b ∧ b ≤ 3 := h
    have : 2 ^ b ≤ 2 ^ 3 := Nat.pow_le_pow_right (by decide) h2
    show 2 ^ b - 1 < 2048
    omega
theorem next_cast (t m : Nat) : ((t : Int) / 2 ^ (m : Int).toNat + 1) * 2 ^ (m : Int).toNat = (((t / 2 ^ m + 1) * 2 ^ m : Nat) : Int) := by
  rw [Int.toNat_natCast, Int.natCast_mul, Int.natCast_add, Int.natCast_ediv, Int.natCast_pow]
  rfl
theorem kind_ne {R : Ru} {x : Str} (h : R.kind ≠ x) : decide (V.str R.kind = V.str x) = false := by rw [dec_str, decide_eq_false h]
section
variable {P : Program} {w : World} {K : PySem.W.Frag} {mg : Str → Option Value} {base : Heap}
theorem sc_check_rule : FnScope ["rule"] ["rule"] (defScope s_check_rule) := ⟨rfl, rfl, rfl, by decide +kernel, rfl, by decide +kernel, by decide +kernel⟩
theorem ok_check_rule (D : DefAt K mg "check_rule" s_check_rule ["rule"]) (C1 : Cl P w K mg base 1 "is_rule" ["rule"] spIsRule) : Cl P w K mg base 2 "check_rule" ["rule"] spCheckRule := by
  refine D.cl fun f fd F => ?_
  refine F.ok sc_check_rule (fun vs H Q E h => ?_) (fun cdv A outer s H vs Q E hr h => ?_)
  · obtain ⟨p, R, rfl, _⟩ := h
    rfl
  · obtain ⟨p, R, rfl, hp, ok, q⟩ := h
    refine ⟨_, pss_one (ps_if (pt_not (pt_val (pe_cl C1 hr (pa_cons (pv 0) pa_nil)))) (pss_one ps_never) pss_nil), ?_⟩
    exact ⟨_, rfl, p, R, rfl, hp, ok, fun H' sm => ⟨true, rfl, iteF (q H' sm)⟩⟩
theorem sc_top_mark : FnScope ["rule"] ["rule"] (defScope s_top_mark) := ⟨rfl, rfl, rfl, by decide +kernel, rfl, by decide +kernel, by decide +kernel⟩
theorem ok_top_mark (D : DefAt K mg "top_mark" s_top_mark ["rule"]) : Cl P w K mg base 1 "top_mark" ["rule"] spTopMark := by
  refine D.cl fun f fd F => ?_
  refine F.ok sc_top_mark (fun vs H Q E h => ?_) (fun cdv A outer s H vs Q E hr h => ?_)
  · obtain ⟨p, R, rfl, _⟩ := h
    rfl
  · obtain ⟨p, R, rfl, hp, ok, q⟩ := h
    have hb := R.bits_pos ok
    refine ⟨_, pss_cons (ps_if (pt_cmpR op_eq (pe_ix ix_tup (pv 0) pe_int (fun _ _ => rfl)) pe_str (nomark _)) (pss_one (ps_ret (pe_op op_sub (pe_op op_shl pe_int (pe_op op_add (pe_ix ix_tup (pv 0) pe_int (fun _ _ => rfl)) pe_int)) pe_int))) pss_nil)
      (pss_one (ps_ret (pe_op op_sub (pe_op op_shl pe_int (pe_ix ix_tup (pv 0) pe_int (fun _ _ => rfl))) pe_int))), ?_⟩
    refine ⟨_, rfl, p, _, _, _, rfl, rfl, SqT.of hp, R.at0, rfl, _, rfl, ?_⟩
    have low : ∀ _ : R.kind ≠ "shift", R.most = 2 ^ R.bits - 1 := by
      intro hk
      cases R with
      | cnt b s => rfl
      | shf b s => exact absurd rfl hk
      | rgh b => rfl
    by_cases hk : R.kind = "shift"
    · rw [dec_str, decide_eq_true hk]
      refine iteT ?_
      refine ⟨_, rfl, p, _, _, _, rfl, rfl, SqT.of hp, R.at1, _, _, rfl, rfl, _, _, rfl, rfl, ⟨by omega, by omega, by decide⟩, _, _, rfl, rfl, ?_⟩
      have e : (1 : Int) * 2 ^ ((R.bits : Int) + 1).toNat - 1 = (R.most : Int) := by
        rw [top_is (i := (R.bits : Int) + 1) (k := R.bits + 1) rfl]
        cases R with
        | cnt b s => exact absurd hk k_cs
        | shf b s => rfl
        | rgh b => exact absurd hk k_rs
      dsimp only
      rw [e]
      exact q
    · rw [dec_str, decide_eq_false hk]
      refine iteF ?_
      refine ⟨_, rfl, p, _, _, _, rfl, rfl, SqT.of hp, R.at1, _, _, rfl, rfl, ⟨by omega, by omega, by decide⟩, _, _, rfl, rfl, ?_⟩
      dsimp only
      rw [top_is (i := (R.bits : Int)) (k := R.bits) rfl, ← low hk]
      exact q
theorem sc_roughly : FnScope ["last", "mark", "begin", "end", "moment"] ["last", "mark", "begin", "end"] (defScope s_aged_roughly) := ⟨rfl, rfl, rfl, by decide +kernel, rfl, by decide +kernel, by decide +kernel⟩
theorem ok_roughly (D : DefAt K mg "_aged_roughly" s_aged_roughly ["last", "mark", "begin", "end"]) : Cl P w K mg base 1 "_aged_roughly" ["last", "mark", "begin", "end"] spRoughly := by
  refine D.cl fun f fd F => ?_
  refine F.ok sc_roughly (fun vs H Q E h => ?_) (fun cdv A outer s H vs Q E hr h => ?_)
  · obtain ⟨b, m, t, n, i1, i2, i3, i4, rfl, _⟩ := h
    rfl
  · obtain ⟨b, m, t, n, i1, i2, i3, i4, rfl, rfl, rfl, rfl, rfl, b1, b3, hm, ht, q⟩ := h
    refine ⟨_, pss_cons (ps_set (i := 4) sc_roughly.nd rfl (Or.inl rfl) (pv 2))
      (pss_cons (ps_while PassesOwn.never (pt_cmpR op_lt (pv 1) (pv 0) (nomark _))
        (pss_cons (ps_set (i := 4) sc_roughly.nd rfl (Or.inl rfl) (pe_op op_shl (pe_op op_add (pe_op op_shr (pv 4) (pv 1)) pe_int) (pv 1)))
        (pss_cons (ps_if (pt_cmpR op_gt (pv 4) (pv 3) (nomark _)) (pss_one ps_break) pss_nil)
        (pss_one (ps_aug (i := 1) sc_roughly.nd rfl (Or.inl rfl) pe_int ip_add)))))
      (pss_one (ps_ret (pv 1)))), ?_⟩
    refine ⟨_, rfl, ?_⟩
    refine while_by (fun σ H' => ∃ m' t' n' : Nat, σ = [some (.int ((2 ^ b - 1 : Nat) : Int)), some (.int (m' : Int)), some (.int (t : Int)), some (.int ((t + n : Nat) : Int)), some (.int (t' : Int))] ∧ H' = H ∧ t' + n' = t + n ∧ m' ≤ 2 ^ b - 1 ∧ ag (.rgh b) m t n = ag (.rgh b) m' t' n')
      (fun σ H' => match σ with | [_, some (.int i), _, _, _] => (((2 ^ b - 1 : Nat) : Int) - i).toNat | _ => 0) ⟨m, t, n, rfl, rfl, rfl, hm, rfl⟩ ?_ ?_
    · rintro σ H' ⟨m', t', n', rfl, rfl, e, hm', ea⟩
      have p3 : 2 ^ b ≤ 2 ^ 3 := Nat.pow_le_pow_right (by decide) b3
      refine ⟨_, rfl, _, rfl, _, _, rfl, rfl, _, rfl, ?_⟩
      by_cases c : m' < 2 ^ b - 1
      · rw [decide_eq_true (show (m' : Int) < ((2 ^ b - 1 : Nat) : Int) by omega)]
        refine iteT ?_
        have g1 := next_gt m' t'
        have g2 := next_le m' t'
        have p7 : 2 ^ m' ≤ 2 ^ 7 := Nat.pow_le_pow_right (by decide) (by omega)
        have hdiv : t' / 2 ^ m' ≤ t' := Nat.div_le_self _ _
        refine ⟨_, rfl, _, rfl, _, _, rfl, rfl, Int.natCast_nonneg _, _, _, rfl, rfl, _, rfl, _, _, rfl, rfl, ⟨Int.natCast_nonneg _, by omega, ?_⟩, ?_⟩
        · rw [Int.toNat_natCast]
          have e2 : ((t' : Int) / 2 ^ m' + 1) = ((t' / 2 ^ m' + 1 : Nat) : Int) := by
            rw [Int.natCast_add, Int.natCast_ediv, Int.natCast_pow]; rfl
          rw [e2]
          show t' / 2 ^ m' + 1 < 2 ^ 64
          have : t' ≤ 1000000000 := by omega
          have : (2 : Nat) ^ 64 = 18446744073709551616 := by decide
          omega
        · dsimp only
          rw [next_cast]
          refine ⟨_, rfl, _, rfl, _, _, rfl, rfl, _, rfl, ?_⟩
          by_cases c2 : t + n < (t' / 2 ^ m' + 1) * 2 ^ m'
          · rw [decide_eq_true (show ((t + n : Nat) : Int) < (((t' / 2 ^ m' + 1) * 2 ^ m' : Nat) : Int) by omega)]
            refine iteT ?_
            have es : ag (.rgh b) m t n = m' := by
              rw [ea]
              exact ag_rgh_still b m' t' n' (by omega)
            rw [es] at q
            exact ⟨_, rfl, q⟩
          · rw [decide_eq_false (show ¬ ((t + n : Nat) : Int) < (((t' / 2 ^ m' + 1) * 2 ^ m' : Nat) : Int) by omega)]
            refine iteF ?_
            refine ⟨_, rfl, _, _, rfl, rfl, ⟨m' + 1, (t' / 2 ^ m' + 1) * 2 ^ m', t + n - (t' / 2 ^ m' + 1) * 2 ^ m', rfl, rfl, by omega, by omega, ?_⟩, ?_⟩
            · obtain ⟨k, hk⟩ : ∃ k, n' = ((t' / 2 ^ m' + 1) * 2 ^ m' - t') + k := ⟨n' - ((t' / 2 ^ m' + 1) * 2 ^ m' - t'), by omega⟩
              rw [ea, hk, ag_add, ag_rgh_next b m' t' (by omega)]
              rw [show t' + ((t' / 2 ^ m' + 1) * 2 ^ m' - t') = (t' / 2 ^ m' + 1) * 2 ^ m' by omega]
              rw [show t + n - (t' / 2 ^ m' + 1) * 2 ^ m' = k by omega]
            · show (((2 ^ b - 1 : Nat) : Int) - ((m' : Int) + 1)).toNat < (((2 ^ b - 1 : Nat) : Int) - (m' : Int)).toNat
              omega
      · rw [decide_eq_false (show ¬ (m' : Int) < ((2 ^ b - 1 : Nat) : Int) by omega)]
        refine iteF ?_
        have es : ag (.rgh b) m t n = m' := by
          have : m' = 2 ^ b - 1 := by omega
          rw [ea, this]
          exact ag_rgh_fin b t' n'
        rw [es] at q
        exact ⟨_, rfl, q⟩
    · rintro σ H' Q1 Q2 i ⟨x, hx, y, hy, i', j', e1, e2, k, ek, qq⟩
      exact ⟨x, hx, y, hy, i', j', e1, e2, k, ek, i _ _ qq⟩
theorem sc_aged_on : FnScope ["rule", "mark", "begin", "end", "step", "times"] ["rule", "mark", "begin", "end"] (defScope s_aged_on) := ⟨rfl, rfl, rfl, by decide +kernel, rfl, by decide +kernel, by decide +kernel⟩
theorem Ru.at2 {R : Ru} (h : R.kind ≠ "rough") : atI R.tup 2 = some (.int (R.step : Int)) := by
  cases R with
  | cnt b s => exact atI_nat (j := 2) rfl
  | shf b s => exact atI_nat (j := 2) rfl
  | rgh b => exact absurd rfl h
theorem Ru.step_ok {R : Ru} (h : R.ok) : 1 ≤ R.step ∧ R.step ≤ 20 := by
  cases R with
  | cnt b s => obtain ⟨h1, h2, h3, h4⟩ : 1 ≤ b ∧ b ≤ 6 ∧ 1 ≤ s ∧ s ≤ 20 := h; exact ⟨h3, h4⟩
  | shf b s => obtain ⟨h1, h2, h3, h4⟩ : 1 ≤ b ∧ b ≤ 10 ∧ 1 ≤ s ∧ s ≤ 20 := h; exact ⟨h3, h4⟩
  | rgh b => exact ⟨Nat.le_refl 1, (by decide : 1 ≤ 20)⟩
theorem times_cast (t n s : Nat) : ((t + n : Nat) : Int) / (s : Int) - (t : Int) / (s : Int) = (((t + n) / s - t / s : Nat) : Int) := by
  have g := div_mono s (Nat.le_add_right t n)
  rw [← Int.natCast_ediv, ← Int.natCast_ediv]
  omega
theorem ok_aged_on (D : DefAt K mg "aged_on" s_aged_on ["rule", "mark", "begin", "end"]) (m_min : mg "min" = none) (C1 : Cl P w K mg base 1 "top_mark" ["rule"] spTopMark) (C2 : Cl P w K mg base 1 "_aged_roughly" ["last", "mark", "begin", "end"] spRoughly) :
    Cl P w K mg base 2 "aged_on" ["rule", "mark", "begin", "end"] spAged := by
  refine D.cl fun f fd F => ?_
  refine F.ok sc_aged_on (fun vs H Q E h => ?_) (fun cdv A outer s H vs Q E hr h => ?_)
  · obtain ⟨p, R, m, t, n, i1, i2, i3, rfl, _⟩ := h
    rfl
  · obtain ⟨p, R, m, t, n, i1, i2, i3, rfl, rfl, rfl, rfl, hp, ok, hm, ht, q⟩ := h
    have hs := R.step_ok ok
    refine ⟨_, pss_cons (ps_if (pt_cmpR op_eq (pe_ix ix_tup (pv 0) pe_int (fun _ _ => rfl)) pe_str (nomark _)) (pss_one (ps_ret (pe_cl C2 hr (pa_cons (pe_cl C1 hr (pa_cons (pv 0) pa_nil)) (pa_cons (pv 1) (pa_cons (pv 2) (pa_cons (pv 3) pa_nil))))))) pss_nil)
      (pss_cons (ps_set (i := 4) sc_aged_on.nd rfl (Or.inl rfl) (pe_ix ix_tup (pv 0) pe_int (fun _ _ => rfl)))
      (pss_cons (ps_set (i := 5) sc_aged_on.nd rfl (Or.inl rfl) (pe_op op_sub (pe_op op_fdiv (pv 3) (pv 4)) (pe_op op_fdiv (pv 2) (pv 4))))
      (pss_cons (ps_if (pt_cmpR op_eq (pe_ix ix_tup (pv 0) pe_int (fun _ _ => rfl)) pe_str (nomark _)) (pss_one (ps_ret (pe_op op_shr (pv 1) (pv 5)))) pss_nil)
      (pss_one (ps_ret (pe_callB (call_min2 rfl) (by rfl) m_min (by decide +kernel) (pa_cons (pe_op op_add (pv 1) (pv 5)) (pa_cons (pe_cl C1 hr (pa_cons (pv 0) pa_nil)) pa_nil)))))))), ?_⟩
    refine ⟨_, rfl, p, _, _, _, rfl, rfl, SqT.of hp, R.at0, rfl, _, rfl, ?_⟩
    by_cases hk : R.kind = "rough"
    · rw [dec_str, decide_eq_true hk]
      refine iteT ?_
      cases R with
      | cnt b s => exact absurd hk k_cr
      | shf b s => exact absurd hk k_sr
      | rgh b =>
        obtain ⟨b1, b3⟩ : 1 ≤ b ∧ b ≤ 3 := ok
        exact ⟨_, rfl, p, .rgh b, rfl, hp, ⟨b1, b3⟩, _, rfl, _, rfl, _, rfl, b, m, t, n, _, _, _, _, rfl, rfl, rfl, rfl, rfl, b1, b3, hm, ht, q H (Same.refl H)⟩
    · rw [dec_str, decide_eq_false hk]
      refine iteF ?_
      refine ⟨_, rfl, p, _, _, _, rfl, rfl, SqT.of hp, R.at2 hk, ?_⟩
      refine ⟨_, rfl, _, rfl, _, _, rfl, rfl, ⟨by omega, by omega⟩, _, rfl, _, rfl, _, _, rfl, rfl, ⟨by omega, by omega⟩, _, _, rfl, rfl, ?_⟩
      dsimp only
      rw [times_cast]
      refine ⟨_, rfl, p, _, _, _, rfl, rfl, SqT.of hp, R.at0, rfl, _, rfl, ?_⟩
      by_cases hk2 : R.kind = "shift"
      · rw [dec_str, decide_eq_true hk2]
        refine iteT ?_
        refine ⟨_, rfl, _, rfl, _, _, rfl, rfl, Int.natCast_nonneg _, ?_⟩
        have q' := q H (Same.refl H)
        cases R with
        | cnt b s => exact absurd hk2 k_cs
        | rgh b => exact absurd rfl hk
        | shf b s =>
          rw [ag_shf b s m t hs.1 n, Int.natCast_ediv, Int.natCast_pow] at q'
          dsimp only
          rw [Int.toNat_natCast]
          exact q'
      · rw [dec_str, decide_eq_false hk2]
        refine iteF ?_
        refine ⟨_, rfl, _, rfl, _, _, rfl, rfl, _, rfl, p, R, rfl, hp, ok, _, _, rfl, ?_⟩
        have q' := q H (Same.refl H)
        cases R with
        | shf b s => exact absurd rfl hk2
        | rgh b => exact absurd rfl hk
        | cnt b s =>
          rw [ag_cnt b s m t hs.1 hm n] at q'
          have e : (if ((Ru.cnt b s).most : Int) < (m : Int) + (((t + n) / (Ru.cnt b s).step - t / (Ru.cnt b s).step : Nat) : Int) then ((Ru.cnt b s).most : Int) else (m : Int) + (((t + n) / (Ru.cnt b s).step - t / (Ru.cnt b s).step : Nat) : Int)) =
              ((min (m + ((t + n) / s - t / s)) (2 ^ b - 1) : Nat) : Int) := by
            show (if ((2 ^ b - 1 : Nat) : Int) < (m : Int) + (((t + n) / s - t / s : Nat) : Int) then ((2 ^ b - 1 : Nat) : Int) else (m : Int) + (((t + n) / s - t / s : Nat) : Int)) = _
            split <;> omega
          rw [e]
          exact q'
end
section
variable {P : Program} {w : World} {K : PySem.W.Frag} {mg : Str → Option Value} {base : Heap}
theorem sc_check_mark : FnScope ["rule", "mark"] ["rule", "mark"] (defScope s_check_mark) := ⟨rfl, rfl, rfl, by decide +kernel, rfl, by decide +kernel, by decide +kernel⟩
theorem ok_check_mark (D : DefAt K mg "check_mark" s_check_mark ["rule", "mark"]) (C1 : Cl P w K mg base 1 "top_mark" ["rule"] spTopMark) : Cl P w K mg base 2 "check_mark" ["rule", "mark"] spCheckMark := by
  refine D.cl fun f fd F => ?_
  refine F.ok sc_check_mark (fun vs H Q E h => ?_) (fun cdv A outer s H vs Q E hr h => ?_)
  · obtain ⟨p, R, i, rfl, _⟩ := h
    rfl
  · obtain ⟨p, R, i, rfl, hp, ok, h0, h1, q⟩ := h
    refine ⟨_, pss_one (ps_if (PW.pt (pw_or (pt_cmpR op_lt (pv 1) pe_int (nomark _)) (pw_or1 (pt_cmpR op_gt (pv 1) (pe_cl C1 hr (pa_cons (pv 0) pa_nil)) (nomark _))))) (pss_one ps_never) pss_nil), ?_⟩
    refine ⟨_, rfl, _, _, rfl, rfl, _, rfl, ?_⟩
    rw [decide_eq_false (show ¬ i < 0 by omega)]
    refine iteF ⟨_, rfl, _, rfl, p, R, rfl, hp, ok, _, _, rfl, rfl, _, rfl, ?_⟩
    rw [decide_eq_false (show ¬ (R.most : Int) < i by omega)]
    exact iteF q
theorem sc_check_moment : FnScope ["moment"] ["moment"] (defScope s_check_moment) := ⟨rfl, rfl, rfl, by decide +kernel, rfl, by decide +kernel, by decide +kernel⟩
theorem ok_check_moment (D : DefAt K mg "check_moment" s_check_moment ["moment"]) {tk : Tok} (gl : mg "LAST_MOMENT" = some (.int 1000000000 tk)) : Cl P w K mg base 1 "check_moment" ["moment"] spCheckMoment := by
  refine D.cl fun f fd F => ?_
  refine F.ok sc_check_moment (fun vs H Q E h => ?_) (fun cdv A outer s H vs Q E hr h => ?_)
  · obtain ⟨i, rfl, _⟩ := h
    rfl
  · obtain ⟨i, rfl, h0, h1, q⟩ := h
    refine ⟨_, pss_one (ps_if (PW.pt (pw_or (pt_cmpR op_lt (pv 0) pe_int (nomark _)) (pw_or1 (pt_cmpR op_gt (pv 0) (pe_glob (v := .int 1000000000) (by rfl) gl ⟨_, rfl⟩) (nomark _))))) (pss_one ps_never) pss_nil), ?_⟩
    refine ⟨_, rfl, _, _, rfl, rfl, _, rfl, ?_⟩
    rw [decide_eq_false (show ¬ i < 0 by omega)]
    refine iteF ⟨_, rfl, _, _, rfl, rfl, _, rfl, ?_⟩
    rw [decide_eq_false (show ¬ (1000000000 : Int) < i by omega)]
    exact iteF q
end
/-! ### the program: what a mark tells -/
def oV : Option Nat → V
  | none => .non
  | some n => .int (n : Int)
/-- the mark of a thing that is seen -/
def seenM : Ru → Nat → Nat
  | .shf b _, m => if m < 2 ^ b then m + 2 ^ b else m
  | _, _ => 0
def spEndMark : Sp := fun vs H Q _ => ∃ (p : Addr) (R : Ru), vs = [.ref p] ∧ RuAt H p R ∧ R.ok ∧ Q (.int (R.fin : Int)) H
def spSeen : Sp := fun vs H Q _ => ∃ (p : Addr) (R : Ru) (m : Nat) (i : Int), vs = [.ref p, .int i] ∧ i = (m : Int) ∧ RuAt H p R ∧ R.ok ∧ Q (.int (seenM R m : Int)) H
def spAgings : Sp := fun vs H Q _ => ∃ (p : Addr) (R : Ru) (m : Nat) (i : Int), vs = [.ref p, .int i] ∧ i = (m : Int) ∧ RuAt H p R ∧ R.ok ∧ R.isRgh = false ∧ m ≤ R.most ∧ Q (.int (R.ags m : Int)) H
def spStepped : Sp := fun vs H Q _ => ∃ (p : Addr) (R : Ru) (now m : Nat) (i1 i2 : Int), vs = [.ref p, .int i1, .int i2] ∧ i1 = (now : Int) ∧ i2 = (m : Int) ∧ RuAt H p R ∧ R.ok ∧ R.isRgh = false ∧ m ≤ R.most ∧
  ∀ H' T x y, IsSpan R now m x y → H T = none → Same H H' → H' T = some (.tup [oV x, oV y]) → Q (.ref T) H'
def spRoughSpan : Sp := fun vs H Q _ => ∃ (p : Addr) (R : Ru) (now m : Nat) (i1 i2 : Int), vs = [.ref p, .int i1, .int i2] ∧ i1 = (now : Int) ∧ i2 = (m : Int) ∧ RuAt H p R ∧ R.ok ∧ R.isRgh = true ∧ m ≤ R.most ∧ now ≤ 1000000000 ∧
  ∀ H' T x y, IsSpan R now m x y → H T = none → Same H H' → H' T = some (.tup [oV x, oV y]) → Q (.ref T) H'
def spSpan : Sp := fun vs H Q _ => ∃ (p : Addr) (R : Ru) (now m : Nat) (i1 i2 : Int), vs = [.ref p, .int i1, .int i2] ∧ i1 = (now : Int) ∧ i2 = (m : Int) ∧ RuAt H p R ∧ R.ok ∧ m ≤ R.most ∧ now ≤ 1000000000 ∧
  ∀ H' T x y, IsSpan R now m x y → H T = none → Same H H' → H' T = some (.tup [oV x, oV y]) → Q (.ref T) H'
theorem bits_bl (n : Nat) : Builtin.Int.intBits (n : Int) = bl n := by
  unfold Builtin.Int.intBits bl
  by_cases h : n = 0
  · subst h; rfl
  · rw [if_neg h, if_neg (by simpa using h)]
    rfl
theorem bl_two (b : Nat) : bl (2 ^ b) = b + 1 := by
  have p := Nat.two_pow_pos b
  obtain ⟨h1, h2, h3⟩ := bl_pos (show 2 ^ b ≠ 0 by omega)
  have := pow_uniq h1 (show 2 ^ b < 2 ^ (bl (2 ^ b) - 1 + 1) by rw [show bl (2 ^ b) - 1 + 1 = bl (2 ^ b) by omega]; exact h2) (Nat.le_refl _) (show 2 ^ b < 2 ^ (b + 1) by rw [Nat.pow_succ]; omega)
  omega
theorem Ru.rough_iff (R : Ru) : (R.kind = "rough") ↔ R.isRgh = true := by
  cases R with
  | cnt b s => exact ⟨fun h => absurd h k_cr, fun h => nomatch h⟩
  | shf b s => exact ⟨fun h => absurd h k_sr, fun h => nomatch h⟩
  | rgh b => exact ⟨fun _ => rfl, fun _ => rfl⟩
theorem shl_is {i : Int} {k : Nat} (h : i = (k : Int)) : (1 : Int) * 2 ^ i.toNat = ((2 ^ k : Nat) : Int) := by
  rw [h, Int.toNat_natCast, Int.one_mul, Int.natCast_pow]
  rfl
section
variable {P : Program} {w : World} {K : PySem.W.Frag} {mg : Str → Option Value} {base : Heap}
theorem sc_end_mark : FnScope ["rule"] ["rule"] (defScope s_end_mark) := ⟨rfl, rfl, rfl, by decide +kernel, rfl, by decide +kernel, by decide +kernel⟩
theorem ok_end_mark (D : DefAt K mg "end_mark" s_end_mark ["rule"]) (C1 : Cl P w K mg base 1 "top_mark" ["rule"] spTopMark) : Cl P w K mg base 2 "end_mark" ["rule"] spEndMark := by
  refine D.cl fun f fd F => ?_
  refine F.ok sc_end_mark (fun vs H Q E h => ?_) (fun cdv A outer s H vs Q E hr h => ?_)
  · obtain ⟨p, R, rfl, _⟩ := h
    rfl
  · obtain ⟨p, R, rfl, hp, ok, q⟩ := h
    refine ⟨_, pss_cons (ps_if (pt_cmpR op_eq (pe_ix ix_tup (pv 0) pe_int (fun _ _ => rfl)) pe_str (nomark _)) (pss_one (ps_ret pe_int)) pss_nil) (pss_one (ps_ret (pe_cl C1 hr (pa_cons (pv 0) pa_nil)))), ?_⟩
    refine ⟨_, rfl, p, _, _, _, rfl, rfl, SqT.of hp, R.at0, rfl, _, rfl, ?_⟩
    rw [dec_str]
    by_cases hk : R.kind = "shift"
    · rw [decide_eq_true hk]
      refine iteT ?_
      cases R with
      | cnt b s => exact absurd hk k_cs
      | rgh b => exact absurd hk k_rs
      | shf b s => exact q
    · rw [decide_eq_false hk]
      refine iteF ⟨_, rfl, p, R, rfl, hp, ok, ?_⟩
      cases R with
      | cnt b s => exact q
      | rgh b => exact q
      | shf b s => exact absurd rfl hk
theorem sc_seen : FnScope ["rule", "mark", "highest_bit"] ["rule", "mark"] (defScope s_seen) := ⟨rfl, rfl, rfl, by decide +kernel, rfl, by decide +kernel, by decide +kernel⟩
theorem ok_seen (D : DefAt K mg "seen" s_seen ["rule", "mark"]) : Cl P w K mg base 1 "seen" ["rule", "mark"] spSeen := by
  refine D.cl fun f fd F => ?_
  refine F.ok sc_seen (fun vs H Q E h => ?_) (fun cdv A outer s H vs Q E hr h => ?_)
  · obtain ⟨p, R, m, i, rfl, _⟩ := h
    rfl
  · obtain ⟨p, R, m, i, rfl, rfl, hp, ok, q⟩ := h
    refine ⟨_, pss_cons (ps_if (pt_cmpR op_ne (pe_ix ix_tup (pv 0) pe_int (fun _ _ => rfl)) pe_str (nomark _)) (pss_one (ps_ret pe_int)) pss_nil)
      (pss_cons (ps_set (i := 2) sc_seen.nd rfl (Or.inl rfl) (pe_op op_shl pe_int (pe_ix ix_tup (pv 0) pe_int (fun _ _ => rfl))))
      (pss_cons (ps_if (pt_cmpR op_lt (pv 1) (pv 2) (nomark _)) (pss_one (ps_ret (pe_op op_add (pv 1) (pv 2)))) pss_nil)
      (pss_one (ps_ret (pv 1))))), ?_⟩
    refine ⟨_, rfl, p, _, _, _, rfl, rfl, SqT.of hp, R.at0, rfl, _, rfl, ?_⟩
    rw [dec_str]
    by_cases hk : R.kind = "shift"
    · rw [decide_eq_true hk]
      refine iteF ?_
      cases R with
      | cnt b s => exact absurd hk k_cs
      | rgh b => exact absurd hk k_rs
      | shf b s =>
        have hb : b ≤ 10 := ok.2.1
        refine ⟨_, rfl, p, _, _, _, rfl, rfl, SqT.of hp, Ru.at1 (.shf b s), _, _, rfl, rfl, ⟨Int.natCast_nonneg _, (by show (b : Int) ≤ 1000000; omega), by decide⟩, ?_⟩
        dsimp only
        rw [show (1 : Int) * 2 ^ (((Ru.shf b s).bits : Nat) : Int).toNat = ((2 ^ b : Nat) : Int) from shl_is (k := b) rfl]
        refine ⟨_, rfl, _, rfl, _, _, rfl, rfl, _, rfl, ?_⟩
        by_cases c : m < 2 ^ b
        · rw [decide_eq_true (show (m : Int) < ((2 ^ b : Nat) : Int) by omega)]
          refine iteT ⟨_, rfl, _, rfl, _, _, rfl, rfl, ?_⟩
          rw [show seenM (.shf b s) m = m + 2 ^ b from if_pos c] at q
          exact q
        · rw [decide_eq_false (show ¬ (m : Int) < ((2 ^ b : Nat) : Int) by omega)]
          refine iteF ⟨_, rfl, ?_⟩
          rw [show seenM (.shf b s) m = m from if_neg c] at q
          exact q
    · rw [decide_eq_false hk]
      refine iteT ?_
      cases R with
      | cnt b s => exact q
      | rgh b => exact q
      | shf b s => exact absurd rfl hk
theorem sc_agings : FnScope ["rule", "mark", "fresh"] ["rule", "mark"] (defScope s_agings) := ⟨rfl, rfl, rfl, by decide +kernel, rfl, by decide +kernel, by decide +kernel⟩
theorem ok_agings (D : DefAt K mg "_agings" s_agings ["rule", "mark"]) (C1 : Cl P w K mg base 1 "seen" ["rule", "mark"] spSeen) (C2 : Cl P w K mg base 2 "end_mark" ["rule"] spEndMark) : Cl P w K mg base 3 "_agings" ["rule", "mark"] spAgings := by
  refine D.cl fun f fd F => ?_
  refine F.ok sc_agings (fun vs H Q E h => ?_) (fun cdv A outer s H vs Q E hr h => ?_)
  · obtain ⟨p, R, m, i, rfl, _⟩ := h
    rfl
  · obtain ⟨p, R, m, i, rfl, rfl, hp, ok, nr, hm, q⟩ := h
    refine ⟨_, pss_cons (ps_set (i := 2) sc_agings.nd rfl (Or.inl rfl) (pe_cl C1 hr (pa_cons (pv 0) (pa_cons (pe_cl C2 hr (pa_cons (pv 0) pa_nil)) pa_nil))))
      (pss_cons (ps_if (pt_cmpR op_eq (pe_ix ix_tup (pv 0) pe_int (fun _ _ => rfl)) pe_str (nomark _)) (pss_one (ps_ret (pe_op op_sub (pe_bits (pv 2)) (pe_bits (pv 1))))) pss_nil)
      (pss_one (ps_ret (pe_op op_sub (pv 1) (pv 2))))), ?_⟩
    refine ⟨_, rfl, _, rfl, p, R, rfl, hp, ok, p, R, R.fin, _, rfl, rfl, hp, ok, ?_⟩
    refine ⟨_, rfl, p, _, _, _, rfl, rfl, SqT.of hp, R.at0, rfl, _, rfl, ?_⟩
    rw [dec_str]
    cases R with
    | rgh b => cases nr
    | cnt b s =>
      rw [decide_eq_false (show ¬ (Ru.cnt b s).kind = "shift" from k_cs)]
      refine iteF ⟨_, rfl, _, rfl, _, _, rfl, rfl, ?_⟩
      have e : (m : Int) - ((seenM (.cnt b s) (Ru.cnt b s).fin : Nat) : Int) = ((Ru.cnt b s).ags m : Int) := by
        show (m : Int) - ((0 : Nat) : Int) = (m : Int)
        omega
      dsimp only
      rw [e]
      exact q
    | shf b s =>
      rw [decide_eq_true (show (Ru.shf b s).kind = "shift" from rfl)]
      refine iteT ⟨_, rfl, _, rfl, _, rfl, _, rfl, _, _, rfl, rfl, ?_⟩
      have hm' : m ≤ 2 ^ (b + 1) - 1 := hm
      have pb := Nat.two_pow_pos (b + 1)
      have pb' := Nat.two_pow_pos b
      have e1 : seenM (.shf b s) (Ru.shf b s).fin = 2 ^ b := by
        exact (if_pos (show (Ru.shf b s).fin < 2 ^ b from pb')).trans (Nat.zero_add _)
      have l := bl_le (show m < 2 ^ (b + 1) by omega)
      have e : ((Builtin.Int.intBits ((seenM (.shf b s) (Ru.shf b s).fin : Nat) : Int) : Nat) : Int) - ((Builtin.Int.intBits (m : Int) : Nat) : Int) = ((Ru.shf b s).ags m : Int) := by
        rw [e1, bits_bl, bits_bl, bl_two]
        show ((b + 1 : Nat) : Int) - (bl m : Int) = ((b + 1 - bl m : Nat) : Int)
        omega
      dsimp only
      rw [e]
      exact q
theorem sc_rough : FnScope ["rule", "now", "mark", "end", "fresh", "found", "ago", "reached"] ["rule", "now", "mark"] (defScope s_rough_span) := ⟨rfl, rfl, rfl, by decide +kernel, rfl, by decide +kernel, by decide +kernel⟩
theorem ok_rough (D : DefAt K mg "_rough_span" s_rough_span ["rule", "now", "mark"]) (m_range : mg "range" = none) (C1 : Cl P w K mg base 2 "end_mark" ["rule"] spEndMark) (C2 : Cl P w K mg base 1 "seen" ["rule", "mark"] spSeen) (C3 : Cl P w K mg base 2 "aged_on" ["rule", "mark", "begin", "end"] spAged) :
    Cl P w K mg base 3 "_rough_span" ["rule", "now", "mark"] spRoughSpan := by
  refine D.cl fun f fd F => ?_
  refine F.ok sc_rough (fun vs H Q E h => ?_) (fun cdv A outer s H vs Q E hr h => ?_)
  · obtain ⟨p, R, now, m, i1, i2, rfl, _⟩ := h
    rfl
  · obtain ⟨p, R, now, m, i1, i2, rfl, rfl, rfl, hp, ok, ir, hm, hnow, q⟩ := h
    cases R with
    | cnt b s => cases ir
    | shf b s => cases ir
    | rgh b =>
    refine ⟨_, pss_cons (ps_set (i := 3) sc_rough.nd rfl (Or.inl rfl) (pe_cl C1 hr (pa_cons (pv 0) pa_nil)))
      (pss_cons (ps_set (i := 4) sc_rough.nd rfl (Or.inl rfl) (pe_cl C2 hr (pa_cons (pv 0) (pa_cons (pv 3) pa_nil))))
      (pss_cons (ps_set (i := 5) sc_rough.nd rfl (Or.inl rfl) (pe_lst pa_nil))
      (pss_cons (ps_for PassesOwn.never rfl (pi_range1 (by rfl) m_range (pa_cons (pe_op op_add (pv 1) pe_int) pa_nil)) (pg_name (i := 6) sc_rough.nd rfl (Or.inl rfl))
        (pss_cons (ps_set (i := 7) sc_rough.nd rfl (Or.inl rfl) (pe_cl C3 hr (pa_cons (pv 0) (pa_cons (pv 4) (pa_cons (pe_op op_sub (pv 1) (pv 6)) (pa_cons (pv 1) pa_nil))))))
        (pss_cons (ps_if (pt_cmpR op_eq (pv 7) (pv 2) (nomark _)) (pss_one (ps_expr (pe_bm PySem.F.plainAttrs_list PySem.F.slot_list_append PySem.F.type_list_append mt_append (pv 5) (pa_cons (pv 6) pa_nil)))) pss_nil)
        (pss_one (ps_if (pt_cmpR op_eq (pv 7) (pv 3) (nomark _)) (pss_one ps_break) pss_nil)))))
      (pss_cons (ps_if (pt_not (pt_truth (pv 5) (by intro _; rfl))) (pss_one (ps_ret (pe_tup (pa_cons pe_non (pa_cons pe_non pa_nil))))) pss_nil)
      (pss_cons (ps_if (pt_cmpR op_eq (pv 2) (pv 3) (nomark _)) (pss_one (ps_ret (pe_tup (pa_cons (pe_ix ix_list (pv 5) pe_int (fun _ _ => rfl)) (pa_cons pe_non pa_nil))))) pss_nil)
      (pss_one (ps_ret (pe_tup (pa_cons (pe_ix ix_list (pv 5) pe_int (fun _ _ => rfl)) (pa_cons (pe_ix ix_list (pv 5) (pe_un un_neg pe_int) (fun _ _ => rfl)) pa_nil)))))))))), ?_⟩
    refine ⟨_, rfl, p, .rgh b, rfl, hp, ok, ?_⟩
    refine ⟨_, rfl, _, rfl, p, .rgh b, (Ru.rgh b).fin, _, rfl, rfl, hp, ok, ?_⟩
    refine ⟨Nat.zero_le _, fun L nL => ?_⟩
    refine ⟨_, rfl, _, _, rfl, rfl, _, rfl, by omega, by omega, ?_⟩
    rw [show ((now : Int) + 1).toNat = now + 1 by omega]
    refine for_rangeB (lo := 0) (n := now + 1)
      (fun i σ H' => ∃ v6 v7 : Option V, σ = [some (.ref p), some (.int (now : Int)), some (.int (m : Int)), some (.int ((Ru.rgh b).fin : Int)), some (.int ((0 : Nat) : Int)), some (.ref L), v6, v7] ∧ Kp2 L L (upd H L (.lst [])) H' ∧
        H' L = some (.lst ((fl (.rgh b) now m i).map fun (a : Nat) => V.int (a : Int))) ∧ ∀ a, a < i → one (.rgh b) now a ≠ 2 ^ b - 1)
      (fun σ H' => ∃ (c : Nat) (v6 v7 : Option V), σ = [some (.ref p), some (.int (now : Int)), some (.int (m : Int)), some (.int ((Ru.rgh b).fin : Int)), some (.int ((0 : Nat) : Int)), some (.ref L), v6, v7] ∧ Kp2 L L (upd H L (.lst [])) H' ∧
        H' L = some (.lst ((fl (.rgh b) now m c).map fun (a : Nat) => V.int (a : Int))) ∧ Cov (.rgh b) now m c)
      ⟨none, none, rfl, Kp2.refl _ _ _, upd_same, fun a h => absurd h (Nat.not_lt_zero a)⟩ ?_ ?_ ?_
    · rintro bk hbk i σ H' hi ⟨v6, v7, rfl, kk, eL, nf⟩
      have hp' : H' p = some (.tup (Ru.rgh b).tup) := by
        have npL : p ≠ L := ne_of_none hp nL
        exact kk _ _ (by rw [upd_ne npL]; exact hp) npL npL
      have i127 : i ≤ 127 := by
        by_cases h : i ≤ 127
        · exact h
        · exact absurd (one_rgh_far ok.2 (Nat.le_refl 127)) (nf 127 (by omega))
      refine ⟨_, rfl, _, rfl, _, rfl, _, rfl, _, _, rfl, rfl, _, rfl, p, .rgh b, 0, now - i, i, _, _, _, rfl, rfl, by omega, by omega, hp', ok, Nat.zero_le _, by omega, fun H2 s2 => ?_⟩
      have eL2 := s2 _ _ eL
      have kk2 : Kp2 L L (upd H L (.lst [])) H2 := kk.trans (Same.kp2 s2)
      have oi : ag (.rgh b) 0 (now - i) i = one (.rgh b) now i := rfl
      rw [oi]
      refine ⟨_, rfl, _, rfl, rfl, _, rfl, ?_⟩
      rw [dec_int]
      -- the second test, for any list that then stands
      have fin : ∀ (H3 : Hp), Kp2 L L (upd H L (.lst [])) H3 → H3 L = some (.lst ((fl (.rgh b) now m (i + 1)).map fun (a : Nat) => V.int (a : Int))) →
          (if decide (V.int (one (.rgh b) now i : Int) = V.int ((Ru.rgh b).fin : Int)) = true then bk [some (.ref p), some (.int (now : Int)), some (.int (m : Int)), some (.int ((Ru.rgh b).fin : Int)), some (.int ((0 : Nat) : Int)), some (.ref L), some (.int (0 + (i : Int))), some (.int (one (.rgh b) now i : Int))] H3
            else ∃ v6 v7 : Option V, [some (.ref p), some (.int (now : Int)), some (.int (m : Int)), some (.int ((Ru.rgh b).fin : Int)), some (.int ((0 : Nat) : Int)), some (.ref L), some (V.int (0 + (i : Int))), some (V.int (one (.rgh b) now i : Int))] = [some (.ref p), some (.int (now : Int)), some (.int (m : Int)), some (.int ((Ru.rgh b).fin : Int)), some (.int ((0 : Nat) : Int)), some (.ref L), v6, v7] ∧ Kp2 L L (upd H L (.lst [])) H3 ∧
              H3 L = some (.lst ((fl (.rgh b) now m (i + 1)).map fun (a : Nat) => V.int (a : Int))) ∧ ∀ a, a < i + 1 → one (.rgh b) now a ≠ 2 ^ b - 1) := by
        intro H3 k3 e3
        rw [dec_int]
        by_cases z : one (.rgh b) now i = 2 ^ b - 1
        · rw [decide_eq_true (show (one (.rgh b) now i : Int) = ((Ru.rgh b).fin : Int) by rw [z]; rfl), if_pos rfl]
          exact hbk _ _ ⟨i + 1, _, _, rfl, k3, e3, cov_rgh z (by omega)⟩
        · rw [decide_eq_false (show ¬ (one (.rgh b) now i : Int) = ((Ru.rgh b).fin : Int) from fun y => z (Int.ofNat.inj y)), if_neg Bool.false_ne_true]
          refine ⟨_, _, rfl, k3, e3, fun a ha => ?_⟩
          by_cases ea : a = i
          · rw [ea]; exact z
          · exact nf a (by omega)
      by_cases c : one (.rgh b) now i = m
      · rw [decide_eq_true (show (one (.rgh b) now i : Int) = (m : Int) by omega)]
        refine iteT ⟨_, rfl, .inl ⟨rfl, _, SqL.of eL2⟩, _, rfl, L, _, _, rfl, rfl, eL2, ?_, ?_⟩
        · rw [List.length_map]
          exact small1000 (Nat.le_trans (fl_len _ _ _ _) (by omega))
        · have e3 : (upd H2 L (.lst ((fl (.rgh b) now m i).map (fun (a : Nat) => V.int (a : Int)) ++ [V.int (0 + (i : Int))]))) L = some (.lst ((fl (.rgh b) now m (i + 1)).map fun (a : Nat) => V.int (a : Int))) := by
            rw [upd_same, fl_succ, if_pos (by rw [poss_rgh, decide_eq_true c]), List.map_append, Int.zero_add]
            rfl
          exact ⟨_, rfl, _, rfl, rfl, _, rfl, fin _ (fun x o e n1 n2 => by rw [upd_ne n1]; exact kk2 x o e n1 n2) e3⟩
      · rw [decide_eq_false (show ¬ (one (.rgh b) now i : Int) = (m : Int) by omega)]
        refine iteF ?_
        refine ⟨_, rfl, _, rfl, rfl, _, rfl, fin _ kk2 ?_⟩
        rw [fl_succ, if_neg (by rw [poss_rgh, decide_eq_false c]; exact Bool.false_ne_true)]
        exact eL2
    · rintro σ H' ⟨v6, v7, rfl, kk, eL, nf⟩
      exact ⟨now + 1, v6, v7, rfl, kk, eL, cov_end _ _ _⟩
    · rintro σ H' ⟨c, v6, v7, rfl, kk, eL, cov⟩
      have sm : Same H H' := fun x o e => by
        have nx : x ≠ L := ne_of_none e nL
        exact kk x o (by rw [upd_ne nx]; exact e) nx nx
      refine ⟨_, rfl, _, .inl ⟨_, SqL.of eL, rfl⟩, ?_⟩
      cases ef : fl (.rgh b) now m c with
      | nil =>
        refine iteT ⟨(by show 2 ≤ sizeLine; decide), fun T nT => ?_⟩
        exact q _ T none none (span_nil cov ef) (sm.free nT) (sm.trans (same_upd nT)) upd_same
      | cons lo r =>
        rw [ef] at eL
        obtain ⟨f1, f2⟩ := fl_head ef
        have a0 : atI ((lo :: r).map fun (a : Nat) => V.int (a : Int)) 0 = some (.int (lo : Int)) := atI_nat (j := 0) rfl
        refine iteF ⟨_, rfl, _, rfl, rfl, _, rfl, ?_⟩
        rw [dec_int]
        by_cases e : m = 2 ^ b - 1
        · rw [decide_eq_true (show (m : Int) = ((Ru.rgh b).fin : Int) by rw [e]; rfl)]
          refine iteT ⟨_, rfl, L, _, _, _, rfl, rfl, SqL.of eL, a0, (by show 2 ≤ sizeLine; decide), fun T nT => ?_⟩
          exact q _ T (some lo) none (span_some cov f1 f2 (.inl ⟨e, rfl⟩)) (sm.free nT) (sm.trans (same_upd nT)) upd_same
        · rw [decide_eq_false (show ¬ (m : Int) = ((Ru.rgh b).fin : Int) from fun y => e (Int.ofNat.inj y))]
          have hl : lo :: r = (lo :: r).dropLast ++ [(lo :: r).getLast (List.cons_ne_nil _ _)] := (List.dropLast_concat_getLast _).symm
          generalize (lo :: r).dropLast = ini at hl
          generalize (lo :: r).getLast (List.cons_ne_nil _ _) = hi at hl
          have al : atI ((lo :: r).map fun (a : Nat) => V.int (a : Int)) (-1) = some (.int (hi : Int)) := by
            rw [hl, List.map_append]
            exact atI_last _ _
          have g := fl_last (ef.trans hl)
          refine iteF ⟨_, rfl, L, _, _, _, rfl, rfl, SqL.of eL, a0, _, rfl, 1, rfl, L, _, _, _, rfl, rfl, SqL.of eL, al, (by show 2 ≤ sizeLine; decide), fun T nT => ?_⟩
          exact q _ T (some lo) (some hi) (span_some cov f1 f2 (.inr ⟨e, hi, rfl, g.1, g.2⟩)) (sm.free nT) (sm.trans (same_upd nT)) upd_same
end
section
variable {P : Program} {w : World} {K : PySem.W.Frag} {mg : Str → Option Value} {base : Heap}
theorem sc_stepped : FnScope ["rule", "now", "mark", "step", "run", "first", "latest"] ["rule", "now", "mark"] (defScope s_stepped_span) := ⟨rfl, rfl, rfl, by decide +kernel, rfl, by decide +kernel, by decide +kernel⟩
theorem ok_stepped (D : DefAt K mg "_stepped_span" s_stepped_span ["rule", "now", "mark"]) (m_min : mg "min" = none) (C1 : Cl P w K mg base 3 "_agings" ["rule", "mark"] spAgings) (C2 : Cl P w K mg base 2 "end_mark" ["rule"] spEndMark) :
    Cl P w K mg base 4 "_stepped_span" ["rule", "now", "mark"] spStepped := by
  refine D.cl fun f fd F => ?_
  refine F.ok sc_stepped (fun vs H Q E h => ?_) (fun cdv A outer s H vs Q E hr h => ?_)
  · obtain ⟨p, R, now, m, i1, i2, rfl, _⟩ := h
    rfl
  · obtain ⟨p, R, now, m, i1, i2, rfl, rfl, rfl, hp, ok, nr, hm, q⟩ := h
    have hs := R.step_ok ok
    have hk : R.kind ≠ "rough" := fun z => by
      rw [(R.rough_iff).mp z] at nr
      cases nr
    refine ⟨_, pss_cons (ps_set (i := 3) sc_stepped.nd rfl (Or.inl rfl) (pe_ix ix_tup (pv 0) pe_int (fun _ _ => rfl)))
      (pss_cons (ps_set (i := 4) sc_stepped.nd rfl (Or.inl rfl) (pe_op op_sub (pe_op op_fdiv (pv 1) (pv 3)) (pe_cl C1 hr (pa_cons (pv 0) (pa_cons (pv 2) pa_nil)))))
      (pss_cons (ps_if (pt_cmpR op_lt (pv 4) pe_int (nomark _)) (pss_one (ps_ret (pe_tup (pa_cons pe_non (pa_cons pe_non pa_nil))))) pss_nil)
      (pss_cons (ps_set (i := 5) sc_stepped.nd rfl (Or.inl rfl) (pe_op op_mul (pv 4) (pv 3)))
      (pss_cons (ps_set (i := 6) sc_stepped.nd rfl (Or.inl rfl) (pe_callB (call_min2 rfl) (by rfl) m_min (by decide +kernel) (pa_cons (pv 1) (pa_cons (pe_op op_sub (pe_op op_add (pv 5) (pv 3)) pe_int) pa_nil))))
      (pss_cons (ps_if (pt_cmpR op_eq (pv 2) (pe_cl C2 hr (pa_cons (pv 0) pa_nil)) (nomark _)) (pss_one (ps_ret (pe_tup (pa_cons (pe_op op_sub (pv 1) (pv 6)) (pa_cons pe_non pa_nil))))) pss_nil)
      (pss_one (ps_ret (pe_tup (pa_cons (pe_op op_sub (pv 1) (pv 6)) (pa_cons (pe_op op_sub (pv 1) (pv 5)) pa_nil)))))))))), ?_⟩
    refine ⟨_, rfl, p, _, _, _, rfl, rfl, SqT.of hp, R.at2 hk, ?_⟩
    refine ⟨_, rfl, _, rfl, _, _, rfl, rfl, ⟨by omega, by omega⟩, _, rfl, _, rfl, p, R, m, _, rfl, rfl, hp, ok, nr, hm, _, _, rfl, rfl, ?_⟩
    refine ⟨_, rfl, _, _, rfl, rfl, _, rfl, ?_⟩
    have en : (now : Int) / (R.step : Int) = ((now / R.step : Nat) : Int) := rfl
    rw [en]
    by_cases c : now / R.step < R.ags m
    · rw [decide_eq_true (show ((now / R.step : Nat) : Int) - (R.ags m : Int) < 0 by omega)]
      refine iteT ⟨(by show 2 ≤ sizeLine; decide), fun T nT => ?_⟩
      exact q _ T none none (span_stp_none nr hs.1 hm c) nT (same_upd nT) upd_same
    · rw [decide_eq_false (show ¬ ((now / R.step : Nat) : Int) - (R.ags m : Int) < 0 by omega)]
      refine iteF ?_
      obtain ⟨run, hrun⟩ : ∃ run, now / R.step = R.ags m + run := ⟨now / R.step - R.ags m, by omega⟩
      obtain ⟨sp, f1⟩ := span_stp_some nr hs.1 hm hrun rfl rfl
      dsimp only
      rw [show ((now / R.step : Nat) : Int) - (R.ags m : Int) = (run : Int) by omega]
      refine ⟨_, rfl, _, rfl, _, _, rfl, rfl, .inr (le64 (by omega) (by omega)), ?_⟩
      refine ⟨_, rfl, _, rfl, _, rfl, _, _, rfl, rfl, _, _, rfl, rfl, _, _, rfl, ?_⟩
      have em : (if (run : Int) * (R.step : Int) + (R.step : Int) - 1 < (now : Int) then (run : Int) * (R.step : Int) + (R.step : Int) - 1 else (now : Int)) = ((min now (run * R.step + R.step - 1) : Nat) : Int) := by
        rw [show (run : Int) * (R.step : Int) = ((run * R.step : Nat) : Int) from rfl]
        split <;> omega
      dsimp only
      rw [em]
      refine ⟨_, rfl, _, rfl, p, R, rfl, hp, ok, rfl, _, rfl, ?_⟩
      rw [dec_int]
      have lx : ((now : Int) - ((min now (run * R.step + R.step - 1) : Nat) : Int)) = ((now - min now (run * R.step + R.step - 1) : Nat) : Int) := by omega
      by_cases e : m = R.fin
      · rw [decide_eq_true (show (m : Int) = (R.fin : Int) by omega)]
        refine iteT ⟨_, rfl, _, rfl, _, _, rfl, rfl, (by show 2 ≤ sizeLine; decide), fun T nT => ?_⟩
        rw [if_pos e] at sp
        refine q _ T _ _ sp nT (same_upd nT) ?_
        rw [upd_same]
        dsimp only
        rw [lx]
        rfl
      · rw [decide_eq_false (show ¬ (m : Int) = (R.fin : Int) by omega)]
        refine iteF ⟨_, rfl, _, rfl, _, _, rfl, rfl, _, rfl, _, rfl, _, _, rfl, rfl, (by show 2 ≤ sizeLine; decide), fun T nT => ?_⟩
        rw [if_neg e] at sp
        refine q _ T _ _ sp nT (same_upd nT) ?_
        rw [upd_same]
        dsimp only
        rw [lx, show (now : Int) - (run : Int) * (R.step : Int) = ((now - run * R.step : Nat) : Int) by
          rw [show (run : Int) * (R.step : Int) = ((run * R.step : Nat) : Int) from rfl]
          omega]
        rfl
theorem sc_span : FnScope ["rule", "now", "mark"] ["rule", "now", "mark"] (defScope s_span) := ⟨rfl, rfl, rfl, by decide +kernel, rfl, by decide +kernel, by decide +kernel⟩
theorem ok_span (D : DefAt K mg "span" s_span ["rule", "now", "mark"]) (C1 : Cl P w K mg base 2 "check_rule" ["rule"] spCheckRule) (C2 : Cl P w K mg base 1 "check_moment" ["moment"] spCheckMoment) (C3 : Cl P w K mg base 2 "check_mark" ["rule", "mark"] spCheckMark)
    (C4 : Cl P w K mg base 3 "_rough_span" ["rule", "now", "mark"] spRoughSpan) (C5 : Cl P w K mg base 4 "_stepped_span" ["rule", "now", "mark"] spStepped) : Cl P w K mg base 5 "span" ["rule", "now", "mark"] spSpan := by
  refine D.cl fun f fd F => ?_
  refine F.ok sc_span (fun vs H Q E h => ?_) (fun cdv A outer s H vs Q E hr h => ?_)
  · obtain ⟨p, R, now, m, i1, i2, rfl, _⟩ := h
    rfl
  · obtain ⟨p, R, now, m, i1, i2, rfl, rfl, rfl, hp, ok, hm, hnow, q⟩ := h
    refine ⟨_, pss_cons (ps_expr (pe_cl C1 hr (pa_cons (pv 0) pa_nil)))
      (pss_cons (ps_expr (pe_cl C2 hr (pa_cons (pv 1) pa_nil)))
      (pss_cons (ps_expr (pe_cl C3 hr (pa_cons (pv 0) (pa_cons (pv 2) pa_nil))))
      (pss_cons (ps_if (pt_cmpR op_eq (pe_ix ix_tup (pv 0) pe_int (fun _ _ => rfl)) pe_str (nomark _)) (pss_one (ps_ret (pe_cl C4 hr (pa_cons (pv 0) (pa_cons (pv 1) (pa_cons (pv 2) pa_nil)))))) pss_nil)
      (pss_one (ps_ret (pe_cl C5 hr (pa_cons (pv 0) (pa_cons (pv 1) (pa_cons (pv 2) pa_nil))))))))), ?_⟩
    refine ⟨_, rfl, p, R, rfl, hp, ok, fun H1 s1 => ?_⟩
    have hp1 := s1 _ _ hp
    refine ⟨_, rfl, _, rfl, by omega, by omega, ?_⟩
    refine ⟨_, rfl, _, rfl, p, R, _, rfl, hp1, ok, by omega, by omega, ?_⟩
    refine ⟨_, rfl, p, _, _, _, rfl, rfl, SqT.of hp1, R.at0, rfl, _, rfl, ?_⟩
    rw [dec_str]
    cases er : R.isRgh with
    | true =>
      rw [decide_eq_true ((R.rough_iff).mpr er)]
      exact iteT ⟨_, rfl, _, rfl, _, rfl, p, R, now, m, _, _, rfl, rfl, rfl, hp1, ok, er, hm, hnow, fun H' T x y i n s2 e => q H' T x y i (s1.free n) (s1.trans s2) e⟩
    | false =>
      rw [decide_eq_false (fun z => by rw [(R.rough_iff).mp z] at er; cases er)]
      exact iteF ⟨_, rfl, _, rfl, _, rfl, p, R, now, m, _, _, rfl, rfl, rfl, hp1, ok, er, hm, fun H' T x y i n s2 e => q H' T x y i (s1.free n) (s1.trans s2) e⟩
end
/-! ### a seen mark is fresh -/
theorem seen_shf {b s m : Nat} : seenM (.shf b s) m = if m < 2 ^ b then m + 2 ^ b else m := rfl
theorem seen_fresh {R : Ru} {m : Nat} (hm : m ≤ R.most) : Fresh R (seenM R m) := by
  cases R with
  | cnt b s => exact (rfl : (0 : Nat) = 0)
  | rgh b => exact (rfl : (0 : Nat) = 0)
  | shf b s =>
    have hm' : m ≤ 2 ^ (b + 1) - 1 := hm
    have pb := Nat.two_pow_pos b
    rw [Nat.pow_succ] at hm'
    show 2 ^ b ≤ seenM (.shf b s) m ∧ seenM (.shf b s) m < 2 * 2 ^ b
    rw [seen_shf]
    split <;> omega
/-! ### what stands behind a change; lists of marks -/
/-- all but some objects stands as it was -/
def KpL (L : List Addr) (H H' : Hp) : Prop := ∀ b o, H b = some o → ¬ b ∈ L → H' b = some o
theorem KpL.refl (L : List Addr) (H : Hp) : KpL L H H := fun _ _ e _ => e
theorem KpL.trans {L : List Addr} {H H1 H2 : Hp} (a : KpL L H H1) (b : KpL L H1 H2) : KpL L H H2 := fun x o e n => b x o (a x o e n) n
theorem KpL.mono {L L' : List Addr} {H H1 : Hp} (a : KpL L H H1) (h : ∀ x, x ∈ L → x ∈ L') : KpL L' H H1 := fun x o e n => a x o e fun z => n (h x z)
theorem Same.kpL {L : List Addr} {H H1 : Hp} (a : Same H H1) : KpL L H H1 := fun b o e _ => a b o e
theorem KpL.free {L : List Addr} {H H1 : Hp} (a : KpL L H H1) {x : Addr} (h : H1 x = none) (n : ¬ x ∈ L) : H x = none := by
  cases q : H x with
  | none => rfl
  | some o =>
    rw [a x o q n] at h
    cases h
def nvs (ms : List Nat) : List V := (ms.map Int.ofNat).map V.int
theorem rep_one (k : Nat) (v : V) : (List.replicate k [v]).flatten = List.replicate k v := by
  induction k with
  | zero => rfl
  | succ k ih => rw [List.replicate_succ, List.flatten_cons, ih, List.replicate_succ]; rfl
theorem nvs_len (ms : List Nat) : (nvs ms).length = ms.length := by
  unfold nvs
  rw [List.length_map, List.length_map]
theorem nvs_get {ms : List Nat} {j : Nat} (h : j < ms.length) : (nvs ms)[j]? = some (.int ((ms.getD j 0 : Nat) : Int)) := by
  unfold nvs
  rw [List.getElem?_map, List.getElem?_map, List.getElem?_eq_getElem h, List.getD_eq_getElem?_getD, List.getElem?_eq_getElem h]
  rfl
theorem nvs_set (ms : List Nat) (j x : Nat) : (nvs ms).set j (.int (x : Int)) = nvs (ms.set j x) := by
  unfold nvs
  rw [List.map_set, List.map_set]
  rfl
theorem getD_mem {ms : List Nat} {j : Nat} (h : j < ms.length) : ms.getD j 0 ∈ ms := by
  rw [List.getD_eq_getElem?_getD, List.getElem?_eq_getElem h]
  exact List.getElem_mem h
theorem Kp2.kpL {h c : Addr} {H H' : Hp} (k : Kp2 h c H H') : KpL [h, c] H H' := fun b o e n => k b o e (fun z => n (by rw [z]; simp)) (fun z => n (by rw [z]; simp))
theorem nin2 {x a b : Addr} (h1 : x ≠ a) (h2 : x ≠ b) : ¬ x ∈ [a, b] := by
  intro z
  rcases List.mem_cons.mp z with z | z
  · exact h1 z
  · exact h2 (List.mem_singleton.mp z)
/-! ### methods and errors by their promises -/
/-- a method by its promise alone -/
def ClM (P : Program) (w : World) (K : PySem.W.Frag) (mg : Str → Option Value) (base : Heap) (CX : CXT) (k : Nat) (C : Addr) (m : Str) (ps : List Str) (sp : Sp) : Prop :=
  ∃ (f : Addr) (fd : FuncData), FnOk P w K mg base CX k f fd ps sp ∧ Meth K C m f ∧ Binds K fd ps []
theorem pe_cm {X : Cx} {CX : CXT} {E : XK} {j k : Nat} {C : Addr} {m : Str} {ps : List Str} {sp : Sp} {o e : Expr} {es : List Expr} {ta : TE} {t : TA} {apos pos : Pos} {pl : Sem Bool} (D : ClM X.prog X.w X.K X.mg X.base CX k C m ps sp) (c : Cls X.K C)
    (hx : Passes CX X E) (hr : Room j X.A) (he : PE X o ta) (ha : PA X (e :: es) t) (hk : k ≤ j := by decide)
    (hst : starEach (e :: es) X.env = (false, eval e X.env) :: starEach es X.env := by rfl) (hpl : (backTo pos (starEach es X.env)).any (·.1) = false := by rfl)
    (ht : eval (.Call (.Attribute o m apos) (e :: es) [] pos) X.env = (do
      let ov ← eval o X.env
      standAt apos.atName
      let (f, first) ← holding [ov] (getMethod ov m pl)
      callWith pos f first (backTo pos (starEach (e :: es) X.env)) (backToKw pos (keywordEach [] X.env))) := by rfl) :
    PE X (.Call (.Attribute o m apos) (e :: es) [] pos) (tMeth C m sp [] E ta t) := by
  obtain ⟨f, fd, G, M, b⟩ := D
  exact pe_meth he c M G (hr.mono hk) b .nil hx ha hst hpl ht
theorem pe_cm0 {X : Cx} {CX : CXT} {E : XK} {j k : Nat} {C : Addr} {m : Str} {ps : List Str} {sp : Sp} {o : Expr} {ta : TE} {apos pos : Pos} {pl : Sem Bool} (D : ClM X.prog X.w X.K X.mg X.base CX k C m ps sp) (c : Cls X.K C)
    (hx : Passes CX X E) (hr : Room j X.A) (he : PE X o ta) (hk : k ≤ j := by decide)
    (ht : eval (.Call (.Attribute o m apos) [] [] pos) X.env = (do
      let ov ← eval o X.env
      standAt apos.atName
      let (f, first) ← holding [ov] (getMethod ov m pl)
      callWith pos f first (backTo pos (starEach [] X.env)) (backToKw pos (keywordEach [] X.env))) := by rfl) :
    PE X (.Call (.Attribute o m apos) [] [] pos) (tMeth C m sp [] E ta tNil) := by
  obtain ⟨f, fd, G, M, b⟩ := D
  exact pe_meth0 he c M G (hr.mono hk) b .nil hx ht
/-- a method as the top has left it -/
def DefM (K : PySem.W.Frag) (C : Addr) (m q : Str) (st : Stmt) (ps : List Str) : Prop :=
  ∃ (f : Addr) (fd : FuncData), Fun K m q st f fd ∧ Meth K C m f ∧ Binds K fd ps []
theorem DefM.cl {P : Program} {w : World} {K : PySem.W.Frag} {mg : Str → Option Value} {base : Heap} {CX : CXT} {k : Nat} {C : Addr} {m q : Str} {st : Stmt} {ps : List Str} {sp : Sp} (D : DefM K C m q st ps)
    (h : ∀ f fd, Fun K m q st f fd → FnOk P w K mg base CX k f fd ps sp) : ClM P w K mg base CX k C m ps sp := by
  obtain ⟨f, fd, F, g, b⟩ := D
  exact ⟨f, fd, h f fd F, g, b⟩
theorem defM_mk {K : PySem.W.Frag} {C : Addr} {m q : Str} {st : Stmt} {ps : List Str} {f : Addr} {od an : Option Addr} {sl : Array (Option Value)} {oc kV dc pm cd ct : Value}
    (a : PySem.W.findIn K (.ref C) m = some (some (.ref f))) (i : PySem.W.isFn K (.ref f) = true) (l : K.lookup f = some ⟨oc, od, .func (PySem.W.fnOf m q (defArgs st) (defBody st) (defScope st) .none kV dc pm an cd ct), sl⟩) (c : PySem.W.codeIn K cd q = true) (k : PySem.W.keepIn K (.ref f) = true)
    (hb : ∀ (kV doc pm : Value) (an : Option Addr) (cdv ct : Value) (us : List Value), us.length = ps.length → bindArgs (PySem.W.fnOf m q (defArgs st) (defBody st) (defScope st) .none kV doc pm an cdv ct) ⟨us, []⟩ = pure (ps.zip us)) : DefM K C m q st ps := by
  have F := fun_mk (st := st) l c k
  exact ⟨f, _, F, ⟨a, i, k⟩, F.binds hb⟩
/-- an own error's class -/
structure ErrC (K : PySem.W.Frag) (mg : Str → Option Value) (x : Str) (c : Addr) : Prop where
  g : mg x = some (.ref c)
  x : PySem.W.excIn K c [.type "ValueError", .type "Exception", .type "BaseException", .type "object"] "ValueError.__new__" = true
  k : PySem.W.keepIn K (.ref c) = true
  b : PySem.W.subIn K (.ref c) (.type "BaseException") = some true
  t : PySem.W.typeIn K (.ref c) = some (.type "type")
theorem ps_err {X : Cx} {W : WX} {x m : Str} {c : Addr} {j : Nat} {p p2 pos pos2 : Pos} (hc : X.calm = true) (tk : Takes X W) (e : ErrC X.K X.mg x c) (hg : Gl X x) (hdb : (x == ("__debug__" : Str)) = false := by decide) :
    PS X (.Raise (some (.Call (.Name x p) [.Constant (.str m) j p2] [] pos)) none pos2) (fun _ σ H => W (.ref c) none σ H) :=
  ps_raise hc tk (pmk_own PySem.F.excBase_ValueError e.x e.g e.k (raises_own e.b e.t) hg hdb)
/-- a def that may raise, by its promise -/
def ClX (P : Program) (w : World) (K : PySem.W.Frag) (mg : Str → Option Value) (base : Heap) (k : Nat) (x : Str) (ps : List Str) (sp : Sp) : Prop :=
  ∃ (f : Addr) (fd : FuncData), FnOk P w K mg base (L2.CX P w) k f fd ps sp ∧ mg x = some (.ref f) ∧ PySem.W.keepIn K (.ref f) = true ∧ Binds K fd ps []
theorem pe_clx {X : Cx} {E : XK} {j k : Nat} {x : Str} {ps : List Str} {sp : Sp} {e : Expr} {es : List Expr} {t : TA} {p pos : Pos} (D : ClX X.prog X.w X.K X.mg X.base k x ps sp) (hx : Passes (L2.CX X.prog X.w) X E) (hr : Room j X.A) (ha : PA X (e :: es) t) (hk : k ≤ j := by decide) (hg : Gl X x := by rfl)
    (hdb : (x == ("__debug__" : Str)) = false := by decide) (he : starEach (e :: es) X.env = (false, eval e X.env) :: starEach es X.env := by rfl) (hpl : (backTo pos (starEach es X.env)).any (·.1) = false := by rfl) :
    PE X (.Call (.Name x p) (e :: es) [] pos) (tCall sp [] E t) := by
  obtain ⟨f, fd, G, g, kp, b⟩ := D
  exact pe_call G (hr.mono hk) hg g kp b .nil hx ha hdb he hpl
theorem DefAt.clx {P : Program} {w : World} {K : PySem.W.Frag} {mg : Str → Option Value} {base : Heap} {k : Nat} {x : Str} {st : Stmt} {ps : List Str} {sp : Sp} (D : DefAt K mg x st ps)
    (h : ∀ f fd, Fun K x x st f fd → FnOk P w K mg base (L2.CX P w) k f fd ps sp) : ClX P w K mg base k x ps sp := by
  obtain ⟨f, fd, F, g, b⟩ := D
  exact ⟨f, fd, h f fd F, g, F.kp, b⟩
/-! ### the program: boards -/
theorem kRM : ¬ (("_rule" : Str) = "_marks") := by decide +kernel
theorem kRT : ¬ (("_rule" : Str) = "_moment") := by decide +kernel
theorem kMT : ¬ (("_marks" : Str) = "_moment") := by decide +kernel
def bfl (p am : Addr) (now : Nat) : List (Str × V) := putF "_moment" (.int (now : Int)) (putF "_marks" (.ref am) (putF "_rule" (.ref p) []))
theorem bfl_eq (p am : Addr) (now : Nat) : bfl p am now = ([("_rule", V.ref p), ("_marks", V.ref am), ("_moment", V.int (now : Int))] : List (Str × V)) := by
  have e : putF "_marks" (.ref am) ([("_rule", V.ref p)] : List (Str × V)) = ([("_rule", V.ref p), ("_marks", V.ref am)] : List (Str × V)) := by
    show (if ("_rule" : Str) = "_marks" then [(("_rule" : Str), V.ref am)] else (("_rule" : Str), V.ref p) :: putF "_marks" (V.ref am) []) = ([("_rule", V.ref p), ("_marks", V.ref am)] : List (Str × V))
    rw [if_neg kRM]
    rfl
  show putF "_moment" (.int (now : Int)) (putF "_marks" (.ref am) ([("_rule", V.ref p)] : List (Str × V))) = ([("_rule", V.ref p), ("_marks", V.ref am), ("_moment", V.int (now : Int))] : List (Str × V))
  rw [e]
  show (if ("_rule" : Str) = "_moment" then _ else (("_rule" : Str), V.ref p) :: (if ("_marks" : Str) = "_moment" then _ else (("_marks" : Str), V.ref am) :: putF "_moment" (V.int (now : Int)) [])) = ([("_rule", V.ref p), ("_marks", V.ref am), ("_moment", V.int (now : Int))] : List (Str × V))
  rw [if_neg kRT, if_neg kMT]
  rfl
theorem bfl_rule (p am : Addr) (now : Nat) : (bfl p am now).lookup ("_rule" : Str) = some (.ref p) := by
  unfold bfl
  rw [lookup_putF, if_neg kRT, lookup_putF, if_neg kRM, lookup_putF, if_pos rfl]
theorem bfl_marks (p am : Addr) (now : Nat) : (bfl p am now).lookup ("_marks" : Str) = some (.ref am) := by
  unfold bfl
  rw [lookup_putF, if_neg kMT, lookup_putF, if_pos rfl]
theorem bfl_moment (p am : Addr) (now : Nat) : (bfl p am now).lookup ("_moment" : Str) = some (.int (now : Int)) := by
  unfold bfl
  rw [lookup_putF, if_pos rfl]
theorem bfl_no (p am : Addr) (now : Nat) {m : Str} (h1 : ¬ m = "_moment") (h2 : ¬ m = "_marks") (h3 : ¬ m = "_rule") : (bfl p am now).lookup m = none := by
  unfold bfl
  rw [lookup_putF, if_neg h1, lookup_putF, if_neg h2, lookup_putF, if_neg h3]
  rfl
theorem bfl_put_marks (p am am' : Addr) (now : Nat) : putF "_marks" (.ref am') (bfl p am now) = bfl p am' now := by
  rw [bfl_eq, bfl_eq]
  show (if ("_rule" : Str) = "_marks" then _ else (("_rule" : Str), V.ref p) :: (if ("_marks" : Str) = "_marks" then (("_marks" : Str), V.ref am') :: [(("_moment" : Str), V.int (now : Int))] else _)) = ([("_rule", V.ref p), ("_marks", V.ref am'), ("_moment", V.int (now : Int))] : List (Str × V))
  rw [if_neg kRM, if_pos rfl]
theorem bfl_put_moment (p am : Addr) (now t : Nat) : putF "_moment" (.int (t : Int)) (bfl p am now) = bfl p am t := by
  rw [bfl_eq, bfl_eq]
  show (if ("_rule" : Str) = "_moment" then _ else (("_rule" : Str), V.ref p) :: (if ("_marks" : Str) = "_moment" then _ else (("_marks" : Str), V.ref am) :: (if ("_moment" : Str) = "_moment" then (("_moment" : Str), V.int (t : Int)) :: [] else _))) = ([("_rule", V.ref p), ("_marks", V.ref am), ("_moment", V.int (t : Int))] : List (Str × V))
  rw [if_neg kRT, if_neg kMT, if_pos rfl]
/-- a board stands at b, its marks at am -/
structure BAt (C : Addr) (H : Hp) (b p am : Addr) (R : Ru) (ms : List Nat) (now : Nat) : Prop where
  ob : ∃ dx, H b = some (.ins C dx (bfl p am now))
  rl : RuAt H p R
  mrk : H am = some (.lst (nvs ms))
  few : ms.length ≤ 8
  bd : ∀ x, x ∈ ms → x ≤ R.most
  ok : R.ok
theorem BAt.kp {C : Addr} {H H' : Hp} {b p am : Addr} {R : Ru} {ms : List Nat} {now : Nat} (a : BAt C H b p am R ms now) {L : List Addr} (k : KpL L H H') (n1 : ¬ b ∈ L) (n2 : ¬ p ∈ L) (n3 : ¬ am ∈ L) : BAt C H' b p am R ms now :=
  ⟨let ⟨dx, e⟩ := a.ob; ⟨dx, k _ _ e n1⟩, k _ _ a.rl n2, k _ _ a.mrk n3, a.few, a.bd, a.ok⟩
theorem BAt.same {C : Addr} {H H' : Hp} {b p am : Addr} {R : Ru} {ms : List Nat} {now : Nat} (a : BAt C H b p am R ms now) (k : Same H H') : BAt C H' b p am R ms now :=
  ⟨let ⟨dx, e⟩ := a.ob; ⟨dx, k _ _ e⟩, k _ _ a.rl, k _ _ a.mrk, a.few, a.bd, a.ok⟩
structure Bcl (K : PySem.W.Frag) (mg : Str → Option Value) (C : Addr) : Prop where
  cl : Cls K C
  nR : NoAttr K C "_rule"
  nM : NoAttr K C "_marks"
  nT : NoAttr K C "_moment"
def spInit (C : Addr) : Sp := fun vs H Q _ => ∃ (b dx p : Addr) (R : Ru) (n : Nat) (i : Int), vs = [.ref b, .ref p, .int i] ∧ i = (n : Int) ∧ H b = some (.ins C dx []) ∧ RuAt H p R ∧ R.ok ∧ 1 ≤ n ∧ n ≤ 8 ∧
  ∀ H' am, BAt C H' b p am R (List.replicate n R.fin) 0 → H am = none → KpL [b] H H' → Q .non H'
def spChk (C cN : Addr) : Sp := fun vs H Q E => ∃ (b p am : Addr) (R : Ru) (ms : List Nat) (now : Nat) (i : Int), vs = [.ref b, .int i] ∧ BAt C H b p am R ms now ∧
  ((0 ≤ i ∧ i < (ms.length : Int) ∧ Q .non H) ∨ (¬ (0 ≤ i ∧ i < (ms.length : Int)) ∧ E (.ref cN) none H))
def spSee (C cN : Addr) : Sp := fun vs H Q E => ∃ (b p am : Addr) (R : Ru) (ms : List Nat) (now : Nat) (i : Int), vs = [.ref b, .int i] ∧ BAt C H b p am R ms now ∧
  ((∃ k : Nat, i = (k : Int) ∧ k < ms.length ∧ ∀ H', BAt C H' b p am R (ms.set k (seenM R (ms.getD k 0))) now → KpL [am] H H' → Q .non H') ∨ (¬ (0 ≤ i ∧ i < (ms.length : Int)) ∧ E (.ref cN) none H))
def spPass (C cM : Addr) : Sp := fun vs H Q E => ∃ (b p am : Addr) (R : Ru) (ms : List Nat) (now : Nat) (i : Int), vs = [.ref b, .int i] ∧ BAt C H b p am R ms now ∧
  ((∃ k : Nat, i = (k : Int) ∧ 1 ≤ k ∧ k ≤ 1000 ∧ now + k ≤ 1000000000 ∧ ∀ H' am', BAt C H' b p am' R (ms.map fun x => ag R x now k) (now + k) → H am' = none → KpL [b] H H' → Q (.int ((now + k : Nat) : Int)) H') ∨
   (¬ (1 ≤ i ∧ i ≤ 1000) ∧ E (.ref cM) none H))
def spMarks (C : Addr) : Sp := fun vs H Q _ => ∃ (b p am : Addr) (R : Ru) (ms : List Nat) (now : Nat), vs = [.ref b] ∧ BAt C H b p am R ms now ∧ ∀ H' l, H l = none → Same H H' → H' l = some (.lst (nvs ms)) → Q (.ref l) H'
def spNow (C : Addr) : Sp := fun vs H Q _ => ∃ (b p am : Addr) (R : Ru) (ms : List Nat) (now : Nat), vs = [.ref b] ∧ BAt C H b p am R ms now ∧ Q (.int (now : Int)) H
def spAge (C cN : Addr) : Sp := fun vs H Q E => ∃ (b p am : Addr) (R : Ru) (ms : List Nat) (now : Nat) (i : Int), vs = [.ref b, .int i] ∧ BAt C H b p am R ms now ∧ now ≤ 1000000000 ∧
  ((∃ k : Nat, i = (k : Int) ∧ k < ms.length ∧ ∀ H' T x y, IsSpan R now (ms.getD k 0) x y → H T = none → Same H H' → H' T = some (.tup [oV x, oV y]) → Q (.ref T) H') ∨ (¬ (0 ≤ i ∧ i < (ms.length : Int)) ∧ E (.ref cN) none H))
section
variable {P : Program} {w : World} {K : PySem.W.Frag} {mg : Str → Option Value} {base : Heap} {C : Addr}
theorem sc_init : FnScope ["self", "rule", "things"] ["self", "rule", "things"] (defScope m_Board_init) := ⟨rfl, rfl, rfl, by decide +kernel, rfl, by decide +kernel, by decide +kernel⟩
theorem ok_init (D : DefM K C "__init__" "Board.__init__" m_Board_init ["self", "rule", "things"]) (T : Bcl K mg C) {tk : Tok} (gT : mg "MOST_THINGS" = some (.int 8 tk)) (C1 : Cl P w K mg base 2 "check_rule" ["rule"] spCheckRule) (C2 : Cl P w K mg base 2 "end_mark" ["rule"] spEndMark) :
    ClM P w K mg base CX0 3 C "__init__" ["self", "rule", "things"] (spInit C) := by
  refine D.cl fun f fd F => ?_
  refine F.ok sc_init (fun vs H Q E h => ?_) (fun cdv A outer s H vs Q E hr h => ?_)
  · obtain ⟨b, dx, p, R, n, i, rfl, _⟩ := h
    rfl
  · obtain ⟨b, dx, p, R, n, i, rfl, rfl, hb, hp, ok, n1, n8, q⟩ := h
    refine ⟨_, pss_cons (ps_expr (pe_cl C1 hr (pa_cons (pv 1) pa_nil)))
      (pss_cons (ps_if (PW.pt (pw_or (pt_cmpR op_lt (pv 2) pe_int (nomark _)) (pw_or1 (pt_cmpR op_gt (pv 2) (pe_glob (v := .int 8) (by rfl) gT ⟨_, rfl⟩) (nomark _))))) (pss_one ps_never) pss_nil)
      (pss_cons (ps_fld (pv 0) (pv 1) rfl)
      (pss_cons (ps_fld (pv 0) (pe_op op_rep (pe_lst (pa_cons (pe_cl C2 hr (pa_cons (pv 1) pa_nil)) pa_nil)) (pv 2)) rfl)
      (pss_one (ps_fld (pv 0) pe_int rfl))))), ?_⟩
    refine ⟨_, rfl, p, R, rfl, hp, ok, fun H1 s1 => ?_⟩
    have hb1 := s1 _ _ hb
    have hp1 := s1 _ _ hp
    refine ⟨_, rfl, _, _, rfl, rfl, _, rfl, ?_⟩
    rw [decide_eq_false (show ¬ (n : Int) < 1 by omega)]
    refine iteF ⟨_, rfl, _, _, rfl, rfl, _, rfl, ?_⟩
    rw [decide_eq_false (show ¬ (8 : Int) < (n : Int) by omega)]
    refine iteF ?_
    have npb : p ≠ b := ne_of hp1 hb1 (fun z => nomatch z)
    refine ⟨_, rfl, _, rfl, b, C, dx, [], rfl, hb1, T.cl, T.nR, (by show 0 < 1000; decide), ?_⟩
    have hp2 : (upd H1 b (.ins C dx (putF "_rule" (.ref p) []))) p = some (.tup R.tup) := by rw [upd_ne npb]; exact hp1
    refine ⟨_, rfl, p, R, rfl, hp2, ok, ?_⟩
    refine ⟨(by show 1 ≤ sizeLine; decide), fun l1 nl1 => ?_⟩
    refine ⟨_, rfl, l1, _, _, rfl, rfl, upd_same, by omega, by omega, ?_, fun am nam => ?_⟩
    · rw [Int.toNat_natCast]
      exact Nat.le_trans (show 1 * n ≤ 8 by omega) (by decide)
    rw [Int.toNat_natCast, rep_one]
    have b2 : (upd H1 b (.ins C dx (putF "_rule" (.ref p) []))) b = some (.ins C dx (putF "_rule" (.ref p) [])) := upd_same
    have b3 := same_upd (o := .lst [V.int (R.fin : Int)]) nl1 _ _ b2
    have b4 := same_upd (o := .lst (List.replicate n (V.int (R.fin : Int)))) nam _ _ b3
    refine ⟨_, rfl, b, C, dx, _, rfl, b4, T.cl, T.nM, (by show 1 < 1000; decide), ?_⟩
    have e2 : putF "_marks" (.ref am) (putF "_rule" (.ref p) []) = ([("_rule", V.ref p), ("_marks", V.ref am)] : List (Str × V)) := by
      show (if ("_rule" : Str) = "_marks" then [(("_rule" : Str), V.ref am)] else (("_rule" : Str), V.ref p) :: putF "_marks" (V.ref am) []) = ([("_rule", V.ref p), ("_marks", V.ref am)] : List (Str × V))
      rw [if_neg kRM]
      rfl
    refine ⟨_, rfl, b, C, dx, _, rfl, upd_same, T.cl, T.nT, (by rw [e2]; show 2 < 1000; decide), ?_⟩
    have nba : b ≠ am := ne_of_none b3 nam
    refine q _ am ⟨⟨dx, upd_same⟩, ?_, ?_, ?_, fun x hx => ?_, ok⟩ ?_ fun x o e n => ?_
    · unfold RuAt
      rw [upd_ne npb, upd_ne npb]
      exact same_upd nam _ _ (same_upd nl1 _ _ hp2)
    · rw [upd_ne nba.symm, upd_ne nba.symm, upd_same]
      unfold nvs
      rw [List.map_replicate, List.map_replicate]
      rfl
    · rw [List.length_replicate]; exact n8
    · rw [List.eq_of_mem_replicate hx]
      exact fin_most R
    · refine s1.free ?_
      have z := (same_upd (o := .lst [V.int (R.fin : Int)]) nl1).free nam
      rw [upd_ne nba.symm] at z
      exact z
    · have nx : x ≠ b := fun z => n (by rw [z]; simp)
      rw [upd_ne nx, upd_ne nx]
      refine same_upd nam _ _ (same_upd nl1 _ _ ?_)
      rw [upd_ne nx]
      exact s1 _ _ e
theorem sc_chk : FnScope ["self", "thing"] ["self", "thing"] (defScope m_Board_check_thing) := ⟨rfl, rfl, rfl, by decide +kernel, rfl, by decide +kernel, by decide +kernel⟩
theorem ok_chk {cN : Addr} (D : DefM K C "_check_thing" "Board._check_thing" m_Board_check_thing ["self", "thing"]) (T : Bcl K mg C) (m_len : mg "len" = none) (eN : ErrC K mg "NoThing" cN) : ClM P w K mg base (L2.CX P w) 1 C "_check_thing" ["self", "thing"] (spChk C cN) := by
  refine D.cl fun f fd F => ?_
  refine F.okX sc_chk (fun vs H Q E h => ?_) (fun cdv A outer s H vs Q E hr h => ?_)
  · obtain ⟨b, p, am, R, ms, now, i, rfl, _⟩ := h
    rfl
  · obtain ⟨b, p, am, R, ms, now, i, rfl, ba, q⟩ := h
    obtain ⟨dx, ob⟩ := ba.ob
    refine ⟨_, pss_one (ps_if (PW.pt (pw_or (pt_cmpR op_lt (pv 1) pe_int (nomark _)) (pw_or1 (pt_cmpR op_ge (pv 1) (pe_callB call_len_seq (by rfl) m_len PySem.boot_len (pa_cons (pe_fld (pv 0) rfl) pa_nil)) (nomark _))))) (pss_one (ps_err rfl (takes_of rfl rfl rfl rfl) eN rfl)) pss_nil), ?_⟩
    refine ⟨_, rfl, _, _, rfl, rfl, _, rfl, ?_⟩
    have ln : ((nvs ms).length : Int) = (ms.length : Int) := by rw [nvs_len]
    by_cases h0 : i < 0
    · rw [decide_eq_true h0]
      refine iteT ?_
      rcases q with ⟨a, _⟩ | ⟨_, e⟩
      · exact absurd h0 (by omega)
      · exact e
    · rw [decide_eq_false h0]
      refine iteF ⟨_, rfl, _, rfl, b, C, dx, _, _, rfl, ob, T.cl, T.nM, bfl_marks _ _ _, am, _, rfl, .inl (SqL.of ba.mrk), _, _, rfl, rfl, _, rfl, ?_⟩
      by_cases h1 : (ms.length : Int) ≤ i
      · rw [decide_eq_true (show ((nvs ms).length : Int) ≤ i by rw [ln]; exact h1)]
        refine iteT ?_
        rcases q with ⟨_, a, _⟩ | ⟨_, e⟩
        · exact absurd a (by omega)
        · exact e
      · rw [decide_eq_false (show ¬ ((nvs ms).length : Int) ≤ i by rw [ln]; exact h1)]
        refine iteF ?_
        rcases q with ⟨_, _, e⟩ | ⟨n, _⟩
        · exact e
        · exact absurd ⟨by omega, by omega⟩ n
theorem sc_see : FnScope ["self", "thing"] ["self", "thing"] (defScope m_Board_see) := ⟨rfl, rfl, rfl, by decide +kernel, rfl, by decide +kernel, by decide +kernel⟩
theorem ok_see {cN : Addr} (D : DefM K C "see" "Board.see" m_Board_see ["self", "thing"]) (T : Bcl K mg C) (CK : ClM P w K mg base (L2.CX P w) 1 C "_check_thing" ["self", "thing"] (spChk C cN)) (C1 : Cl P w K mg base 1 "seen" ["rule", "mark"] spSeen) :
    ClM P w K mg base (L2.CX P w) 2 C "see" ["self", "thing"] (spSee C cN) := by
  refine D.cl fun f fd F => ?_
  refine F.okX sc_see (fun vs H Q E h => ?_) (fun cdv A outer s H vs Q E hr h => ?_)
  · obtain ⟨b, p, am, R, ms, now, i, rfl, _⟩ := h
    rfl
  · obtain ⟨b, p, am, R, ms, now, i, rfl, ba, q⟩ := h
    obtain ⟨dx, ob⟩ := ba.ob
    refine ⟨_, pss_cons (ps_expr (pe_cm (E := E) CK T.cl (passes_call (takes_of rfl rfl rfl rfl) (fun _ _ _ _ h => h)) hr (pv 0) (pa_cons (pv 1) pa_nil)))
      (pss_one (ps_asg (pe_cl C1 hr (pa_cons (pe_fld (pv 0) rfl) (pa_cons (pe_ix ix_list (pe_fld (pv 0) rfl) (pv 1) (fun _ _ => rfl)) pa_nil))) (pg_sub (pe_fld (pv 0) rfl) (pv 1) set_list))), ?_⟩
    refine ⟨_, rfl, b, dx, _, rfl, ob, bfl_no _ _ _ (by decide +kernel) (by decide +kernel) (by decide +kernel), _, rfl, b, p, am, R, ms, now, i, rfl, ba, ?_⟩
    rcases q with ⟨k, rfl, kl, q⟩ | ⟨n, e⟩
    · refine .inl ⟨by omega, by omega, ?_⟩
      have kn : ixN (nvs ms).length (k : Int) = some k := by
        rw [nvs_len, ixN_nn (Int.natCast_nonneg _) (by omega), Int.toNat_natCast]
      refine ⟨_, rfl, b, C, dx, _, _, rfl, ob, T.cl, T.nR, bfl_rule _ _ _, _, rfl, b, C, dx, _, _, rfl, ob, T.cl, T.nM, bfl_marks _ _ _, _, rfl, am, _, _, _, rfl, rfl, SqL.of ba.mrk, atI_nat (nvs_get kl), p, R, ms.getD k 0, _, rfl, rfl, ba.rl, ba.ok, ?_⟩
      refine ⟨_, rfl, b, C, dx, _, _, rfl, ob, T.cl, T.nM, bfl_marks _ _ _, _, rfl, am, _, _, k, rfl, rfl, ba.mrk, kn, ?_⟩
      refine q _ ⟨⟨dx, ?_⟩, ?_, ?_, ?_, fun x hx => ?_, ba.ok⟩ fun x o e n => ?_
      · rw [upd_ne (ne_of ob ba.mrk (fun z => nomatch z))]; exact ob
      · unfold RuAt
        rw [upd_ne (ne_of ba.rl ba.mrk (fun z => nomatch z))]; exact ba.rl
      · rw [upd_same, nvs_set]
      · rw [List.length_set]; exact ba.few
      · rcases List.mem_or_eq_of_mem_set hx with hx | hx
        · exact ba.bd x hx
        · rw [hx]
          exact fresh_most (seen_fresh (ba.bd _ (getD_mem kl)))
      · rw [upd_ne (fun z => n (by rw [z]; simp))]
        exact e
    · exact .inr ⟨n, e⟩
theorem sc_pass : FnScope ["self", "many", "then", "mark"] ["self", "many"] (defScope m_Board_pass_by) := ⟨rfl, rfl, rfl, by decide +kernel, rfl, by decide +kernel, by decide +kernel⟩
theorem ok_pass {cM : Addr} (D : DefM K C "pass_by" "Board.pass_by" m_Board_pass_by ["self", "many"]) (T : Bcl K mg C) {tk : Tok} (gL : mg "LONGEST_PASS" = some (.int 1000 tk)) (eM : ErrC K mg "BadMoment" cM) (C1 : Cl P w K mg base 2 "aged_on" ["rule", "mark", "begin", "end"] spAged) :
    ClM P w K mg base (L2.CX P w) 3 C "pass_by" ["self", "many"] (spPass C cM) := by
  refine D.cl fun f fd F => ?_
  refine F.okX sc_pass (fun vs H Q E h => ?_) (fun cdv A outer s H vs Q E hr h => ?_)
  · obtain ⟨b, p, am, R, ms, now, i, rfl, _⟩ := h
    rfl
  · obtain ⟨b, p, am, R, ms, now, i, rfl, ba, q⟩ := h
    obtain ⟨dx, ob⟩ := ba.ob
    refine ⟨_, pss_cons (ps_if (PW.pt (pw_or (pt_cmpR op_lt (pv 1) pe_int (nomark _)) (pw_or1 (pt_cmpR op_gt (pv 1) (pe_glob (v := .int 1000) (by rfl) gL ⟨_, rfl⟩) (nomark _))))) (pss_one (ps_err rfl (takes_of rfl rfl rfl rfl) eM rfl)) pss_nil)
      (pss_cons (ps_set (i := 2) sc_pass.nd rfl (Or.inr rfl) (pe_op op_add (pe_fld (pv 0) rfl) (pv 1)))
      (pss_cons (ps_fld (pv 0) (pe_lc (own := [("mark", 3)]) (g := gName 3) (tt := tYes) (te := tCall spAged [] E0 (tCons (tFld K (tVar 0) "_rule") (tCons (tVar 3) (tCons (tFld K (tVar 0) "_moment") (tCons (tVar 2) tNil))))) rfl sc_pass.nd (pi_list (pe_fld (pv 0) rfl))
          (blkOk_by (N := ["self", "many", "then", "mark"]) (sc := defScope m_Board_pass_by) (by decide +kernel)) (fun _ _ _ _ _ => by exact pg_name (i := 3) sc_pass.nd rfl (Or.inl rfl)) (fun _ _ _ _ _ => by exact pts_nil)
          (fun _ _ _ _ _ => by exact pe_cl C1 hr (pa_cons (pe_fld (pv 0) rfl) (pa_cons (pv 3) (pa_cons (pe_fld (pv 0) rfl) (pa_cons (pv 2) pa_nil)))))) rfl)
      (pss_cons (ps_fld (pv 0) (pv 2) rfl)
      (pss_one (ps_ret (pv 2)))))), ?_⟩
    refine ⟨_, rfl, _, _, rfl, rfl, _, rfl, ?_⟩
    rcases q with ⟨k, rfl, k1, k2, tl, q⟩ | ⟨n, e⟩
    · rw [decide_eq_false (show ¬ (k : Int) < 1 by omega)]
      refine iteF ⟨_, rfl, _, _, rfl, rfl, _, rfl, ?_⟩
      rw [decide_eq_false (show ¬ (1000 : Int) < (k : Int) by omega)]
      refine iteF ?_
      refine ⟨_, rfl, b, C, dx, _, _, rfl, ob, T.cl, T.nT, bfl_moment _ _ _, _, rfl, _, _, rfl, rfl, ?_⟩
      refine ⟨_, rfl, b, C, dx, _, _, rfl, ob, T.cl, T.nM, bfl_marks _ _ _, am, rfl, ⟨_, SqL.of ba.mrk⟩, fun D nD => ?_⟩
      refine lc_list (K := K) (a := am) (xs := nvs ms) (fun j H' => Same H H' ∧ H' D = some (.lst (nvs ((ms.take j).map fun x => ag R x now k)))) ⟨same_upd nD, upd_same⟩ (fun j H' _ h => SqL.of (h.1 _ _ ba.mrk)) ?_ ?_
      · rintro j y H' hy ⟨sm, eD⟩
        have jl : j < ms.length := by
          have := (List.getElem?_eq_some_iff.mp hy).1
          rw [nvs_len] at this
          exact this
        have ey : y = .int ((ms.getD j 0 : Nat) : Int) := Option.some.inj (hy.symm.trans (nvs_get jl))
        subst ey
        have ob' := sm _ _ ob
        refine ⟨rfl, _, rfl, b, C, dx, _, _, rfl, ob', T.cl, T.nR, bfl_rule _ _ _, _, rfl, _, rfl, b, C, dx, _, _, rfl, ob', T.cl, T.nT, bfl_moment _ _ _, _, rfl, p, R, ms.getD j 0, now, k, _, _, _, rfl, rfl, rfl, rfl, sm _ _ ba.rl, ba.ok, ba.bd _ (getD_mem jl), tl, fun H2 s2 => ?_⟩
        refine ⟨_, s2 _ _ eD, ?_, fun x o e => ?_, ?_⟩
        · rw [nvs_len, List.length_map, List.length_take]
          exact small1000 (by have := ba.few; omega)
        · rw [upd_ne (ne_of_none e nD)]
          exact s2 _ _ (sm _ _ e)
        · rw [upd_same, List.take_add_one, List.getElem?_eq_getElem jl, List.getD_eq_getElem?_getD, List.getElem?_eq_getElem jl]
          unfold nvs
          rw [List.map_append, List.map_append, List.map_append]
          rfl
      · rintro H' ⟨sm, eD⟩
        rw [nvs_len, List.take_length] at eD
        have ob' := sm _ _ ob
        have nbD : b ≠ D := ne_of_none ob nD
        have npb : p ≠ b := ne_of ba.rl ob (fun z => nomatch z)
        refine ⟨_, rfl, b, C, dx, _, rfl, ob', T.cl, T.nM, (by rw [bfl_eq]; show 3 < 1000; decide), ?_⟩
        rw [bfl_put_marks]
        refine ⟨_, rfl, _, rfl, b, C, dx, _, rfl, upd_same, T.cl, T.nT, (by rw [bfl_eq]; show 3 < 1000; decide), ?_⟩
        have et : (now : Int) + (k : Int) = ((now + k : Nat) : Int) := rfl
        refine ⟨_, rfl, ?_⟩
        rw [upd_upd]
        refine q _ D ⟨⟨dx, ?_⟩, ?_, ?_, ?_, fun x hx => ?_, ba.ok⟩ nD fun x o e n => ?_
        · rw [upd_same]
          show some (HO.ins C dx (putF "_moment" (.int ((now + k : Nat) : Int)) (bfl p D now))) = some (HO.ins C dx (bfl p D (now + k)))
          rw [bfl_put_moment]
        · unfold RuAt
          rw [upd_ne npb]; exact sm _ _ ba.rl
        · rw [upd_ne nbD.symm]
          exact eD
        · rw [List.length_map]
          exact ba.few
        · obtain ⟨z, hz, rfl⟩ := List.mem_map.mp hx
          exact ag_le R z now (ba.bd z hz) k
        · rw [upd_ne (fun z => n (by rw [z]; simp))]
          exact sm _ _ e
    · by_cases h1 : i < 1
      · rw [decide_eq_true h1]
        exact iteT e
      · rw [decide_eq_false h1]
        refine iteF ⟨_, rfl, _, _, rfl, rfl, _, rfl, ?_⟩
        rw [decide_eq_true (show (1000 : Int) < i by omega)]
        exact iteT e
theorem sc_marks : FnScope ["self"] ["self"] (defScope m_Board_marks) := ⟨rfl, rfl, rfl, by decide +kernel, rfl, by decide +kernel, by decide +kernel⟩
theorem ok_marks (D : DefM K C "marks" "Board.marks" m_Board_marks ["self"]) (T : Bcl K mg C) (m_list : mg "list" = none) : ClM P w K mg base CX0 1 C "marks" ["self"] (spMarks C) := by
  refine D.cl fun f fd F => ?_
  refine F.ok sc_marks (fun vs H Q E h => ?_) (fun cdv A outer s H vs Q E hr h => ?_)
  · obtain ⟨b, p, am, R, ms, now, rfl, _⟩ := h
    rfl
  · obtain ⟨b, p, am, R, ms, now, rfl, ba, q⟩ := h
    obtain ⟨dx, ob⟩ := ba.ob
    refine ⟨_, pss_one (ps_ret (pe_callTy call_list_of (by rfl) m_list (by decide +kernel) (pa_cons (pe_fld (pv 0) rfl) pa_nil))), ?_⟩
    refine ⟨_, rfl, b, C, dx, _, _, rfl, ob, T.cl, T.nM, bfl_marks _ _ _, am, _, rfl, .inl (SqL.of ba.mrk), fun l hl => ?_⟩
    exact q _ l hl (same_upd hl) upd_same
theorem sc_now : FnScope ["self"] ["self"] (defScope m_Board_now) := ⟨rfl, rfl, rfl, by decide +kernel, rfl, by decide +kernel, by decide +kernel⟩
theorem ok_now (D : DefM K C "now" "Board.now" m_Board_now ["self"]) (T : Bcl K mg C) : ClM P w K mg base CX0 1 C "now" ["self"] (spNow C) := by
  refine D.cl fun f fd F => ?_
  refine F.ok sc_now (fun vs H Q E h => ?_) (fun cdv A outer s H vs Q E hr h => ?_)
  · obtain ⟨b, p, am, R, ms, now, rfl, _⟩ := h
    rfl
  · obtain ⟨b, p, am, R, ms, now, rfl, ba, q⟩ := h
    obtain ⟨dx, ob⟩ := ba.ob
    exact ⟨_, pss_one (ps_ret (pe_fld (pv 0) rfl)), _, rfl, b, C, dx, _, _, rfl, ob, T.cl, T.nT, bfl_moment _ _ _, q⟩
theorem sc_age : FnScope ["self", "thing"] ["self", "thing"] (defScope m_Board_age) := ⟨rfl, rfl, rfl, by decide +kernel, rfl, by decide +kernel, by decide +kernel⟩
theorem ok_age {cN : Addr} (D : DefM K C "age" "Board.age" m_Board_age ["self", "thing"]) (T : Bcl K mg C) (CK : ClM P w K mg base (L2.CX P w) 1 C "_check_thing" ["self", "thing"] (spChk C cN)) (C1 : Cl P w K mg base 5 "span" ["rule", "now", "mark"] spSpan) :
    ClM P w K mg base (L2.CX P w) 6 C "age" ["self", "thing"] (spAge C cN) := by
  refine D.cl fun f fd F => ?_
  refine F.okX sc_age (fun vs H Q E h => ?_) (fun cdv A outer s H vs Q E hr h => ?_)
  · obtain ⟨b, p, am, R, ms, now, i, rfl, _⟩ := h
    rfl
  · obtain ⟨b, p, am, R, ms, now, i, rfl, ba, nl, q⟩ := h
    obtain ⟨dx, ob⟩ := ba.ob
    refine ⟨_, pss_cons (ps_expr (pe_cm (E := E) CK T.cl (passes_call (takes_of rfl rfl rfl rfl) (fun _ _ _ _ h => h)) hr (pv 0) (pa_cons (pv 1) pa_nil)))
      (pss_one (ps_ret (pe_cl C1 hr (pa_cons (pe_fld (pv 0) rfl) (pa_cons (pe_fld (pv 0) rfl) (pa_cons (pe_ix ix_list (pe_fld (pv 0) rfl) (pv 1) (fun _ _ => rfl)) pa_nil)))))), ?_⟩
    refine ⟨_, rfl, b, dx, _, rfl, ob, bfl_no _ _ _ (by decide +kernel) (by decide +kernel) (by decide +kernel), _, rfl, b, p, am, R, ms, now, i, rfl, ba, ?_⟩
    rcases q with ⟨k, rfl, kl, q⟩ | ⟨n, e⟩
    · refine .inl ⟨by omega, by omega, ?_⟩
      refine ⟨_, rfl, b, C, dx, _, _, rfl, ob, T.cl, T.nR, bfl_rule _ _ _, _, rfl, b, C, dx, _, _, rfl, ob, T.cl, T.nT, bfl_moment _ _ _, _, rfl, b, C, dx, _, _, rfl, ob, T.cl, T.nM, bfl_marks _ _ _, _, rfl, am, _, _, _, rfl, rfl, SqL.of ba.mrk, atI_nat (nvs_get kl), ?_⟩
      exact ⟨p, R, now, ms.getD k 0, _, _, rfl, rfl, rfl, ba.rl, ba.ok, ba.bd _ (getD_mem kl), nl, q⟩
    · exact .inr ⟨n, e⟩
end
/-! ### ages, the oldest -/
noncomputable def spanF (R : Ru) (now m : Nat) : Option Nat × Option Nat := ⟨(exists_span R now m).choose, (exists_span R now m).choose_spec.choose⟩
theorem spanF_is (R : Ru) (now m : Nat) : IsSpan R now m (spanF R now m).1 (spanF R now m).2 := (exists_span R now m).choose_spec.choose_spec
theorem spanF_eq {R : Ru} {now m : Nat} {x y : Option Nat} (h : IsSpan R now m x y) : spanF R now m = (x, y) := by
  obtain ⟨e1, e2⟩ := (spanF_is R now m).uniq h
  exact Prod.ext e1 e2
abbrev Sps := List (Option Nat × Option Nat)
noncomputable def agesF (R : Ru) (now : Nat) (ms : List Nat) : Sps := ms.map (spanF R now)
/-- tuples of spans stand at Ts -/
structure TupsAt (H : Hp) (Ts : List Addr) (sp : Sps) : Prop where
  len : Ts.length = sp.length
  at_ : ∀ (j : Nat) (T : Addr) (s : Option Nat × Option Nat), Ts[j]? = some T → sp[j]? = some s → H T = some (.tup [oV s.1, oV s.2])
theorem TupsAt.same {H H' : Hp} {Ts : List Addr} {sp : Sps} (a : TupsAt H Ts sp) (k : Same H H') : TupsAt H' Ts sp := ⟨a.len, fun j T s h1 h2 => k _ _ (a.at_ j T s h1 h2)⟩
theorem TupsAt.get {H : Hp} {Ts : List Addr} {sp : Sps} (a : TupsAt H Ts sp) {j : Nat} {T : Addr} (h : Ts[j]? = some T) : ∃ s, sp[j]? = some s ∧ H T = some (.tup [oV s.1, oV s.2]) := by
  have l : j < sp.length := by rw [← a.len]; exact (List.getElem?_eq_some_iff.mp h).1
  exact ⟨sp[j], List.getElem?_eq_getElem l, a.at_ j T _ h (List.getElem?_eq_getElem l)⟩
/-- one span more -/
theorem ages_more {R : Ru} {now i : Nat} {ms : List Nat} {Ts : List Addr} {H' H2 : Hp} {D T2 : Addr} {x y : Option Nat} (hi : i < ms.length) (ta : TupsAt H' Ts (agesF R now (ms.take i))) (eD : H' D = some (.lst (Ts.map V.ref))) (isp : IsSpan R now (ms.getD i 0) x y)
    (s2 : Same H' H2) (eT : H2 T2 = some (.tup [oV x, oV y])) : Ts.length ≤ i ∧ (upd H2 D (.lst (Ts.map V.ref ++ [V.ref T2]))) D = some (.lst ((Ts ++ [T2]).map V.ref)) ∧ TupsAt (upd H2 D (.lst (Ts.map V.ref ++ [V.ref T2]))) (Ts ++ [T2]) (agesF R now (ms.take (i + 1))) := by
  have tl : Ts.length = i := by
    rw [ta.len]
    unfold agesF
    rw [List.length_map, List.length_take]
    omega
  refine ⟨Nat.le_of_eq tl, ?_, ?_, fun j T s h1 h2 => ?_⟩
  · rw [upd_same, List.map_append]
    rfl
  · unfold agesF
    rw [List.length_append, List.length_map, List.length_take, tl]
    show i + 1 = min (i + 1) ms.length
    omega
  · have ne : T ≠ D := by
      by_cases jl : j < Ts.length
      · rw [List.getElem?_append_left jl] at h1
        obtain ⟨s', _, e'⟩ := ta.get h1
        exact ne_of e' eD (fun z => nomatch z)
      · have jn := (List.getElem?_eq_some_iff.mp h1).1
        rw [List.length_append] at jn
        have je : j = Ts.length := by
          have : j < Ts.length + 1 := jn
          omega
        subst je
        rw [List.getElem?_append_right (Nat.le_refl _), Nat.sub_self] at h1
        have : T2 = T := Option.some.inj h1
        rw [← this]
        exact ne_of eT (s2 _ _ eD) (fun z => nomatch z)
    rw [upd_ne ne]
    by_cases jl : j < Ts.length
    · rw [List.getElem?_append_left jl] at h1
      refine s2 _ _ (ta.at_ j T s h1 ?_)
      unfold agesF at h2 ⊢
      rw [List.getElem?_map, List.getElem?_take, if_pos (by omega)] at h2
      rw [List.getElem?_map, List.getElem?_take, if_pos (by omega)]
      exact h2
    · have jn := (List.getElem?_eq_some_iff.mp h1).1
      rw [List.length_append] at jn
      have je : j = Ts.length := by
        have : j < Ts.length + 1 := jn
        omega
      subst je
      rw [List.getElem?_append_right (Nat.le_refl _), Nat.sub_self] at h1
      have e1 : T2 = T := Option.some.inj h1
      unfold agesF at h2
      rw [tl, List.getElem?_map, List.getElem?_take, if_pos (Nat.lt_succ_self _), List.getElem?_eq_getElem hi] at h2
      have e2 : spanF R now ms[i] = s := Option.some.inj h2
      rw [List.getD_eq_getElem?_getD, List.getElem?_eq_getElem hi] at isp
      have e3 := spanF_eq isp
      rw [← e1, ← e2]
      have e4 : spanF R now ms[i] = (x, y) := e3
      rw [e4]
      exact eT
/-! ### a board's ages -/
def spAges (C : Addr) : Sp := fun vs H Q _ => ∃ (b p am : Addr) (R : Ru) (ms : List Nat) (now : Nat), vs = [.ref b] ∧ BAt C H b p am R ms now ∧ now ≤ 1000000000 ∧
  ∀ H' l Ts, H l = none → Same H H' → H' l = some (.lst (Ts.map V.ref)) → TupsAt H' Ts (agesF R now ms) → Q (.ref l) H'
section
variable {P : Program} {w : World} {K : PySem.W.Frag} {mg : Str → Option Value} {base : Heap} {C : Addr}
theorem sc_ages : FnScope ["self", "thing"] ["self"] (defScope m_Board_ages) := ⟨rfl, rfl, rfl, by decide +kernel, rfl, by decide +kernel, by decide +kernel⟩
theorem ok_ages {cN : Addr} (D : DefM K C "ages" "Board.ages" m_Board_ages ["self"]) (T : Bcl K mg C) (m_len : mg "len" = none) (m_range : mg "range" = none) (C1 : ClM P w K mg base (L2.CX P w) 6 C "age" ["self", "thing"] (spAge C cN)) : ClM P w K mg base CX0 7 C "ages" ["self"] (spAges C) := by
  refine D.cl fun f fd F => ?_
  refine F.ok sc_ages (fun vs H Q E h => ?_) (fun cdv A outer s H vs Q E hr h => ?_)
  · obtain ⟨b, p, am, R, ms, now, rfl, _⟩ := h
    rfl
  · obtain ⟨b, p, am, R, ms, now, rfl, ba, nl, q⟩ := h
    obtain ⟨dx, ob⟩ := ba.ob
    refine ⟨_, pss_one (ps_ret (pe_lc (own := [("thing", 1)]) (g := gName 1) (tt := tYes) (te := tMeth C "age" (spAge C cN) [] E0 (tVar 0) (tCons (tVar 1) tNil)) rfl sc_ages.nd (pi_range1 (by rfl) m_range (pa_cons (pe_callB call_len_seq (by rfl) m_len PySem.boot_len (pa_cons (pe_fld (pv 0) rfl) pa_nil)) pa_nil))
      (blkOk_by (N := ["self", "thing"]) (sc := defScope m_Board_ages) (by decide +kernel)) (fun _ _ _ _ _ => by exact pg_name (i := 1) sc_ages.nd rfl (Or.inl rfl)) (fun _ _ _ _ _ => by exact pts_nil)
      (fun _ _ _ _ _ => by exact pe_cm C1 T.cl passL hr (pv 0) (pa_cons (pv 1) pa_nil)))), ?_⟩
    have f8 := ba.few
    refine ⟨_, rfl, b, C, dx, _, _, rfl, ob, T.cl, T.nM, bfl_marks _ _ _, am, _, rfl, .inl (SqL.of ba.mrk), _, rfl, by omega, by rw [nvs_len]; omega, fun D nD => ?_⟩
    rw [Int.toNat_natCast, nvs_len]
    refine lc_range (lo := 0) (n := ms.length) (fun i H' => Same H H' ∧ ∃ Ts : List Addr, H' D = some (.lst (Ts.map V.ref)) ∧ TupsAt H' Ts (agesF R now (ms.take i))) ⟨same_upd nD, [], upd_same, rfl, fun j T s h _ => by simp at h⟩ ?_ ?_
    · rintro i H' hi ⟨sm, Ts, eD, ta⟩
      have ob' := sm _ _ ob
      refine ⟨rfl, _, rfl, b, dx, _, rfl, ob', bfl_no _ _ _ (by decide +kernel) (by decide +kernel) (by decide +kernel), _, rfl, b, p, am, R, ms, now, _, rfl, ba.same sm, nl, .inl ⟨i, Int.zero_add _, hi, fun H2 T2 x y isp nT s2 eT => ?_⟩⟩
      obtain ⟨g1, g2, g3⟩ := ages_more hi ta eD isp s2 eT
      exact ⟨_, s2 _ _ eD, by rw [List.length_map]; exact small1000 (by omega), fun x' o e => by
        rw [upd_ne (ne_of_none e nD)]
        exact s2 _ _ (sm _ _ e), Ts ++ [T2], g2, g3⟩
    · rintro H' ⟨sm, Ts, eD, ta⟩
      rw [List.take_length] at ta
      exact q H' D Ts nD sm eD ta
end
/-! ### whether two things are alike: the same data on both sides -/
theorem Same.seqT {K : PySem.W.Frag} {H H' : Hp} {a : Addr} {xs : List V} (e : Same H H') (h : SqT K H a xs) : SqT K H' a xs := by
  rcases h with (h | ⟨o, h⟩) | h
  · exact .inl (.inl (e _ _ h))
  · exact .inl (.inr ⟨o, e _ _ h⟩)
  · exact .inr h
mutual
theorem Dp.same {K : PySem.W.Frag} {H H' : Hp} (e : Same H H') : ∀ (d : PyData) (v : V), Dp K H v d → Dp K H' v d
  | .none, _, h => by cases h; exact .non
  | .bool b, _, h => by cases h; exact .bl b
  | .int i, _, h => by cases h; exact .int i
  | .str x, _, h => by cases h; exact .str x
  | .list ds, _, h => by
    cases h with
    | lst hs ha => exact .lst (Same.seq e hs) (DpAll.same e ds _ ha)
  | .tuple ds, _, h => by
    cases h with
    | tup hs ha => exact .tup (Same.seqT e hs) (DpAll.same e ds _ ha)
  | .dict _, _, h => by cases h
theorem DpAll.same {K : PySem.W.Frag} {H H' : Hp} (e : Same H H') : ∀ (ds : List PyData) (vs : List V), DpAll K H vs ds → DpAll K H' vs ds
  | [], _, h => by cases h; exact .nil
  | d :: ds, _, h => by
    cases h with
    | cons h1 h2 => exact .cons (Dp.same e d _ h1) (DpAll.same e ds _ h2)
end
theorem dpAll_len {K : PySem.W.Frag} {H : Hp} : ∀ {ds : List PyData} {vs : List V}, DpAll K H vs ds → vs.length = ds.length
  | [], _, h => by cases h; rfl
  | d :: ds, _, h => by
    cases h with
    | cons h1 h2 => exact congrArg (· + 1) (dpAll_len h2)
theorem dpAll_get {K : PySem.W.Frag} {H : Hp} : ∀ {ds : List PyData} {vs : List V} {i : Nat}, DpAll K H vs ds → i < ds.length → ∃ v d, vs[i]? = some v ∧ ds[i]? = some d ∧ Dp K H v d
  | [], _, _, _, l => absurd l (Nat.not_lt_zero _)
  | d :: ds, _, 0, h, _ => by
    cases h with
    | cons h1 h2 => exact ⟨_, d, rfl, rfl, h1⟩
  | d :: ds, _, i + 1, h, l => by
    cases h with
    | cons h1 h2 =>
      obtain ⟨v, d', e1, e2, e3⟩ := dpAll_get h2 (Nat.lt_of_succ_lt_succ l)
      exact ⟨v, d', e1, e2, e3⟩
theorem depth_get : ∀ {ds : List PyData} {i : Nat} {d : PyData}, ds[i]? = some d → PyData.depth d ≤ PyData.depthAll ds
  | [], _, _, h => by simp at h
  | x :: ds, 0, d, h => by
    have e : x = d := Option.some.inj h
    subst e
    simp only [PyData.depthAll]
    omega
  | x :: ds, i + 1, d, h => by
    have ih := depth_get (ds := ds) (i := i) (d := d) h
    simp only [PyData.depthAll]
    omega
mutual
/-- lists of at most a thousand items -/
def szOk : PyData → Bool
  | .list xs => decide (xs.length ≤ 1000) && szAll xs
  | .tuple xs => decide (xs.length ≤ 1000) && szAll xs
  | _ => true
def szAll : List PyData → Bool
  | [] => true
  | x :: r => szOk x && szAll r
end
theorem szOk_lst {ds : List PyData} (h : szOk (.list ds) = true) : ds.length ≤ 1000 ∧ szAll ds = true := by
  simp only [szOk, Bool.and_eq_true, decide_eq_true_eq] at h
  exact h
theorem szOk_tup {ds : List PyData} (h : szOk (.tuple ds) = true) : ds.length ≤ 1000 ∧ szAll ds = true := by
  simp only [szOk, Bool.and_eq_true, decide_eq_true_eq] at h
  exact h
theorem sz_get : ∀ {ds : List PyData} {i : Nat} {d : PyData}, ds[i]? = some d → szAll ds = true → szOk d = true
  | [], _, _, h, _ => by simp at h
  | x :: ds, 0, d, h, a => by
    have e : x = d := Option.some.inj h
    subst e
    simp only [szAll, Bool.and_eq_true] at a
    exact a.1
  | x :: ds, i + 1, d, h, a => by
    simp only [szAll, Bool.and_eq_true] at a
    exact sz_get (ds := ds) (i := i) (d := d) h a.2
theorem ty_list {K : PySem.W.Frag} {H : Hp} {a : Addr} {xs : List V} (h : SqL K H a xs) : TyX K H (.ref a) (.type "list") := by
  rcases h with (h | ⟨o, h⟩) | ⟨o, its, n, hk, hc, _⟩
  · exact .base (.lst h)
  · exact .base (.frz h)
  · exact .kList hk hc
theorem ty_tup {K : PySem.W.Frag} {H : Hp} {a : Addr} {xs : List V} (h : SqT K H a xs) : TyX K H (.ref a) (.type "tuple") := by
  rcases h with (h | ⟨o, h⟩) | ⟨o, its, n, hk, hc, _⟩
  · exact .base (.tup h)
  · exact .fTuple h
  · exact .kTuple hk hc
/-- alike: the same data, of small lists -/
def spAlike (K : PySem.W.Frag) (n : Nat) : Sp := fun vs H Q _ => ∃ (x y : V) (d : PyData), vs = [x, y] ∧ Dp K H x d ∧ Dp K H y d ∧ PyData.depth d ≤ n ∧ szOk d = true ∧ ∀ H', Same H H' → Q (.bl true) H'
section
variable {P : Program} {w : World} {K : PySem.W.Frag} {mg : Str → Option Value} {base : Heap}
theorem sc_alike : FnScope ["_law_found", "_law_due", "_law_k"] ["_law_found", "_law_due"] (defScope s_L_alike) := ⟨rfl, rfl, rfl, by decide +kernel, rfl, by decide +kernel, by decide +kernel⟩
theorem ok_alike0 (D : DefAt K mg "_law_alike" s_L_alike ["_law_found", "_law_due"]) (m_isi : mg "isinstance" = none) (m_tuple : mg "tuple" = none) (m_list : mg "list" = none) (m_str : mg "str" = none) (m_bool : mg "bool" = none) (m_int : mg "int" = none) :
    Cl P w K mg base 1 "_law_alike" ["_law_found", "_law_due"] (spAlike K 0) := by
  refine D.cl fun f fd F => ?_
  refine F.ok sc_alike (fun vs H Q E h => ?_) (fun cdv A outer s H vs Q E hr h => ?_)
  · obtain ⟨x, y, d, rfl, _⟩ := h
    rfl
  · obtain ⟨x, y, d, rfl, hx, hy, hd, hz, q⟩ := h
    refine ⟨_, pss_cons (ps_if (pt_val (pe_callB call_isiT (by rfl) m_isi (by decide +kernel) (pa_cons (pv 1) (pa_cons (pe_tup (pa_cons (pe_bltn (v := .ty "tuple") (u := .type "tuple") (by rfl) m_tuple (by decide +kernel) rfl) (pa_cons (pe_bltn (v := .ty "list") (u := .type "list") (by rfl) m_list (by decide +kernel) rfl) pa_nil))) pa_nil)))) pss_never pss_nil)
      (pss_cons (ps_if (pt_cmp (pc_isN (pv 1)) rfl) (pss_one (ps_ret (pe_cmp (pc_isN (pv 0)) rfl))) pss_nil)
      (pss_cons (ps_if (pt_val (pe_callB call_isi (by rfl) m_isi (by decide +kernel) (pa_cons (pv 1) (pa_cons (pe_bltn (v := .ty "str") (u := .type "str") (by rfl) m_str (by decide +kernel) rfl) pa_nil)))) (pss_one (ps_ret (pe_and (pe_callB call_isi (by rfl) m_isi (by decide +kernel) (pa_cons (pv 0) (pa_cons (pe_bltn (v := .ty "str") (u := .type "str") (by rfl) m_str (by decide +kernel) rfl) pa_nil))) (pe_one (pe_cmpR op_eq (pv 0) (pv 1) (nomark _)))))) pss_nil)
      (pss_cons (ps_if (PW.pt (pw_or (pt_val (pe_callB call_isi (by rfl) m_isi (by decide +kernel) (pa_cons (pv 1) (pa_cons (pe_bltn (v := .ty "bool") (u := .type "bool") (by rfl) m_bool (by decide +kernel) rfl) pa_nil)))) (pw_or1 (pt_val (pe_callB call_isi (by rfl) m_isi (by decide +kernel) (pa_cons (pv 0) (pa_cons (pe_bltn (v := .ty "bool") (u := .type "bool") (by rfl) m_bool (by decide +kernel) rfl) pa_nil))))))) (pss_one (ps_ret (pe_and (pe_callB call_isi (by rfl) m_isi (by decide +kernel) (pa_cons (pv 1) (pa_cons (pe_bltn (v := .ty "bool") (u := .type "bool") (by rfl) m_bool (by decide +kernel) rfl) pa_nil))) (pe_and (pe_callB call_isi (by rfl) m_isi (by decide +kernel) (pa_cons (pv 0) (pa_cons (pe_bltn (v := .ty "bool") (u := .type "bool") (by rfl) m_bool (by decide +kernel) rfl) pa_nil))) (pe_one (pe_cmpR op_eq (pv 0) (pv 1) (nomark _))))))) pss_nil)
      (pss_one (ps_ret (pe_and (pe_callB call_isi (by rfl) m_isi (by decide +kernel) (pa_cons (pv 0) (pa_cons (pe_bltn (v := .ty "int") (u := .type "int") (by rfl) m_int (by decide +kernel) rfl) pa_nil))) (pe_one (pe_cmpR op_eq (pv 0) (pv 1) (nomark _))))))))), ?_⟩
    cases hx with
    | non =>
      cases hy
      refine ⟨_, rfl, (by show 2 ≤ sizeLine; decide), fun p np => ?_⟩
      refine ⟨.non, p, _, _, _, false, rfl, upd_same, .cons (.ty "tuple") (.cons (.ty "list") .nil), .base (.non), (kitAny_cons (b := false) (kit_ty (by decide +kernel)) (fun _ => kitAny_cons (b := false) (kit_ty (by decide +kernel)) (fun _ => kitAny_nil) (fun e => nomatch e)) (fun e => nomatch e)), _, rfl, iteF ?_⟩
      refine ⟨_, rfl, _, rfl, ?_⟩
      rw [decide_eq_true rfl]
      exact iteT ⟨_, rfl, q _ (same_upd np)⟩
    | bl b =>
      cases hy
      refine ⟨_, rfl, (by show 2 ≤ sizeLine; decide), fun p np => ?_⟩
      refine ⟨.bl b, p, _, _, _, false, rfl, upd_same, .cons (.ty "tuple") (.cons (.ty "list") .nil), .base (.bl b), (kitAny_cons (b := false) (kit_ty (by decide +kernel)) (fun _ => kitAny_cons (b := false) (kit_ty (by decide +kernel)) (fun _ => kitAny_nil) (fun e => nomatch e)) (fun e => nomatch e)), _, rfl, iteF ?_⟩
      refine ⟨_, rfl, _, rfl, ?_⟩
      rw [decide_eq_false (show ¬ V.bl b = .non from fun z => nomatch z)]
      refine iteF ?_
      refine ⟨_, rfl, .bl b, _, _, _, false, rfl, .ty "str", .base (.bl b), kit_ty (by decide +kernel), _, rfl, iteF ?_⟩
      refine ⟨_, rfl, .bl b, _, _, _, true, rfl, .ty "bool", .base (.bl b), kit_ty (by decide +kernel), _, rfl, iteT ?_⟩
      refine ⟨_, rfl, .bl b, _, _, _, true, rfl, .ty "bool", .base (.bl b), kit_ty (by decide +kernel), true, rfl, iteT ?_⟩
      refine ⟨_, rfl, .bl b, _, _, _, true, rfl, .ty "bool", .base (.bl b), kit_ty (by decide +kernel), true, rfl, iteT ⟨_, rfl, _, rfl, rfl, ?_⟩⟩
      rw [decide_eq_true rfl]
      exact q _ (same_upd np)
    | int i =>
      cases hy
      refine ⟨_, rfl, (by show 2 ≤ sizeLine; decide), fun p np => ?_⟩
      refine ⟨.int i, p, _, _, _, false, rfl, upd_same, .cons (.ty "tuple") (.cons (.ty "list") .nil), .base (.int i), (kitAny_cons (b := false) (kit_ty (by decide +kernel)) (fun _ => kitAny_cons (b := false) (kit_ty (by decide +kernel)) (fun _ => kitAny_nil) (fun e => nomatch e)) (fun e => nomatch e)), _, rfl, iteF ?_⟩
      refine ⟨_, rfl, _, rfl, ?_⟩
      rw [decide_eq_false (show ¬ V.int i = .non from fun z => nomatch z)]
      refine iteF ?_
      refine ⟨_, rfl, .int i, _, _, _, false, rfl, .ty "str", .base (.int i), kit_ty (by decide +kernel), _, rfl, iteF ?_⟩
      refine ⟨_, rfl, .int i, _, _, _, false, rfl, .ty "bool", .base (.int i), kit_ty (by decide +kernel), _, rfl, iteF ?_⟩
      refine ⟨_, rfl, .int i, _, _, _, false, rfl, .ty "bool", .base (.int i), kit_ty (by decide +kernel), _, rfl, iteF ?_⟩
      refine ⟨_, rfl, .int i, _, _, _, true, rfl, .ty "int", .base (.int i), kit_ty (by decide +kernel), true, rfl, iteT ⟨_, rfl, _, rfl, rfl, ?_⟩⟩
      rw [decide_eq_true rfl]
      exact q _ (same_upd np)
    | str s =>
      cases hy
      refine ⟨_, rfl, (by show 2 ≤ sizeLine; decide), fun p np => ?_⟩
      refine ⟨.str s, p, _, _, _, false, rfl, upd_same, .cons (.ty "tuple") (.cons (.ty "list") .nil), .base (.str s), (kitAny_cons (b := false) (kit_ty (by decide +kernel)) (fun _ => kitAny_cons (b := false) (kit_ty (by decide +kernel)) (fun _ => kitAny_nil) (fun e => nomatch e)) (fun e => nomatch e)), _, rfl, iteF ?_⟩
      refine ⟨_, rfl, _, rfl, ?_⟩
      rw [decide_eq_false (show ¬ V.str s = .non from fun z => nomatch z)]
      refine iteF ?_
      refine ⟨_, rfl, .str s, _, _, _, true, rfl, .ty "str", .base (.str s), kit_ty (by decide +kernel), _, rfl, iteT ?_⟩
      refine ⟨_, rfl, .str s, _, _, _, true, rfl, .ty "str", .base (.str s), kit_ty (by decide +kernel), true, rfl, iteT ⟨_, rfl, _, rfl, rfl, ?_⟩⟩
      rw [decide_eq_true rfl]
      exact q _ (same_upd np)
    | lst hs ha => exact absurd hd (Nat.not_succ_le_zero _)
    | tup hs ha => exact absurd hd (Nat.not_succ_le_zero _)
theorem ok_alikeS {n : Nat} (D : DefAt K mg "_law_alike" s_L_alike ["_law_found", "_law_due"]) (m_isi : mg "isinstance" = none) (m_tuple : mg "tuple" = none) (m_list : mg "list" = none) (m_str : mg "str" = none) (m_bool : mg "bool" = none) (m_int : mg "int" = none) (m_len : mg "len" = none) (m_range : mg "range" = none)
    (C1 : Cl P w K mg base (n + 1) "_law_alike" ["_law_found", "_law_due"] (spAlike K n)) : Cl P w K mg base (n + 2) "_law_alike" ["_law_found", "_law_due"] (spAlike K (n + 1)) := by
  refine D.cl fun f fd F => ?_
  refine F.ok sc_alike (fun vs H Q E h => ?_) (fun cdv A outer s H vs Q E hr h => ?_)
  · obtain ⟨x, y, d, rfl, _⟩ := h
    rfl
  · obtain ⟨x, y, d, rfl, hx, hy, hd, hz, q⟩ := h
    refine ⟨_, pss_cons (ps_if (pt_val (pe_callB call_isiT (by rfl) m_isi (by decide +kernel) (pa_cons (pv 1) (pa_cons (pe_tup (pa_cons (pe_bltn (v := .ty "tuple") (u := .type "tuple") (by rfl) m_tuple (by decide +kernel) rfl) (pa_cons (pe_bltn (v := .ty "list") (u := .type "list") (by rfl) m_list (by decide +kernel) rfl) pa_nil))) pa_nil))))
        (pss_cons (ps_if (PW.pt (pw_or (pt_not (pt_val (pe_callB call_isiT (by rfl) m_isi (by decide +kernel) (pa_cons (pv 0) (pa_cons (pe_tup (pa_cons (pe_bltn (v := .ty "tuple") (u := .type "tuple") (by rfl) m_tuple (by decide +kernel) rfl) (pa_cons (pe_bltn (v := .ty "list") (u := .type "list") (by rfl) m_list (by decide +kernel) rfl) pa_nil))) pa_nil))))) (pw_or1 (pt_cmpR op_ne (pe_callB call_isi (by rfl) m_isi (by decide +kernel) (pa_cons (pv 0) (pa_cons (pe_bltn (v := .ty "list") (u := .type "list") (by rfl) m_list (by decide +kernel) rfl) pa_nil))) (pe_callB call_isi (by rfl) m_isi (by decide +kernel) (pa_cons (pv 1) (pa_cons (pe_bltn (v := .ty "list") (u := .type "list") (by rfl) m_list (by decide +kernel) rfl) pa_nil))) (nomark _))))) pss_never pss_nil)
        (pss_cons (ps_if (pt_cmpR op_ne (pe_callB call_len_seq (by rfl) m_len PySem.boot_len (pa_cons (pv 0) pa_nil)) (pe_callB call_len_seq (by rfl) m_len PySem.boot_len (pa_cons (pv 1) pa_nil)) (nomark _)) pss_never pss_nil)
        (pss_one (ps_ret (pe_cmpR (op_eqD hr.units) (pe_lc (own := [("_law_k", 2)]) (g := gName 2) (tt := tNot (tB (tCall (spAlike K n) [] E0 (tCons (tOp (rIx K) (tVar 0) (tVar 2)) (tCons (tOp (rIx K) (tVar 1) (tVar 2)) tNil))))) rfl sc_alike.nd
          (pi_range1 (by rfl) m_range (pa_cons (pe_callB call_len_seq (by rfl) m_len PySem.boot_len (pa_cons (pv 1) pa_nil)) pa_nil)) (blkOk_by (N := ["_law_found", "_law_due", "_law_k"]) (sc := defScope s_L_alike) (by decide +kernel))
          (fun _ _ _ _ _ => by exact pg_name (i := 2) sc_alike.nd rfl (Or.inl rfl)) (fun _ _ _ _ _ => by exact pts_one (pt_not (pt_val (pe_cl C1 hr (pa_cons (pe_ix ix_seq (pv 0) (pv 2) (fun _ _ => rfl)) (pa_cons (pe_ix ix_seq (pv 1) (pv 2) (fun _ _ => rfl)) pa_nil)) (Nat.le_refl _)))))
          (fun _ _ _ _ _ => by exact pv 2)) (pe_lst pa_nil) (nomark _)))))) pss_nil)
      (pss_cons (ps_if (pt_cmp (pc_isN (pv 1)) rfl) (pss_one (ps_ret (pe_cmp (pc_isN (pv 0)) rfl))) pss_nil)
      (pss_cons (ps_if (pt_val (pe_callB call_isi (by rfl) m_isi (by decide +kernel) (pa_cons (pv 1) (pa_cons (pe_bltn (v := .ty "str") (u := .type "str") (by rfl) m_str (by decide +kernel) rfl) pa_nil)))) (pss_one (ps_ret (pe_and (pe_callB call_isi (by rfl) m_isi (by decide +kernel) (pa_cons (pv 0) (pa_cons (pe_bltn (v := .ty "str") (u := .type "str") (by rfl) m_str (by decide +kernel) rfl) pa_nil))) (pe_one (pe_cmpR op_eq (pv 0) (pv 1) (nomark _)))))) pss_nil)
      (pss_cons (ps_if (PW.pt (pw_or (pt_val (pe_callB call_isi (by rfl) m_isi (by decide +kernel) (pa_cons (pv 1) (pa_cons (pe_bltn (v := .ty "bool") (u := .type "bool") (by rfl) m_bool (by decide +kernel) rfl) pa_nil)))) (pw_or1 (pt_val (pe_callB call_isi (by rfl) m_isi (by decide +kernel) (pa_cons (pv 0) (pa_cons (pe_bltn (v := .ty "bool") (u := .type "bool") (by rfl) m_bool (by decide +kernel) rfl) pa_nil))))))) (pss_one (ps_ret (pe_and (pe_callB call_isi (by rfl) m_isi (by decide +kernel) (pa_cons (pv 1) (pa_cons (pe_bltn (v := .ty "bool") (u := .type "bool") (by rfl) m_bool (by decide +kernel) rfl) pa_nil))) (pe_and (pe_callB call_isi (by rfl) m_isi (by decide +kernel) (pa_cons (pv 0) (pa_cons (pe_bltn (v := .ty "bool") (u := .type "bool") (by rfl) m_bool (by decide +kernel) rfl) pa_nil))) (pe_one (pe_cmpR op_eq (pv 0) (pv 1) (nomark _))))))) pss_nil)
      (pss_one (ps_ret (pe_and (pe_callB call_isi (by rfl) m_isi (by decide +kernel) (pa_cons (pv 0) (pa_cons (pe_bltn (v := .ty "int") (u := .type "int") (by rfl) m_int (by decide +kernel) rfl) pa_nil))) (pe_one (pe_cmpR op_eq (pv 0) (pv 1) (nomark _))))))))), ?_⟩
    cases hx with
    | non =>
      cases hy
      refine ⟨_, rfl, (by show 2 ≤ sizeLine; decide), fun p np => ?_⟩
      refine ⟨.non, p, _, _, _, false, rfl, upd_same, .cons (.ty "tuple") (.cons (.ty "list") .nil), .base (.non), (kitAny_cons (b := false) (kit_ty (by decide +kernel)) (fun _ => kitAny_cons (b := false) (kit_ty (by decide +kernel)) (fun _ => kitAny_nil) (fun e => nomatch e)) (fun e => nomatch e)), _, rfl, iteF ?_⟩
      refine ⟨_, rfl, _, rfl, ?_⟩
      rw [decide_eq_true rfl]
      exact iteT ⟨_, rfl, q _ (same_upd np)⟩
    | bl b =>
      cases hy
      refine ⟨_, rfl, (by show 2 ≤ sizeLine; decide), fun p np => ?_⟩
      refine ⟨.bl b, p, _, _, _, false, rfl, upd_same, .cons (.ty "tuple") (.cons (.ty "list") .nil), .base (.bl b), (kitAny_cons (b := false) (kit_ty (by decide +kernel)) (fun _ => kitAny_cons (b := false) (kit_ty (by decide +kernel)) (fun _ => kitAny_nil) (fun e => nomatch e)) (fun e => nomatch e)), _, rfl, iteF ?_⟩
      refine ⟨_, rfl, _, rfl, ?_⟩
      rw [decide_eq_false (show ¬ V.bl b = .non from fun z => nomatch z)]
      refine iteF ?_
      refine ⟨_, rfl, .bl b, _, _, _, false, rfl, .ty "str", .base (.bl b), kit_ty (by decide +kernel), _, rfl, iteF ?_⟩
      refine ⟨_, rfl, .bl b, _, _, _, true, rfl, .ty "bool", .base (.bl b), kit_ty (by decide +kernel), _, rfl, iteT ?_⟩
      refine ⟨_, rfl, .bl b, _, _, _, true, rfl, .ty "bool", .base (.bl b), kit_ty (by decide +kernel), true, rfl, iteT ?_⟩
      refine ⟨_, rfl, .bl b, _, _, _, true, rfl, .ty "bool", .base (.bl b), kit_ty (by decide +kernel), true, rfl, iteT ⟨_, rfl, _, rfl, rfl, ?_⟩⟩
      rw [decide_eq_true rfl]
      exact q _ (same_upd np)
    | int i =>
      cases hy
      refine ⟨_, rfl, (by show 2 ≤ sizeLine; decide), fun p np => ?_⟩
      refine ⟨.int i, p, _, _, _, false, rfl, upd_same, .cons (.ty "tuple") (.cons (.ty "list") .nil), .base (.int i), (kitAny_cons (b := false) (kit_ty (by decide +kernel)) (fun _ => kitAny_cons (b := false) (kit_ty (by decide +kernel)) (fun _ => kitAny_nil) (fun e => nomatch e)) (fun e => nomatch e)), _, rfl, iteF ?_⟩
      refine ⟨_, rfl, _, rfl, ?_⟩
      rw [decide_eq_false (show ¬ V.int i = .non from fun z => nomatch z)]
      refine iteF ?_
      refine ⟨_, rfl, .int i, _, _, _, false, rfl, .ty "str", .base (.int i), kit_ty (by decide +kernel), _, rfl, iteF ?_⟩
      refine ⟨_, rfl, .int i, _, _, _, false, rfl, .ty "bool", .base (.int i), kit_ty (by decide +kernel), _, rfl, iteF ?_⟩
      refine ⟨_, rfl, .int i, _, _, _, false, rfl, .ty "bool", .base (.int i), kit_ty (by decide +kernel), _, rfl, iteF ?_⟩
      refine ⟨_, rfl, .int i, _, _, _, true, rfl, .ty "int", .base (.int i), kit_ty (by decide +kernel), true, rfl, iteT ⟨_, rfl, _, rfl, rfl, ?_⟩⟩
      rw [decide_eq_true rfl]
      exact q _ (same_upd np)
    | str s =>
      cases hy
      refine ⟨_, rfl, (by show 2 ≤ sizeLine; decide), fun p np => ?_⟩
      refine ⟨.str s, p, _, _, _, false, rfl, upd_same, .cons (.ty "tuple") (.cons (.ty "list") .nil), .base (.str s), (kitAny_cons (b := false) (kit_ty (by decide +kernel)) (fun _ => kitAny_cons (b := false) (kit_ty (by decide +kernel)) (fun _ => kitAny_nil) (fun e => nomatch e)) (fun e => nomatch e)), _, rfl, iteF ?_⟩
      refine ⟨_, rfl, _, rfl, ?_⟩
      rw [decide_eq_false (show ¬ V.str s = .non from fun z => nomatch z)]
      refine iteF ?_
      refine ⟨_, rfl, .str s, _, _, _, true, rfl, .ty "str", .base (.str s), kit_ty (by decide +kernel), _, rfl, iteT ?_⟩
      refine ⟨_, rfl, .str s, _, _, _, true, rfl, .ty "str", .base (.str s), kit_ty (by decide +kernel), true, rfl, iteT ⟨_, rfl, _, rfl, rfl, ?_⟩⟩
      rw [decide_eq_true rfl]
      exact q _ (same_upd np)
    | @lst a xs ds hs hal =>
      cases hy with
      | @lst a2 ys _ hs2 hal2 =>
      have lx := dpAll_len hal
      have ly := dpAll_len hal2
      obtain ⟨zl, za⟩ := szOk_lst hz
      have hdd : PyData.depthAll ds ≤ n := Nat.le_of_succ_le_succ hd
      refine ⟨_, rfl, (by show 2 ≤ sizeLine; decide), fun p np => ?_⟩
      have s1 := same_upd (o := .tup [V.ty "tuple", V.ty "list"]) np
      refine ⟨.ref a2, p, _, _, _, true, rfl, upd_same, .cons (.ty "tuple") (.cons (.ty "list") .nil), ty_list (Same.seq s1 hs2), (kitAny_cons (b := false) (kit_ty (by decide +kernel)) (fun _ => kitAny_cons (b := true) (r := true) (kit_ty (by decide +kernel)) (fun e => nomatch e) (fun _ => rfl)) (fun e => nomatch e)), _, rfl, iteT ?_⟩
      refine ⟨_, rfl, (by show 2 ≤ sizeLine; decide), fun p2 np2 => ?_⟩
      have s2 := s1.trans (same_upd (o := .tup [V.ty "tuple", V.ty "list"]) np2)
      refine ⟨.ref a, p2, _, _, _, true, rfl, upd_same, .cons (.ty "tuple") (.cons (.ty "list") .nil), ty_list (Same.seq s2 hs), (kitAny_cons (b := false) (kit_ty (by decide +kernel)) (fun _ => kitAny_cons (b := true) (r := true) (kit_ty (by decide +kernel)) (fun e => nomatch e) (fun _ => rfl)) (fun e => nomatch e)), _, rfl, iteF ?_⟩
      refine ⟨_, rfl, .ref a, _, _, _, true, rfl, .ty "list", ty_list (Same.seq s2 hs), kit_ty (by decide +kernel), ?_⟩
      refine ⟨_, rfl, .ref a2, _, _, _, true, rfl, .ty "list", ty_list (Same.seq s2 hs2), kit_ty (by decide +kernel), rfl, _, rfl, iteF ?_⟩
      refine ⟨_, rfl, a, xs, rfl, .inl (Same.seq s2 hs), _, rfl, a2, ys, rfl, .inl (Same.seq s2 hs2), rfl, _, rfl, ?_⟩
      rw [lx, ly]
      refine iteNS rfl ?_
      have sz : ds.length ≤ sizeLine := by
        exact Nat.le_trans zl (by decide)
      have szn : sizeLine < 2 ^ 62 := by decide
      refine ⟨_, rfl, a2, ys, rfl, .inl (Same.seq s2 hs2), _, rfl, by omega, by omega, fun D nD => ?_⟩
      rw [Int.toNat_natCast, ly]
      refine lc_range (lo := 0) (n := ds.length) (fun i H3 => Same (upd (upd H p (.tup [V.ty "tuple", V.ty "list"])) p2 (.tup [V.ty "tuple", V.ty "list"])) H3 ∧ H3 D = some (.lst [])) ⟨same_upd nD, upd_same⟩ ?_ ?_
      · rintro i H3 hi ⟨s3, eD⟩
        have s4 := s2.trans s3
        obtain ⟨v, d, gv, gd, hv⟩ := dpAll_get hal hi
        obtain ⟨v2, d2, gv2, gd2, hv2⟩ := dpAll_get hal2 hi
        have ed : d2 = d := Option.some.inj (gd2.symm.trans gd)
        subst ed
        refine ⟨rfl, _, rfl, _, rfl, .inl ⟨a, _, _, _, rfl, rfl, Same.seq s4 hs, at_of (j := i) (Int.zero_add _) gv, ?_⟩⟩
        refine ⟨_, rfl, _, rfl, .inl ⟨a2, _, _, _, rfl, rfl, Same.seq s4 hs2, at_of (j := i) (Int.zero_add _) gv2, ?_⟩⟩
        refine ⟨v, v2, d2, rfl, Dp.same s4 d2 _ hv, Dp.same s4 d2 _ hv2, Nat.le_trans (depth_get gd) hdd, sz_get gd za, fun H5 s5 => ⟨_, rfl, ?_⟩⟩
        exact ⟨s3.trans s5, s5 _ _ eD⟩
      · rintro H3 ⟨s3, eD⟩
        refine ⟨Nat.zero_le _, fun p3 np3 => ?_⟩
        refine ⟨.list [], .list [], Dp.lst (SqL.of (same_upd np3 _ _ eD)) .nil, Dp.lst (SqL.of upd_same) .nil, PySem.W.shaped_ints [], PySem.W.shaped_ints [], ?_⟩
        rw [show PyData.eqv (.list []) (.list []) = true from eqv_nil []]
        exact q _ ((s2.trans s3).trans (same_upd np3))
    | @tup a xs ds hs hal =>
      cases hy with
      | @tup a2 ys _ hs2 hal2 =>
      have lx := dpAll_len hal
      have ly := dpAll_len hal2
      obtain ⟨zl, za⟩ := szOk_tup hz
      have hdd : PyData.depthAll ds ≤ n := Nat.le_of_succ_le_succ hd
      refine ⟨_, rfl, (by show 2 ≤ sizeLine; decide), fun p np => ?_⟩
      have s1 := same_upd (o := .tup [V.ty "tuple", V.ty "list"]) np
      refine ⟨.ref a2, p, _, _, _, true, rfl, upd_same, .cons (.ty "tuple") (.cons (.ty "list") .nil), ty_tup (Same.seqT s1 hs2), (kitAny_cons (b := true) (r := true) (kit_ty (by decide +kernel)) (fun e => nomatch e) (fun _ => rfl)), _, rfl, iteT ?_⟩
      refine ⟨_, rfl, (by show 2 ≤ sizeLine; decide), fun p2 np2 => ?_⟩
      have s2 := s1.trans (same_upd (o := .tup [V.ty "tuple", V.ty "list"]) np2)
      refine ⟨.ref a, p2, _, _, _, true, rfl, upd_same, .cons (.ty "tuple") (.cons (.ty "list") .nil), ty_tup (Same.seqT s2 hs), (kitAny_cons (b := true) (r := true) (kit_ty (by decide +kernel)) (fun e => nomatch e) (fun _ => rfl)), _, rfl, iteF ?_⟩
      refine ⟨_, rfl, .ref a, _, _, _, false, rfl, .ty "list", ty_tup (Same.seqT s2 hs), kit_ty (by decide +kernel), ?_⟩
      refine ⟨_, rfl, .ref a2, _, _, _, false, rfl, .ty "list", ty_tup (Same.seqT s2 hs2), kit_ty (by decide +kernel), rfl, _, rfl, iteF ?_⟩
      refine ⟨_, rfl, a, xs, rfl, .inr (Same.seqT s2 hs), _, rfl, a2, ys, rfl, .inr (Same.seqT s2 hs2), rfl, _, rfl, ?_⟩
      rw [lx, ly]
      refine iteNS rfl ?_
      have sz : ds.length ≤ sizeLine := by
        exact Nat.le_trans zl (by decide)
      have szn : sizeLine < 2 ^ 62 := by decide
      refine ⟨_, rfl, a2, ys, rfl, .inr (Same.seqT s2 hs2), _, rfl, by omega, by omega, fun D nD => ?_⟩
      rw [Int.toNat_natCast, ly]
      refine lc_range (lo := 0) (n := ds.length) (fun i H3 => Same (upd (upd H p (.tup [V.ty "tuple", V.ty "list"])) p2 (.tup [V.ty "tuple", V.ty "list"])) H3 ∧ H3 D = some (.lst [])) ⟨same_upd nD, upd_same⟩ ?_ ?_
      · rintro i H3 hi ⟨s3, eD⟩
        have s4 := s2.trans s3
        obtain ⟨v, d, gv, gd, hv⟩ := dpAll_get hal hi
        obtain ⟨v2, d2, gv2, gd2, hv2⟩ := dpAll_get hal2 hi
        have ed : d2 = d := Option.some.inj (gd2.symm.trans gd)
        subst ed
        refine ⟨rfl, _, rfl, _, rfl, .inr (.inl ⟨a, _, _, _, rfl, rfl, Same.seqT s4 hs, at_of (j := i) (Int.zero_add _) gv, ?_⟩)⟩
        refine ⟨_, rfl, _, rfl, .inr (.inl ⟨a2, _, _, _, rfl, rfl, Same.seqT s4 hs2, at_of (j := i) (Int.zero_add _) gv2, ?_⟩)⟩
        refine ⟨v, v2, d2, rfl, Dp.same s4 d2 _ hv, Dp.same s4 d2 _ hv2, Nat.le_trans (depth_get gd) hdd, sz_get gd za, fun H5 s5 => ⟨_, rfl, ?_⟩⟩
        exact ⟨s3.trans s5, s5 _ _ eD⟩
      · rintro H3 ⟨s3, eD⟩
        refine ⟨Nat.zero_le _, fun p3 np3 => ?_⟩
        refine ⟨.list [], .list [], Dp.lst (SqL.of (same_upd np3 _ _ eD)) .nil, Dp.lst (SqL.of upd_same) .nil, PySem.W.shaped_ints [], PySem.W.shaped_ints [], ?_⟩
        rw [show PyData.eqv (.list []) (.list []) = true from eqv_nil []]
        exact q _ ((s2.trans s3).trans (same_upd np3))
end

/-! ### marks, spans as data -/
def pdO : Option Nat → PyData
  | none => .none
  | some n => .int (n : Int)
theorem dpO {K : PySem.W.Frag} {H : Hp} : ∀ o : Option Nat, Dp K H (oV o) (pdO o)
  | none => .non
  | some n => .int (n : Int)
def pdM (ms : List Nat) : List PyData := (ms.map Int.ofNat).map PyData.int
theorem dpM {K : PySem.W.Frag} {H : Hp} (ms : List Nat) : DpAll K H (nvs ms) (pdM ms) := dpAll_ints _
def pdS (s : Option Nat × Option Nat) : PyData := .tuple [pdO s.1, pdO s.2]
theorem dp_tups {K : PySem.W.Frag} {H : Hp} : ∀ {Ts : List Addr} {sp : Sps}, TupsAt H Ts sp → DpAll K H (Ts.map V.ref) (sp.map pdS)
  | [], [], _ => .nil
  | [], s :: r, h => absurd h.len (fun z => nomatch z)
  | T :: r, [], h => absurd h.len (fun z => nomatch z)
  | T :: r, s :: q, h => .cons (.tup (SqT.of (h.at_ 0 T s rfl rfl)) (.cons (dpO s.1) (.cons (dpO s.2) .nil))) (dp_tups (Ts := r) (sp := q) ⟨Nat.succ.inj h.len, fun j T' s' h1 h2 => h.at_ (j + 1) T' s' h1 h2⟩)
theorem depthAll_le {n : Nat} : ∀ {ds : List PyData}, (∀ d, d ∈ ds → PyData.depth d ≤ n) → PyData.depthAll ds ≤ n
  | [], _ => Nat.zero_le _
  | d :: r, h => by
    have h1 := h d List.mem_cons_self
    have h2 := depthAll_le (ds := r) fun x hx => h x (List.mem_cons_of_mem _ hx)
    simp only [PyData.depthAll]
    omega
theorem szAll_of : ∀ {ds : List PyData}, (∀ d, d ∈ ds → szOk d = true) → szAll ds = true
  | [], _ => rfl
  | d :: r, h => by
    have h1 := h d List.mem_cons_self
    have h2 := szAll_of (ds := r) fun x hx => h x (List.mem_cons_of_mem _ hx)
    simp only [szAll, h1, h2, Bool.and_self]
theorem pdO_d (o : Option Nat) : PyData.depth (pdO o) = 0 := by cases o <;> rfl
theorem pdO_s (o : Option Nat) : szOk (pdO o) = true := by cases o <;> rfl
theorem pdM_d (ms : List Nat) : PyData.depthAll (pdM ms) ≤ 0 := depthAll_le fun d hd => by
  obtain ⟨i, _, rfl⟩ := List.mem_map.mp hd
  exact Nat.le_refl 0
theorem pdM_s (ms : List Nat) : szAll (pdM ms) = true := szAll_of fun d hd => by
  obtain ⟨i, _, rfl⟩ := List.mem_map.mp hd
  rfl
theorem pdM_len (ms : List Nat) : (pdM ms).length = ms.length := by
  unfold pdM
  rw [List.length_map, List.length_map]
theorem pdS_d (s : Option Nat × Option Nat) : PyData.depth (pdS s) ≤ 1 := by
  unfold pdS
  simp only [PyData.depth, PyData.depthAll, pdO_d]
  decide
theorem pdS_s (s : Option Nat × Option Nat) : szOk (pdS s) = true := by
  unfold pdS
  simp only [szOk, szAll, pdO_s]
  rfl
theorem pdSs_d (sp : Sps) : PyData.depthAll (sp.map pdS) ≤ 1 := depthAll_le fun d hd => by
  obtain ⟨i, _, rfl⟩ := List.mem_map.mp hd
  exact pdS_d i
theorem pdSs_s (sp : Sps) : szAll (sp.map pdS) = true := szAll_of fun d hd => by
  obtain ⟨i, _, rfl⟩ := List.mem_map.mp hd
  exact pdS_s i
theorem agesF_len (R : Ru) (now : Nat) (ms : List Nat) : (agesF R now ms).length = ms.length := by unfold agesF; rw [List.length_map]
/-- a list of marks -/
def pdMs (ms : List Nat) : PyData := .list (pdM ms)
/-- a list of spans -/
def pdSp (sp : Sps) : PyData := .list (sp.map pdS)
theorem pdMs_d (ms : List Nat) : PyData.depth (pdMs ms) ≤ 1 := Nat.succ_le_succ (pdM_d ms)
theorem pdSp_d (sp : Sps) : PyData.depth (pdSp sp) ≤ 2 := Nat.succ_le_succ (pdSs_d sp)
theorem szOk_l {ds : List PyData} (h : ds.length ≤ 1000) (a : szAll ds = true) : szOk (.list ds) = true := by
  simp only [szOk, a, Bool.and_true]
  exact decide_eq_true h
theorem pdMs_s {ms : List Nat} (h : ms.length ≤ 1000) : szOk (pdMs ms) = true := szOk_l (by rw [pdM_len]; exact h) (pdM_s ms)
theorem pdSp_s {sp : Sps} (h : sp.length ≤ 1000) : szOk (pdSp sp) = true := szOk_l (by rw [List.length_map]; exact h) (pdSs_s sp)
theorem dpMs {K : PySem.W.Frag} {H : Hp} {a : Addr} {ms : List Nat} (h : H a = some (.lst (nvs ms))) : Dp K H (.ref a) (pdMs ms) := .lst (SqL.of h) (dpM ms)
theorem dpSp {K : PySem.W.Frag} {H : Hp} {a : Addr} {Ts : List Addr} {sp : Sps} (h : H a = some (.lst (Ts.map V.ref))) (ta : TupsAt H Ts sp) : Dp K H (.ref a) (pdSp sp) := .lst (SqL.of h) (dp_tups ta)
/-! ### the law's own helpers -/
def spMix (K : PySem.W.Frag) : Sp := fun vs H Q _ => ∃ (a : Addr) (sd : Int) (ns : List Int), vs = [.ref a, .int sd] ∧ SqL K H a (ns.map V.int) ∧ ns.length ≤ 63 ∧ 0 ≤ sd ∧ sd < 2147483647 ∧ ∀ H' h c, HAt H' h c → H h = none → H c = none → Same H H' → Q (.ref h) H'
def spNext : Sp := fun vs H Q _ => ∃ (h c : Addr) (m : Int), vs = [.ref h, .int m] ∧ 1 ≤ m ∧ m < 1073741824 ∧ HAt H h c ∧ ∀ (r : Nat) H', (r : Int) < m → HAt H' h c → Kp2 h c H H' → Q (.int (r : Int)) H'
section
variable {P : Program} {w : World} {K : PySem.W.Frag} {mg : Str → Option Value} {base : Heap}
theorem sc_mix : FnScope ["_law_script", "_law_seed", "_law_mixed", "_law_cell"] ["_law_script", "_law_seed"] (defScope s_L_mix) := ⟨rfl, rfl, rfl, by decide +kernel, rfl, by decide +kernel, by decide +kernel⟩
theorem ok_mix (D : DefAt K mg "_law_mix" s_L_mix ["_law_script", "_law_seed"]) (m_list : mg "list" = none) : Cl P w K mg base 1 "_law_mix" ["_law_script", "_law_seed"] (spMix K) := by
  refine D.cl fun f fd F => ?_
  refine F.ok sc_mix (fun vs H Q E h => ?_) (fun cdv A outer s H vs Q E hr h => ?_)
  · obtain ⟨a, sd, ns, rfl, _⟩ := h
    rfl
  · obtain ⟨a, sd, ns, rfl, hS, hl, s0, s1, q⟩ := h
    refine ⟨_, pss_cons (ps_set (i := 2) sc_mix.nd rfl (Or.inl rfl) (pv 1))
      (pss_cons (ps_for PassesOwn.never rfl (pi_list (pv 0)) (pg_name (i := 3) sc_mix.nd rfl (Or.inl rfl))
        (pss_one (ps_set (i := 2) sc_mix.nd rfl (Or.inl rfl) (pe_op op_mod (pe_op op_add (pe_op op_add (pe_op op_mul (pv 2) pe_int) (pe_op op_mod (pv 3) pe_int)) pe_int) pe_int))))
      (pss_one (ps_ret (pe_lst (pa_cons (pv 2) (pa_cons (pe_callTy call_list_of (by rfl) m_list (by decide +kernel) (pa_cons (pv 0) pa_nil)) (pa_cons pe_int pa_nil))))))), ?_⟩
    refine ⟨_, rfl, ?_⟩
    refine ⟨_, rfl, a, rfl, ⟨_, hS⟩, for_list (K := K) (a := a) (xs := ns.map V.int) (fun i σ H' => ∃ (mx : Int) (v : Option V), σ = [some (.ref a), some (.int sd), some (.int mx), v] ∧ H' = H ∧ 0 ≤ mx ∧ mx < 2147483647)
      ⟨sd, none, rfl, rfl, s0, s1⟩ (fun i σ H' _ ⟨_, _, _, e, _⟩ => by rw [e]; exact hS) ?_ ?_⟩
    · rintro i y σ H' hi ⟨mx, v, rfl, rfl, m0, m1⟩
      obtain ⟨z, rfl⟩ : ∃ z, y = V.int z := by
        rw [List.getElem?_map] at hi
        cases e : ns[i]? with
        | none =>
          rw [e] at hi
          cases hi
        | some z =>
          rw [e] at hi
          exact ⟨z, (Option.some.inj hi).symm⟩
      refine ⟨_, rfl, _, _, rfl, rfl, .inl (le64 m0 (by omega)), _, rfl, _, _, rfl, rfl, (by show (0 : Int) < 2147483629; decide), _, _, rfl, rfl, _, _, rfl, rfl, _, _, rfl, rfl, (by show (0 : Int) < 2147483647; decide), ?_⟩
      exact ⟨_, some (.int z), rfl, rfl, Int.emod_nonneg _ (by decide), Int.emod_lt_of_pos _ (by decide)⟩
    · rintro σ H' ⟨mx, v, rfl, rfl, m0, m1⟩
      refine ⟨_, rfl, _, rfl, a, ns.map V.int, rfl, .inl hS, fun c nc => ?_⟩
      refine ⟨(by show 3 ≤ sizeLine; decide), fun h nh => ?_⟩
      have sc' : Same H' (upd H' c (.lst (ns.map V.int))) := same_upd nc
      have nch : c ≠ h := ne_of_none upd_same nh
      refine q _ h c ⟨⟨mx, 0, ns, upd_same, ?_, m0, m1, Int.le_refl 0, hl⟩, nch.symm⟩ (sc'.free nh) nc (sc'.trans (same_upd nh))
      rw [upd_ne nch, upd_same]
theorem sc_next : FnScope ["_law_h", "_law_many", "_law_at", "_law_cell"] ["_law_h", "_law_many"] (defScope s_L_next) := ⟨rfl, rfl, rfl, by decide +kernel, rfl, by decide +kernel, by decide +kernel⟩
theorem ok_next (D : DefAt K mg "_law_next" s_L_next ["_law_h", "_law_many"]) (m_max : mg "max" = none) (m_len : mg "len" = none) : Cl P w K mg base 1 "_law_next" ["_law_h", "_law_many"] spNext := by
  refine D.cl fun f fd F => ?_
  refine F.ok sc_next (fun vs H Q E h => ?_) (fun cdv A outer s H vs Q E hr h => ?_)
  · obtain ⟨h, c, m, rfl, _⟩ := h
    rfl
  · obtain ⟨h, c, m, rfl, h1, h2, ha, q⟩ := h
    obtain ⟨⟨mx, pl, ns, eh, ec, m0, m1, p0, hl⟩, nhc⟩ := ha
    refine ⟨_, pss_cons (ps_set (i := 2) sc_next.nd rfl (Or.inl rfl) (pe_op op_mod (pe_ix ix_list (pv 0) pe_int (fun _ _ => rfl)) (pe_callB (call_max2 rfl) (by rfl) m_max (by decide +kernel) (pa_cons pe_int (pa_cons (pe_callB call_len_seq (by rfl) m_len PySem.boot_len (pa_cons (pe_ix ix_list (pv 0) pe_int (fun _ _ => rfl)) pa_nil)) pa_nil)))))
      (pss_cons (ps_set (i := 3) sc_next.nd rfl (Or.inl rfl) (pe_ifExp (pt_cmpR (op_neD hr.units) (pe_ix ix_list (pv 0) pe_int (fun _ _ => rfl)) (pe_lst pa_nil) (nomark _)) (pe_ix ix_list (pe_ix ix_list (pv 0) pe_int (fun _ _ => rfl)) (pv 2) (fun _ _ => rfl)) pe_int))
      (pss_cons (ps_if (pt_cmpR op_ge (pv 3) (pe_op op_pow pe_int pe_int) (nomark _))
        (pss_cons (ps_asg (pe_op op_fdiv (pv 3) (pv 1)) (pg_sub (pe_ix ix_list (pv 0) pe_int (fun _ _ => rfl)) (pv 2) set_list)) (pss_one (ps_ret (pe_op op_mod (pv 3) (pv 1))))) pss_nil)
      (pss_cons (ps_asg (pe_op op_mod (pe_op op_add (pe_op op_add (pe_op op_mul (pe_ix ix_list (pv 0) pe_int (fun _ _ => rfl)) pe_int) (pe_op op_mul (pv 3) pe_int)) pe_int) pe_int) (pg_sub (pv 0) pe_int set_list))
      (pss_cons (ps_asg (pe_op op_add (pe_ix ix_list (pv 0) pe_int (fun _ _ => rfl)) pe_int) (pg_sub (pv 0) pe_int set_list))
      (pss_one (ps_ret (pe_op op_mod (pe_op op_fdiv (pe_ix ix_list (pv 0) pe_int (fun _ _ => rfl)) pe_int) (pv 1)))))))), ?_⟩
    have a1 : atI [V.int mx, V.ref c, V.int pl] 1 = some (.ref c) := atI_nat (j := 1) rfl
    have a0 : atI [V.int mx, V.ref c, V.int pl] 0 = some (.int mx) := atI_nat (j := 0) rfl
    have a2 : atI [V.int mx, V.ref c, V.int pl] 2 = some (.int pl) := atI_nat (j := 2) rfl
    have hz : ((ns.map V.int).length : Int) = (ns.length : Int) := by rw [List.length_map]
    obtain ⟨M, hM, hM1, hM2⟩ : ∃ M : Int, (if ((ns.map V.int).length : Int) > 1 then ((ns.map V.int).length : Int) else 1) = M ∧ 1 ≤ M ∧ (ns ≠ [] → M = ns.length) := by
      refine ⟨_, rfl, ?_, ?_⟩
      · split <;> omega
      · intro hn
        have : 1 ≤ ns.length := List.length_pos_iff.mpr hn
        rw [hz]
        split <;> omega
    -- _law_at
    refine ⟨_, rfl, h, _, _, _, rfl, rfl, SqL.of eh, a2, _, rfl, h, _, _, _, rfl, rfl, SqL.of eh, a1, c, _, rfl, .inl (SqL.of ec), _, _, rfl, ?_⟩
    dsimp only
    rw [hM]
    refine ⟨_, _, rfl, rfl, (by show 0 < M; omega), ?_⟩
    have at0 : 0 ≤ pl % M := Int.emod_nonneg _ (by omega)
    have at1 : pl % M < M := Int.emod_lt_of_pos _ (by omega)
    -- _law_cell
    refine ⟨_, rfl, h, _, _, _, rfl, rfl, SqL.of eh, a1, (by show 0 ≤ sizeLine; decide), fun p np => ?_⟩
    have sp : Same H (upd H p (.lst [])) := same_upd np
    have eh1 := sp _ _ eh
    have ec1 := sp _ _ ec
    refine ⟨.list (ns.map PyData.int), .list [], Dp.lst (SqL.of ec1) (dpAll_ints ns), Dp.lst (SqL.of upd_same) .nil, PySem.W.shaped_ints ns, PySem.W.shaped_ints [], _, rfl, ?_⟩
    rw [eqv_nil]
    refine join_if (fun v H' => ∃ z : Int, v = .int z ∧ H' = upd H p (.lst []) ∧ (1000000000000000000 ≤ z → ns ≠ [])) ?_ ?_ ?_
    · rintro v H' ⟨z, rfl, rfl, hzn⟩
      refine ⟨_, rfl, _, _, rfl, rfl, ⟨by decide, by decide, by decide⟩, _, _, rfl, rfl, _, rfl, ?_⟩
      have e18 : (10 : Int) ^ (18 : Int).toNat = 1000000000000000000 := by decide
      dsimp only
      rw [e18]
      by_cases big : 1000000000000000000 ≤ z
      · rw [decide_eq_true big]
        refine iteT ?_
        have hn := hzn big
        have hj : (pl % M).toNat < ns.length := by
          have := hM2 hn
          omega
        refine ⟨_, rfl, _, rfl, _, _, rfl, rfl, ⟨by omega, by omega⟩, _, rfl, h, _, _, _, rfl, rfl, SqL.of eh1, a1, _, rfl, c, _, _, (pl % M).toNat, rfl, rfl, ec1, ?_, ?_⟩
        · rw [List.length_map]
          exact ixN_nn at0 (by omega)
        · refine ⟨_, rfl, _, rfl, _, _, rfl, rfl, (by show 0 < m; omega), ?_⟩
          dsimp only
          have e : z % m = ((z % m).toNat : Int) := (Int.toNat_of_nonneg (Int.emod_nonneg _ (by omega))).symm
          have lt := Int.emod_lt_of_pos z (show 0 < m by omega)
          rw [e]
          refine q _ _ (by omega) ⟨⟨mx, pl, ns.set (pl % M).toNat (z / m), ?_, ?_, m0, m1, p0, by rw [List.length_set]; exact hl⟩, nhc⟩ fun b o eb n1 n2 => ?_
          · rw [upd_ne nhc]
            exact eh1
          · rw [upd_same, List.map_set]
          · rw [upd_ne n2]
            exact sp _ _ eb
      · rw [decide_eq_false big]
        refine iteF ?_
        refine ⟨_, rfl, h, _, _, _, rfl, rfl, SqL.of eh1, a0, _, _, rfl, rfl, .inl (le64 m0 (by omega)), _, rfl, _, _, rfl, rfl, .inr ⟨by decide, by decide⟩, _, _, rfl, rfl, _, _, rfl, rfl, _, _, rfl, rfl, (by show (0 : Int) < 2147483647; decide),
          _, rfl, h, _, _, 0, rfl, rfl, eh1, rfl, ?_⟩
        refine ⟨_, rfl, h, _, _, _, rfl, rfl, SqL.of upd_same, atI_nat (j := 2) rfl, _, _, rfl, rfl, _, rfl, h, _, _, 2, rfl, rfl, upd_same, rfl, ?_⟩
        refine ⟨_, rfl, h, _, _, _, rfl, rfl, SqL.of upd_same, atI_nat (j := 0) rfl, _, _, rfl, rfl, ⟨by decide, by decide⟩, _, rfl, _, _, rfl, rfl, (by show 0 < m; omega), ?_⟩
        dsimp only
        have n0 := Int.emod_nonneg (mx * 48271 + z * 69621 + 11) (show (2147483647 : Int) ≠ 0 by decide)
        have n1 := Int.emod_lt_of_pos (mx * 48271 + z * 69621 + 11) (show (0 : Int) < 2147483647 by decide)
        generalize (mx * 48271 + z * 69621 + 11) % 2147483647 = y at n0 n1 ⊢
        have e : y / 7 % m = ((y / 7 % m).toNat : Int) := (Int.toNat_of_nonneg (Int.emod_nonneg _ (by omega))).symm
        have lt := Int.emod_lt_of_pos (y / 7) (show 0 < m by omega)
        rw [e]
        refine q _ _ (by omega) ⟨⟨y, pl + 1, ns, ?_, ?_, n0, n1, by omega, hl⟩, nhc⟩ fun b o eb n1 n2 => ?_
        · rw [upd_same]
          rfl
        · rw [upd_ne nhc.symm, upd_ne nhc.symm]
          exact ec1
        · rw [upd_ne n1, upd_ne n1]
          exact sp _ _ eb
    · intro e
      have hn : ns ≠ [] := by
        intro z
        subst z
        cases e
      have hj : (pl % M).toNat < ns.length := by
        have := hM2 hn
        omega
      exact ⟨.int ns[(pl % M).toNat], _, fun Q q => ⟨_, rfl, h, _, _, _, rfl, rfl, SqL.of eh1, a1, _, rfl, c, _, _, _, rfl, rfl, SqL.of ec1, at_of (j := (pl % M).toNat) (by omega) (by rw [List.getElem?_map, List.getElem?_eq_getElem hj]; rfl), q⟩, _, rfl, rfl, fun _ => hn⟩
    · intro e
      exact ⟨.int 0, _, fun Q q => q, 0, rfl, rfl, fun h => absurd h (by decide)⟩
end
def Ru.small : Ru → Prop
  | .cnt b s => b ≤ 4 ∧ s ≤ 6
  | .shf b s => b ≤ 5 ∧ s ≤ 6
  | .rgh _ => True
def spRule : Sp := fun vs H Q _ => ∃ (h c : Addr) (sm : Int), vs = [.ref h, .int sm] ∧ (sm = 0 ∨ sm = 1) ∧ HAt H h c ∧ ∀ (R : Ru) H' p, R.ok → (sm = 1 → R.small) → HAt H' h c → Kp2 h c H H' → RuAt H' p R → Q (.ref p) H'
def spEnd : Sp := fun vs H Q _ => ∃ (p : Addr) (R : Ru), vs = [.ref p] ∧ RuAt H p R ∧ R.ok ∧ ∀ H', Same H H' → Q (.int (R.fin : Int)) H'
def spTick : Sp := fun vs H Q _ => ∃ (p : Addr) (R : Ru) (m t : Nat) (i1 i2 : Int), vs = [.ref p, .int i1, .int i2] ∧ i1 = (m : Int) ∧ i2 = (t : Int) ∧ RuAt H p R ∧ R.ok ∧ m ≤ R.most ∧ ∀ H', Same H H' → Q (.int (tick R m t : Int)) H'
theorem fin_at {b : Nat} (h1 : 1 ≤ b) (h2 : b ≤ 6) : atI [V.int 1, V.int 3, V.int 7, V.int 15, V.int 31, V.int 63] ((b : Int) - 1) = some (.int ((2 ^ b - 1 : Nat) : Int)) := by
  have : b = 1 ∨ b = 2 ∨ b = 3 ∨ b = 4 ∨ b = 5 ∨ b = 6 := by omega
  rcases this with rfl | rfl | rfl | rfl | rfl | rfl
  · exact atI_nat (j := 0) rfl
  · exact atI_nat (j := 1) rfl
  · exact atI_nat (j := 2) rfl
  · exact atI_nat (j := 3) rfl
  · exact atI_nat (j := 4) rfl
  · exact atI_nat (j := 5) rfl
theorem pow_at {m : Nat} (h : m ≤ 7) : atI [V.int 1, V.int 2, V.int 4, V.int 8, V.int 16, V.int 32, V.int 64, V.int 128] (m : Int) = some (.int ((2 ^ m : Nat) : Int)) := by
  have : m = 0 ∨ m = 1 ∨ m = 2 ∨ m = 3 ∨ m = 4 ∨ m = 5 ∨ m = 6 ∨ m = 7 := by omega
  rcases this with rfl | rfl | rfl | rfl | rfl | rfl | rfl | rfl
  · exact atI_nat (j := 0) rfl
  · exact atI_nat (j := 1) rfl
  · exact atI_nat (j := 2) rfl
  · exact atI_nat (j := 3) rfl
  · exact atI_nat (j := 4) rfl
  · exact atI_nat (j := 5) rfl
  · exact atI_nat (j := 6) rfl
  · exact atI_nat (j := 7) rfl
section
variable {P : Program} {w : World} {K : PySem.W.Frag} {mg : Str → Option Value} {base : Heap}
theorem sc_rule : FnScope ["_law_h", "_law_small", "_law_kind_here", "_law_step_here"] ["_law_h", "_law_small"] (defScope s_L_rule) := ⟨rfl, rfl, rfl, by decide +kernel, rfl, by decide +kernel, by decide +kernel⟩
theorem ok_rule (D : DefAt K mg "_law_rule" s_L_rule ["_law_h", "_law_small"]) (m_int : mg "int" = none) (C1 : Cl P w K mg base 1 "_law_next" ["_law_h", "_law_many"] spNext) : Cl P w K mg base 2 "_law_rule" ["_law_h", "_law_small"] spRule := by
  refine D.cl fun f fd F => ?_
  refine F.ok sc_rule (fun vs H Q E h => ?_) (fun cdv A outer s H vs Q E hr h => ?_)
  · obtain ⟨h, c, sm, rfl, _⟩ := h
    rfl
  · obtain ⟨h, c, sm, rfl, hsm, ha, q⟩ := h
    refine ⟨_, pss_cons (ps_set (i := 2) sc_rule.nd rfl (Or.inl rfl) (pe_ix ix_list (pe_lst (pa_cons pe_str (pa_cons pe_str (pa_cons pe_str pa_nil)))) (pe_cl C1 hr (pa_cons (pv 0) (pa_cons pe_int pa_nil))) (fun _ _ => rfl)))
      (pss_cons (ps_if (pt_cmpR op_eq (pv 2) pe_str (nomark _)) (pss_one (ps_ret (pe_tup (pa_cons (pv 2) (pa_cons (pe_op op_add pe_int (pe_cl C1 hr (pa_cons (pv 0) (pa_cons pe_int pa_nil)))) pa_nil))))) pss_nil)
      (pss_cons (ps_set (i := 3) sc_rule.nd rfl (Or.inl rfl) (pe_op op_add pe_int (pe_cl C1 hr (pa_cons (pv 0) (pa_cons (pe_ix ix_list (pe_lst (pa_cons pe_int (pa_cons pe_int pa_nil))) (pv 1) (fun _ _ => rfl)) pa_nil)))))
      (pss_one (ps_ret (pe_tup (pa_cons (pv 2) (pa_cons (pe_op op_add pe_int (pe_cl C1 hr (pa_cons (pv 0) (pa_cons (pe_ix ix_list (pe_ix ix_list (pe_lst (pa_cons (pe_lst (pa_cons pe_int (pa_cons pe_int pa_nil))) (pa_cons (pe_lst (pa_cons pe_int (pa_cons pe_int pa_nil))) pa_nil)))
        (pe_callTy call_int1 (by rfl) m_int (by decide +kernel) (pa_cons (pe_cmpR op_eq (pv 2) pe_str (nomark _)) pa_nil)) (fun _ _ => rfl)) (pv 1) (fun _ _ => rfl)) pa_nil)))) (pa_cons (pv 3) pa_nil)))))))), ?_⟩
    refine ⟨(by show 3 ≤ sizeLine; decide), fun l0 n0 => ?_⟩
    have s0 : Same H (upd H l0 (.lst [.str "count", .str "shift", .str "rough"])) := same_upd n0
    refine ⟨_, rfl, h, c, 3, rfl, by decide, by decide, ha.same s0, fun r0 H1 r0l ha1 k1 => ?_⟩
    have el : (upd H l0 (.lst [.str "count", .str "shift", .str "rough"])) l0 = some (.lst [.str "count", .str "shift", .str "rough"]) := upd_same
    have nl : l0 ≠ h ∧ l0 ≠ c := by
      obtain ⟨⟨mx, pl, ns, e1, e2, _⟩, _⟩ := ha
      exact ⟨(ne_of_none e1 n0).symm, (ne_of_none e2 n0).symm⟩
    have el1 := k1 _ _ el nl.1 nl.2
    have K1 : Kp2 h c H H1 := (Same.kp2 s0).trans k1
    have hr0 : r0 = 0 ∨ r0 = 1 ∨ r0 = 2 := by omega
    obtain ⟨kd, ek, hk⟩ : ∃ kd : Str, atI [V.str "count", V.str "shift", V.str "rough"] (r0 : Int) = some (.str kd) ∧ (kd = "count" ∨ kd = "shift" ∨ kd = "rough") := by
      rcases hr0 with rfl | rfl | rfl
      · exact ⟨"count", atI_nat (j := 0) rfl, .inl rfl⟩
      · exact ⟨"shift", atI_nat (j := 1) rfl, .inr (.inl rfl)⟩
      · exact ⟨"rough", atI_nat (j := 2) rfl, .inr (.inr rfl)⟩
    refine ⟨l0, _, _, _, rfl, rfl, SqL.of el1, ek, ?_⟩
    refine ⟨_, rfl, rfl, _, rfl, ?_⟩
    by_cases er : kd = "rough"
    · subst er
      rw [dec_str, decide_eq_true rfl]
      refine iteT ?_
      refine ⟨_, rfl, _, rfl, h, c, 3, rfl, by decide, by decide, ha1, fun r H2 rl ha2 k2 => ?_⟩
      refine ⟨_, _, rfl, rfl, (by show 2 ≤ sizeLine; decide), fun p np => ?_⟩
      refine q (.rgh (1 + r)) _ p ⟨by omega, by omega⟩ (fun _ => trivial) (ha2.same (same_upd np)) ((K1.trans k2).trans (Same.kp2 (same_upd np))) ?_
      exact upd_same
    · rw [dec_str, decide_eq_false er]
      refine iteF ?_
      refine ⟨_, rfl, (by show 2 ≤ sizeLine; decide), fun l1 n1 => ?_⟩
      have s1 : Same H1 (upd H1 l1 (.lst [.int 20, .int 6])) := same_upd n1
      obtain ⟨m1, em1, h11, h12, h13⟩ : ∃ m1 : Int, atI [V.int 20, V.int 6] sm = some (.int m1) ∧ 1 ≤ m1 ∧ m1 ≤ 20 ∧ (sm = 1 → m1 ≤ 6) := by
        rcases hsm with rfl | rfl
        · exact ⟨20, atI_nat (j := 0) rfl, by decide, by decide, fun e => nomatch e⟩
        · exact ⟨6, atI_nat (j := 1) rfl, by decide, by decide, fun _ => by decide⟩
      refine ⟨_, rfl, l1, _, _, _, rfl, rfl, SqL.of upd_same, em1, h, c, m1, rfl, h11, by omega, ha1.same s1, fun r2 H2 r2l ha2 k2 => ?_⟩
      refine ⟨_, _, rfl, rfl, ?_⟩
      refine ⟨_, rfl, _, rfl, (by show 2 ≤ sizeLine; decide), fun l2 n2 => ?_⟩
      have s2 : Same H2 (upd H2 l2 (.lst [.int 6, .int 4])) := same_upd n2
      refine ⟨(by show 2 ≤ sizeLine; decide), fun l3 n3 => ?_⟩
      have s3 : Same (upd H2 l2 (.lst [.int 6, .int 4])) (upd (upd H2 l2 (.lst [.int 6, .int 4])) l3 (.lst [.int 10, .int 5])) := same_upd n3
      refine ⟨(by show 2 ≤ sizeLine; decide), fun l4 n4 => ?_⟩
      have s4 : Same (upd (upd H2 l2 (.lst [.int 6, .int 4])) l3 (.lst [.int 10, .int 5])) (upd (upd (upd H2 l2 (.lst [.int 6, .int 4])) l3 (.lst [.int 10, .int 5])) l4 (.lst [.ref l2, .ref l3])) := same_upd n4
      have e2 := s4 _ _ (s3 _ _ (show (upd H2 l2 (.lst [.int 6, .int 4])) l2 = some (.lst [.int 6, .int 4]) from upd_same))
      have e3 := s4 _ _ (show (upd (upd H2 l2 (.lst [.int 6, .int 4])) l3 (.lst [.int 10, .int 5])) l3 = some (.lst [.int 10, .int 5]) from upd_same)
      have sa := (s2.trans s3).trans s4
      refine ⟨_, rfl, rfl, .inr ⟨_, rfl, ?_⟩⟩
      rw [dec_str]
      have hkd : kd = "count" ∨ kd = "shift" := by
        rcases hk with z | z | z
        · exact .inl z
        · exact .inr z
        · exact absurd z er
      obtain ⟨lx, elx, hlx⟩ : ∃ lx, atI [V.ref l2, V.ref l3] (if decide (kd = "shift") = true then 1 else 0) = some (.ref lx) ∧ (kd = "count" ∧ lx = l2 ∨ kd = "shift" ∧ lx = l3) := by
        rcases hkd with rfl | rfl
        · refine ⟨l2, ?_, .inl ⟨rfl, rfl⟩⟩
          rw [decide_eq_false k_cs]
          exact atI_nat (j := 0) rfl
        · refine ⟨l3, ?_, .inr ⟨rfl, rfl⟩⟩
          rw [decide_eq_true rfl]
          exact atI_nat (j := 1) rfl
      obtain ⟨u, v, euv, hu⟩ : ∃ u v : Int, (upd (upd (upd H2 l2 (.lst [.int 6, .int 4])) l3 (.lst [.int 10, .int 5])) l4 (.lst [.ref l2, .ref l3])) lx = some (.lst [.int u, .int v]) ∧ (kd = "count" ∧ u = 6 ∧ v = 4 ∨ kd = "shift" ∧ u = 10 ∧ v = 5) := by
        rcases hlx with ⟨z, rfl⟩ | ⟨z, rfl⟩
        · exact ⟨6, 4, e2, .inl ⟨z, rfl, rfl⟩⟩
        · exact ⟨10, 5, e3, .inr ⟨z, rfl, rfl⟩⟩
      obtain ⟨m2, em2, hm2⟩ : ∃ m2 : Int, atI [V.int u, V.int v] sm = some (.int m2) ∧ (sm = 0 ∧ m2 = u ∨ sm = 1 ∧ m2 = v) := by
        rcases hsm with rfl | rfl
        · exact ⟨u, atI_nat (j := 0) rfl, .inl ⟨rfl, rfl⟩⟩
        · exact ⟨v, atI_nat (j := 1) rfl, .inr ⟨rfl, rfl⟩⟩
      have b2 : 1 ≤ m2 ∧ m2 ≤ 10 := by
        rcases hu with ⟨_, rfl, rfl⟩ | ⟨_, rfl, rfl⟩ <;> rcases hm2 with ⟨_, rfl⟩ | ⟨_, rfl⟩ <;> decide
      refine ⟨l4, _, _, _, rfl, rfl, SqL.of upd_same, elx, _, rfl, lx, _, _, _, rfl, rfl, SqL.of euv, em2, h, c, m2, rfl, b2.1, by omega, ha2.same sa, fun r5 H5 r5l ha5 k5 => ?_⟩
      refine ⟨_, _, rfl, rfl, _, rfl, (by show 3 ≤ sizeLine; decide), fun p np => ?_⟩
      have KK : Kp2 h c H (upd H5 p (.tup [.str kd, .int (1 + (r5 : Int)), .int (1 + (r2 : Int))])) := (((K1.trans (Same.kp2 s1)).trans k2).trans (Same.kp2 sa)).trans (k5.trans (Same.kp2 (same_upd np)))
      rcases hu with ⟨rfl, rfl, rfl⟩ | ⟨rfl, rfl, rfl⟩
      · have x1 : (r5 : Int) < 6 ∧ (sm = 1 → (r5 : Int) < 4) := by
          rcases hm2 with ⟨z, rfl⟩ | ⟨z, rfl⟩
          · exact ⟨r5l, fun z' => by omega⟩
          · exact ⟨by omega, fun _ => r5l⟩
        exact q (.cnt (1 + r5) (1 + r2)) _ p ⟨by omega, by omega, by omega, by omega⟩ (fun z => by have := h13 z; have := x1.2 z; exact ⟨by omega, by omega⟩) (ha5.same (same_upd np)) KK upd_same
      · have x1 : (r5 : Int) < 10 ∧ (sm = 1 → (r5 : Int) < 5) := by
          rcases hm2 with ⟨z, rfl⟩ | ⟨z, rfl⟩
          · exact ⟨r5l, fun z' => by omega⟩
          · exact ⟨by omega, fun _ => r5l⟩
        exact q (.shf (1 + r5) (1 + r2)) _ p ⟨by omega, by omega, by omega, by omega⟩ (fun z => by have := h13 z; have := x1.2 z; exact ⟨by omega, by omega⟩) (ha5.same (same_upd np)) KK upd_same
theorem sc_end : FnScope ["_law_rule_here"] ["_law_rule_here"] (defScope s_L_end) := ⟨rfl, rfl, rfl, by decide +kernel, rfl, by decide +kernel, by decide +kernel⟩
theorem ok_end (D : DefAt K mg "_law_end" s_L_end ["_law_rule_here"]) : Cl P w K mg base 1 "_law_end" ["_law_rule_here"] spEnd := by
  refine D.cl fun f fd F => ?_
  refine F.ok sc_end (fun vs H Q E h => ?_) (fun cdv A outer s H vs Q E hr h => ?_)
  · obtain ⟨p, R, rfl, _⟩ := h
    rfl
  · obtain ⟨p, R, rfl, hp, ok, q⟩ := h
    refine ⟨_, pss_one (ps_ret (pe_ifExp (pt_cmpR op_ne (pe_ix ix_tup (pv 0) pe_int (fun _ _ => rfl)) pe_str (nomark _)) (pe_ix ix_list (pe_lst (pa_cons pe_int (pa_cons pe_int (pa_cons pe_int (pa_cons pe_int (pa_cons pe_int (pa_cons pe_int pa_nil))))))) (pe_op op_sub (pe_ix ix_tup (pv 0) pe_int (fun _ _ => rfl)) pe_int) (fun _ _ => rfl)) pe_int)), ?_⟩
    refine ⟨_, rfl, p, _, _, _, rfl, rfl, SqT.of hp, R.at0, rfl, _, rfl, ?_⟩
    rw [dec_str]
    by_cases hk : R.kind = "shift"
    · rw [decide_eq_true hk]
      refine iteF ?_
      cases R with
      | cnt b s => exact absurd hk k_cs
      | rgh b => exact absurd hk k_rs
      | shf b s => exact q H (Same.refl H)
    · rw [decide_eq_false hk]
      have eb : R.fin = 2 ^ R.bits - 1 ∧ R.bits ≤ 6 := by
        cases R with
        | cnt b s => exact ⟨rfl, ok.2.1⟩
        | rgh b => exact ⟨rfl, Nat.le_trans ok.2 (by decide)⟩
        | shf b s => exact absurd rfl hk
      refine iteT ⟨(by show 6 ≤ sizeLine; decide), fun l nl => ?_⟩
      have sl : Same H (upd H l (.lst [.int 1, .int 3, .int 7, .int 15, .int 31, .int 63])) := same_upd nl
      refine ⟨_, rfl, p, _, _, _, rfl, rfl, SqT.of (sl _ _ hp), R.at1, _, _, rfl, rfl, l, _, _, _, rfl, rfl, SqL.of upd_same, fin_at (R.bits_pos ok).1 eb.2, ?_⟩
      rw [← eb.1]
      exact q _ sl
theorem sc_most : FnScope ["_law_rule_here", "_law_most_here", "_law_turn"] ["_law_rule_here"] (defScope s_L_most) := ⟨rfl, rfl, rfl, by decide +kernel, rfl, by decide +kernel, by decide +kernel⟩
theorem ok_most (D : DefAt K mg "_law_most" s_L_most ["_law_rule_here"]) (m_range : mg "range" = none) (m_int : mg "int" = none) : Cl P w K mg base 1 "_law_most" ["_law_rule_here"] spTopMark := by
  refine D.cl fun f fd F => ?_
  refine F.ok sc_most (fun vs H Q E h => ?_) (fun cdv A outer s H vs Q E hr h => ?_)
  · obtain ⟨p, R, rfl, _⟩ := h
    rfl
  · obtain ⟨p, R, rfl, hp, ok, q⟩ := h
    refine ⟨_, pss_cons (ps_set (i := 1) sc_most.nd rfl (Or.inl rfl) pe_int)
      (pss_cons (ps_for PassesOwn.never rfl (pi_range1 (by rfl) m_range (pa_cons (pe_op op_add (pe_ix ix_tup (pv 0) pe_int (fun _ _ => rfl)) (pe_callTy call_int1 (by rfl) m_int (by decide +kernel) (pa_cons (pe_cmpR op_eq (pe_ix ix_tup (pv 0) pe_int (fun _ _ => rfl)) pe_str (nomark _)) pa_nil))) pa_nil))
        (pg_name (i := 2) sc_most.nd rfl (Or.inl rfl)) (pss_one (ps_set (i := 1) sc_most.nd rfl (Or.inl rfl) (pe_op op_mul (pv 1) pe_int))))
      (pss_one (ps_ret (pe_op op_sub (pv 1) pe_int)))), ?_⟩
    refine ⟨_, rfl, p, _, _, _, rfl, rfl, SqT.of hp, R.at1, _, rfl, p, _, _, _, rfl, rfl, SqT.of hp, R.at0, rfl, .inr ⟨_, rfl, ?_⟩⟩
    rw [dec_str]
    obtain ⟨n, en, hn, hm⟩ : ∃ n : Nat, (R.bits : Int) + (if decide (R.kind = "shift") = true then 1 else 0) = (n : Int) ∧ n ≤ 11 ∧ R.most = 2 ^ n - 1 := by
      have hb := R.bits_pos ok
      cases R with
      | cnt b s =>
        refine ⟨b, ?_, by have : b ≤ 10 := hb.2; omega, rfl⟩
        rw [decide_eq_false (show ¬ (Ru.cnt b s).kind = "shift" from k_cs)]
        rfl
      | rgh b =>
        refine ⟨b, ?_, by have : b ≤ 10 := hb.2; omega, rfl⟩
        rw [decide_eq_false (show ¬ (Ru.rgh b).kind = "shift" from k_rs)]
        rfl
      | shf b s =>
        refine ⟨b + 1, ?_, by have : b ≤ 10 := hb.2; omega, rfl⟩
        rw [decide_eq_true (show (Ru.shf b s).kind = "shift" from rfl)]
        rfl
    refine ⟨_, _, rfl, rfl, _, rfl, by omega, by omega, ?_⟩
    rw [en, Int.toNat_natCast]
    refine for_range (lo := 0) (n := n) (fun i σ H' => ∃ v : Option V, σ = [some (.ref p), some (.int ((2 ^ i : Nat) : Int)), v] ∧ H' = H ∧ i ≤ n) ⟨none, rfl, rfl, Nat.zero_le _⟩ ?_ ?_
    · rintro i σ H' hi ⟨v, rfl, rfl, _⟩
      have pw : 2 ^ i ≤ 2 ^ 11 := Nat.pow_le_pow_right (by decide) (by omega)
      refine ⟨_, rfl, _, _, rfl, rfl, .inl (le64 (Int.natCast_nonneg _) (by omega)), some (.int (0 + (i : Int))), ?_, rfl, hi⟩
      rw [Nat.pow_succ]
      rfl
    · rintro σ H' ⟨v, rfl, rfl, _⟩
      refine ⟨_, rfl, _, _, rfl, rfl, ?_⟩
      dsimp only
      have pp := Nat.two_pow_pos n
      rw [show ((2 ^ n : Nat) : Int) - 1 = (R.most : Int) by rw [hm]; omega]
      exact q
theorem sc_tick : FnScope ["_law_rule_here", "_law_mark", "_law_moment"] ["_law_rule_here", "_law_mark", "_law_moment"] (defScope s_L_tick) := ⟨rfl, rfl, rfl, by decide +kernel, rfl, by decide +kernel, by decide +kernel⟩
theorem ok_tick (D : DefAt K mg "_law_tick" s_L_tick ["_law_rule_here", "_law_mark", "_law_moment"]) (m_int : mg "int" = none) (m_min : mg "min" = none) (C1 : Cl P w K mg base 1 "_law_end" ["_law_rule_here"] spEnd) :
    Cl P w K mg base 2 "_law_tick" ["_law_rule_here", "_law_mark", "_law_moment"] spTick := by
  refine D.cl fun f fd F => ?_
  refine F.ok sc_tick (fun vs H Q E h => ?_) (fun cdv A outer s H vs Q E hr h => ?_)
  · obtain ⟨p, R, m, t, i1, i2, rfl, _⟩ := h
    rfl
  · obtain ⟨p, R, m, t, i1, i2, rfl, rfl, rfl, hp, ok, hm, q⟩ := h
    refine ⟨_, pss_cons (ps_if (pt_cmpR op_eq (pe_ix ix_tup (pv 0) pe_int (fun _ _ => rfl)) pe_str (nomark _)) (pss_one (ps_ret (pe_op op_add (pv 1) (pe_callTy call_int1 (by rfl) m_int (by decide +kernel) (pa_cons (pe_and (pe_cmpR op_ne (pv 1) (pe_cl C1 hr (pa_cons (pv 0) pa_nil)) (nomark _))
        (pe_one (pe_cmpR op_eq (pe_op op_mod (pv 2) (pe_ix ix_list (pe_lst (pa_cons pe_int (pa_cons pe_int (pa_cons pe_int (pa_cons pe_int (pa_cons pe_int (pa_cons pe_int (pa_cons pe_int (pa_cons pe_int pa_nil))))))))) (pv 1) (fun _ _ => rfl))) pe_int (nomark _)))) pa_nil))))) pss_nil)
      (pss_cons (ps_if (pt_cmpR op_ne (pe_op op_mod (pv 2) (pe_ix ix_tup (pv 0) pe_int (fun _ _ => rfl))) pe_int (nomark _)) (pss_one (ps_ret (pv 1))) pss_nil)
      (pss_one (ps_ret (pe_ifExp (pt_cmpR op_eq (pe_ix ix_tup (pv 0) pe_int (fun _ _ => rfl)) pe_str (nomark _)) (pe_op op_fdiv (pv 1) pe_int) (pe_callB (call_min2 rfl) (by rfl) m_min (by decide +kernel) (pa_cons (pe_op op_add (pv 1) pe_int) (pa_cons (pe_cl C1 hr (pa_cons (pv 0) pa_nil)) pa_nil))))))), ?_⟩
    refine ⟨_, rfl, p, _, _, _, rfl, rfl, SqT.of hp, R.at0, rfl, _, rfl, ?_⟩
    rw [dec_str]
    by_cases hk : R.kind = "rough"
    · rw [decide_eq_true hk]
      refine iteT ?_
      cases R with
      | cnt b s => exact absurd hk k_cr
      | shf b s => exact absurd hk k_sr
      | rgh b =>
        obtain ⟨b1, b3⟩ : 1 ≤ b ∧ b ≤ 3 := ok
        have p8 : 2 ^ b ≤ 2 ^ 3 := Nat.pow_le_pow_right (by decide) b3
        have hm' : m ≤ 2 ^ b - 1 := hm
        refine ⟨_, rfl, _, rfl, _, rfl, p, .rgh b, rfl, hp, ⟨b1, b3⟩, fun H1 s1 => ?_⟩
        refine ⟨rfl, _, rfl, ?_⟩
        rw [dec_int]
        by_cases e : m = 2 ^ b - 1
        · rw [decide_eq_true (show (m : Int) = ((Ru.rgh b).fin : Int) by rw [e]; rfl)]
          refine iteF (.inr ⟨_, rfl, _, _, rfl, rfl, ?_⟩)
          have q' := q H1 s1
          rw [show tick (.rgh b) m t = m from if_neg (fun z => z.1 e)] at q'
          exact q'
        · rw [decide_eq_false (show ¬ (m : Int) = ((Ru.rgh b).fin : Int) from fun z => e (Int.ofNat.inj z))]
          refine iteT ⟨_, rfl, (by show 8 ≤ sizeLine; decide), fun l nl => ?_⟩
          refine ⟨_, rfl, l, _, _, _, rfl, rfl, SqL.of upd_same, pow_at (by omega), _, _, rfl, rfl, ?_, rfl, ?_⟩
          · have := Nat.two_pow_pos m
            show (0 : Int) < ((2 ^ m : Nat) : Int)
            omega
          · refine .inr ⟨_, rfl, _, _, rfl, rfl, ?_⟩
            have q' := q _ (s1.trans (same_upd (o := .lst [V.int 1, V.int 2, V.int 4, V.int 8, V.int 16, V.int 32, V.int 64, V.int 128]) nl))
            rw [dec_int]
            have em : (t : Int) % ((2 ^ m : Nat) : Int) = ((t % 2 ^ m : Nat) : Int) := rfl
            dsimp only
            by_cases z : t % 2 ^ m = 0
            · rw [show tick (.rgh b) m t = m + 1 from if_pos ⟨e, z⟩] at q'
              rw [decide_eq_true (show (t : Int) % ((2 ^ m : Nat) : Int) = 0 by rw [em, z]; rfl)]
              exact q'
            · rw [show tick (.rgh b) m t = m from if_neg (fun x => z x.2)] at q'
              rw [decide_eq_false (show ¬ (t : Int) % ((2 ^ m : Nat) : Int) = 0 by rw [em]; omega)]
              exact q'
    · rw [decide_eq_false hk]
      refine iteF ?_
      have hs := R.step_ok ok
      refine ⟨_, rfl, _, rfl, p, _, _, _, rfl, rfl, SqT.of hp, R.at2 hk, _, _, rfl, rfl, (by show (0 : Int) < (R.step : Int); omega), rfl, _, rfl, ?_⟩
      rw [dec_int]
      have em : (t : Int) % (R.step : Int) = ((t % R.step : Nat) : Int) := rfl
      have q' := q H (Same.refl H)
      by_cases z : t % R.step = 0
      · rw [decide_eq_true (show (t : Int) % (R.step : Int) = 0 by rw [em, z]; rfl)]
        refine iteF ?_
        refine ⟨_, rfl, p, _, _, _, rfl, rfl, SqT.of hp, R.at0, rfl, _, rfl, ?_⟩
        rw [dec_str]
        by_cases hk2 : R.kind = "shift"
        · rw [decide_eq_true hk2]
          refine iteT ⟨_, rfl, _, _, rfl, rfl, ⟨by decide, by decide⟩, ?_⟩
          cases R with
          | cnt b s => exact absurd hk2 k_cs
          | rgh b => exact absurd rfl hk
          | shf b s =>
            rw [show tick (.shf b s) m t = m / 2 from if_pos z] at q'
            exact q'
        · rw [decide_eq_false hk2]
          refine iteF ⟨_, rfl, _, _, rfl, rfl, _, rfl, p, R, rfl, hp, ok, fun H1 s1 => ?_⟩
          refine ⟨_, _, rfl, ?_⟩
          have q'' := q H1 s1
          cases R with
          | shf b s => exact absurd rfl hk2
          | rgh b => exact absurd rfl hk
          | cnt b s =>
            rw [show tick (.cnt b s) m t = min (m + 1) (2 ^ b - 1) from if_pos z] at q''
            have e : (if ((Ru.cnt b s).fin : Int) < (m : Int) + 1 then ((Ru.cnt b s).fin : Int) else (m : Int) + 1) = ((min (m + 1) (2 ^ b - 1) : Nat) : Int) := by
              show (if ((2 ^ b - 1 : Nat) : Int) < (m : Int) + 1 then ((2 ^ b - 1 : Nat) : Int) else (m : Int) + 1) = _
              split <;> omega
            rw [e]
            exact q''
      · rw [decide_eq_false (show ¬ (t : Int) % (R.step : Int) = 0 by rw [em]; omega)]
        refine iteT ⟨_, rfl, ?_⟩
        cases R with
        | rgh b => exact absurd rfl hk
        | cnt b s =>
          rw [show tick (.cnt b s) m t = m from if_neg z] at q'
          exact q'
        | shf b s =>
          rw [show tick (.shf b s) m t = m from if_neg z] at q'
          exact q'
end
section
variable {P : Program} {w : World} {K : PySem.W.Frag} {mg : Str → Option Value} {base : Heap}
theorem sc_Laged : FnScope ["_law_rule_here", "_law_mark", "_law_begin", "_law_end_here", "_law_moment"] ["_law_rule_here", "_law_mark", "_law_begin", "_law_end_here"] (defScope s_L_aged) := ⟨rfl, rfl, rfl, by decide +kernel, rfl, by decide +kernel, by decide +kernel⟩
theorem ok_Laged (D : DefAt K mg "_law_aged" s_L_aged ["_law_rule_here", "_law_mark", "_law_begin", "_law_end_here"]) (m_range : mg "range" = none) (C1 : Cl P w K mg base 2 "_law_tick" ["_law_rule_here", "_law_mark", "_law_moment"] spTick) :
    Cl P w K mg base 3 "_law_aged" ["_law_rule_here", "_law_mark", "_law_begin", "_law_end_here"] spAged := by
  refine D.cl fun f fd F => ?_
  refine F.ok sc_Laged (fun vs H Q E h => ?_) (fun cdv A outer s H vs Q E hr h => ?_)
  · obtain ⟨p, R, m, t, n, i1, i2, i3, rfl, _⟩ := h
    rfl
  · obtain ⟨p, R, m, t, n, i1, i2, i3, rfl, rfl, rfl, rfl, hp, ok, hm, ht, q⟩ := h
    refine ⟨_, pss_cons (ps_for PassesOwn.never rfl (pi_range2 (by rfl) m_range (pa_cons (pe_op op_add (pv 2) pe_int) (pa_cons (pe_op op_add (pv 3) pe_int) pa_nil))) (pg_name (i := 4) sc_Laged.nd rfl (Or.inl rfl))
        (pss_one (ps_set (i := 1) sc_Laged.nd rfl (Or.inl rfl) (pe_cl C1 hr (pa_cons (pv 0) (pa_cons (pv 1) (pa_cons (pv 4) pa_nil)))))))
      (pss_one (ps_ret (pv 1))), ?_⟩
    refine ⟨_, rfl, _, _, rfl, rfl, _, rfl, _, _, rfl, rfl, _, _, rfl, ⟨by omega, by omega, by omega, by omega⟩, ?_⟩
    rw [show (((t + n : Nat) : Int) + 1 - ((t : Int) + 1)).toNat = n by omega]
    refine for_range (lo := (t : Int) + 1) (n := n) (fun i σ H' => ∃ v : Option V, σ = [some (.ref p), some (.int (ag R m t i : Int)), some (.int (t : Int)), some (.int ((t + n : Nat) : Int)), v] ∧ Same H H') ⟨none, rfl, Same.refl H⟩ ?_ ?_
    · rintro i σ H' hi ⟨v, rfl, sm⟩
      refine ⟨_, rfl, _, rfl, _, rfl, p, R, ag R m t i, t + i + 1, _, _, rfl, rfl, by omega, sm _ _ hp, ok, ag_le R m t hm i, fun H2 s2 => ?_⟩
      exact ⟨some (.int ((t : Int) + 1 + (i : Int))), rfl, sm.trans s2⟩
    · rintro σ H' ⟨v, rfl, sm⟩
      exact ⟨_, rfl, q H' sm⟩
end
/-! ### the law's own look at spans -/
def spTop : Sp := fun vs H Q _ => ∃ (p : Addr) (R : Ru), vs = [.ref p] ∧ RuAt H p R ∧ R.ok ∧ R.isShf = true ∧ Q (.int (R.top : Int)) H
theorem Ru.shift_iff (R : Ru) : (R.kind = "shift") ↔ R.isShf = true := by
  cases R with
  | cnt b s => exact ⟨fun h => absurd h k_cs, fun h => nomatch h⟩
  | shf b s => exact ⟨fun _ => rfl, fun _ => rfl⟩
  | rgh b => exact ⟨fun h => absurd h k_rs, fun h => nomatch h⟩
section
variable {P : Program} {w : World} {K : PySem.W.Frag} {mg : Str → Option Value} {base : Heap}
theorem sc_top : FnScope ["_law_rule_here"] ["_law_rule_here"] (defScope s_L_top) := ⟨rfl, rfl, rfl, by decide +kernel, rfl, by decide +kernel, by decide +kernel⟩
theorem ok_top (D : DefAt K mg "_law_top" s_L_top ["_law_rule_here"]) (C1 : Cl P w K mg base 1 "_law_most" ["_law_rule_here"] spTopMark) : Cl P w K mg base 2 "_law_top" ["_law_rule_here"] spTop := by
  refine D.cl fun f fd F => ?_
  refine F.ok sc_top (fun vs H Q E h => ?_) (fun cdv A outer s H vs Q E hr h => ?_)
  · obtain ⟨p, R, rfl, _⟩ := h
    rfl
  · obtain ⟨p, R, rfl, hp, ok, hs, q⟩ := h
    refine ⟨_, pss_one (ps_ret (pe_op op_fdiv (pe_op op_add (pe_cl C1 hr (pa_cons (pv 0) pa_nil)) pe_int) pe_int)), ?_⟩
    refine ⟨_, rfl, p, R, rfl, hp, ok, _, _, rfl, rfl, _, _, rfl, rfl, ⟨by decide, by decide⟩, ?_⟩
    cases R with
    | cnt b s => cases hs
    | rgh b => cases hs
    | shf b s =>
      have e : (((Ru.shf b s).most : Int) + 1) / 2 = ((Ru.shf b s).top : Int) := by
        show (((2 ^ (b + 1) - 1 : Nat) : Int) + 1) / 2 = ((2 ^ b : Nat) : Int)
        have pb := Nat.two_pow_pos b
        rw [Nat.pow_succ]
        omega
      dsimp only
      rw [e]
      exact q
end
/-! ### the law's own: a thing that is seen -/
section
variable {P : Program} {w : World} {K : PySem.W.Frag} {mg : Str → Option Value} {base : Heap}
theorem sc_Lseen : FnScope ["_law_rule_here", "_law_mark"] ["_law_rule_here", "_law_mark"] (defScope s_L_seen) := ⟨rfl, rfl, rfl, by decide +kernel, rfl, by decide +kernel, by decide +kernel⟩
theorem ok_Lseen (D : DefAt K mg "_law_seen" s_L_seen ["_law_rule_here", "_law_mark"]) (C1 : Cl P w K mg base 2 "_law_top" ["_law_rule_here"] spTop) : Cl P w K mg base 3 "_law_seen" ["_law_rule_here", "_law_mark"] spSeen := by
  refine D.cl fun f fd F => ?_
  refine F.ok sc_Lseen (fun vs H Q E h => ?_) (fun cdv A outer s H vs Q E hr h => ?_)
  · obtain ⟨p, R, m, i, rfl, _⟩ := h
    rfl
  · obtain ⟨p, R, m, i, rfl, rfl, hp, ok, q⟩ := h
    refine ⟨_, pss_cons (ps_if (pt_cmpR op_ne (pe_ix ix_tup (pv 0) pe_int (fun _ _ => rfl)) pe_str (nomark _)) (pss_one (ps_ret pe_int)) pss_nil)
      (pss_one (ps_ret (pe_ifExp (pt_cmpR op_ge (pv 1) (pe_cl C1 hr (pa_cons (pv 0) pa_nil)) (nomark _)) (pv 1) (pe_op op_add (pv 1) (pe_cl C1 hr (pa_cons (pv 0) pa_nil)))))), ?_⟩
    refine ⟨_, rfl, p, _, _, _, rfl, rfl, SqT.of hp, R.at0, rfl, _, rfl, ?_⟩
    rw [dec_str]
    by_cases hk : R.kind = "shift"
    · rw [decide_eq_true hk]
      refine iteF ?_
      cases R with
      | cnt b s => exact absurd hk k_cs
      | rgh b => exact absurd hk k_rs
      | shf b s =>
        refine ⟨_, rfl, _, rfl, p, .shf b s, rfl, hp, ok, rfl, _, _, rfl, rfl, _, rfl, ?_⟩
        rw [seen_shf] at q
        by_cases c : m < 2 ^ b
        · rw [if_pos c] at q
          rw [decide_eq_false (show ¬ ((Ru.shf b s).top : Int) ≤ (m : Int) by show ¬ ((2 ^ b : Nat) : Int) ≤ (m : Int); omega)]
          exact iteF ⟨_, rfl, _, rfl, p, .shf b s, rfl, hp, ok, rfl, _, _, rfl, rfl, q⟩
        · rw [if_neg c] at q
          rw [decide_eq_true (show ((Ru.shf b s).top : Int) ≤ (m : Int) by show ((2 ^ b : Nat) : Int) ≤ (m : Int); omega)]
          exact iteT ⟨_, rfl, q⟩
    · rw [decide_eq_false hk]
      refine iteT ?_
      cases R with
      | cnt b s => exact q
      | rgh b => exact q
      | shf b s => exact absurd rfl hk
end
/-! ### the law's own board: a dict of a rule, marks, the moment, when each was last seen -/
structure Md where
  ms : List Nat
  ls : List (Option Nat)
  now : Nat
def bkv (p am : Addr) (now : Nat) (al : Addr) : List (Key × V) := [(.inr "rule", .ref p), (.inr "marks", .ref am), (.inr "now", .int (now : Int)), (.inr "last", .ref al)]
structure MAt (H : Hp) (m p am al : Addr) (R : Ru) (s : Md) : Prop where
  ob : H m = some (.dK (bkv p am s.now al))
  rl : RuAt H p R
  mrk : H am = some (.lst (nvs s.ms))
  la : H al = some (.lst (s.ls.map oV))
  ne : am ≠ al
  len : s.ls.length = s.ms.length
  few : s.ms.length ≤ 8
  bd : ∀ x, x ∈ s.ms → x ≤ R.most
theorem MAt.kp {H H' : Hp} {m p am al : Addr} {R : Ru} {s : Md} (a : MAt H m p am al R s) {L : List Addr} (k : KpL L H H') (n1 : ¬ m ∈ L) (n2 : ¬ p ∈ L) (n3 : ¬ am ∈ L) (n4 : ¬ al ∈ L) : MAt H' m p am al R s :=
  ⟨k _ _ a.ob n1, k _ _ a.rl n2, k _ _ a.mrk n3, k _ _ a.la n4, a.ne, a.len, a.few, a.bd⟩
theorem MAt.same {H H' : Hp} {m p am al : Addr} {R : Ru} {s : Md} (a : MAt H m p am al R s) (k : Same H H') : MAt H' m p am al R s :=
  ⟨k _ _ a.ob, k _ _ a.rl, k _ _ a.mrk, k _ _ a.la, a.ne, a.len, a.few, a.bd⟩
def mdSee (R : Ru) (j : Nat) (s : Md) : Md := ⟨s.ms.set j (seenM R (s.ms.getD j 0)), s.ls.set j (some s.now), s.now⟩
def mdPass (R : Ru) (n : Nat) (s : Md) : Md := ⟨s.ms.map fun x => ag R x s.now n, s.ls, s.now + n⟩
theorem k_rm : ¬ (("rule" : Str) = "marks") := by decide +kernel
theorem k_rn : ¬ (("rule" : Str) = "now") := by decide +kernel
theorem k_rl : ¬ (("rule" : Str) = "last") := by decide +kernel
theorem k_mn : ¬ (("marks" : Str) = "now") := by decide +kernel
theorem k_ml : ¬ (("marks" : Str) = "last") := by decide +kernel
theorem k_nl : ¬ (("now" : Str) = "last") := by decide +kernel
theorem inr_ne {a b : Str} (h : ¬ a = b) : ¬ (Sum.inr a : Key) = Sum.inr b := fun q => h (Sum.inr.inj q)
theorem bkv_rule (p am : Addr) (now : Nat) (al : Addr) : valV (bkv p am now al) (.inr "rule") = some (.ref p) := valV_pos rfl
theorem bkv_marks (p am : Addr) (now : Nat) (al : Addr) : valV (bkv p am now al) (.inr "marks") = some (.ref am) := by
  unfold bkv
  rw [valV_neg (inr_ne k_rm)]
  exact valV_pos rfl
theorem bkv_now (p am : Addr) (now : Nat) (al : Addr) : valV (bkv p am now al) (.inr "now") = some (.int (now : Int)) := by
  unfold bkv
  rw [valV_neg (inr_ne k_rn), valV_neg (inr_ne k_mn)]
  exact valV_pos rfl
theorem bkv_last (p am : Addr) (now : Nat) (al : Addr) : valV (bkv p am now al) (.inr "last") = some (.ref al) := by
  unfold bkv
  rw [valV_neg (inr_ne k_rl), valV_neg (inr_ne k_ml), valV_neg (inr_ne k_nl)]
  exact valV_pos rfl
theorem dg {H : Hp} {a : Addr} {kvs : List (Key × V)} {k : Str} {v : V} (e : H a = some (.dK kvs)) (h : valV kvs (.inr k) = some v) : DGet H a (.str k) (some v) := .inl ⟨kvs, .inr k, .inl e, rfl, h.symm⟩
theorem bkv_put_marks (p am : Addr) (now : Nat) (al am' : Addr) : putK (bkv p am now al) (.inr "marks") (.ref am') = bkv p am' now al := by
  unfold putK
  rw [valV_any, bkv_marks, Option.isSome_some, if_pos rfl]
  unfold bkv
  simp only [List.map_cons, List.map_nil, if_neg (inr_ne k_rm), if_neg (inr_ne (fun q => k_mn q.symm)), if_neg (inr_ne (fun q => k_ml q.symm)), if_pos]
theorem bkv_put_now (p am : Addr) (now : Nat) (al : Addr) (t : Nat) : putK (bkv p am now al) (.inr "now") (.int (t : Int)) = bkv p am t al := by
  unfold putK
  rw [valV_any, bkv_now, Option.isSome_some, if_pos rfl]
  unfold bkv
  simp only [List.map_cons, List.map_nil, if_neg (inr_ne k_rn), if_neg (inr_ne k_mn), if_neg (inr_ne (fun q => k_nl q.symm)), if_pos]
theorem bkv_merge (p am : Addr) (now : Nat) (al : Addr) : mergeK [] (bkv p am now al) = bkv p am now al := by
  unfold mergeK bkv
  simp only [List.foldl_cons, List.foldl_nil]
  have e1 : putK [] (.inr ("rule" : Str)) (.ref p) = ([(.inr "rule", .ref p)] : List (Key × V)) := rfl
  rw [e1]
  have e2 : putK ([(.inr "rule", .ref p)] : List (Key × V)) (.inr "marks") (.ref am) = [(.inr "rule", .ref p), (.inr "marks", .ref am)] := by
    unfold putK
    rw [valV_any, valV_neg (inr_ne k_rm), valV_nil, Option.isSome_none, if_neg Bool.false_ne_true]
    rfl
  rw [e2]
  have e3 : putK ([(.inr "rule", .ref p), (.inr "marks", .ref am)] : List (Key × V)) (.inr "now") (.int (now : Int)) = [(.inr "rule", .ref p), (.inr "marks", .ref am), (.inr "now", .int (now : Int))] := by
    unfold putK
    rw [valV_any, valV_neg (inr_ne k_rn), valV_neg (inr_ne k_mn), valV_nil, Option.isSome_none, if_neg Bool.false_ne_true]
    rfl
  rw [e3]
  unfold putK
  rw [valV_any, valV_neg (inr_ne k_rl), valV_neg (inr_ne k_ml), valV_neg (inr_ne k_nl), valV_nil, Option.isSome_none, if_neg Bool.false_ne_true]
  rfl
def spBoardL : Sp := fun vs H Q _ => ∃ (p : Addr) (R : Ru) (n : Nat) (i : Int), vs = [.ref p, .int i] ∧ i = (n : Int) ∧ RuAt H p R ∧ R.ok ∧ n ≤ 8 ∧
  ∀ H' m am al, MAt H' m p am al R ⟨List.replicate n R.fin, List.replicate n none, 0⟩ → H m = none → H am = none → H al = none → Same H H' → Q (.ref m) H'
def spDo : Sp := fun vs H Q _ => ∃ (m p am al st : Addr) (R : Ru) (s : Md) (wd : Str) (k : Nat) (i : Int), vs = [.ref m, .ref st] ∧ MAt H m p am al R s ∧ R.ok ∧ H st = some (.tup [.str wd, .int i]) ∧ i = (k : Int) ∧
  ((wd = "see" ∧ k < s.ms.length ∧ ∀ H', MAt H' m p am al R (mdSee R k s) → KpL [m, am, al] H H' → Q .non H') ∨
   (wd = "pass" ∧ s.now + k ≤ 1000000000 ∧ ∀ H' am', MAt H' m p am' al R (mdPass R k s) → H am' = none → KpL [m, am, al] H H' → Q (.int ((s.now + k : Nat) : Int)) H'))
theorem k_sp : ¬ (("pass" : Str) = "see") := by decide +kernel
section
variable {P : Program} {w : World} {K : PySem.W.Frag} {mg : Str → Option Value} {base : Heap}
theorem sc_Lboard : FnScope ["_law_rule_here", "_law_things"] ["_law_rule_here", "_law_things"] (defScope s_L_board) := ⟨rfl, rfl, rfl, by decide +kernel, rfl, by decide +kernel, by decide +kernel⟩
theorem ok_Lboard (D : DefAt K mg "_law_board" s_L_board ["_law_rule_here", "_law_things"]) (C1 : Cl P w K mg base 1 "_law_end" ["_law_rule_here"] spEnd) : Cl P w K mg base 2 "_law_board" ["_law_rule_here", "_law_things"] spBoardL := by
  refine D.cl fun f fd F => ?_
  refine F.ok sc_Lboard (fun vs H Q E h => ?_) (fun cdv A outer s H vs Q E hr h => ?_)
  · obtain ⟨p, R, n, i, rfl, _⟩ := h
    rfl
  · obtain ⟨p, R, n, i, rfl, rfl, hp, ok, n8, q⟩ := h
    refine ⟨_, pss_one (ps_ret (pe_disp (pps_cons pe_str (pv 0) (pps_cons pe_str (pe_op op_rep (pe_lst (pa_cons (pe_cl C1 hr (pa_cons (pv 0) pa_nil)) pa_nil)) (pv 1)) (pps_cons pe_str pe_int (pps_cons pe_str (pe_op op_rep (pe_lst (pa_cons pe_non pa_nil)) (pv 1)) pps_nil)))) (by rfl) (by rfl) (fun z => by cases z) (by decide))), ?_⟩
    intro m nm
    have s0 := same_upd (o := .dK []) nm
    refine ⟨_, rfl, ?_⟩
    refine ⟨_, rfl, p, R, rfl, s0 _ _ hp, ok, fun H1 s1 => ?_⟩
    refine ⟨(by show 1 ≤ sizeLine; decide), fun l1 n1 => ?_⟩
    have sl1 := same_upd (o := .lst [V.int (R.fin : Int)]) n1
    refine ⟨_, rfl, l1, _, _, rfl, rfl, upd_same, by omega, by omega, ?_, fun am nam => ?_⟩
    · rw [Int.toNat_natCast]
      exact Nat.le_trans (show 1 * n ≤ 8 by omega) (by decide)
    rw [Int.toNat_natCast, rep_one]
    have sam := same_upd (o := .lst (List.replicate n (V.int (R.fin : Int)))) nam
    refine ⟨(by show 1 ≤ sizeLine; decide), fun l2 n2 => ?_⟩
    have sl2 := same_upd (o := .lst [V.non]) n2
    refine ⟨_, rfl, l2, _, _, rfl, rfl, upd_same, by omega, by omega, ?_, fun al nal => ?_⟩
    · rw [Int.toNat_natCast]
      exact Nat.le_trans (show 1 * n ≤ 8 by omega) (by decide)
    rw [Int.toNat_natCast, rep_one]
    have sal := same_upd (o := .lst (List.replicate n V.non)) nal
    have sx := (((s1.trans sl1).trans sam).trans sl2).trans sal
    have em := sx _ _ (show (upd H m (.dK [])) m = some (.dK []) from upd_same)
    have eam := sal _ _ (sl2 _ _ (show (upd _ am (HO.lst (List.replicate n (V.int (R.fin : Int))))) am = some (.lst (List.replicate n (V.int (R.fin : Int)))) from upd_same))
    refine ⟨em, bkv p am 0 al, rfl, (by show 4 ≤ 15; decide), ?_⟩
    rw [bkv_merge]
    have na : am ≠ al := ne_of_none (sl2 _ _ (show (upd _ am (HO.lst (List.replicate n (V.int (R.fin : Int))))) am = some (.lst (List.replicate n (V.int (R.fin : Int)))) from upd_same)) nal
    have mam : m ≠ am := ne_of em eam (fun z => nomatch z)
    have mal : m ≠ al := ne_of em upd_same (fun z => nomatch z)
    have hpx := sx _ _ (s0 _ _ hp)
    have f1 : H am = none := (s0.trans (s1.trans sl1)).free nam
    have f2 : H al = none := (s0.trans (((s1.trans sl1).trans sam).trans sl2)).free nal
    refine q _ m am al ⟨upd_same, ?_, ?_, ?_, na, ?_, ?_, fun x hx => ?_⟩ nm f1 f2 fun x o e => ?_
    · unfold RuAt
      rw [upd_ne (ne_of hpx em (fun z => nomatch z))]
      exact hpx
    · rw [upd_ne mam.symm, eam]
      unfold nvs
      rw [List.map_replicate, List.map_replicate]
      rfl
    · rw [upd_ne mal.symm, upd_same, List.map_replicate]
      rfl
    · rw [List.length_replicate, List.length_replicate]
    · rw [List.length_replicate]; exact n8
    · rw [List.eq_of_mem_replicate hx]
      exact fin_most R
    · rw [upd_ne (ne_of_none e nm)]
      exact sx _ _ (s0 _ _ e)
theorem sc_Ldo : FnScope ["_law_m", "_law_step_here", "_law_end_here", "_law_mark"] ["_law_m", "_law_step_here"] (defScope s_L_do) := ⟨rfl, rfl, rfl, by decide +kernel, rfl, by decide +kernel, by decide +kernel⟩
theorem ok_Ldo (D : DefAt K mg "_law_do" s_L_do ["_law_m", "_law_step_here"]) (C1 : Cl P w K mg base 3 "_law_seen" ["_law_rule_here", "_law_mark"] spSeen) (C2 : Cl P w K mg base 3 "_law_aged" ["_law_rule_here", "_law_mark", "_law_begin", "_law_end_here"] spAged) :
    Cl P w K mg base 4 "_law_do" ["_law_m", "_law_step_here"] spDo := by
  refine D.cl fun f fd F => ?_
  refine F.ok sc_Ldo (fun vs H Q E h => ?_) (fun cdv A outer s H vs Q E hr h => ?_)
  · obtain ⟨m, p, am, al, st, R, sv, wd, k, i, rfl, _⟩ := h
    rfl
  · obtain ⟨m, p, am, al, st, R, sv, wd, k, i, rfl, ma, ok, est, rfl, q⟩ := h
    have hu := hu_of hr
    refine ⟨_, pss_cons (ps_if (pt_cmpR op_eq (pe_ix ix_tup (pv 1) pe_int (fun _ _ => rfl)) pe_str (nomark _))
        (pss_cons (ps_asg (pe_cl C1 hr (pa_cons (pe_dget hu (pv 0) pe_str (fun _ _ => rfl)) (pa_cons (pe_ix ix_list (pe_dget hu (pv 0) pe_str (fun _ _ => rfl)) (pe_ix ix_tup (pv 1) pe_int (fun _ _ => rfl)) (fun _ _ => rfl)) pa_nil))) (pg_sub (pe_dget hu (pv 0) pe_str (fun _ _ => rfl)) (pe_ix ix_tup (pv 1) pe_int (fun _ _ => rfl)) set_list))
        (pss_cons (ps_asg (pe_dget hu (pv 0) pe_str (fun _ _ => rfl)) (pg_sub (pe_dget hu (pv 0) pe_str (fun _ _ => rfl)) (pe_ix ix_tup (pv 1) pe_int (fun _ _ => rfl)) set_list))
        (pss_one (ps_ret pe_non)))) pss_nil)
      (pss_cons (ps_set (i := 2) sc_Ldo.nd rfl (Or.inr rfl) (pe_op op_add (pe_dget hu (pv 0) pe_str (fun _ _ => rfl)) (pe_ix ix_tup (pv 1) pe_int (fun _ _ => rfl))))
      (pss_cons (ps_dput hu (pv 0) pe_str (pe_lc (own := [("_law_mark", 3)]) (g := gName 3) (tt := tYes) (te := tCall spAged [] E0 (tCons (tDGet (tVar 0) (tC (.str "rule"))) (tCons (tVar 3) (tCons (tDGet (tVar 0) (tC (.str "now"))) (tCons (tVar 2) tNil))))) rfl sc_Ldo.nd (pi_list (pe_dget hu (pv 0) pe_str (fun _ _ => rfl)))
          (blkOk_by (N := ["_law_m", "_law_step_here", "_law_end_here", "_law_mark"]) (sc := defScope s_L_do) (by decide +kernel)) (fun _ _ _ _ _ => by exact pg_name (i := 3) sc_Ldo.nd rfl (Or.inl rfl)) (fun _ _ _ _ _ => by exact pts_nil)
          (fun _ _ _ _ _ => by exact pe_cl C2 hr (pa_cons (pe_dget hu (pv 0) pe_str (fun _ _ => rfl)) (pa_cons (pv 3) (pa_cons (pe_dget hu (pv 0) pe_str (fun _ _ => rfl)) (pa_cons (pv 2) pa_nil)))))) rfl)
      (pss_cons (ps_dput hu (pv 0) pe_str (pv 2) rfl)
      (pss_one (ps_ret (pv 2)))))), ?_⟩
    have t0 : atI [V.str wd, V.int (k : Int)] 0 = some (.str wd) := atI_nat (j := 0) rfl
    have t1 : atI [V.str wd, V.int (k : Int)] 1 = some (.int (k : Int)) := atI_nat (j := 1) rfl
    have nMm : m ≠ am := ne_of ma.ob ma.mrk (fun z => nomatch z)
    have nMl : m ≠ al := ne_of ma.ob ma.la (fun z => nomatch z)
    have nPm : p ≠ m := ne_of ma.rl ma.ob (fun z => nomatch z)
    have nPa : p ≠ am := ne_of ma.rl ma.mrk (fun z => nomatch z)
    have nPl : p ≠ al := ne_of ma.rl ma.la (fun z => nomatch z)
    refine ⟨_, rfl, st, _, _, _, rfl, rfl, SqT.of est, t0, rfl, _, rfl, ?_⟩
    rw [dec_str]
    rcases q with ⟨rfl, kl, q⟩ | ⟨rfl, tl, q⟩
    · rw [decide_eq_true rfl]
      refine iteT ?_
      have gm := nvs_get kl
      refine ⟨_, rfl, m, _, rfl, dg ma.ob (bkv_rule _ _ _ _), _, rfl, m, _, rfl, dg ma.ob (bkv_marks _ _ _ _), _, rfl, st, _, _, _, rfl, rfl, SqT.of est, t1, am, _, _, _, rfl, rfl, SqL.of ma.mrk, atI_nat gm, p, R, sv.ms.getD k 0, _, rfl, rfl, ma.rl, ok, ?_⟩
      have kn : ixN (nvs sv.ms).length (k : Int) = some k := by
        rw [nvs_len, ixN_nn (Int.natCast_nonneg _) (by omega), Int.toNat_natCast]
      refine ⟨_, rfl, m, _, rfl, dg ma.ob (bkv_marks _ _ _ _), _, rfl, st, _, _, _, rfl, rfl, SqT.of est, t1, am, _, _, k, rfl, rfl, ma.mrk, kn, ?_⟩
      have eob : (upd H am (.lst ((nvs sv.ms).set k (.int (seenM R (sv.ms.getD k 0) : Int))))) m = some (.dK (bkv p am sv.now al)) := by
        rw [upd_ne nMm]; exact ma.ob
      have ela : (upd H am (.lst ((nvs sv.ms).set k (.int (seenM R (sv.ms.getD k 0) : Int))))) al = some (.lst (sv.ls.map oV)) := by
        rw [upd_ne ma.ne.symm]; exact ma.la
      have est2 : (upd H am (.lst ((nvs sv.ms).set k (.int (seenM R (sv.ms.getD k 0) : Int))))) st = some (.tup [.str "see", .int (k : Int)]) := by
        rw [upd_ne (ne_of est ma.mrk (fun z => nomatch z))]; exact est
      have kn2 : ixN (sv.ls.map oV).length (k : Int) = some k := by
        rw [List.length_map, ma.len, ixN_nn (Int.natCast_nonneg _) (by omega), Int.toNat_natCast]
      refine ⟨_, rfl, m, _, rfl, dg eob (bkv_now _ _ _ _), _, rfl, m, _, rfl, dg eob (bkv_last _ _ _ _), _, rfl, st, _, _, _, rfl, rfl, SqT.of est2, t1, al, _, _, k, rfl, rfl, ela, kn2, ?_⟩
      refine q _ ⟨?_, ?_, ?_, ?_, ma.ne, ?_, ?_, fun x hx => ?_⟩ fun x o e n => ?_
      · rw [upd_ne nMl]; exact eob
      · unfold RuAt
        rw [upd_ne nPl, upd_ne nPa]; exact ma.rl
      · rw [upd_ne ma.ne, upd_same, nvs_set]
        rfl
      · rw [upd_same]
        show some (HO.lst ((sv.ls.map oV).set k (oV (some sv.now)))) = some (HO.lst ((sv.ls.set k (some sv.now)).map oV))
        rw [List.map_set]
      · show (sv.ls.set k (some sv.now)).length = (sv.ms.set k (seenM R (sv.ms.getD k 0))).length
        rw [List.length_set, List.length_set]
        exact ma.len
      · show (sv.ms.set k (seenM R (sv.ms.getD k 0))).length ≤ 8
        rw [List.length_set]
        exact ma.few
      · rcases List.mem_or_eq_of_mem_set hx with hx | hx
        · exact ma.bd x hx
        · rw [hx]
          exact fresh_most (seen_fresh (ma.bd _ (getD_mem kl)))
      · rw [upd_ne (fun z => n (by rw [z]; simp)), upd_ne (fun z => n (by rw [z]; simp))]
        exact e
    · rw [decide_eq_false k_sp]
      refine iteF ?_
      refine ⟨_, rfl, m, _, rfl, dg ma.ob (bkv_now _ _ _ _), _, rfl, st, _, _, _, rfl, rfl, SqT.of est, t1, _, _, rfl, rfl, ?_⟩
      refine ⟨_, rfl, m, _, rfl, dg ma.ob (bkv_marks _ _ _ _), am, rfl, ⟨_, SqL.of ma.mrk⟩, fun D nD => ?_⟩
      refine lc_list (K := K) (a := am) (xs := nvs sv.ms) (fun j H' => Same H H' ∧ H' D = some (.lst (nvs ((sv.ms.take j).map fun x => ag R x sv.now k)))) ⟨same_upd nD, upd_same⟩ (fun j H' _ h => SqL.of (h.1 _ _ ma.mrk)) ?_ ?_
      · rintro j y H' hy ⟨sm, eD⟩
        have jl : j < sv.ms.length := by
          have := (List.getElem?_eq_some_iff.mp hy).1
          rw [nvs_len] at this
          exact this
        have ey : y = .int ((sv.ms.getD j 0 : Nat) : Int) := Option.some.inj (hy.symm.trans (nvs_get jl))
        subst ey
        have ob' := sm _ _ ma.ob
        refine ⟨rfl, _, rfl, m, _, rfl, dg ob' (bkv_rule _ _ _ _), _, rfl, _, rfl, m, _, rfl, dg ob' (bkv_now _ _ _ _), _, rfl, p, R, sv.ms.getD j 0, sv.now, k, _, _, _, rfl, rfl, rfl, rfl, sm _ _ ma.rl, ok, ma.bd _ (getD_mem jl), tl, fun H2 s2 => ?_⟩
        refine ⟨_, s2 _ _ eD, ?_, fun x o e => ?_, ?_⟩
        · rw [nvs_len, List.length_map, List.length_take]
          exact small1000 (by have := ma.few; omega)
        · rw [upd_ne (ne_of_none e nD)]
          exact s2 _ _ (sm _ _ e)
        · rw [upd_same, List.take_add_one, List.getElem?_eq_getElem jl, List.getD_eq_getElem?_getD, List.getElem?_eq_getElem jl]
          unfold nvs
          rw [List.map_append, List.map_append, List.map_append]
          rfl
      · rintro H' ⟨sm, eD⟩
        rw [nvs_len, List.take_length] at eD
        have fD : H D = none := nD
        have ob' := sm _ _ ma.ob
        refine ⟨_, rfl, m, _, rfl, .inl ⟨_, .inr "marks", ob', rfl, (by show 4 < sizeLine; decide), rfl⟩, ?_⟩
        rw [bkv_put_marks]
        refine ⟨_, rfl, _, rfl, m, _, rfl, .inl ⟨_, .inr "now", upd_same, rfl, (by show 4 < sizeLine; decide), rfl⟩, ?_⟩
        have et : (sv.now : Int) + (k : Int) = ((sv.now + k : Nat) : Int) := rfl
        have nmD : m ≠ D := ne_of_none ma.ob nD
        refine ⟨_, rfl, ?_⟩
        rw [upd_upd]
        refine q _ D ⟨?_, ?_, ?_, ?_, ?_, ?_, ?_, fun x hx => ?_⟩ fD fun x o e n => ?_
        · rw [upd_same]
          show some (HO.dK (putK (bkv p D sv.now al) (.inr "now") (.int ((sv.now + k : Nat) : Int)))) = some (HO.dK (bkv p D (sv.now + k) al))
          rw [bkv_put_now]
        · unfold RuAt
          rw [upd_ne nPm]; exact sm _ _ ma.rl
        · rw [upd_ne nmD.symm]
          exact eD
        · rw [upd_ne nMl.symm]; exact sm _ _ ma.la
        · exact (ne_of_none ma.la nD).symm
        · show sv.ls.length = (sv.ms.map fun x => ag R x sv.now k).length
          rw [List.length_map]
          exact ma.len
        · show (sv.ms.map fun x => ag R x sv.now k).length ≤ 8
          rw [List.length_map]
          exact ma.few
        · obtain ⟨z, hz, rfl⟩ := List.mem_map.mp hx
          exact ag_le R z sv.now (ma.bd z hz) k
        · rw [upd_ne (fun z => n (by rw [z]; simp))]
          exact sm _ _ e
end
/-! ### the law's own steps -/
def spStep : Sp := fun vs H Q _ => ∃ (h c m p am al : Addr) (R : Ru) (s : Md), vs = [.ref h, .ref m] ∧ HAt H h c ∧ MAt H m p am al R s ∧ 1 ≤ s.ms.length ∧ h ≠ am ∧ h ≠ al ∧ c ≠ am ∧ c ≠ al ∧
  ∀ H' st wd (k : Nat), ((wd = "see" ∧ k < s.ms.length) ∨ (wd = "pass" ∧ 1 ≤ k ∧ k ≤ 1000)) → H' st = some (.tup [.str wd, .int (k : Int)]) → HAt H' h c → KpL [h, c] H H' → Q (.ref st) H'
/-- the law's board stands behind a draw -/
theorem MAt.drawn {H H' : Hp} {m p am al h c : Addr} {R : Ru} {s : Md} (a : MAt H m p am al R s) (hc : HAt H h c) (n1 : h ≠ am) (n2 : h ≠ al) (n3 : c ≠ am) (n4 : c ≠ al) (k : KpL [h, c] H H') : MAt H' m p am al R s := by
  obtain ⟨⟨mx, pl, ns, e1, e2, _⟩, _⟩ := hc
  exact a.kp k (nin2 (ne_of a.ob e1 (fun z => nomatch z)) (ne_of a.ob e2 (fun z => nomatch z))) (nin2 (ne_of a.rl e1 (fun z => nomatch z)) (ne_of a.rl e2 (fun z => nomatch z))) (nin2 n1.symm n3.symm) (nin2 n2.symm n4.symm)
section
variable {P : Program} {w : World} {K : PySem.W.Frag} {mg : Str → Option Value} {base : Heap}
theorem sc_Lstep : FnScope ["_law_h", "_law_m"] ["_law_h", "_law_m"] (defScope s_L_step) := ⟨rfl, rfl, rfl, by decide +kernel, rfl, by decide +kernel, by decide +kernel⟩
theorem ok_Lstep (D : DefAt K mg "_law_step" s_L_step ["_law_h", "_law_m"]) (m_len : mg "len" = none) (C1 : Cl P w K mg base 1 "_law_next" ["_law_h", "_law_many"] spNext) : Cl P w K mg base 2 "_law_step" ["_law_h", "_law_m"] spStep := by
  refine D.cl fun f fd F => ?_
  refine F.ok sc_Lstep (fun vs H Q E h => ?_) (fun cdv A outer s H vs Q E hr h => ?_)
  · obtain ⟨h, c, m, p, am, al, R, sv, rfl, _⟩ := h
    rfl
  · obtain ⟨h, c, m, p, am, al, R, sv, rfl, ha, ma, ln, n1, n2, n3, n4, q⟩ := h
    have hu := hu_of hr
    refine ⟨_, pss_cons (ps_if (pt_cmpR op_eq (pe_cl C1 hr (pa_cons (pv 0) (pa_cons pe_int pa_nil))) pe_int (nomark _)) (pss_one (ps_ret (pe_tup (pa_cons pe_str (pa_cons (pe_cl C1 hr (pa_cons (pv 0) (pa_cons (pe_callB call_len_seq (by rfl) m_len PySem.boot_len (pa_cons (pe_dget hu (pv 1) pe_str (fun _ _ => rfl)) pa_nil)) pa_nil))) pa_nil))))) pss_nil)
      (pss_one (ps_ret (pe_tup (pa_cons pe_str (pa_cons (pe_op op_add pe_int (pe_cl C1 hr (pa_cons (pv 0) (pa_cons (pe_ix ix_list (pe_lst (pa_cons pe_int (pa_cons pe_int (pa_cons pe_int (pa_cons pe_int pa_nil))))) (pe_op op_fdiv (pe_cl C1 hr (pa_cons (pv 0) (pa_cons pe_int pa_nil))) pe_int) (fun _ _ => rfl)) pa_nil)))) pa_nil))))), ?_⟩
    refine ⟨_, rfl, h, c, 2, rfl, by decide, by decide, ha, fun r0 H1 r0l ha1 k1 => ?_⟩
    have K1 := Kp2.kpL k1
    have ma1 := ma.drawn ha n1 n2 n3 n4 K1
    refine ⟨rfl, _, rfl, ?_⟩
    rw [dec_int]
    by_cases z : r0 = 0
    · rw [decide_eq_true (show (r0 : Int) = 0 by omega)]
      refine iteT ?_
      have f8 := ma.few
      refine ⟨_, rfl, _, rfl, m, _, rfl, dg ma1.ob (bkv_marks _ _ _ _), am, _, rfl, .inl (SqL.of ma1.mrk), h, c, _, rfl, by rw [nvs_len]; omega, by rw [nvs_len]; omega, ha1, fun k H2 kl ha2 k2 => ?_⟩
      rw [nvs_len] at kl
      refine ⟨(by show 2 ≤ sizeLine; decide), fun st nst => ?_⟩
      exact q _ st "see" k (.inl ⟨rfl, by omega⟩) upd_same (ha2.same (same_upd nst)) ((K1.trans (Kp2.kpL k2)).trans (Same.kpL (same_upd nst)))
    · rw [decide_eq_false (show ¬ (r0 : Int) = 0 by omega)]
      refine iteF ?_
      refine ⟨_, rfl, (by show 4 ≤ sizeLine; decide), fun l nl => ?_⟩
      have sl := same_upd (o := .lst [V.int 3, V.int 20, V.int 200, V.int 1000]) nl
      have nlh : l ≠ h ∧ l ≠ c := by
        obtain ⟨⟨mx, pl, ns, e1, e2, _⟩, _⟩ := ha1
        exact ⟨(ne_of_none e1 nl).symm, (ne_of_none e2 nl).symm⟩
      refine ⟨_, rfl, h, c, 7, rfl, by decide, by decide, ha1.same sl, fun r1 H2 r1l ha2 k2 => ?_⟩
      refine ⟨_, _, rfl, rfl, ⟨by decide, by decide⟩, ?_⟩
      obtain ⟨mv, emv, mv1, mv2⟩ : ∃ mv : Int, atI [V.int 3, V.int 20, V.int 200, V.int 1000] ((r1 : Int) / 2) = some (.int mv) ∧ 1 ≤ mv ∧ mv ≤ 1000 := by
        have : (r1 : Int) / 2 = 0 ∨ (r1 : Int) / 2 = 1 ∨ (r1 : Int) / 2 = 2 ∨ (r1 : Int) / 2 = 3 := by omega
        rcases this with e | e | e | e
        · rw [e]; exact ⟨3, atI_nat (j := 0) rfl, by decide, by decide⟩
        · rw [e]; exact ⟨20, atI_nat (j := 1) rfl, by decide, by decide⟩
        · rw [e]; exact ⟨200, atI_nat (j := 2) rfl, by decide, by decide⟩
        · rw [e]; exact ⟨1000, atI_nat (j := 3) rfl, by decide, by decide⟩
      refine ⟨l, _, _, _, rfl, rfl, SqL.of (k2 _ _ upd_same nlh.1 nlh.2), emv, h, c, mv, rfl, mv1, by omega, ha2, fun r H3 rl ha3 k3 => ?_⟩
      refine ⟨_, _, rfl, rfl, (by show 2 ≤ sizeLine; decide), fun st nst => ?_⟩
      have e : (1 : Int) + (r : Int) = ((1 + r : Nat) : Int) := rfl
      exact q _ st "pass" (1 + r) (.inr ⟨rfl, by omega, by omega⟩) upd_same (ha3.same (same_upd nst)) ((((K1.trans (Same.kpL sl)).trans (Kp2.kpL k2)).trans (Kp2.kpL k3)).trans (Same.kpL (same_upd nst)))
end
/-! ### whether a board tells what is here -/
def isD (ms : List Nat) (now : Nat) (sp : Sps) : PyData := .list [pdMs ms, .int (now : Int), pdSp sp]
theorem isD_d (ms : List Nat) (now : Nat) (sp : Sps) : PyData.depth (isD ms now sp) ≤ 3 := by
  have h1 := pdMs_d ms
  have h2 := pdSp_d sp
  unfold isD
  simp only [PyData.depth, PyData.depthAll]
  omega
theorem isD_s {ms : List Nat} {now : Nat} {sp : Sps} (h : ms.length ≤ 1000) (h2 : sp.length ≤ 1000) : szOk (isD ms now sp) = true := by
  refine szOk_l (by show 3 ≤ 1000; decide) ?_
  simp only [szAll, pdMs_s h, pdSp_s h2]
  rfl
def spIs (C : Addr) : Sp := fun vs H Q _ => ∃ (b p am m p' mm ml : Addr) (R : Ru) (s : Md), vs = [.ref b, .ref m] ∧ BAt C H b p am R s.ms s.now ∧ MAt H m p' mm ml R s ∧ s.now ≤ 1000000000 ∧ ∀ H', Same H H' → Q (.bl true) H'
section
variable {P : Program} {w : World} {K : PySem.W.Frag} {mg : Str → Option Value} {base : Heap} {C : Addr}
theorem sc_Lis : FnScope ["_law_board_here", "_law_m", "_law_ages", "_law_mark"] ["_law_board_here", "_law_m"] (defScope s_L_is) := ⟨rfl, rfl, rfl, by decide +kernel, rfl, by decide +kernel, by decide +kernel⟩
theorem ok_Lis (D : DefAt K mg "_law_is" s_L_is ["_law_board_here", "_law_m"]) (T : Bcl K mg C) (C1 : Cl P w K mg base 5 "span" ["rule", "now", "mark"] spSpan) (C2 : Cl P w K mg base 4 "_law_alike" ["_law_found", "_law_due"] (spAlike K 3))
    (CM : ClM P w K mg base CX0 1 C "marks" ["self"] (spMarks C)) (CN : ClM P w K mg base CX0 1 C "now" ["self"] (spNow C)) (CA : ClM P w K mg base CX0 7 C "ages" ["self"] (spAges C)) :
    Cl P w K mg base 8 "_law_is" ["_law_board_here", "_law_m"] (spIs C) := by
  refine D.cl fun f fd F => ?_
  refine F.ok sc_Lis (fun vs H Q E h => ?_) (fun cdv A outer s H vs Q E hr h => ?_)
  · obtain ⟨b, p, am, m, p', mm, ml, R, sv, rfl, _⟩ := h
    rfl
  · obtain ⟨b, p, am, m, p', mm, ml, R, sv, rfl, ba, ma, nl, q⟩ := h
    have hu := hu_of hr
    refine ⟨_, pss_cons (ps_setLc (i := 2) (own := [("_law_mark", 3)]) (g := gName 3) (tt := tYes) (te := tCall spSpan [] E0 (tCons (tDGet (tVar 1) (tC (.str "rule"))) (tCons (tDGet (tVar 1) (tC (.str "now"))) (tCons (tVar 3) tNil)))) rfl sc_Lis.nd rfl rfl (sw_true rfl rfl rfl (by decide +kernel)) (pi_list (pe_dget hu (pv 1) pe_str (fun _ _ => rfl)))
        (blkOk_by (N := ["_law_board_here", "_law_m", "_law_ages", "_law_mark"]) (sc := defScope s_L_is) (by decide +kernel)) (fun _ _ _ _ _ => by exact pg_name (i := 3) sc_Lis.nd rfl (Or.inl rfl)) (fun _ _ _ _ _ => by exact pts_nil)
        (fun _ _ _ _ _ => by exact pe_cl C1 hr (pa_cons (pe_dget hu (pv 1) pe_str (fun _ _ => rfl)) (pa_cons (pe_dget hu (pv 1) pe_str (fun _ _ => rfl)) (pa_cons (pv 3) pa_nil)))))
      (pss_one (ps_ret (pe_cl C2 hr (pa_cons (pe_lst (pa_cons (pe_cm0 (E := E0) CM T.cl pass0 hr (pv 0)) (pa_cons (pe_cm0 (E := E0) CN T.cl pass0 hr (pv 0)) (pa_cons (pe_cm0 (E := E0) CA T.cl pass0 hr (pv 0)) pa_nil))))
        (pa_cons (pe_lst (pa_cons (pe_dget hu (pv 1) pe_str (fun _ _ => rfl)) (pa_cons (pe_dget hu (pv 1) pe_str (fun _ _ => rfl)) (pa_cons (pv 2) pa_nil)))) pa_nil))))), ?_⟩
    have f8 := ba.few
    refine ⟨_, rfl, m, _, rfl, dg ma.ob (bkv_marks _ _ _ _), mm, rfl, ⟨_, SqL.of ma.mrk⟩, fun D nD => ?_⟩
    refine lc_list (K := K) (a := mm) (xs := nvs sv.ms) (fun i H' => Same H H' ∧ ∃ Ts : List Addr, H' D = some (.lst (Ts.map V.ref)) ∧ TupsAt H' Ts (agesF R sv.now (sv.ms.take i))) ⟨same_upd nD, [], upd_same, rfl, fun j T s h _ => by simp at h⟩ (fun j H' _ h => SqL.of (h.1 _ _ ma.mrk)) ?_ ?_
    · rintro i y H' hy ⟨sm, Ts, eD, ta⟩
      have hi : i < sv.ms.length := by
        have := (List.getElem?_eq_some_iff.mp hy).1
        rw [nvs_len] at this
        exact this
      have ey : y = .int ((sv.ms.getD i 0 : Nat) : Int) := Option.some.inj (hy.symm.trans (nvs_get hi))
      subst ey
      have ob' := sm _ _ ma.ob
      refine ⟨rfl, _, rfl, m, _, rfl, dg ob' (bkv_rule _ _ _ _), _, rfl, m, _, rfl, dg ob' (bkv_now _ _ _ _), _, rfl, p', R, sv.now, sv.ms.getD i 0, _, _, rfl, rfl, rfl, sm _ _ ma.rl, ba.ok, ma.bd _ (getD_mem hi), nl, fun H2 T2 x y isp nT s2 eT => ?_⟩
      obtain ⟨g1, g2, g3⟩ := ages_more hi ta eD isp s2 eT
      exact ⟨_, s2 _ _ eD, by rw [List.length_map]; exact small1000 (by omega), fun x' o e => by
        rw [upd_ne (ne_of_none e nD)]
        exact s2 _ _ (sm _ _ e), Ts ++ [T2], g2, g3⟩
    · rintro H1 ⟨s1, Ts1, eD, ta1⟩
      rw [nvs_len, List.take_length] at ta1
      have ba1 := ba.same s1
      obtain ⟨dx, ob1⟩ := ba1.ob
      have no : ∀ {x : Str}, ¬ x = "_moment" → ¬ x = "_marks" → ¬ x = "_rule" → (bfl p am sv.now).lookup x = none := fun h1 h2 h3 => bfl_no _ _ _ h1 h2 h3
      refine ⟨_, rfl, b, dx, _, rfl, ob1, no (by decide +kernel) (by decide +kernel) (by decide +kernel), b, p, am, R, sv.ms, sv.now, rfl, ba1, fun H2 l2 n2 s2 e2 => ?_⟩
      have ba2 := ba1.same s2
      obtain ⟨dx2, ob2⟩ := ba2.ob
      refine ⟨_, rfl, b, dx2, _, rfl, ob2, no (by decide +kernel) (by decide +kernel) (by decide +kernel), b, p, am, R, sv.ms, sv.now, rfl, ba2, ?_⟩
      refine ⟨_, rfl, b, dx2, _, rfl, ob2, no (by decide +kernel) (by decide +kernel) (by decide +kernel), b, p, am, R, sv.ms, sv.now, rfl, ba2, nl, fun H3 l3 Ts3 n3 s3 e3 ta3 => ?_⟩
      refine ⟨(by show 3 ≤ sizeLine; decide), fun l4 n4 => ?_⟩
      have s4 := same_upd (o := .lst [V.ref l2, V.int (sv.now : Int), V.ref l3]) n4
      have s14 := (s2.trans s3).trans s4
      have ob4 := s14 _ _ (s1 _ _ ma.ob)
      refine ⟨_, rfl, m, _, rfl, dg ob4 (bkv_marks _ _ _ _), _, rfl, m, _, rfl, dg ob4 (bkv_now _ _ _ _), _, rfl, (by show 3 ≤ sizeLine; decide), fun l5 n5 => ?_⟩
      have s5 := same_upd (o := .lst [V.ref mm, V.int (sv.now : Int), V.ref D]) n5
      have s15 := s14.trans s5
      refine ⟨_, _, isD sv.ms sv.now (agesF R sv.now sv.ms), rfl, ?_, ?_, isD_d _ _ _, isD_s (by omega) (by rw [agesF_len]; omega), fun H' s' => q H' ((s1.trans s15).trans s')⟩
      · exact .lst (SqL.of (s5 _ _ upd_same)) (.cons (dpMs ((s3.trans (s4.trans s5)) _ _ e2)) (.cons (.int _) (.cons (dpSp ((s4.trans s5) _ _ e3) (ta3.same (s4.trans s5))) .nil)))
      · exact .lst (SqL.of upd_same) (.cons (dpMs (s15 _ _ (s1 _ _ ma.mrk))) (.cons (.int _) (.cons (dpSp (s15 _ _ eD) (ta1.same s15)) .nil)))
end
/-! ### several boards apart, each with what is gone through -/
structure Sd where
  T : Addr
  b : Addr
  p : Addr
  am : Addr
  m : Addr
  p' : Addr
  mm : Addr
  ml : Addr
  R : Ru
  s : Md
def Sd.fp (S : Sd) : List Addr := [S.b, S.am, S.m, S.mm, S.ml]
structure SdAt (C : Addr) (H : Hp) (S : Sd) : Prop where
  t : H S.T = some (.tup [.ref S.b, .ref S.m])
  ba : BAt C H S.b S.p S.am S.R S.s.ms S.s.now
  ma : MAt H S.m S.p' S.mm S.ml S.R S.s
  n1 : S.am ≠ S.mm
  n2 : S.am ≠ S.ml
  pos : 1 ≤ S.s.ms.length
theorem SdAt.tr {C : Addr} {H : Hp} {S : Sd} (a : SdAt C H S) {x : Addr} (h : x ∈ S.fp) : ∃ o, H x = some o ∧ ∀ xs, o ≠ .tup xs := by
  obtain ⟨dx, ob⟩ := a.ba.ob
  unfold Sd.fp at h
  simp only [List.mem_cons, List.not_mem_nil, or_false] at h
  rcases h with rfl | rfl | rfl | rfl | rfl
  · exact ⟨_, ob, fun xs z => nomatch z⟩
  · exact ⟨_, a.ba.mrk, fun xs z => nomatch z⟩
  · exact ⟨_, a.ma.ob, fun xs z => nomatch z⟩
  · exact ⟨_, a.ma.mrk, fun xs z => nomatch z⟩
  · exact ⟨_, a.ma.la, fun xs z => nomatch z⟩
theorem SdAt.notup {C : Addr} {H : Hp} {S : Sd} (a : SdAt C H S) {x : Addr} {xs : List V} (e : H x = some (.tup xs)) : ¬ x ∈ S.fp := fun h => by
  obtain ⟨o, e', n⟩ := a.tr h
  rw [e] at e'
  cases e'
  exact n _ rfl
theorem HAt.notup {H : Hp} {h c x : Addr} {xs : List V} (a : HAt H h c) (e : H x = some (.tup xs)) : ¬ x ∈ [h, c] := nin2 (a.neT e).1 (a.neT e).2
theorem fp_b (S : Sd) : S.b ∈ S.fp := by unfold Sd.fp; simp
theorem fp_am (S : Sd) : S.am ∈ S.fp := by unfold Sd.fp; simp
theorem fp_m (S : Sd) : S.m ∈ S.fp := by unfold Sd.fp; simp
theorem fp_mm (S : Sd) : S.mm ∈ S.fp := by unfold Sd.fp; simp
theorem fp_ml (S : Sd) : S.ml ∈ S.fp := by unfold Sd.fp; simp
theorem SdAt.kp {C : Addr} {H H' : Hp} {S : Sd} (a : SdAt C H S) {L : List Addr} (k : KpL L H H') (sep : ∀ x, x ∈ S.fp → ¬ x ∈ L) (tup : ∀ x xs, H x = some (.tup xs) → ¬ x ∈ L) : SdAt C H' S :=
  ⟨k _ _ a.t (tup _ _ a.t), a.ba.kp k (sep _ (fp_b S)) (tup _ _ a.ba.rl) (sep _ (fp_am S)), a.ma.kp k (sep _ (fp_m S)) (tup _ _ a.ma.rl) (sep _ (fp_mm S)) (sep _ (fp_ml S)), a.n1, a.n2, a.pos⟩
theorem SdAt.same {C : Addr} {H H' : Hp} {S : Sd} (a : SdAt C H S) (k : Same H H') : SdAt C H' S := ⟨k _ _ a.t, a.ba.same k, a.ma.same k, a.n1, a.n2, a.pos⟩
structure Sts (C : Addr) (H : Hp) (h c L : Addr) (Ss : List Sd) : Prop where
  ha : HAt H h c
  lst : H L = some (.lst (Ss.map fun S => .ref S.T))
  at_ : ∀ S, S ∈ Ss → SdAt C H S
  hs : ∀ S, S ∈ Ss → ∀ x, x ∈ S.fp → ¬ x ∈ [h, c]
  nl : ∀ S, S ∈ Ss → ¬ L ∈ S.fp
  nh : ¬ L ∈ [h, c]
  pw : ∀ (i j : Nat) (S S' : Sd), Ss[i]? = some S → Ss[j]? = some S' → i ≠ j → ∀ x, x ∈ S.fp → ¬ x ∈ S'.fp
theorem Sts.same {C : Addr} {H H' : Hp} {h c L : Addr} {Ss : List Sd} (a : Sts C H h c L Ss) (k : Same H H') : Sts C H' h c L Ss :=
  ⟨a.ha.same k, k _ _ a.lst, fun S hS => (a.at_ S hS).same k, a.hs, a.nl, a.nh, a.pw⟩
theorem Sts.drawn {C : Addr} {H H' : Hp} {h c L : Addr} {Ss : List Sd} (a : Sts C H h c L Ss) (ha : HAt H' h c) (k : KpL [h, c] H H') : Sts C H' h c L Ss :=
  ⟨ha, k _ _ a.lst a.nh, fun S hS => (a.at_ S hS).kp k (a.hs S hS) (fun x xs e => a.ha.notup e), a.hs, a.nl, a.nh, a.pw⟩
theorem Sts.step {C : Addr} {H H' : Hp} {h c L : Addr} {Ss : List Sd} (a : Sts C H h c L Ss) {r : Nat} {S S' : Sd} (hr : Ss[r]? = some S) (e : S'.T = S.T) (at' : SdAt C H' S') (k : KpL S.fp H H') (fr : ∀ x, x ∈ S'.fp → x ∈ S.fp ∨ H x = none) :
    Sts C H' h c L (Ss.set r S') := by
  have hS : S ∈ Ss := List.mem_of_getElem? hr
  have rl : r < Ss.length := (List.getElem?_eq_some_iff.mp hr).1
  have aS := a.at_ S hS
  obtain ⟨⟨mx, pl, ns, eh, ec, rest⟩, hne⟩ := a.ha
  have nh : ∀ x, x ∈ S'.fp → ¬ x ∈ [h, c] := fun x hx z => by
    rcases fr x hx with q | q
    · exact a.hs S hS x q z
    · rcases List.mem_cons.mp z with z | z
      · rw [z, eh] at q; cases q
      · rw [List.mem_singleton.mp z, ec] at q; cases q
  have nL : ¬ L ∈ S'.fp := fun z => by
    rcases fr L z with q | q
    · exact a.nl S hS q
    · rw [a.lst] at q; cases q
  have oth : ∀ j S2, Ss[j]? = some S2 → r ≠ j → ∀ x, x ∈ S'.fp → ¬ x ∈ S2.fp := fun j S2 hj ne x hx z => by
    rcases fr x hx with q | q
    · exact a.pw r j S S2 hr hj ne x q z
    · obtain ⟨o, eo, _⟩ := (a.at_ S2 (List.mem_of_getElem? hj)).tr z
      rw [eo] at q; cases q
  have hh : ¬ h ∈ S.fp := fun z => a.hs S hS h z List.mem_cons_self
  have hc : ¬ c ∈ S.fp := fun z => a.hs S hS c z (by simp)
  have getset : ∀ i S2, (Ss.set r S')[i]? = some S2 → (i = r ∧ S2 = S') ∨ (i ≠ r ∧ Ss[i]? = some S2) := fun i S2 hi => by
    rw [List.getElem?_set] at hi
    by_cases q : r = i
    · subst q
      rw [if_pos rfl, if_pos rl] at hi
      exact .inl ⟨rfl, (Option.some.inj hi).symm⟩
    · rw [if_neg q] at hi
      exact .inr ⟨fun z => q z.symm, hi⟩
  refine ⟨⟨⟨mx, pl, ns, k _ _ eh hh, k _ _ ec hc, rest⟩, hne⟩, ?_, fun S2 h2 => ?_, fun S2 h2 => ?_, fun S2 h2 => ?_, a.nh, fun i j S1 S2 h1 h2 ne x hx => ?_⟩
  · rw [k _ _ a.lst (a.nl S hS), List.map_set, e]
    refine congrArg (fun l => some (HO.lst l)) (List.ext_getElem? fun i => ?_)
    rw [List.getElem?_set]
    by_cases q : r = i
    · subst q
      rw [if_pos rfl, if_pos (by rw [List.length_map]; exact rl), List.getElem?_map, hr]
      rfl
    · rw [if_neg q]
  · rcases List.mem_iff_getElem?.mp h2 with ⟨i, hi⟩
    rcases getset i S2 hi with ⟨_, rfl⟩ | ⟨ne, hi'⟩
    · exact at'
    · exact (a.at_ S2 (List.mem_of_getElem? hi')).kp k (fun x hx => a.pw i r S2 S hi' hr ne x hx) (fun x xs e' => aS.notup e')
  · rcases List.mem_iff_getElem?.mp h2 with ⟨i, hi⟩
    rcases getset i S2 hi with ⟨_, rfl⟩ | ⟨ne, hi'⟩
    · exact nh
    · exact a.hs S2 (List.mem_of_getElem? hi')
  · rcases List.mem_iff_getElem?.mp h2 with ⟨i, hi⟩
    rcases getset i S2 hi with ⟨_, rfl⟩ | ⟨ne, hi'⟩
    · exact nL
    · exact a.nl S2 (List.mem_of_getElem? hi')
  · rcases getset i S1 h1 with ⟨rfl, rfl⟩ | ⟨ni, hi⟩
    · rcases getset j S2 h2 with ⟨rfl, rfl⟩ | ⟨nj, hj⟩
      · exact absurd rfl ne
      · exact oth j S2 hj ne x hx
    · rcases getset j S2 h2 with ⟨rfl, rfl⟩ | ⟨nj, hj⟩
      · exact fun z => oth i S1 hi (fun q => ni q.symm) x z hx
      · exact a.pw i j S1 S2 hi hj ne x hx
theorem Sts.add {C : Addr} {H H' : Hp} {h c L : Addr} {Ss : List Sd} (a : Sts C H h c L Ss) {S : Sd} (k : Same H H') (at' : SdAt C H' S) (fr : ∀ x, x ∈ S.fp → H x = none) :
    Sts C (upd H' L (.lst ((Ss.map fun S => V.ref S.T) ++ [.ref S.T]))) h c L (Ss ++ [S]) := by
  obtain ⟨⟨mx, pl, ns, eh, ec, rest⟩, hne⟩ := a.ha
  have hL := k _ _ a.lst
  have nL : ¬ L ∈ S.fp := fun z => by
    have := fr L z
    rw [a.lst] at this; cases this
  have k2 : KpL [L] H' (upd H' L (.lst ((Ss.map fun S => V.ref S.T) ++ [.ref S.T]))) := fun x o e n => by
    rw [upd_ne (fun z => n (by rw [z]; simp))]
    exact e
  have tup : ∀ x xs, H' x = some (.tup xs) → ¬ x ∈ [L] := fun x xs e z => by
    rw [List.mem_singleton.mp z, hL] at e; cases e
  have getapp : ∀ i S2, (Ss ++ [S])[i]? = some S2 → (i = Ss.length ∧ S2 = S) ∨ (i < Ss.length ∧ Ss[i]? = some S2) := fun i S2 hi => by
    by_cases q : i < Ss.length
    · rw [List.getElem?_append_left q] at hi
      exact .inr ⟨q, hi⟩
    · have il := (List.getElem?_eq_some_iff.mp hi).1
      rw [List.length_append] at il
      have ie : i = Ss.length := by
        have : i < Ss.length + 1 := il
        omega
      subst ie
      rw [List.getElem?_append_right (Nat.le_refl _), Nat.sub_self] at hi
      exact .inl ⟨rfl, (Option.some.inj hi).symm⟩
  have oth : ∀ S2, S2 ∈ Ss → ∀ x, x ∈ S.fp → ¬ x ∈ S2.fp := fun S2 h2 x hx z => by
    obtain ⟨o, eo, _⟩ := (a.at_ S2 h2).tr z
    have := fr x hx
    rw [eo] at this; cases this
  have nhL : h ≠ L := fun z => a.nh (by rw [z]; exact List.mem_cons_self)
  have ncL : c ≠ L := fun z => a.nh (by rw [z]; simp)
  refine ⟨⟨⟨mx, pl, ns, ?_, ?_, rest⟩, hne⟩, ?_, fun S2 h2 => ?_, fun S2 h2 => ?_, fun S2 h2 => ?_, a.nh, fun i j S1 S2 h1 h2 ne x hx => ?_⟩
  · rw [upd_ne nhL]; exact k _ _ eh
  · rw [upd_ne ncL]; exact k _ _ ec
  · rw [upd_same, List.map_append]; rfl
  · rcases List.mem_iff_getElem?.mp h2 with ⟨i, hi⟩
    rcases getapp i S2 hi with ⟨_, rfl⟩ | ⟨_, hi'⟩
    · exact at'.kp k2 (fun x hx z => nL (by rw [← List.mem_singleton.mp z]; exact hx)) tup
    · have m2 := List.mem_of_getElem? hi'
      exact ((a.at_ S2 m2).same k).kp k2 (fun x hx z => a.nl S2 m2 (by rw [← List.mem_singleton.mp z]; exact hx)) tup
  · rcases List.mem_iff_getElem?.mp h2 with ⟨i, hi⟩
    rcases getapp i S2 hi with ⟨_, rfl⟩ | ⟨_, hi'⟩
    · intro x hx z
      have q := fr x hx
      rcases List.mem_cons.mp z with z | z
      · rw [z, eh] at q; cases q
      · rw [List.mem_singleton.mp z, ec] at q; cases q
    · exact a.hs S2 (List.mem_of_getElem? hi')
  · rcases List.mem_iff_getElem?.mp h2 with ⟨i, hi⟩
    rcases getapp i S2 hi with ⟨_, rfl⟩ | ⟨_, hi'⟩
    · exact nL
    · exact a.nl S2 (List.mem_of_getElem? hi')
  · rcases getapp i S1 h1 with ⟨rfl, rfl⟩ | ⟨ni, hi⟩
    · rcases getapp j S2 h2 with ⟨rfl, rfl⟩ | ⟨nj, hj⟩
      · exact absurd rfl ne
      · exact oth S2 (List.mem_of_getElem? hj) x hx
    · rcases getapp j S2 h2 with ⟨rfl, rfl⟩ | ⟨nj, hj⟩
      · exact fun z => oth S1 (List.mem_of_getElem? hi) x z hx
      · exact a.pw i j S1 S2 hi hj ne x hx
/-- a step of both: seen -/
theorem SdAt.see {C : Addr} {H H3 H4 H5 : Hp} {S : Sd} (a : SdAt C H S) {k : Nat} (ba : BAt C H3 S.b S.p S.am S.R (S.s.ms.set k (seenM S.R (S.s.ms.getD k 0))) S.s.now) (k3 : KpL [S.am] H H3)
    (ma : MAt H4 S.m S.p' S.mm S.ml S.R (mdSee S.R k S.s)) (k4 : KpL [S.m, S.mm, S.ml] H3 H4) (s5 : Same H4 H5) : SdAt C H5 { S with s := mdSee S.R k S.s } ∧ KpL S.fp H H5 := by
  obtain ⟨dx, ob3⟩ := ba.ob
  obtain ⟨dx0, ob0⟩ := a.ba.ob
  have kall : KpL S.fp H H4 := ((k3.mono (L' := S.fp) (fun x hx => by rw [List.mem_singleton.mp hx]; exact fp_am S)).trans (k4.mono (L' := S.fp) (fun x hx => by
    unfold Sd.fp
    simp only [List.mem_cons, List.not_mem_nil, or_false] at hx ⊢
    rcases hx with rfl | rfl | rfl <;> simp)))
  have nam : ¬ S.am ∈ [S.m, S.mm, S.ml] := by
    simp only [List.mem_cons, List.not_mem_nil, or_false]
    rintro (z | z | z)
    · exact ne_of a.ba.mrk a.ma.ob (fun z => nomatch z) z
    · exact a.n1 z
    · exact a.n2 z
  have nb : ¬ S.b ∈ [S.m, S.mm, S.ml] := by
    simp only [List.mem_cons, List.not_mem_nil, or_false]
    rintro (z | z | z)
    · exact ne_of ob0 a.ma.ob (fun z => nomatch z) z
    · exact ne_of ob0 a.ma.mrk (fun z => nomatch z) z
    · exact ne_of ob0 a.ma.la (fun z => nomatch z) z
  have np : ¬ S.p ∈ [S.m, S.mm, S.ml] := by
    simp only [List.mem_cons, List.not_mem_nil, or_false]
    rintro (z | z | z)
    · exact ne_of a.ba.rl a.ma.ob (fun z => nomatch z) z
    · exact ne_of a.ba.rl a.ma.mrk (fun z => nomatch z) z
    · exact ne_of a.ba.rl a.ma.la (fun z => nomatch z) z
  refine ⟨⟨s5 _ _ (kall _ _ a.t (a.notup a.t)), (ba.kp k4 nb np nam).same s5, ma.same s5, a.n1, a.n2, ?_⟩, kall.trans (Same.kpL s5)⟩
  show 1 ≤ (S.s.ms.set k _).length
  rw [List.length_set]
  exact a.pos
/-- a step of both: moments that go by -/
theorem SdAt.pass {C : Addr} {H H3 H4 H5 : Hp} {S : Sd} (a : SdAt C H S) {k : Nat} {am' mm' : Addr} (ba : BAt C H3 S.b S.p am' S.R (S.s.ms.map fun x => ag S.R x S.s.now k) (S.s.now + k)) (f3 : H am' = none) (k3 : KpL [S.b] H H3)
    (ma : MAt H4 S.m S.p' mm' S.ml S.R (mdPass S.R k S.s)) (f4 : H3 mm' = none) (k4 : KpL [S.m, S.mm, S.ml] H3 H4) (s5 : Same H4 H5) :
    SdAt C H5 { S with am := am', mm := mm', s := mdPass S.R k S.s } ∧ KpL S.fp H H5 ∧ ∀ x, x ∈ ({ S with am := am', mm := mm', s := mdPass S.R k S.s } : Sd).fp → x ∈ S.fp ∨ H x = none := by
  obtain ⟨dx, ob3⟩ := ba.ob
  obtain ⟨dx0, ob0⟩ := a.ba.ob
  have kall : KpL S.fp H H4 := ((k3.mono (L' := S.fp) (fun x hx => by rw [List.mem_singleton.mp hx]; exact fp_b S)).trans (k4.mono (L' := S.fp) (fun x hx => by
    unfold Sd.fp
    simp only [List.mem_cons, List.not_mem_nil, or_false] at hx ⊢
    rcases hx with rfl | rfl | rfl <;> simp)))
  have nb : ¬ S.b ∈ [S.m, S.mm, S.ml] := by
    simp only [List.mem_cons, List.not_mem_nil, or_false]
    rintro (z | z | z)
    · exact ne_of ob0 a.ma.ob (fun z => nomatch z) z
    · exact ne_of ob0 a.ma.mrk (fun z => nomatch z) z
    · exact ne_of ob0 a.ma.la (fun z => nomatch z) z
  have nm : ¬ S.m ∈ [S.b] := fun z => ne_of ob0 a.ma.ob (fun z => nomatch z) (List.mem_singleton.mp z).symm
  have nmm : ¬ S.mm ∈ [S.b] := fun z => ne_of ob0 a.ma.mrk (fun z => nomatch z) (List.mem_singleton.mp z).symm
  have nml : ¬ S.ml ∈ [S.b] := fun z => ne_of ob0 a.ma.la (fun z => nomatch z) (List.mem_singleton.mp z).symm
  have nam : ¬ am' ∈ [S.m, S.mm, S.ml] := by
    simp only [List.mem_cons, List.not_mem_nil, or_false]
    rintro (z | z | z)
    · exact (ne_of_none a.ma.ob f3).symm z
    · exact (ne_of_none a.ma.mrk f3).symm z
    · exact (ne_of_none a.ma.la f3).symm z
  have np : ¬ S.p ∈ [S.m, S.mm, S.ml] := by
    simp only [List.mem_cons, List.not_mem_nil, or_false]
    rintro (z | z | z)
    · exact ne_of a.ba.rl a.ma.ob (fun z => nomatch z) z
    · exact ne_of a.ba.rl a.ma.mrk (fun z => nomatch z) z
    · exact ne_of a.ba.rl a.ma.la (fun z => nomatch z) z
  have fmm : H mm' = none := k3.free f4 fun z => by
    rw [List.mem_singleton.mp z, ob3] at f4; cases f4
  refine ⟨⟨s5 _ _ (kall _ _ a.t (a.notup a.t)), (ba.kp k4 nb np nam).same s5, ma.same s5, ?_, ?_, ?_⟩, kall.trans (Same.kpL s5), fun x hx => ?_⟩
  · exact ne_of_none ba.mrk f4
  · exact (ne_of_none a.ma.la f3).symm
  · show 1 ≤ (S.s.ms.map _).length
    rw [List.length_map]
    exact a.pos
  · unfold Sd.fp at hx ⊢
    simp only [List.mem_cons, List.not_mem_nil, or_false] at hx ⊢
    rcases hx with rfl | rfl | rfl | rfl | rfl
    · exact .inl (.inl rfl)
    · exact .inr f3
    · exact .inl (.inr (.inr (.inl rfl)))
    · exact .inr fmm
    · exact .inl (.inr (.inr (.inr (.inr rfl))))
theorem SdAt.st_see {C : Addr} {H H3 : Hp} {S : Sd} (a : SdAt C H S) (k3 : KpL [S.am] H H3) : MAt H3 S.m S.p' S.mm S.ml S.R S.s ∧ ∀ x xs, H x = some (.tup xs) → H3 x = some (.tup xs) := by
  refine ⟨a.ma.kp k3 ?_ ?_ ?_ ?_, fun x xs e => k3 _ _ e fun z => ?_⟩
  · exact fun z => ne_of a.ma.ob a.ba.mrk (fun z => nomatch z) (List.mem_singleton.mp z)
  · exact fun z => ne_of a.ma.rl a.ba.mrk (fun z => nomatch z) (List.mem_singleton.mp z)
  · exact fun z => a.n1 (List.mem_singleton.mp z).symm
  · exact fun z => a.n2 (List.mem_singleton.mp z).symm
  · exact ne_of e a.ba.mrk (fun z => nomatch z) (List.mem_singleton.mp z)
theorem SdAt.st_pass {C : Addr} {H H3 : Hp} {S : Sd} (a : SdAt C H S) (k3 : KpL [S.b] H H3) : MAt H3 S.m S.p' S.mm S.ml S.R S.s ∧ ∀ x xs, H x = some (.tup xs) → H3 x = some (.tup xs) := by
  obtain ⟨dx0, ob0⟩ := a.ba.ob
  refine ⟨a.ma.kp k3 ?_ ?_ ?_ ?_, fun x xs e => k3 _ _ e fun z => ?_⟩
  · exact fun z => ne_of a.ma.ob ob0 (fun z => nomatch z) (List.mem_singleton.mp z)
  · exact fun z => ne_of a.ma.rl ob0 (fun z => nomatch z) (List.mem_singleton.mp z)
  · exact fun z => ne_of a.ma.mrk ob0 (fun z => nomatch z) (List.mem_singleton.mp z)
  · exact fun z => ne_of a.ma.la ob0 (fun z => nomatch z) (List.mem_singleton.mp z)
  · exact ne_of e ob0 (fun z => nomatch z) (List.mem_singleton.mp z)
/-- a new board and the law's own stand apart from all else -/
theorem SdAt.make {C : Addr} {H1 H2 H3 H4 : Hp} {b dx p am m mm ml T : Addr} {R : Ru} {n : Nat} (nb : H1 b = none) (ndx : H1 dx = none) (ndb : dx ≠ b) (ba : BAt C H2 b p am R (List.replicate n R.fin) 0) (nam : (upd (upd H1 dx (.own b)) b (.ins C dx [])) am = none)
    (k2 : KpL [b] (upd (upd H1 dx (.own b)) b (.ins C dx [])) H2) (ma : MAt H3 m p mm ml R ⟨List.replicate n R.fin, List.replicate n none, 0⟩) (nm : H2 m = none) (nmm : H2 mm = none) (nml : H2 ml = none) (s3 : Same H2 H3) (s4 : Same H3 H4) (eT : H4 T = some (.tup [.ref b, .ref m])) (n1 : 1 ≤ n) :
    SdAt C H4 ⟨T, b, p, am, m, p, mm, ml, R, ⟨List.replicate n R.fin, List.replicate n none, 0⟩⟩ ∧ Same H1 H4 ∧ ∀ x, x ∈ (⟨T, b, p, am, m, p, mm, ml, R, ⟨List.replicate n R.fin, List.replicate n none, 0⟩⟩ : Sd).fp → H1 x = none := by
  have s0 : Same H1 (upd (upd H1 dx (.own b)) b (.ins C dx [])) := fun x o e => by
    rw [upd_ne (ne_of_none e nb), upd_ne (ne_of_none e ndx)]
    exact e
  have s2 : Same H1 H2 := fun x o e => k2 x o (s0 x o e) fun z => ne_of_none e nb (List.mem_singleton.mp z)
  refine ⟨⟨eT, (ba.same s3).same s4, ma.same s4, ne_of_none ba.mrk nmm, ne_of_none ba.mrk nml, ?_⟩, (s2.trans s3).trans s4, fun x hx => ?_⟩
  · show 1 ≤ (List.replicate n R.fin).length
    rw [List.length_replicate]
    exact n1
  · unfold Sd.fp at hx
    simp only [List.mem_cons, List.not_mem_nil, or_false] at hx
    rcases hx with rfl | rfl | rfl | rfl | rfl
    · exact nb
    · exact s0.free nam
    · exact s2.free nm
    · exact s2.free nmm
    · exact s2.free nml
/-! ### one board with what is gone through -/
structure OnAt (C : Addr) (H : Hp) (h c : Addr) (S : Sd) : Prop where
  ha : HAt H h c
  ba : BAt C H S.b S.p S.am S.R S.s.ms S.s.now
  ma : MAt H S.m S.p' S.mm S.ml S.R S.s
  n1 : S.am ≠ S.mm
  n2 : S.am ≠ S.ml
  pos : 1 ≤ S.s.ms.length
  hf : ∀ x, x ∈ S.fp → ¬ x ∈ [h, c]
theorem OnAt.same {C : Addr} {H H' : Hp} {h c : Addr} {S : Sd} (a : OnAt C H h c S) (k : Same H H') : OnAt C H' h c S := ⟨a.ha.same k, a.ba.same k, a.ma.same k, a.n1, a.n2, a.pos, a.hf⟩
theorem OnAt.tr {C : Addr} {H : Hp} {h c : Addr} {S : Sd} (a : OnAt C H h c S) {x : Addr} (hx : x ∈ S.fp) : ∃ o, H x = some o ∧ ∀ xs, o ≠ .tup xs := by
  obtain ⟨dx, ob⟩ := a.ba.ob
  unfold Sd.fp at hx
  simp only [List.mem_cons, List.not_mem_nil, or_false] at hx
  rcases hx with rfl | rfl | rfl | rfl | rfl
  · exact ⟨_, ob, fun xs z => nomatch z⟩
  · exact ⟨_, a.ba.mrk, fun xs z => nomatch z⟩
  · exact ⟨_, a.ma.ob, fun xs z => nomatch z⟩
  · exact ⟨_, a.ma.mrk, fun xs z => nomatch z⟩
  · exact ⟨_, a.ma.la, fun xs z => nomatch z⟩
theorem OnAt.notup {C : Addr} {H : Hp} {h c : Addr} {S : Sd} (a : OnAt C H h c S) {x : Addr} {xs : List V} (e : H x = some (.tup xs)) : ¬ x ∈ S.fp := fun z => by
  obtain ⟨o, e', n⟩ := a.tr z
  rw [e] at e'
  cases e'
  exact n _ rfl
theorem OnAt.drawn {C : Addr} {H H' : Hp} {h c : Addr} {S : Sd} (a : OnAt C H h c S) (ha : HAt H' h c) (k : KpL [h, c] H H') : OnAt C H' h c S :=
  ⟨ha, a.ba.kp k (a.hf _ (fp_b S)) (a.ha.notup a.ba.rl) (a.hf _ (fp_am S)), a.ma.kp k (a.hf _ (fp_m S)) (a.ha.notup a.ma.rl) (a.hf _ (fp_mm S)) (a.hf _ (fp_ml S)), a.n1, a.n2, a.pos, a.hf⟩
theorem OnAt.hne {C : Addr} {H : Hp} {h c : Addr} {S : Sd} (a : OnAt C H h c S) : h ≠ S.mm ∧ h ≠ S.ml ∧ c ≠ S.mm ∧ c ≠ S.ml :=
  ⟨fun z => a.hf _ (fp_mm S) (by rw [← z]; simp), fun z => a.hf _ (fp_ml S) (by rw [← z]; simp), fun z => a.hf _ (fp_mm S) (by rw [← z]; simp), fun z => a.hf _ (fp_ml S) (by rw [← z]; simp)⟩
/-- both changed -/
theorem OnAt.chg {C : Addr} {H H' : Hp} {h c : Addr} {S S' : Sd} (a : OnAt C H h c S) (k : KpL S.fp H H') (ba : BAt C H' S'.b S'.p S'.am S'.R S'.s.ms S'.s.now) (ma : MAt H' S'.m S'.p' S'.mm S'.ml S'.R S'.s) (n1 : S'.am ≠ S'.mm) (n2 : S'.am ≠ S'.ml) (pos : 1 ≤ S'.s.ms.length)
    (fr : ∀ x, x ∈ S'.fp → x ∈ S.fp ∨ H x = none) : OnAt C H' h c S' := by
  obtain ⟨⟨mx, pl, ns, eh, ec, rest⟩, hne⟩ := a.ha
  have hh : ¬ h ∈ S.fp := fun z => a.hf h z List.mem_cons_self
  have hc : ¬ c ∈ S.fp := fun z => a.hf c z (by simp)
  refine ⟨⟨⟨mx, pl, ns, k _ _ eh hh, k _ _ ec hc, rest⟩, hne⟩, ba, ma, n1, n2, pos, fun x hx z => ?_⟩
  rcases fr x hx with q | q
  · exact a.hf x q z
  · rcases List.mem_cons.mp z with z | z
    · rw [z, eh] at q; cases q
    · rw [List.mem_singleton.mp z, ec] at q; cases q
theorem fp_sub1 {S : Sd} {x : Addr} (h : x ∈ [S.am]) : x ∈ S.fp := by rw [List.mem_singleton.mp h]; exact fp_am S
theorem fp_sub2 {S : Sd} {x : Addr} (h : x ∈ [S.b]) : x ∈ S.fp := by rw [List.mem_singleton.mp h]; exact fp_b S
theorem fp_sub3 {S : Sd} {x : Addr} (hx : x ∈ [S.m, S.mm, S.ml]) : x ∈ S.fp := by
  unfold Sd.fp
  simp only [List.mem_cons, List.not_mem_nil, or_false] at hx ⊢
  rcases hx with rfl | rfl | rfl <;> simp
theorem OnAt.b3 {C : Addr} {H : Hp} {h c : Addr} {S : Sd} (a : OnAt C H h c S) : (¬ S.b ∈ [S.m, S.mm, S.ml]) ∧ (¬ S.p ∈ [S.m, S.mm, S.ml]) ∧ ¬ S.am ∈ [S.m, S.mm, S.ml] := by
  obtain ⟨dx0, ob0⟩ := a.ba.ob
  simp only [List.mem_cons, List.not_mem_nil, or_false]
  refine ⟨?_, ?_, ?_⟩
  · rintro (z | z | z)
    · exact ne_of ob0 a.ma.ob (fun z => nomatch z) z
    · exact ne_of ob0 a.ma.mrk (fun z => nomatch z) z
    · exact ne_of ob0 a.ma.la (fun z => nomatch z) z
  · rintro (z | z | z)
    · exact ne_of a.ba.rl a.ma.ob (fun z => nomatch z) z
    · exact ne_of a.ba.rl a.ma.mrk (fun z => nomatch z) z
    · exact ne_of a.ba.rl a.ma.la (fun z => nomatch z) z
  · rintro (z | z | z)
    · exact ne_of a.ba.mrk a.ma.ob (fun z => nomatch z) z
    · exact a.n1 z
    · exact a.n2 z
/-- the law's own is done first, then the board's: seen -/
theorem OnAt.do_see {C : Addr} {H H3 H4 : Hp} {h c : Addr} {S : Sd} (a : OnAt C H h c S) {k : Nat} (ma : MAt H3 S.m S.p' S.mm S.ml S.R (mdSee S.R k S.s)) (k3 : KpL [S.m, S.mm, S.ml] H H3)
    (ba : BAt C H4 S.b S.p S.am S.R (S.s.ms.set k (seenM S.R (S.s.ms.getD k 0))) S.s.now) (k4 : KpL [S.am] H3 H4) : OnAt C H4 h c { S with s := mdSee S.R k S.s } := by
  refine a.chg (S' := { S with s := mdSee S.R k S.s }) ((k3.mono fun x hx => fp_sub3 hx).trans (k4.mono fun x hx => fp_sub1 hx)) ba (ma.kp k4 ?_ ?_ ?_ ?_) a.n1 a.n2 ?_ (fun x hx => .inl hx)
  · exact fun z => ne_of a.ma.ob a.ba.mrk (fun z => nomatch z) (List.mem_singleton.mp z)
  · exact fun z => ne_of a.ma.rl a.ba.mrk (fun z => nomatch z) (List.mem_singleton.mp z)
  · exact fun z => a.n1 (List.mem_singleton.mp z).symm
  · exact fun z => a.n2 (List.mem_singleton.mp z).symm
  · show 1 ≤ (S.s.ms.set k _).length
    rw [List.length_set]
    exact a.pos
/-- .. moments that go by -/
theorem OnAt.do_pass {C : Addr} {H H3 H4 : Hp} {h c : Addr} {S : Sd} (a : OnAt C H h c S) {k : Nat} {am' mm' : Addr} (ma : MAt H3 S.m S.p' mm' S.ml S.R (mdPass S.R k S.s)) (f3 : H mm' = none) (k3 : KpL [S.m, S.mm, S.ml] H H3)
    (ba : BAt C H4 S.b S.p am' S.R (S.s.ms.map fun x => ag S.R x S.s.now k) (S.s.now + k)) (f4 : H3 am' = none) (k4 : KpL [S.b] H3 H4) : OnAt C H4 h c { S with am := am', mm := mm', s := mdPass S.R k S.s } := by
  obtain ⟨dx0, ob0⟩ := a.ba.ob
  obtain ⟨nb, np, nam⟩ := a.b3
  have ob3 := k3 _ _ ob0 nb
  refine a.chg (S' := { S with am := am', mm := mm', s := mdPass S.R k S.s }) ((k3.mono fun x hx => fp_sub3 hx).trans (k4.mono fun x hx => fp_sub2 hx)) ba (ma.kp k4 ?_ ?_ ?_ ?_) ?_ ?_ ?_ (fun x hx => ?_)
  · exact fun z => ne_of ma.ob ob3 (fun z => nomatch z) (List.mem_singleton.mp z)
  · exact fun z => ne_of ma.rl ob3 (fun z => nomatch z) (List.mem_singleton.mp z)
  · exact fun z => ne_of ma.mrk ob3 (fun z => nomatch z) (List.mem_singleton.mp z)
  · exact fun z => ne_of ma.la ob3 (fun z => nomatch z) (List.mem_singleton.mp z)
  · exact (ne_of_none ma.mrk f4).symm
  · exact (ne_of_none ma.la f4).symm
  · show 1 ≤ (S.s.ms.map _).length
    rw [List.length_map]
    exact a.pos
  · unfold Sd.fp at hx ⊢
    simp only [List.mem_cons, List.not_mem_nil, or_false] at hx ⊢
    rcases hx with rfl | rfl | rfl | rfl | rfl
    · exact .inl (.inl rfl)
    · by_cases e : x = S.mm
      · exact .inl (.inr (.inr (.inr (.inl e))))
      · refine .inr (k3.free f4 ?_)
        simp only [List.mem_cons, List.not_mem_nil, or_false]
        rintro (z | z | z)
        · exact ne_of_none ma.ob f4 z.symm
        · exact e z
        · exact ne_of_none ma.la f4 z.symm
    · exact .inl (.inr (.inr (.inl rfl)))
    · exact .inr f3
    · exact .inl (.inr (.inr (.inr (.inr rfl))))
/-- the board first, then the law's own: seen -/
theorem OnAt.see_do {C : Addr} {H H3 H4 : Hp} {h c : Addr} {S : Sd} (a : OnAt C H h c S) {k : Nat} (ba : BAt C H3 S.b S.p S.am S.R (S.s.ms.set k (seenM S.R (S.s.ms.getD k 0))) S.s.now) (k3 : KpL [S.am] H H3)
    (ma : MAt H4 S.m S.p' S.mm S.ml S.R (mdSee S.R k S.s)) (k4 : KpL [S.m, S.mm, S.ml] H3 H4) : OnAt C H4 h c { S with s := mdSee S.R k S.s } := by
  obtain ⟨nb, np, nam⟩ := a.b3
  refine a.chg (S' := { S with s := mdSee S.R k S.s }) ((k3.mono fun x hx => fp_sub1 hx).trans (k4.mono fun x hx => fp_sub3 hx)) (ba.kp k4 nb np nam) ma a.n1 a.n2 ?_ (fun x hx => .inl hx)
  show 1 ≤ (S.s.ms.set k _).length
  rw [List.length_set]
  exact a.pos
theorem OnAt.pass_do {C : Addr} {H H3 H4 : Hp} {h c : Addr} {S : Sd} (a : OnAt C H h c S) {k : Nat} {am' mm' : Addr} (ba : BAt C H3 S.b S.p am' S.R (S.s.ms.map fun x => ag S.R x S.s.now k) (S.s.now + k)) (f3 : H am' = none) (k3 : KpL [S.b] H H3)
    (ma : MAt H4 S.m S.p' mm' S.ml S.R (mdPass S.R k S.s)) (f4 : H3 mm' = none) (k4 : KpL [S.m, S.mm, S.ml] H3 H4) : OnAt C H4 h c { S with am := am', mm := mm', s := mdPass S.R k S.s } := by
  obtain ⟨dx0, ob0⟩ := a.ba.ob
  obtain ⟨dx3, ob3⟩ := ba.ob
  obtain ⟨nb, np, nam⟩ := a.b3
  have nam' : ¬ am' ∈ [S.m, S.mm, S.ml] := by
    simp only [List.mem_cons, List.not_mem_nil, or_false]
    rintro (z | z | z)
    · exact (ne_of_none a.ma.ob f3).symm z
    · exact (ne_of_none a.ma.mrk f3).symm z
    · exact (ne_of_none a.ma.la f3).symm z
  have fmm : H mm' = none := k3.free f4 fun z => by
    rw [List.mem_singleton.mp z, ob3] at f4; cases f4
  refine a.chg (S' := { S with am := am', mm := mm', s := mdPass S.R k S.s }) ((k3.mono fun x hx => fp_sub2 hx).trans (k4.mono fun x hx => fp_sub3 hx)) (ba.kp k4 nb np nam') ma ?_ ?_ ?_ (fun x hx => ?_)
  · exact ne_of_none ba.mrk f4
  · exact (ne_of_none a.ma.la f3).symm
  · show 1 ≤ (S.s.ms.map _).length
    rw [List.length_map]
    exact a.pos
  · unfold Sd.fp at hx ⊢
    simp only [List.mem_cons, List.not_mem_nil, or_false] at hx ⊢
    rcases hx with rfl | rfl | rfl | rfl | rfl
    · exact .inl (.inl rfl)
    · exact .inr f3
    · exact .inl (.inr (.inr (.inl rfl)))
    · exact .inr fmm
    · exact .inl (.inr (.inr (.inr (.inr rfl))))
theorem OnAt.at_see {C : Addr} {H H3 : Hp} {h c : Addr} {S : Sd} (a : OnAt C H h c S) (k3 : KpL [S.am] H H3) : MAt H3 S.m S.p' S.mm S.ml S.R S.s ∧ ∀ x xs, H x = some (.tup xs) → H3 x = some (.tup xs) := by
  refine ⟨a.ma.kp k3 ?_ ?_ ?_ ?_, fun x xs e => k3 _ _ e fun z => ?_⟩
  · exact fun z => ne_of a.ma.ob a.ba.mrk (fun z => nomatch z) (List.mem_singleton.mp z)
  · exact fun z => ne_of a.ma.rl a.ba.mrk (fun z => nomatch z) (List.mem_singleton.mp z)
  · exact fun z => a.n1 (List.mem_singleton.mp z).symm
  · exact fun z => a.n2 (List.mem_singleton.mp z).symm
  · exact ne_of e a.ba.mrk (fun z => nomatch z) (List.mem_singleton.mp z)
theorem OnAt.at_pass {C : Addr} {H H3 : Hp} {h c : Addr} {S : Sd} (a : OnAt C H h c S) (k3 : KpL [S.b] H H3) : MAt H3 S.m S.p' S.mm S.ml S.R S.s ∧ ∀ x xs, H x = some (.tup xs) → H3 x = some (.tup xs) := by
  obtain ⟨dx0, ob0⟩ := a.ba.ob
  refine ⟨a.ma.kp k3 ?_ ?_ ?_ ?_, fun x xs e => k3 _ _ e fun z => ?_⟩
  · exact fun z => ne_of a.ma.ob ob0 (fun z => nomatch z) (List.mem_singleton.mp z)
  · exact fun z => ne_of a.ma.rl ob0 (fun z => nomatch z) (List.mem_singleton.mp z)
  · exact fun z => ne_of a.ma.mrk ob0 (fun z => nomatch z) (List.mem_singleton.mp z)
  · exact fun z => ne_of a.ma.la ob0 (fun z => nomatch z) (List.mem_singleton.mp z)
  · exact ne_of e ob0 (fun z => nomatch z) (List.mem_singleton.mp z)
theorem OnAt.at_do {C : Addr} {H H3 : Hp} {h c : Addr} {S : Sd} (a : OnAt C H h c S) (k3 : KpL [S.m, S.mm, S.ml] H H3) : BAt C H3 S.b S.p S.am S.R S.s.ms S.s.now ∧ ∀ x xs, H x = some (.tup xs) → H3 x = some (.tup xs) := by
  obtain ⟨nb, np, nam⟩ := a.b3
  refine ⟨a.ba.kp k3 nb np nam, fun x xs e => k3 _ _ e fun z => a.notup e (fp_sub3 z)⟩
/-- a new board and the law's own -/
theorem OnAt.make {C : Addr} {H1 H2 H3 : Hp} {h c b dx p am m mm ml : Addr} {R : Ru} {n : Nat} (ha : HAt H1 h c) (nb : H1 b = none) (ndx : H1 dx = none) (ndb : dx ≠ b) (ba : BAt C H2 b p am R (List.replicate n R.fin) 0) (nam : (upd (upd H1 dx (.own b)) b (.ins C dx [])) am = none)
    (k2 : KpL [b] (upd (upd H1 dx (.own b)) b (.ins C dx [])) H2) (ma : MAt H3 m p mm ml R ⟨List.replicate n R.fin, List.replicate n none, 0⟩) (nm : H2 m = none) (nmm : H2 mm = none) (nml : H2 ml = none) (s3 : Same H2 H3) (n1 : 1 ≤ n) :
    OnAt C H3 h c ⟨0, b, p, am, m, p, mm, ml, R, ⟨List.replicate n R.fin, List.replicate n none, 0⟩⟩ ∧ Same H1 H3 := by
  have s0 : Same H1 (upd (upd H1 dx (.own b)) b (.ins C dx [])) := fun x o e => by
    rw [upd_ne (ne_of_none e nb), upd_ne (ne_of_none e ndx)]
    exact e
  have s2 : Same H1 H2 := fun x o e => k2 x o (s0 x o e) fun z => ne_of_none e nb (List.mem_singleton.mp z)
  refine ⟨⟨(ha.same s2).same s3, ba.same s3, ma, ne_of_none ba.mrk nmm, ne_of_none ba.mrk nml, ?_, fun x hx z => ?_⟩, s2.trans s3⟩
  · show 1 ≤ (List.replicate n R.fin).length
    rw [List.length_replicate]
    exact n1
  · have q : H1 x = none := by
      unfold Sd.fp at hx
      simp only [List.mem_cons, List.not_mem_nil, or_false] at hx
      rcases hx with rfl | rfl | rfl | rfl | rfl
      · exact nb
      · exact s0.free nam
      · exact s2.free nm
      · exact s2.free nmm
      · exact s2.free nml
    obtain ⟨⟨mx, pl, ns, eh, ec, rest⟩, hne⟩ := ha
    rcases List.mem_cons.mp z with z | z
    · rw [z, eh] at q; cases q
    · rw [List.mem_singleton.mp z, ec] at q; cases q
/-! ### bs.count(True), a list of truth values -/
def eqT (v : Value) : Bool := match v with
  | .bool b => b
  | _ => false
theorem countT (bs : List Bool) : (bs.map Value.bool).countP eqT = bs.count true := by
  induction bs with
  | nil => rfl
  | cons b r ih =>
    rw [List.map_cons, List.countP_cons, List.count_cons, ih]
    cases b <;> rfl
section
variable {X : Cx}
def rCntB (K : PySem.W.Frag) : V → List V → Hp → VK → Prop := fun x xs H Q => ∃ (p : Addr) (bs : List Bool), x = .ref p ∧ xs = [.bl true] ∧ SqL K H p (bs.map V.bl) ∧ Q (.int ((bs.count true : Nat) : Int)) H
theorem mt_countB : MtR X "list.count" (rCntB X.K) := by
  intro pins s σ H x xs v us Q I rx rxs h
  obtain ⟨p, bs, rfl, rfl, hs, q⟩ := h
  cases rx
  obtain ⟨u, rfl, ru⟩ := rxs.one
  obtain rfl : u = Value.bool true := ru
  obtain ⟨its, rv, ⟨⟨cls, dd, data, sl⟩, n, ho, hc, hdn, hd⟩, hlen⟩ := I.list hs
  simp only at hc hd
  subst hc hd
  have hb := rv.bls
  refine call_meets PySem.F.slot_list_count ⟨_, ho, rfl⟩ PySem.F.entry_list_count (PySem.F.args_list_count_2 _ _) (SeqAt.list_countAt p its.toArray n dd sl (.bool true) eqT) ⟨ho, fun y hy => ?_, ?_⟩
  · have hy' : y ∈ bs.map Value.bool := by
      rw [← hb]
      simpa using hy
    obtain ⟨b, _, rfl⟩ := List.mem_map.mp hy'
    have e := SeqAt.EqAt.bool_bool (A := X.A.in1) (s := s) b true
    have eb : (b == true) = eqT (.bool b) := by cases b <;> rfl
    rw [eb] at e
    first
      | exact e
      | exact SeqAt.EqAt.bool_bool b true
  · refine ⟨.int ((bs.count true : Nat) : Int), H, I.tok _, ⟨s.toks, ?_⟩, q⟩
    show Value.int ((its.toArray.toList.countP eqT : Nat) : Int) s.toks = Value.int ((bs.count true : Nat) : Int) s.toks
    rw [List.toList_toArray, hb, countT]
end
/-! ### with which class a thing is refused -/
def kwords : List Str := ["BadRule", "BadMark", "BadMoment", "BadBounds", "NoRule", "BadThings", "NoThing", "BadText"]
structure ErrG (mg : Str → Option Value) (cS c0 c1 c2 c3 c4 c5 c6 c7 : Addr) : Prop where
  gS : mg "SeenError" = some (.ref cS)
  g0 : mg "BadRule" = some (.ref c0)
  g1 : mg "BadMark" = some (.ref c1)
  g2 : mg "BadMoment" = some (.ref c2)
  g3 : mg "BadBounds" = some (.ref c3)
  g4 : mg "NoRule" = some (.ref c4)
  g5 : mg "BadThings" = some (.ref c5)
  g6 : mg "NoThing" = some (.ref c6)
  g7 : mg "BadText" = some (.ref c7)
/-- the class at D is the j-th of the words, and none of the others -/
structure ErrIs (K : PySem.W.Frag) (cS c0 c1 c2 c3 c4 c5 c6 c7 D : Addr) (j : Nat) : Prop where
  ex : ExcC K D
  em : PySem.W.exmOne K (.ref D) (.ref cS) = some true
  k0 : PySem.W.kitOne K (.ref D) (.ref c0) = some (decide (j = 0))
  k1 : PySem.W.kitOne K (.ref D) (.ref c1) = some (decide (j = 1))
  k2 : PySem.W.kitOne K (.ref D) (.ref c2) = some (decide (j = 2))
  k3 : PySem.W.kitOne K (.ref D) (.ref c3) = some (decide (j = 3))
  k4 : PySem.W.kitOne K (.ref D) (.ref c4) = some (decide (j = 4))
  k5 : PySem.W.kitOne K (.ref D) (.ref c5) = some (decide (j = 5))
  k6 : PySem.W.kitOne K (.ref D) (.ref c6) = some (decide (j = 6))
  k7 : PySem.W.kitOne K (.ref D) (.ref c7) = some (decide (j = 7))
  kv : PySem.W.kitOne K (.ref D) (.type "ValueError") = some true
  lt : j < 8
def hot (j : Nat) : List Bool := [decide (j = 0), decide (j = 1), decide (j = 2), decide (j = 3), decide (j = 4), decide (j = 5), decide (j = 6), decide (j = 7)]
theorem hot_count {j : Nat} (h : j < 8) : (hot j).count true = 1 := by
  have : j = 0 ∨ j = 1 ∨ j = 2 ∨ j = 3 ∨ j = 4 ∨ j = 5 ∨ j = 6 ∨ j = 7 := by omega
  rcases this with rfl | rfl | rfl | rfl | rfl | rfl | rfl | rfl <;> rfl
theorem hot_at {j : Nat} (h : j < 8) : ((hot j).map V.bl)[j]? = some (.bl true) := by
  have : j = 0 ∨ j = 1 ∨ j = 2 ∨ j = 3 ∨ j = 4 ∨ j = 5 ∨ j = 6 ∨ j = 7 := by omega
  rcases this with rfl | rfl | rfl | rfl | rfl | rfl | rfl | rfl <;> rfl
theorem hot_get {j m : Nat} {z : V} (h : ((hot j).map V.bl)[m]? = some z) : z = .bl (decide (j = m)) := by
  match m, h with
  | 0, h => exact (Option.some.inj h).symm
  | 1, h => exact (Option.some.inj h).symm
  | 2, h => exact (Option.some.inj h).symm
  | 3, h => exact (Option.some.inj h).symm
  | 4, h => exact (Option.some.inj h).symm
  | 5, h => exact (Option.some.inj h).symm
  | 6, h => exact (Option.some.inj h).symm
  | 7, h => exact (Option.some.inj h).symm
  | m + 8, h => simp [hot] at h
theorem hot_flat (j : Nat) : ((hot j).map V.bl).all flatV = true := rfl
/-- what the def makes of the reading of what it calls -/
def TKind (K : PySem.W.Frag) (cS c0 c1 c2 c3 c4 c5 c6 c7 : Addr) : (XK → Hp → VK → Prop) → Hp → VK → Prop := fun tl H Q =>
  tl (fun cls d H' => ∃ D j wd, cls = .ref D ∧ d = none ∧ ErrIs K cS c0 c1 c2 c3 c4 c5 c6 c7 D j ∧ kwords[j]? = some wd ∧ ∀ H'', Same H' H'' → Q (.str wd) H'') H (fun _ H' => Q (.str "") H')
section
theorem sc_kind : FnScope ["_law_work", "e", "_law_kinds", "_law_words"] ["_law_work"] (defScope s_L_kind) := ⟨rfl, rfl, rfl, by decide +kernel, rfl, by decide +kernel, by decide +kernel⟩
theorem kind_gives {X : Cx} {g : Addr} {cdg : Value} {q : Str} {cS c0 c1 c2 c3 c4 c5 c6 c7 : Addr} (G : ErrG X.mg cS c0 c1 c2 c3 c4 c5 c6 c7) (m_isi : X.mg "isinstance" = none) (m_ve : X.mg "ValueError" = none) (hu : X.A.units + 300 < cLine) :
    LamX.GivesTo X ["_law_work", "e", "_law_kinds", "_law_words"] "_law_kind" (defScope s_L_kind) g cdg (defBody s_L_kind) "_law_work" q (TKind X.K cS c0 c1 c2 c3 c4 c5 c6 c7) := by
  intro f c' s H Q tl act hc h
  refine ⟨_, pss_cons (ps_try_as (X := (cxOf C8.CX0 X.prog X.w X.K X.mg X.base ["_law_work", "e", "_law_kinds", "_law_words"] "_law_kind" (defScope s_L_kind) g cdg X.A X.stack s H C8.E0).nox) (i := 1) (c := .ref cS)
      (tb := fun W D σ H => ∃ Ech : XK, (∀ cls d σ' H', Ech cls d H' → W cls d σ' H') ∧ σ[0]? = some (some (.ref f)) ∧ H c' = some (LamX.CodeO c' q) ∧ tl Ech H (fun _ H' => D.nx σ H'))
      (ts := fun a cls d D σ H => ∃ Dc j wd, cls = .ref Dc ∧ d = none ∧ ErrIs X.K cS c0 c1 c2 c3 c4 c5 c6 c7 Dc j ∧ kwords[j]? = some wd ∧ (∃ σ0 : L2.St, σ = σ0.set 1 (some (.ref a))) ∧ ∀ H', Same H H' → D.rt (.str wd) H')
      rfl rfl sc_kind.nd rfl rfl ⟨rfl, by decide, .inl G.gS⟩ takes0 (fun W pn xe tk _ => ?_) (fun a oe cls d pn hz hf => ?_)) (pss_one (ps_ret pe_str)), ?_⟩
  · refine ⟨fun pins s' σ H' D I h' => ?_⟩
    obtain ⟨Ech, hW, h1, h2, h3⟩ := h'
    exact (pss_one (ps_expr (act W pn xe Ech _ _ tk hW))).run pins s' σ H' D I ⟨h1, h2, h3⟩
  · refine ⟨fun pins s' σ H' D I h' => ?_⟩
    obtain ⟨Dc, j, wd, rfl, rfl, er, hwd, ⟨σ0, rfl⟩, hq⟩ := h'
    have ln := I.len
    rw [List.length_set] at ln
    obtain ⟨y0, y1, y2, y3, rfl⟩ : ∃ y0 y1 y2 y3, σ0 = [y0, y1, y2, y3] := by
      match σ0, ln with
      | [y0, y1, y2, y3], _ => exact ⟨_, _, _, _, rfl⟩
    have isE := call_isE (X := (cxOf C8.CX0 X.prog X.w X.K X.mg X.base ["_law_work", "e", "_law_kinds", "_law_words"] "_law_kind" (defScope s_L_kind) g cdg X.A X.stack s H C8.E0).nox) (a := a) (pn := pn) er.ex hz hf
    refine' PSs.run (X := ((cxOf C8.CX0 X.prog X.w X.K X.mg X.base ["_law_work", "e", "_law_kinds", "_law_words"] "_law_kind" (defScope s_L_kind) g cdg X.A X.stack s H C8.E0).nox).suite a ((a, oe) :: pn)) (t := _) ?hh pins s' _ H' D I ?rr
    case hh =>
      refine' pss_cons (ps_set (i := 2) sc_kind.nd rfl (Or.inl rfl) (pe_lst (pa_cons (pe_callB isE (by rfl) m_isi (by decide +kernel) (pa_cons (pv 1) (pa_cons (pe_glob (v := .ref c0) (by rfl) G.g0 rfl) pa_nil)))
        (pa_cons (pe_callB isE (by rfl) m_isi (by decide +kernel) (pa_cons (pv 1) (pa_cons (pe_glob (v := .ref c1) (by rfl) G.g1 rfl) pa_nil)))
        (pa_cons (pe_callB isE (by rfl) m_isi (by decide +kernel) (pa_cons (pv 1) (pa_cons (pe_glob (v := .ref c2) (by rfl) G.g2 rfl) pa_nil)))
        (pa_cons (pe_callB isE (by rfl) m_isi (by decide +kernel) (pa_cons (pv 1) (pa_cons (pe_glob (v := .ref c3) (by rfl) G.g3 rfl) pa_nil))) pa_nil)))))) ?n0
      case n0 =>
        refine' pss_cons (ps_set (i := 2) sc_kind.nd rfl (Or.inl rfl) (pe_op op_cat (pv 2) (pe_lst (pa_cons (pe_callB isE (by rfl) m_isi (by decide +kernel) (pa_cons (pv 1) (pa_cons (pe_glob (v := .ref c4) (by rfl) G.g4 rfl) pa_nil)))
        (pa_cons (pe_callB isE (by rfl) m_isi (by decide +kernel) (pa_cons (pv 1) (pa_cons (pe_glob (v := .ref c5) (by rfl) G.g5 rfl) pa_nil)))
        (pa_cons (pe_callB isE (by rfl) m_isi (by decide +kernel) (pa_cons (pv 1) (pa_cons (pe_glob (v := .ref c6) (by rfl) G.g6 rfl) pa_nil))) pa_nil)))))) ?n1
        case n1 =>
          refine' pss_cons (ps_expr (pe_bm PySem.F.plainAttrs_list PySem.F.slot_list_append PySem.F.type_list_append mt_append (pv 2) (pa_cons (pe_callB isE (by rfl) m_isi (by decide +kernel) (pa_cons (pv 1) (pa_cons (pe_glob (v := .ref c7) (by rfl) G.g7 rfl) pa_nil))) pa_nil))) ?n2
          case n2 =>
            refine' pss_cons (ps_set (i := 3) sc_kind.nd rfl (Or.inl rfl) (pe_lst (pa_cons pe_str (pa_cons pe_str (pa_cons pe_str (pa_cons pe_str (pa_cons pe_str (pa_cons pe_str (pa_cons pe_str (pa_cons pe_str pa_nil)))))))))) ?n3
            case n3 =>
              refine' pss_cons (ps_if (PW.pt (pw_or (pt_cmpR op_ne (pe_bm PySem.F.plainAttrs_list PySem.F.slot_list_count PySem.F.type_list_count mt_countB (pv 2) (pa_cons pe_bl pa_nil)) pe_int (nomark _)) (pw_or1 (pt_not (pt_val (pe_callB isE (by rfl) m_isi (by decide +kernel) (pa_cons (pv 1) (pa_cons (pe_bltn (v := .ty "ValueError") (u := .type "ValueError") (by rfl) m_ve (by decide +kernel) rfl) pa_nil)))))))) pss_never pss_nil) ?n4
              case n4 =>
                exact pss_one (ps_ret (pe_ix ix_list (pv 3) (pe_bm PySem.F.plainAttrs_list PySem.F.slot_list_index PySem.F.type_list_index mt_index (pv 2) (pa_cons pe_bl pa_nil)) (fun _ _ => rfl)))
    case rr =>
      refine ⟨_, rfl, .ref c0, .ref c0, _, rfl, fun u r => r, er.k0, _, rfl, .ref c1, .ref c1, _, rfl, fun u r => r, er.k1, _, rfl, .ref c2, .ref c2, _, rfl, fun u r => r, er.k2, _, rfl, .ref c3, .ref c3, _, rfl, fun u r => r, er.k3, (by show 4 ≤ sizeLine; decide), fun l1 n1 => ?_⟩
      have s1 := same_upd (o := .lst [V.bl (decide (j = 0)), V.bl (decide (j = 1)), V.bl (decide (j = 2)), V.bl (decide (j = 3))]) n1
      refine ⟨_, rfl, _, rfl, .ref c4, .ref c4, _, rfl, fun u r => r, er.k4, _, rfl, .ref c5, .ref c5, _, rfl, fun u r => r, er.k5, _, rfl, .ref c6, .ref c6, _, rfl, fun u r => r, er.k6, (by show 3 ≤ sizeLine; decide), fun l2 n2 => ?_⟩
      have s2 := same_upd (o := .lst [V.bl (decide (j = 4)), V.bl (decide (j = 5)), V.bl (decide (j = 6))]) n2
      refine ⟨l1, l2, _, _, rfl, rfl, s2 _ _ upd_same, upd_same, (by show 4 + 3 ≤ sizeLine; decide), fun l3 n3 => ?_⟩
      have s3 := same_upd (o := .lst ([V.bl (decide (j = 0)), V.bl (decide (j = 1)), V.bl (decide (j = 2)), V.bl (decide (j = 3))] ++ [V.bl (decide (j = 4)), V.bl (decide (j = 5)), V.bl (decide (j = 6))])) n3
      refine ⟨_, rfl, .inl ⟨rfl, _, SqL.of upd_same⟩, _, rfl, .ref c7, .ref c7, _, rfl, fun u r => r, er.k7, l3, _, _, rfl, rfl, upd_same, (by show 7 < sizeLine; decide), ?_⟩
      rw [upd_upd]
      have sa : Same H' (upd (upd (upd H' l1 (.lst [V.bl (decide (j = 0)), V.bl (decide (j = 1)), V.bl (decide (j = 2)), V.bl (decide (j = 3))])) l2 (.lst [V.bl (decide (j = 4)), V.bl (decide (j = 5)), V.bl (decide (j = 6))])) l3 (.lst ((hot j).map V.bl))) := (s1.trans s2).trans (same_upd n3)
      refine ⟨(by show 8 ≤ sizeLine; decide), fun l4 n4 => ?_⟩
      have s4 := same_upd (o := .lst (kwords.map V.str)) n4
      have e3 := s4 _ _ (show (upd (upd (upd H' l1 (HO.lst [V.bl (decide (j = 0)), V.bl (decide (j = 1)), V.bl (decide (j = 2)), V.bl (decide (j = 3))])) l2 (.lst [V.bl (decide (j = 4)), V.bl (decide (j = 5)), V.bl (decide (j = 6))])) l3 (.lst ((hot j).map V.bl))) l3 = some (.lst ((hot j).map V.bl)) from upd_same)
      refine ⟨_, rfl, .inl ⟨rfl, _, SqL.of e3⟩, l3, hot j, rfl, rfl, SqL.of e3, rfl, _, rfl, ?_⟩
      rw [hot_count er.lt]
      refine iteNS rfl ?_
      refine ⟨_, rfl, .ty "ValueError", .type "ValueError", _, rfl, fun u r => r, er.kv, _, rfl, iteF ?_⟩
      refine ⟨_, rfl, _, rfl, .inl ⟨rfl, _, SqL.of e3⟩, l3, (hot j).map V.bl, .bl true, j, .bl true, rfl, rfl, SqL.of e3, rfl, hot_flat j, hot_at er.lt, rfl, fun m z' hm hz' => ?_, ?_⟩
      · rw [hot_get hz', decide_eq_false (show ¬ j = m by omega)]
        rfl
      · refine ⟨l4, kwords.map V.str, _, _, rfl, rfl, SqL.of upd_same, atI_nat (j := j) (by rw [List.getElem?_map, hwd]; rfl), hq _ (sa.trans s4)⟩
  · exact ⟨fun cls d H' => ∃ D j wd, cls = .ref D ∧ d = none ∧ ErrIs X.K cS c0 c1 c2 c3 c4 c5 c6 c7 D j ∧ kwords[j]? = some wd ∧ ∀ H'', Same H' H'' → Q (.str wd) H'', fun cls d σ' H' ⟨D, j, wd, e1, e2, er, hwd, hq⟩ => by
      subst e1 e2
      exact ⟨true, er.em, fun _ a _ => ⟨D, j, wd, rfl, rfl, er, hwd, ⟨σ', rfl⟩, hq⟩, fun e => nomatch e⟩, rfl, hc, h⟩
end
/-! ### lambdas are made: all but the tables of code stands -/
theorem HAt.ext {H H' : Hp} {h c : Addr} (a : HAt H h c) (e : LamX.ExtN H H') : HAt H' h c := by
  obtain ⟨⟨mx, pl, ns, e1, e2, rest⟩, hne⟩ := a
  exact ⟨⟨mx, pl, ns, e _ _ e1 (fun _ z => nomatch z), e _ _ e2 (fun _ z => nomatch z), rest⟩, hne⟩
theorem BAt.ext {C : Addr} {H H' : Hp} {b p am : Addr} {R : Ru} {ms : List Nat} {now : Nat} (a : BAt C H b p am R ms now) (e : LamX.ExtN H H') : BAt C H' b p am R ms now :=
  ⟨let ⟨dx, o⟩ := a.ob; ⟨dx, e _ _ o (fun _ z => nomatch z)⟩, e _ _ a.rl (fun _ z => nomatch z), e _ _ a.mrk (fun _ z => nomatch z), a.few, a.bd, a.ok⟩
theorem MAt.ext {H H' : Hp} {m p mm ml : Addr} {R : Ru} {s : Md} (a : MAt H m p mm ml R s) (e : LamX.ExtN H H') : MAt H' m p mm ml R s :=
  { a with ob := e _ _ a.ob (fun _ z => nomatch z), rl := e _ _ a.rl (fun _ z => nomatch z), mrk := e _ _ a.mrk (fun _ z => nomatch z), la := e _ _ a.la (fun _ z => nomatch z) }
theorem OnAt.ext {C : Addr} {H H' : Hp} {h c : Addr} {S : Sd} (a : OnAt C H h c S) (e : LamX.ExtN H H') : OnAt C H' h c S := ⟨a.ha.ext e, a.ba.ext e, a.ma.ext e, a.n1, a.n2, a.pos, a.hf⟩
abbrev plainO (o : HO) : Prop := (∀ ps, o ≠ .tbl ps) ∧ ∀ F, o ≠ .ext F
theorem TabS_kpL {H H' : Hp} {P : Addr} {q : Str} {L : List Addr} (t : LamX.TabS H P q) (k : KpL L H H') (n : ∀ x, x ∈ L → ∃ o, H x = some o ∧ plainO o) : LamX.TabS H' P q := by
  obtain ⟨ps, h1, h2, h3⟩ := t
  refine ⟨ps, k _ _ h1 (fun z => ?_), h2, fun pos cv hc => ?_⟩
  · obtain ⟨o, e, n1, _⟩ := n _ z
    rw [h1] at e
    exact n1 ps (Option.some.inj e).symm
  · obtain ⟨c, e1, e2⟩ := h3 pos cv hc
    refine ⟨c, e1, k _ _ e2 fun z => ?_⟩
    obtain ⟨o, e, _, n2⟩ := n _ z
    rw [e2] at e
    exact n2 _ (Option.some.inj e).symm
theorem OnAt.plain {C : Addr} {H : Hp} {h c : Addr} {S : Sd} (a : OnAt C H h c S) {x : Addr} (hx : x ∈ S.fp) : ∃ o, H x = some o ∧ plainO o := by
  obtain ⟨dx, ob⟩ := a.ba.ob
  unfold Sd.fp at hx
  simp only [List.mem_cons, List.not_mem_nil, or_false] at hx
  rcases hx with rfl | rfl | rfl | rfl | rfl
  · exact ⟨_, ob, ⟨(fun _ z => nomatch z), (fun _ z => nomatch z)⟩⟩
  · exact ⟨_, a.ba.mrk, ⟨(fun _ z => nomatch z), (fun _ z => nomatch z)⟩⟩
  · exact ⟨_, a.ma.ob, ⟨(fun _ z => nomatch z), (fun _ z => nomatch z)⟩⟩
  · exact ⟨_, a.ma.mrk, ⟨(fun _ z => nomatch z), (fun _ z => nomatch z)⟩⟩
  · exact ⟨_, a.ma.la, ⟨(fun _ z => nomatch z), (fun _ z => nomatch z)⟩⟩
theorem HAt.plain {H : Hp} {h c x : Addr} (a : HAt H h c) (hx : x ∈ [h, c]) : ∃ o, H x = some o ∧ plainO o := by
  obtain ⟨⟨mx, pl, ns, e1, e2, _⟩, _⟩ := a
  rcases List.mem_cons.mp hx with rfl | hx
  · exact ⟨_, e1, ⟨(fun _ z => nomatch z), (fun _ z => nomatch z)⟩⟩
  · rw [List.mem_singleton.mp hx]
    exact ⟨_, e2, ⟨(fun _ z => nomatch z), (fun _ z => nomatch z)⟩⟩
abbrev qL : Str := ("law" : Str) ++ ".<locals>." ++ "<lambda>"
/-- one board, the law's own, and the table of the law's lambdas -/
structure OT (C : Addr) (H : Hp) (h c : Addr) (S : Sd) (PL : Addr) : Prop where
  on : OnAt C H h c S
  tb : LamX.TabS H PL qL
theorem OT.same {C : Addr} {H H' : Hp} {h c PL : Addr} {S : Sd} (a : OT C H h c S PL) (k : Same H H') : OT C H' h c S PL := ⟨a.on.same k, a.tb.ext k⟩
theorem OT.drawn {C : Addr} {H H' : Hp} {h c PL : Addr} {S : Sd} (a : OT C H h c S PL) (ha : HAt H' h c) (k : KpL [h, c] H H') : OT C H' h c S PL := ⟨a.on.drawn ha k, TabS_kpL a.tb k fun _ hx => a.on.ha.plain hx⟩
/-! ### which of the words a class is, as one test -/
def errIsB (K : PySem.W.Frag) (cS c0 c1 c2 c3 c4 c5 c6 c7 D : Addr) (j : Nat) : Bool :=
  (decide (PySem.W.findIn K (.ref D) "__getattribute__" = some (some (.builtin "BaseException.__getattribute__"))) && decide (PySem.W.findIn K (.ref D) "__getattr__" = some none) && decide (PySem.W.subIn K (.ref D) (.type "BaseException") = some true) && PySem.W.hasDictIn K D &&
    decide (PySem.W.findIn K (.ref D) "__class__" = some (some (.builtin "object.__class__"))) && decide (PySem.W.specialIn K (.builtin "object.__class__") "__get__" = some (some (.builtin "getset_descriptor.__get__"))) && decide (PySem.W.takesIn K (.builtin "object.__class__") = some true) && decide (PySem.W.mroIn K D (.type "object") = some true)) &&
  (decide (PySem.W.exmOne K (.ref D) (.ref cS) = some true) && decide (PySem.W.kitOne K (.ref D) (.ref c0) = some (decide (j = 0))) && decide (PySem.W.kitOne K (.ref D) (.ref c1) = some (decide (j = 1))) && decide (PySem.W.kitOne K (.ref D) (.ref c2) = some (decide (j = 2))) && decide (PySem.W.kitOne K (.ref D) (.ref c3) = some (decide (j = 3))) &&
    decide (PySem.W.kitOne K (.ref D) (.ref c4) = some (decide (j = 4))) && decide (PySem.W.kitOne K (.ref D) (.ref c5) = some (decide (j = 5))) && decide (PySem.W.kitOne K (.ref D) (.ref c6) = some (decide (j = 6))) && decide (PySem.W.kitOne K (.ref D) (.ref c7) = some (decide (j = 7))) && decide (PySem.W.kitOne K (.ref D) (.type "ValueError") = some true) && decide (j < 8))
theorem errIs_of {K : PySem.W.Frag} {cS c0 c1 c2 c3 c4 c5 c6 c7 D : Addr} {j : Nat} (h : errIsB K cS c0 c1 c2 c3 c4 c5 c6 c7 D j = true) : ErrIs K cS c0 c1 c2 c3 c4 c5 c6 c7 D j := by
  unfold errIsB at h
  simp only [Bool.and_eq_true, decide_eq_true_eq] at h
  obtain ⟨⟨⟨⟨⟨⟨⟨⟨h1, h2⟩, h3⟩, h4⟩, h5⟩, h6⟩, h7⟩, h8⟩, ⟨⟨⟨⟨⟨⟨⟨⟨⟨⟨g0, g1⟩, g2⟩, g3⟩, g4⟩, g5⟩, g6⟩, g7⟩, g8⟩, g9⟩, g10⟩⟩ := h
  exact ⟨⟨h1, h2, h3, h4, h5, h6, h7, h8⟩, g0, g1, g2, g3, g4, g5, g6, g7, g8, g9, g10⟩
/-! ### the law -/
def spLaw (K : PySem.W.Frag) (PL : Addr) : Sp := fun vs H Q _ => ∃ (a : Addr) (ns : List Int), vs = [.ref a] ∧ SqL K H a (ns.map V.int) ∧ ns.length ≤ 63 ∧ H PL = some (.tbl #[]) ∧ ∀ H', Q (.bl true) H'
section
variable {P : Program} {w : World} {K : PySem.W.Frag} {mg : Str → Option Value} {base : Heap} {C : Addr}
abbrev Nlaw : List Str := ["_law_script", "_law_h", "_law_rule_here", "_law_things", "_law_board_here", "_law_m", "_law_turn", "_law_step_here", "_law_told", "_law_out", "_law_words"]
theorem sc_law : FnScope Nlaw ["_law_script"] (defScope s_law) := ⟨rfl, rfl, rfl, by decide +kernel, rfl, by decide +kernel, by decide +kernel⟩
theorem ok_law {f fI cN cM cL PL cS c0 c1 c2 c3 c4 c5 c7 : Addr} {fdI : FuncData} {kV doc pm ct oc : Value} {an od : Option Addr} {osl : Array (Option Value)}
    (lk : K.lookup f = some ⟨oc, od, .func (PySem.W.fnOf "law" "law" (defArgs s_law) (defBody s_law) (defScope s_law) .none kV doc pm an (.ref cL) ct), osl⟩) (hcd : PySem.W.codeIn K (.ref cL) "law" = true) (TB : LamX.TabB base mg cL PL)
    (DK : DefAt K mg "_law_kind" s_L_kind ["_law_work"]) (G : ErrG mg cS c0 c1 cM c3 c4 c5 cN c7) (eN : ErrIs K cS c0 c1 cM c3 c4 c5 cN c7 cN 6) (eM : ErrIs K cS c0 c1 cM c3 c4 c5 cN c7 cM 2)
    (m_isi : mg "isinstance" = none) (m_ve : mg "ValueError" = none) (m_range : mg "range" = none) (T : Bcl K mg C) (gB : mg "Board" = some (.ref C))
    (M : Mk K C fI) (GI : FnOk P w K mg base CX0 3 fI fdI ["self", "rule", "things"] (spInit C)) (bI : Binds K fdI ["self", "rule", "things"] [])
    (C_mix : Cl P w K mg base 1 "_law_mix" ["_law_script", "_law_seed"] (spMix K)) (C_next : Cl P w K mg base 1 "_law_next" ["_law_h", "_law_many"] spNext) (C_rule : Cl P w K mg base 2 "_law_rule" ["_law_h", "_law_small"] spRule)
    (C_lb : Cl P w K mg base 2 "_law_board" ["_law_rule_here", "_law_things"] spBoardL) (C_do : Cl P w K mg base 4 "_law_do" ["_law_m", "_law_step_here"] spDo) (C_st : Cl P w K mg base 2 "_law_step" ["_law_h", "_law_m"] spStep)
    (C_al : Cl P w K mg base 4 "_law_alike" ["_law_found", "_law_due"] (spAlike K 3)) (C_is : Cl P w K mg base 8 "_law_is" ["_law_board_here", "_law_m"] (spIs C))
    (CS : ClM P w K mg base (L2.CX P w) 2 C "see" ["self", "thing"] (spSee C cN)) (CP : ClM P w K mg base (L2.CX P w) 3 C "pass_by" ["self", "many"] (spPass C cM))
    (CM : ClM P w K mg base CX0 1 C "marks" ["self"] (spMarks C)) (CA : ClM P w K mg base CX0 7 C "ages" ["self"] (spAges C)) :
    FnOk P w K mg base CX0 9 f (PySem.W.fnOf "law" "law" (defArgs s_law) (defBody s_law) (defScope s_law) .none kV doc pm an (.ref cL) ct) ["_law_script"] (spLaw K PL) := by
  obtain ⟨fk, fdk, ⟨⟨ock, odk, kVk, dock, pmk, ank, cdk, ctk, oslk, rfl, lkk, hck⟩, kpk⟩, gk, bk⟩ := DK
  refine fn_of lk hcd sc_law (fun vs H Q E h => ?_) (fun A outer s H vs Q E hr h => ?_)
  · obtain ⟨a, ns, rfl, _⟩ := h
    rfl
  · obtain ⟨a, ns, rfl, hS, hl, hT, q⟩ := h
    have hr3 : Room 4 _ := hr.mono (by decide)
    have hu := hu_of hr
    have hu3 := hr.units
    have hu300 : (A.deeper (envOfC "law" (defScope s_law) s.heap.objs.size f (Value.ref cL))).units + 300 < cLine := by
      have := hr.un
      omega
    have mT : (PL, qL) ∈ [(PL, qL)] := List.mem_singleton.mpr rfl
    have tT : ∀ p ∈ [(PL, qL)], p.1 = PL → p.2 = qL := fun p hp _ => by rw [List.mem_singleton.mp hp]
    refine ⟨_, PSs.nox (pss_cons (ps_set (i := 1) sc_law.nd rfl (Or.inl rfl) (pe_cl C_mix hr (pa_cons (pv 0) (pa_cons pe_int pa_nil))))
      (pss_cons (ps_set (i := 2) sc_law.nd rfl (Or.inl rfl) (pe_cl C_rule hr (pa_cons (pv 1) (pa_cons pe_int pa_nil))))
      (pss_cons (ps_set (i := 3) sc_law.nd rfl (Or.inr rfl) (pe_op op_add pe_int (pe_cl C_next hr (pa_cons (pv 1) (pa_cons pe_int pa_nil)))))
      (pss_cons (ps_set (i := 4) sc_law.nd rfl (Or.inr rfl) (pe_make M GI hr3 (by rfl) gB bI .nil pass0 (pa_cons (pv 2) (pa_cons (pv 3) pa_nil))))
      (pss_cons (ps_set (i := 5) sc_law.nd rfl (Or.inl rfl) (pe_cl C_lb hr (pa_cons (pv 2) (pa_cons (pv 3) pa_nil))))
      (pss_cons (ps_for PassesOwn.never rfl (pi_range1 (by rfl) m_range (pa_cons (pe_cl C_next hr (pa_cons (pv 1) (pa_cons pe_int pa_nil))) pa_nil)) (pg_name (i := 6) sc_law.nd rfl (Or.inl rfl))
        (pss_cons (ps_set (i := 7) sc_law.nd rfl (Or.inl rfl) (pe_ifExp (pt_cmpR op_gt (pe_cl C_next hr (pa_cons (pv 1) (pa_cons pe_int pa_nil))) pe_int (nomark _))
            (pe_cl C_st hr (pa_cons (pv 1) (pa_cons (pv 5) pa_nil))) (pe_tup (pa_cons pe_str (pa_cons (pe_op op_sub pe_int (pe_cl C_next hr (pa_cons (pv 1) (pa_cons pe_int pa_nil)))) pa_nil)))))
        (pss_cons (ps_set (i := 8) sc_law.nd rfl (Or.inl rfl) (pe_ifExp (pt_cmpR op_eq (pe_ix ix_tup (pv 7) pe_int (fun _ _ => rfl)) pe_str (nomark _))
            (pe_cm (E := E0) CS T.cl passL hr (pv 4) (pa_cons (pe_ix ix_tup (pv 7) pe_int (fun _ _ => rfl)) pa_nil)) (pe_cm (E := E0) CP T.cl passL hr (pv 4) (pa_cons (pe_ix ix_tup (pv 7) pe_int (fun _ _ => rfl)) pa_nil))))
        (pss_cons (ps_if (PW.pt (pw_or (pt_not (pt_val (pe_cl C_al hr (pa_cons (pv 8) (pa_cons (pe_cl C_do hr (pa_cons (pv 5) (pa_cons (pv 7) pa_nil))) pa_nil))))) (pw_or1 (pt_not (pt_val (pe_cl C_is hr (pa_cons (pv 4) (pa_cons (pv 5) pa_nil)))))))) pss_never pss_nil)
        (pss_cons (ps_expr (pe_bm PySem.F.plainAttrs_list PySem.F.slot_list_append PySem.F.type_list_append mt_append (pe_cm0 (E := E0) CM T.cl pass0 hr (pv 4)) (pa_cons pe_int pa_nil)))
        (pss_cons (ps_expr (pe_bm0 PySem.F.plainAttrs_list PySem.F.slot_list_clear PySem.F.type_list_clear mt_clear (pe_cm0 (E := E0) CA T.cl pass0 hr (pv 4))))
        (pss_cons (ps_set (i := 9) sc_law.nd rfl (Or.inr rfl) (pe_cl C_next hr (pa_cons (pv 1) (pa_cons (pe_op op_pow pe_int pe_int) pa_nil))))
        (pss_cons (ps_set (i := 10) sc_law.nd rfl (Or.inl rfl) (pe_lst (pa_cons (LamX.pe_lamcall (t := fun E => tMeth C "see" (spSee C cN) [] E (tVar 4) (tCons (tOp (rIxL K) (tLst (tCons (tOp (rI0 fun i j => .int (i + j)) (tVar 3) (tVar 9)) (tCons (tOp (rI0 fun i j => .int (i - j)) (tUn (rU fun i => .int (-i)) (tC (.int 1))) (tVar 9)) tNil))) (tOp (rI (fun _ j => 0 < j) fun i j => .int (i % j)) (tVar 9) (tC (.int 2)))) tNil)) (k := 6) (c := cL) (P := PL) (T := [(PL, qL)]) (by rfl) gk kpk lkk hck bk sc_kind rfl (Or.inl rfl) (kind_gives G m_isi m_ve ?hu1) TB rfl mT tT (hr.mono (by decide)) (LamX.lamS_by (show LamX.lamSB (defScope s_law) _ = true by decide +kernel)) (by rfl) (fun _ _ _ _ _ => by rfl)
            (fun A outer s H E f c' hr2 => by exact pe_cm (E := E) CS T.cl (passes_call (takes_of rfl rfl rfl rfl) (fun _ _ _ _ h => h)) hr2 (pv 4) (pa_cons (pe_ix ix_list (pe_lst (pa_cons (pe_op op_add (pv 3) (pv 9)) (pa_cons (pe_op op_sub (pe_un un_neg pe_int) (pv 9)) pa_nil))) (pe_op op_mod (pv 9) pe_int) (fun _ _ => rfl)) pa_nil))) pa_nil)))
        (pss_cons (ps_expr (pe_bm PySem.F.plainAttrs_list PySem.F.slot_list_append PySem.F.type_list_append mt_append (pv 10) (pa_cons (LamX.pe_lamcall (t := fun E => tMeth C "pass_by" (spPass C cM) [] E (tVar 4) (tCons (tOp (rIxL K) (tLst (tCons (tC (.int 0)) (tCons (tOp (rI0 fun i j => .int (i + j)) (tC (.int 1001)) (tVar 9)) (tCons (tOp (rI0 fun i j => .int (i - j)) (tUn (rU fun i => .int (-i)) (tC (.int 1))) (tVar 9)) tNil)))) (tOp (rI (fun _ j => 0 < j) fun i j => .int (i % j)) (tVar 9) (tC (.int 3)))) tNil)) (k := 6) (c := cL) (P := PL) (T := [(PL, qL)]) (by rfl) gk kpk lkk hck bk sc_kind rfl (Or.inl rfl) (kind_gives G m_isi m_ve ?hu2) TB rfl mT tT (hr.mono (by decide)) (LamX.lamS_by (show LamX.lamSB (defScope s_law) _ = true by decide +kernel)) (by rfl) (fun _ _ _ _ _ => by rfl)
            (fun A outer s H E f c' hr2 => by exact pe_cm (E := E) CP T.cl (passes_call (takes_of rfl rfl rfl rfl) (fun _ _ _ _ h => h)) hr2 (pv 4) (pa_cons (pe_ix ix_list (pe_lst (pa_cons pe_int (pa_cons (pe_op op_add pe_int (pv 9)) (pa_cons (pe_op op_sub (pe_un un_neg pe_int) (pv 9)) pa_nil)))) (pe_op op_mod (pv 9) pe_int) (fun _ _ => rfl)) pa_nil))) pa_nil)))
        (pss_one (ps_if (PW.pt (pw_or (pt_cmpR (op_neD hr.units) (pv 10) (pe_lst (pa_cons pe_str (pa_cons pe_str pa_nil))) (nomark _)) (pw_or1 (pt_not (pt_val (pe_cl C_is hr (pa_cons (pv 4) (pa_cons (pv 5) pa_nil)))))))) pss_never pss_nil)))))))))))
      (pss_one (ps_ret (pe_cl C_is hr (pa_cons (pv 4) (pa_cons (pv 5) pa_nil))))))))))), ?_⟩
    case hu1 => exact hu300
    case hu2 => exact hu300
    refine ⟨_, rfl, a, 19, ns, rfl, hS, hl, by decide, by decide, fun H0 h c ha0 _ _ s0 => ?_⟩
    have tb0 : LamX.TabS H0 PL qL := LamX.TabS.nil (s0 _ _ hT)
    -- the rule
    refine ⟨_, rfl, h, c, 0, rfl, .inl rfl, ha0, fun R H2 p ok _ ha2 k2 hp2 => ?_⟩
    have tb2 := TabS_kpL tb0 (Kp2.kpL k2) fun _ hx => ha0.plain hx
    refine ⟨_, rfl, h, c, 8, rfl, by decide, by decide, ha2, fun r H3 rl ha3 k3 => ?_⟩
    have tb3 := TabS_kpL tb2 (Kp2.kpL k3) fun _ hx => ha2.plain hx
    have hp3 := k3.tup ha2 hp2
    have rl' : (r : Int) < 8 := rl
    refine ⟨_, _, rfl, rfl, ?_⟩
    have e1 : (1 : Int) + (r : Int) = ((1 + r : Nat) : Int) := rfl
    -- the boards
    refine ⟨_, rfl, _, rfl, fun b dx nb ndx ndb => ?_⟩
    have s0' : Same H3 (upd (upd H3 dx (.own b)) b (.ins C dx [])) := fun x o e => by
      rw [upd_ne (ne_of_none e nb), upd_ne (ne_of_none e ndx)]
      exact e
    refine ⟨b, dx, p, R, 1 + r, _, rfl, rfl, upd_same, s0' _ _ hp3, ok, by omega, by omega, fun H4 am ba nam k4 => ⟨rfl, ?_⟩⟩
    refine ⟨_, rfl, _, rfl, p, R, 1 + r, _, rfl, rfl, ba.rl, ok, by omega, fun H5 m mm ml ma nm nmm nml s5 => ?_⟩
    obtain ⟨on5, sm5⟩ := OnAt.make ha3 nb ndx ndb ba nam k4 ma nm nmm nml s5 (by omega)
    have ot5 : OT C H5 h c _ PL := ⟨on5, tb3.ext sm5⟩
    refine ⟨_, rfl, h, c, 51, rfl, by decide, by decide, on5.ha, fun many H6 manyl ha6 k6 => ?_⟩
    have ot6 := ot5.drawn ha6 (Kp2.kpL k6)
    have many' : (many : Int) < 51 := manyl
    refine ⟨_, rfl, by omega, by omega, ?_⟩
    rw [Int.toNat_natCast]
    refine for_range (lo := 0) (n := many) (fun i σ H' => ∃ (S : Sd) (v6 v7 v8 v9 v10 : Option V), σ = [some (.ref a), some (.ref h), some (.ref p), some (.int ((1 + r : Nat) : Int)), some (.ref S.b), some (.ref S.m), v6, v7, v8, v9, v10] ∧
        OT C H' h c S PL ∧ S.s.now ≤ 1000 * i ∧ S.s.ms.length = 1 + r)
      ⟨_, none, none, none, none, none, rfl, ot6, Nat.zero_le _, List.length_replicate⟩ ?_ ?_
    · rintro i σ Ha hi ⟨S, v6, v7, v8, v9, v10, rfl, ot, nw, ln⟩
      have hi' : i < 51 := by omega
      -- the step
      dsimp only [gName, tSeq]
      refine abs_nx (t := tAsg _ _) (fun σ' H' => ∃ (stp : Addr) (wd : String) (k : Nat), σ' = [some (.ref a), some (.ref h), some (.ref p), some (.int ((1 + r : Nat) : Int)), some (.ref S.b), some (.ref S.m), some (.int (0 + (i : Int))), some (.ref stp), v8, v9, v10] ∧ OT C H' h c S PL ∧
          ((wd = "see" ∧ k < S.s.ms.length) ∨ (wd = "pass" ∧ 1 ≤ k ∧ k ≤ 1000)) ∧ H' stp = some (.tup [.str wd, .int (k : Int)])) (fun nx' hnx => ?_) ?_
      · refine ⟨_, rfl, h, c, 12, rfl, by decide, by decide, ot.on.ha, fun r0 Hb r0l hab kb => ⟨_, _, rfl, rfl, _, rfl, ?_⟩⟩
        have otb := ot.drawn hab (Kp2.kpL kb)
        by_cases z : (0 : Int) < (r0 : Int)
        · rw [decide_eq_true z]
          refine iteT ⟨_, rfl, _, rfl, h, c, S.m, S.p', S.mm, S.ml, S.R, S.s, rfl, hab, otb.on.ma, otb.on.pos, otb.on.hne.1, otb.on.hne.2.1, otb.on.hne.2.2.1, otb.on.hne.2.2.2, fun Hc stp wd k hwd est hac kc => ?_⟩
          exact hnx _ _ ⟨stp, wd, k, rfl, otb.drawn hac kc, hwd, est⟩
        · rw [decide_eq_false z]
          refine iteF ⟨_, rfl, h, c, 2, rfl, by decide, by decide, hab, fun r1 Hc r1l hac kc => ⟨_, _, rfl, rfl, ?_⟩⟩
          have otc := otb.drawn hac (Kp2.kpL kc)
          have r1l' : (r1 : Int) < 2 := r1l
          refine ⟨(by show 2 ≤ sizeLine; decide), fun T2 nT2 => ?_⟩
          exact hnx _ _ ⟨T2, "pass", 1000 - r1, rfl, otc.same (same_upd nT2), .inr ⟨rfl, by omega, by omega⟩, by rw [upd_same]; exact congrArg (fun z => some (HO.tup [V.str "pass", V.int z])) (show (1000 : Int) - (r1 : Int) = ((1000 - r1 : Nat) : Int) by omega)⟩
      · rintro σ' Hc ⟨stp, wd, k, rfl, otc, hwd, est⟩
        have aC := otc.on
        have t0 : atI [V.str wd, V.int (k : Int)] 0 = some (.str wd) := atI_nat (j := 0) rfl
        have t1 : atI [V.str wd, V.int (k : Int)] 1 = some (.int (k : Int)) := atI_nat (j := 1) rfl
        obtain ⟨dxc, obc⟩ := aC.ba.ob
        -- what is told
        dsimp only
        refine abs_nx (t := tAsg _ _) (fun σ' H' => (wd = "see" ∧ k < S.s.ms.length ∧ σ' = [some (.ref a), some (.ref h), some (.ref p), some (.int ((1 + r : Nat) : Int)), some (.ref S.b), some (.ref S.m), some (.int (0 + (i : Int))), some (.ref stp), some .non, v9, v10] ∧
            BAt C H' S.b S.p S.am S.R (S.s.ms.set k (seenM S.R (S.s.ms.getD k 0))) S.s.now ∧ KpL [S.am] Hc H') ∨
          (wd = "pass" ∧ k ≤ 1000 ∧ σ' = [some (.ref a), some (.ref h), some (.ref p), some (.int ((1 + r : Nat) : Int)), some (.ref S.b), some (.ref S.m), some (.int (0 + (i : Int))), some (.ref stp), some (.int ((S.s.now + k : Nat) : Int)), v9, v10] ∧
            ∃ am', BAt C H' S.b S.p am' S.R (S.s.ms.map fun x => ag S.R x S.s.now k) (S.s.now + k) ∧ Hc am' = none ∧ KpL [S.b] Hc H')) (fun nx' hnx => ?_) ?_
        · refine ⟨_, rfl, stp, _, _, _, rfl, rfl, SqT.of est, t0, rfl, _, rfl, ?_⟩
          rw [dec_str]
          rcases hwd with ⟨rfl, kl⟩ | ⟨rfl, k1, k2⟩
          · rw [decide_eq_true rfl]
            refine iteT ⟨_, rfl, S.b, dxc, _, rfl, obc, bfl_no _ _ _ (by decide +kernel) (by decide +kernel) (by decide +kernel), _, rfl, stp, _, _, _, rfl, rfl, SqT.of est, t1, S.b, S.p, S.am, S.R, S.s.ms, S.s.now, _, rfl, aC.ba, .inl ⟨k, rfl, kl, fun Hd ba kd => ?_⟩⟩
            exact hnx _ _ (.inl ⟨rfl, kl, rfl, ba, kd⟩)
          · rw [decide_eq_false k_sp]
            refine iteF ⟨_, rfl, S.b, dxc, _, rfl, obc, bfl_no _ _ _ (by decide +kernel) (by decide +kernel) (by decide +kernel), _, rfl, stp, _, _, _, rfl, rfl, SqT.of est, t1, S.b, S.p, S.am, S.R, S.s.ms, S.s.now, _, rfl, aC.ba, .inl ⟨k, rfl, k1, k2, by omega, fun Hd am' ba nam kd => ?_⟩⟩
            exact hnx _ _ (.inr ⟨rfl, k2, rfl, am', ba, nam, kd⟩)
        · intro σ' Hd g
          dsimp only
          refine abs_nx (t := tIfS _ _ _) (fun σ' H' => ∃ (S' : Sd) (w8 : Option V), σ' = [some (.ref a), some (.ref h), some (.ref p), some (.int ((1 + r : Nat) : Int)), some (.ref S'.b), some (.ref S'.m), some (.int (0 + (i : Int))), some (.ref stp), w8, v9, v10] ∧ OT C H' h c S' PL ∧ S'.s.now ≤ 1000 * (i + 1) ∧ S'.s.ms.length = 1 + r) (fun nx' hnx => ?_) ?_
          · rcases g with ⟨rfl, kl, rfl, ba, kd⟩ | ⟨rfl, k2, rfl, am', ba, nam, kd⟩
            · obtain ⟨ma, tt⟩ := aC.at_see kd
              refine ⟨_, rfl, _, rfl, _, rfl, S.m, S.p', S.mm, S.ml, stp, S.R, S.s, _, k, _, rfl, ma, aC.ba.ok, tt _ _ est, rfl, .inl ⟨rfl, kl, fun He mae ke => ?_⟩⟩
              refine ⟨_, _, .none, rfl, .non, .non, (by decide), rfl, fun Hf sf => ⟨_, rfl, iteF ?_⟩⟩
              have on' := (aC.see_do ba kd mae ke).same sf
              have tb' := (TabS_kpL otc.tb ((kd.mono fun x hx => fp_sub1 hx).trans (ke.mono fun x hx => fp_sub3 hx)) fun x hx => aC.plain hx).ext sf
              refine ⟨_, rfl, _, rfl, S.b, S.p, S.am, S.m, S.p', S.mm, S.ml, S.R, mdSee S.R k S.s, rfl, on'.ba, on'.ma, (by show S.s.now ≤ _; omega), fun Hi si => ⟨_, rfl, iteF ?_⟩⟩
              exact hnx _ _ ⟨{ S with s := mdSee S.R k S.s }, _, rfl, OT.same ⟨on', tb'⟩ si, (by show S.s.now ≤ _; omega), (by show (S.s.ms.set k _).length = _; rw [List.length_set]; exact ln)⟩
            · obtain ⟨ma, tt⟩ := aC.at_pass kd
              refine ⟨_, rfl, _, rfl, _, rfl, S.m, S.p', S.mm, S.ml, stp, S.R, S.s, _, k, _, rfl, ma, aC.ba.ok, tt _ _ est, rfl, .inr ⟨rfl, by omega, fun He mm' mae nmm ke => ?_⟩⟩
              refine ⟨_, _, .int ((S.s.now + k : Nat) : Int), rfl, .int _, .int _, Nat.zero_le _, rfl, fun Hf sf => ⟨_, rfl, iteF ?_⟩⟩
              have on' := (aC.pass_do ba nam kd mae nmm ke).same sf
              have tb' := (TabS_kpL otc.tb ((kd.mono fun x hx => fp_sub2 hx).trans (ke.mono fun x hx => fp_sub3 hx)) fun x hx => aC.plain hx).ext sf
              refine ⟨_, rfl, _, rfl, S.b, S.p, am', S.m, S.p', mm', S.ml, S.R, mdPass S.R k S.s, rfl, on'.ba, on'.ma, (by show S.s.now + k ≤ _; omega), fun Hi si => ⟨_, rfl, iteF ?_⟩⟩
              exact hnx _ _ ⟨{ S with am := am', mm := mm', s := mdPass S.R k S.s }, _, rfl, OT.same ⟨on', tb'⟩ si, (by show S.s.now + k ≤ _; omega), (by show (S.s.ms.map _).length = _; rw [List.length_map]; exact ln)⟩
          · rintro σ2 He ⟨S', w8, rfl, ote, nwe, lne⟩
            obtain ⟨dxe, obe⟩ := ote.on.ba.ob
            refine ⟨_, rfl, S'.b, dxe, _, rfl, obe, bfl_no _ _ _ (by decide +kernel) (by decide +kernel) (by decide +kernel), S'.b, S'.p, S'.am, S'.R, S'.s.ms, S'.s.now, rfl, ote.on.ba, fun Hg l nl sg el => ?_⟩
            refine ⟨.inl ⟨rfl, _, SqL.of el⟩, l, _, _, rfl, rfl, el, (by rw [nvs_len]; exact small1000 (by have := ote.on.ba.few; omega)), ?_⟩
            have s1 : Same He (upd Hg l (.lst (nvs S'.s.ms ++ [.int 0]))) := fun x o e => by
              rw [upd_ne (ne_of_none e nl)]
              exact sg _ _ e
            have otg := ote.same s1
            obtain ⟨dxg, obg⟩ := otg.on.ba.ob
            refine ⟨_, rfl, S'.b, dxg, _, rfl, obg, bfl_no _ _ _ (by decide +kernel) (by decide +kernel) (by decide +kernel), S'.b, S'.p, S'.am, S'.R, S'.s.ms, S'.s.now, rfl, otg.on.ba, by omega, fun Hh l2 Ts nl2 sh el2 ta => ?_⟩
            refine ⟨.inl ⟨rfl, _, SqL.of el2⟩, l2, _, rfl, rfl, el2, ?_⟩
            have s2 : Same (upd Hg l (.lst (nvs S'.s.ms ++ [.int 0]))) (upd Hh l2 (.lst [])) := fun x o e => by
              rw [upd_ne (ne_of_none e nl2)]
              exact sh _ _ e
            have oth := otg.same s2
            -- what is refused
            refine ⟨_, rfl, _, _, rfl, rfl, ⟨by decide, by decide, by decide⟩, h, c, _, rfl, by decide, by decide, oth.on.ha, fun out Hi outl hai ki => ?_⟩
            have oti := oth.drawn hai (Kp2.kpL ki)
            have om : ((out : Int) % 2 = 0) ∨ ((out : Int) % 2 = 1) := by omega
            have om3 : ((out : Int) % 3 = 0) ∨ ((out : Int) % 3 = 1) ∨ ((out : Int) % 3 = 2) := by omega
            refine ⟨fun q hq => by rw [List.mem_singleton.mp hq]; exact oti.tb, fun Hj ej tj => ?_⟩
            have otj : OT C Hj h c S' PL := ⟨oti.on.ext ej, tj _ (List.mem_singleton.mpr rfl)⟩
            obtain ⟨dxj, obj⟩ := otj.on.ba.ob
            refine ⟨_, rfl, S'.b, dxj, _, rfl, obj, bfl_no _ _ _ (by decide +kernel) (by decide +kernel) (by decide +kernel), _, rfl, _, rfl, _, _, rfl, rfl, _, rfl, _, rfl, _, _, rfl, rfl, (by show 2 ≤ sizeLine; decide), fun l3 nl3 => ?_⟩
            have ot3 := otj.same (same_upd (o := .lst [V.int (((1 + r : Nat) : Int) + (out : Int)), V.int (-1 - (out : Int))]) nl3)
            obtain ⟨x, hx, xo⟩ : ∃ x : Int, atI [V.int (((1 + r : Nat) : Int) + (out : Int)), V.int (-1 - (out : Int))] ((out : Int) % 2) = some (.int x) ∧ ¬ (0 ≤ x ∧ x < (S'.s.ms.length : Int)) := by
              rcases om with z | z
              · rw [z]
                exact ⟨_, atI_nat (j := 0) rfl, by omega⟩
              · rw [z]
                exact ⟨_, atI_nat (j := 1) rfl, by omega⟩
            refine ⟨_, rfl, _, _, rfl, rfl, (by show (0 : Int) < 2; decide), l3, _, _, _, rfl, rfl, SqL.of upd_same, hx, S'.b, S'.p, S'.am, S'.R, S'.s.ms, S'.s.now, _, rfl, ot3.on.ba, .inr ⟨xo, cN, 6, "NoThing", rfl, rfl, eN, rfl, fun Hk sk => ?_⟩⟩
            refine ⟨(by show 1 ≤ sizeLine; decide), fun lw nlw => ?_⟩
            have otk := (ot3.same sk).same (same_upd (o := .lst [V.str "NoThing"]) nlw)
            refine ⟨_, rfl, .inl ⟨rfl, _, SqL.of upd_same⟩, fun q hq => by rw [List.mem_singleton.mp hq]; exact otk.tb, fun Hm em tm => ?_⟩
            have otm : OT C Hm h c S' PL := ⟨otk.on.ext em, tm _ (List.mem_singleton.mpr rfl)⟩
            have elw : Hm lw = some (.lst [V.str "NoThing"]) := em _ _ upd_same (fun _ z => nomatch z)
            obtain ⟨dxm, obm⟩ := otm.on.ba.ob
            refine ⟨_, rfl, S'.b, dxm, _, rfl, obm, bfl_no _ _ _ (by decide +kernel) (by decide +kernel) (by decide +kernel), _, rfl, _, _, rfl, rfl, _, rfl, _, rfl, _, _, rfl, rfl, (by show 3 ≤ sizeLine; decide), fun l4 nl4 => ?_⟩
            have ot4 := otm.same (same_upd (o := .lst [V.int 0, V.int (1001 + (out : Int)), V.int (-1 - (out : Int))]) nl4)
            have elw4 := same_upd (o := .lst [V.int 0, V.int (1001 + (out : Int)), V.int (-1 - (out : Int))]) nl4 _ _ elw
            obtain ⟨y, hy, yo⟩ : ∃ y : Int, atI [V.int 0, V.int (1001 + (out : Int)), V.int (-1 - (out : Int))] ((out : Int) % 3) = some (.int y) ∧ ¬ (1 ≤ y ∧ y ≤ 1000) := by
              rcases om3 with z | z | z
              · rw [z]
                exact ⟨_, atI_nat (j := 0) rfl, by omega⟩
              · rw [z]
                exact ⟨_, atI_nat (j := 1) rfl, by omega⟩
              · rw [z]
                exact ⟨_, atI_nat (j := 2) rfl, by omega⟩
            refine ⟨_, rfl, _, _, rfl, rfl, (by show (0 : Int) < 3; decide), l4, _, _, _, rfl, rfl, SqL.of upd_same, hy, S'.b, S'.p, S'.am, S'.R, S'.s.ms, S'.s.now, _, rfl, ot4.on.ba, .inr ⟨yo, cM, 2, "BadMoment", rfl, rfl, eM, rfl, fun Hn sn => ?_⟩⟩
            refine ⟨lw, _, _, rfl, rfl, sn _ _ elw4, (by show 1 < sizeLine; decide), ?_⟩
            have eF : LamX.ExtN Hk (upd Hn lw (.lst ([V.str "NoThing"] ++ [V.str "BadMoment"]))) := fun x o e nt => by
              rw [upd_ne (ne_of_none e nlw)]
              exact sn _ _ (same_upd nl4 _ _ (em _ _ (same_upd nlw _ _ e) nt))
            have kF : KpL [lw] Hm (upd Hn lw (.lst ([V.str "NoThing"] ++ [V.str "BadMoment"]))) := fun x o e n => by
              rw [upd_ne (fun z => n (by rw [z]; simp))]
              exact sn _ _ (same_upd nl4 _ _ e)
            have k6 : OT C (upd Hn lw (.lst ([V.str "NoThing"] ++ [V.str "BadMoment"]))) h c S' PL :=
              ⟨(ot3.on.same sk).ext eF, TabS_kpL otm.tb kF fun x hx => by rw [List.mem_singleton.mp hx]; exact ⟨_, elw, (fun _ z => nomatch z), (fun _ z => nomatch z)⟩⟩
            refine ⟨_, rfl, (by show 2 ≤ sizeLine; decide), fun l5 nl5 => ?_⟩
            have s5 := same_upd (o := .lst [V.str "NoThing", V.str "BadMoment"]) nl5
            refine ⟨.list [.str "NoThing", .str "BadMoment"], .list [.str "NoThing", .str "BadMoment"], .lst (SqL.of (s5 _ _ upd_same)) (.cons (.str _) (.cons (.str _) .nil)), .lst (SqL.of upd_same) (.cons (.str _) (.cons (.str _) .nil)), by decide +kernel, by decide +kernel, _, rfl, ?_⟩
            rw [show PyData.eqv (.list [.str "NoThing", .str "BadMoment"]) (.list [.str "NoThing", .str "BadMoment"]) = true by decide +kernel]
            refine iteF ?_
            have k7 := k6.same s5
            refine ⟨_, rfl, _, rfl, S'.b, S'.p, S'.am, S'.m, S'.p', S'.mm, S'.ml, S'.R, S'.s, rfl, k7.on.ba, k7.on.ma, by omega, fun Hi si => ⟨_, rfl, iteF ?_⟩⟩
            exact ⟨S', _, _, _, _, _, rfl, k7.same si, nwe, lne⟩
    · rintro σ Ha ⟨S, v6, v7, v8, v9, v10, rfl, ot, nw, ln⟩
      refine ⟨_, rfl, _, rfl, S.b, S.p, S.am, S.m, S.p', S.mm, S.ml, S.R, S.s, rfl, ot.on.ba, ot.on.ma, by omega, fun Hi si => ?_⟩
      exact q _
end
theorem lims_mk {K : PySem.W.Frag} {w : World} {h : Heap} {mg : Str → Option Value} {d d1 d2 d3 : Addr} {es : Array DictEntry} {n n1 n2 n3 : Nat} {od1 od2 od3 : Option Addr} {sl1 sl2 sl3 : Array (Option Value)} {x1 x2 x3 x4 x5 : Tok} (X : K.In h) (G : h.Ns mainGlobals mg)
    (aL : PySem.W.nsIn K mainGlobals "LIMITS" = some (some (.ref d))) (lL : K.lookup d = some ⟨.type "dict", none, .dict es n, #[]⟩) (kL : PySem.W.KeysLit w.params es.toList) (sL : (d == sysModules) = false)
    (e1 : PySem.W.nsIn K d "count" = some (some (.ref d1))) (t1 : K.lookup d1 = some ⟨.type "tuple", od1, .seq #[.int 6 x1, .int 20 x2] n1, sl1⟩)
    (e2 : PySem.W.nsIn K d "shift" = some (some (.ref d2))) (t2 : K.lookup d2 = some ⟨.type "tuple", od2, .seq #[.int 10 x3, .int 20 x4] n2, sl2⟩)
    (e3 : PySem.W.nsIn K d "rough" = some (some (.ref d3))) (t3 : K.lookup d3 = some ⟨.type "tuple", od3, .seq #[.int 3 x5] n3, sl3⟩) : Lims K w mg := by
  refine ⟨d, es, n, PySem.W.mg_of X G aL, ⟨lL, kL, sL⟩, fun R => ?_⟩
  cases R with
  | cnt b s => exact ⟨d1, e1, _, _, _, t1, rfl, rfl, (by show 2 ≤ sizeLine; decide), .cons ⟨_, rfl⟩ (.cons ⟨_, rfl⟩ .nil)⟩
  | shf b s => exact ⟨d2, e2, _, _, _, t2, rfl, rfl, (by show 2 ≤ sizeLine; decide), .cons ⟨_, rfl⟩ (.cons ⟨_, rfl⟩ .nil)⟩
  | rgh b => exact ⟨d3, e3, _, _, _, t3, rfl, rfl, (by show 1 ≤ sizeLine; decide), .cons ⟨_, rfl⟩ .nil⟩
theorem all_mk {l : PySem.W.OpenLaw} {w : World} {K : PySem.W.Frag} {h : Heap} {mg : Str → Option Value} {fa : Addr} (X : K.In h) (G : h.Ns mainGlobals mg) (hfa : mg "law" = some (.ref fa))
    {f_0 c_0 P_0 : Addr}
    {oc_0 kV_0 doc_0 pm_0 ct_0 : Value} {an_0 od_0 : Option Addr} {osl_0 : Array (Option Value)}
    {d dd1 dd2 dd3 : Addr} {es : Array DictEntry} {n n1 n2 n3 : Nat} {od1 od2 od3 : Option Addr} {sl1 sl2 sl3 : Array (Option Value)} {x1 x2 x3 x4 x5 : Tok}
    {tk_LAST_MOMENT : Tok}
    {tk_MOST_THINGS : Tok}
    {tk_LONGEST_PASS : Tok}
    {C : Addr}
    {cSeenError cBadRule cBadMark cBadMoment cBadBounds cNoRule cBadThings cNoThing cBadText : Addr}
    (d_is_rule : DefAt K mg "is_rule" s_is_rule ["rule"])
    (d_check_rule : DefAt K mg "check_rule" s_check_rule ["rule"])
    (d_check_mark : DefAt K mg "check_mark" s_check_mark ["rule", "mark"])
    (d_check_moment : DefAt K mg "check_moment" s_check_moment ["moment"])
    (d_top_mark : DefAt K mg "top_mark" s_top_mark ["rule"])
    (d_end_mark : DefAt K mg "end_mark" s_end_mark ["rule"])
    (d_seen : DefAt K mg "seen" s_seen ["rule", "mark"])
    (d_aged_on : DefAt K mg "aged_on" s_aged_on ["rule", "mark", "begin", "end"])
    (d_aged_roughly : DefAt K mg "_aged_roughly" s_aged_roughly ["last", "mark", "begin", "end"])
    (d_span : DefAt K mg "span" s_span ["rule", "now", "mark"])
    (d_agings : DefAt K mg "_agings" s_agings ["rule", "mark"])
    (d_stepped_span : DefAt K mg "_stepped_span" s_stepped_span ["rule", "now", "mark"])
    (d_rough_span : DefAt K mg "_rough_span" s_rough_span ["rule", "now", "mark"])
    (d_L_mix : DefAt K mg "_law_mix" s_L_mix ["_law_script", "_law_seed"])
    (d_L_next : DefAt K mg "_law_next" s_L_next ["_law_h", "_law_many"])
    (d_L_alike : DefAt K mg "_law_alike" s_L_alike ["_law_found", "_law_due"])
    (d_L_rule : DefAt K mg "_law_rule" s_L_rule ["_law_h", "_law_small"])
    (d_L_end : DefAt K mg "_law_end" s_L_end ["_law_rule_here"])
    (d_L_most : DefAt K mg "_law_most" s_L_most ["_law_rule_here"])
    (d_L_top : DefAt K mg "_law_top" s_L_top ["_law_rule_here"])
    (d_L_tick : DefAt K mg "_law_tick" s_L_tick ["_law_rule_here", "_law_mark", "_law_moment"])
    (d_L_aged : DefAt K mg "_law_aged" s_L_aged ["_law_rule_here", "_law_mark", "_law_begin", "_law_end_here"])
    (d_L_seen : DefAt K mg "_law_seen" s_L_seen ["_law_rule_here", "_law_mark"])
    (d_L_kind : DefAt K mg "_law_kind" s_L_kind ["_law_work"])
    (d_L_board : DefAt K mg "_law_board" s_L_board ["_law_rule_here", "_law_things"])
    (d_L_do : DefAt K mg "_law_do" s_L_do ["_law_m", "_law_step_here"])
    (d_L_step : DefAt K mg "_law_step" s_L_step ["_law_h", "_law_m"])
    (d_L_is : DefAt K mg "_law_is" s_L_is ["_law_board_here", "_law_m"])
    (hTab : ∀ P ∈ [P_0], h.get? P = some (PySem.W.tabObj #[]))
    (gM0 : PySem.W.nsIn K mainGlobals "law" = some (some (.ref f_0)))
    (lM0 : K.lookup f_0 = some ⟨oc_0, od_0, .func (PySem.W.fnOf "law" "law" (defArgs s_law) (defBody s_law) (defScope s_law) .none kV_0 doc_0 pm_0 an_0 (.ref c_0) ct_0), osl_0⟩)
    (cM0 : PySem.W.codeIn K (.ref c_0) "law" = true)
    (kM0 : PySem.W.keepIn K (.ref f_0) = true)
    (nP0 : K.lookup P_0 = none)
    (hP0 : PySem.W.codeHdIn K c_0 P_0 = true)
    (m_len : mg "len" = none)
    (m_all : mg "all" = none)
    (m_zip : mg "zip" = none)
    (m_min : mg "min" = none)
    (m_max : mg "max" = none)
    (m_list : mg "list" = none)
    (m_range : mg "range" = none)
    (m_int : mg "int" = none)
    (m_isi : mg "isinstance" = none)
    (m_tuple : mg "tuple" = none)
    (m_str : mg "str" = none)
    (m_bool : mg "bool" = none)
    (m_ve : mg "ValueError" = none)
    (aL : PySem.W.nsIn K mainGlobals "LIMITS" = some (some (.ref d)))
    (lL : K.lookup d = some ⟨.type "dict", none, .dict es n, #[]⟩)
    (kL : PySem.W.KeysLit w.params es.toList)
    (sL : (d == sysModules) = false)
    (e1 : PySem.W.nsIn K d "count" = some (some (.ref dd1)))
    (t1 : K.lookup dd1 = some ⟨.type "tuple", od1, .seq #[.int 6 x1, .int 20 x2] n1, sl1⟩)
    (e2 : PySem.W.nsIn K d "shift" = some (some (.ref dd2)))
    (t2 : K.lookup dd2 = some ⟨.type "tuple", od2, .seq #[.int 10 x3, .int 20 x4] n2, sl2⟩)
    (e3 : PySem.W.nsIn K d "rough" = some (some (.ref dd3)))
    (t3 : K.lookup dd3 = some ⟨.type "tuple", od3, .seq #[.int 3 x5] n3, sl3⟩)
    (c_LAST_MOMENT : PySem.W.nsIn K mainGlobals "LAST_MOMENT" = some (some (.int 1000000000 tk_LAST_MOMENT)))
    (c_MOST_THINGS : PySem.W.nsIn K mainGlobals "MOST_THINGS" = some (some (.int 8 tk_MOST_THINGS)))
    (c_LONGEST_PASS : PySem.W.nsIn K mainGlobals "LONGEST_PASS" = some (some (.int 1000 tk_LONGEST_PASS)))
    (aB : PySem.W.nsIn K mainGlobals "Board" = some (some (.ref C)))
    (pgB : PySem.W.plainGet K C Str.empty = true)
    (hdB : PySem.W.hasDictIn K C = true)
    (poB : PySem.W.plainOver K C = true)
    (saB : PySem.W.findIn K (.ref C) "__setattr__" = some (some (.builtin "object.__setattr__")))
    (mkB : PySem.W.makesIn K C = true)
    (kcB : PySem.W.keepIn K (.ref C) = true)
    (n_rule : PySem.W.findIn K (.ref C) "_rule" = some none)
    (n_marks : PySem.W.findIn K (.ref C) "_marks" = some none)
    (n_moment : PySem.W.findIn K (.ref C) "_moment" = some none)
    (dm_init : DefM K C "__init__" "Board.__init__" m_Board_init ["self", "rule", "things"])
    (dm_see : DefM K C "see" "Board.see" m_Board_see ["self", "thing"])
    (dm_pass_by : DefM K C "pass_by" "Board.pass_by" m_Board_pass_by ["self", "many"])
    (dm_marks : DefM K C "marks" "Board.marks" m_Board_marks ["self"])
    (dm_age : DefM K C "age" "Board.age" m_Board_age ["self", "thing"])
    (dm_ages : DefM K C "ages" "Board.ages" m_Board_ages ["self"])
    (dm_now : DefM K C "now" "Board.now" m_Board_now ["self"])
    (dm_check_thing : DefM K C "_check_thing" "Board._check_thing" m_Board_check_thing ["self", "thing"])
    (aSeenError : PySem.W.nsIn K mainGlobals "SeenError" = some (some (.ref cSeenError)))
    (aBadRule : PySem.W.nsIn K mainGlobals "BadRule" = some (some (.ref cBadRule)))
    (aBadMark : PySem.W.nsIn K mainGlobals "BadMark" = some (some (.ref cBadMark)))
    (aBadMoment : PySem.W.nsIn K mainGlobals "BadMoment" = some (some (.ref cBadMoment)))
    (aBadBounds : PySem.W.nsIn K mainGlobals "BadBounds" = some (some (.ref cBadBounds)))
    (aNoRule : PySem.W.nsIn K mainGlobals "NoRule" = some (some (.ref cNoRule)))
    (aBadThings : PySem.W.nsIn K mainGlobals "BadThings" = some (some (.ref cBadThings)))
    (aNoThing : PySem.W.nsIn K mainGlobals "NoThing" = some (some (.ref cNoThing)))
    (aBadText : PySem.W.nsIn K mainGlobals "BadText" = some (some (.ref cBadText)))
    (xNoThing : PySem.W.excIn K cNoThing [.type "ValueError", .type "Exception", .type "BaseException", .type "object"] "ValueError.__new__" = true)
    (kNoThing : PySem.W.keepIn K (.ref cNoThing) = true)
    (bNoThing : PySem.W.subIn K (.ref cNoThing) (.type "BaseException") = some true)
    (tNoThing : PySem.W.typeIn K (.ref cNoThing) = some (.type "type"))
    (xBadMoment : PySem.W.excIn K cBadMoment [.type "ValueError", .type "Exception", .type "BaseException", .type "object"] "ValueError.__new__" = true)
    (kBadMoment : PySem.W.keepIn K (.ref cBadMoment) = true)
    (bBadMoment : PySem.W.subIn K (.ref cBadMoment) (.type "BaseException") = some true)
    (tBadMoment : PySem.W.typeIn K (.ref cBadMoment) = some (.type "type"))
    (iNoThing : errIsB K cSeenError cBadRule cBadMark cBadMoment cBadBounds cNoRule cBadThings cNoThing cBadText cNoThing 6 = true)
    (iBadMoment : errIsB K cSeenError cBadRule cBadMark cBadMoment cBadBounds cNoRule cBadThings cNoThing cBadText cBadMoment 2 = true)
    : LamX.LawAtS l w K L2.CX0 9 63 "_law_script" mg fa h := by
  have e := hfa.symm.trans (PySem.W.mg_of X G gM0)
  cases e
  refine ⟨PySem.W.fnOf "law" "law" (defArgs s_law) (defBody s_law) (defScope s_law) .none kV_0 doc_0 pm_0 an_0 (.ref c_0) ct_0, [(c_0, P_0)], spLaw K P_0, ?t1, ?t2, ?t3, fun s v => .of_eq rfl, ?t4, fun base hKb hNb TBs => ?t5⟩
  case t1 =>
    intro p hp
    simp only [List.mem_cons, List.not_mem_nil, or_false] at hp
    subst hp
    exact hTab _ (by simp)
  case t2 =>
    intro p hp
    simp only [List.mem_cons, List.not_mem_nil, or_false] at hp
    subst hp
    exact nP0
  case t3 =>
    intro p hp
    simp only [List.mem_cons, List.not_mem_nil, or_false] at hp
    subst hp
    exact PySem.W.codeHd_of_K X hP0
  case t4 =>
    intro H a ns hl _ hTs hS
    exact ⟨a, ns, rfl, hS, hl, hTs (c_0, P_0) (by simp), fun _ => rfl⟩
  case t5 =>
    have TB0 : LamX.TabB base mg c_0 P_0 := TBs (c_0, P_0) (by simp)
    have LI : Lims K w mg := lims_mk X G aL lL kL sL e1 t1 e2 t2 e3 t3
    have T : Bcl K mg C := ⟨⟨pgB, hdB, poB, saB⟩, n_rule, n_marks, n_moment⟩
    have gB : mg "Board" = some (.ref C) := PySem.W.mg_of X G aB
    have E_NoThing : ErrC K mg "NoThing" cNoThing := ⟨PySem.W.mg_of X G aNoThing, xNoThing, kNoThing, bNoThing, tNoThing⟩
    have E_BadMoment : ErrC K mg "BadMoment" cBadMoment := ⟨PySem.W.mg_of X G aBadMoment, xBadMoment, kBadMoment, bBadMoment, tBadMoment⟩
    have EG : ErrG mg cSeenError cBadRule cBadMark cBadMoment cBadBounds cNoRule cBadThings cNoThing cBadText := ⟨PySem.W.mg_of X G aSeenError, PySem.W.mg_of X G aBadRule, PySem.W.mg_of X G aBadMark, PySem.W.mg_of X G aBadMoment, PySem.W.mg_of X G aBadBounds, PySem.W.mg_of X G aNoRule, PySem.W.mg_of X G aBadThings, PySem.W.mg_of X G aNoThing, PySem.W.mg_of X G aBadText⟩
    have I_NoThing := errIs_of iNoThing
    have I_BadMoment := errIs_of iBadMoment
    have C_is : Cl l.prog w K mg base 1 "is_rule" ["rule"] spIsRule := ok_is_rule d_is_rule LI m_len m_all m_zip
    have C_cr := ok_check_rule d_check_rule C_is
    have C_tm : Cl l.prog w K mg base 1 "top_mark" ["rule"] spTopMark := ok_top_mark d_top_mark
    have C_cm := ok_check_mark d_check_mark C_tm
    have C_mo : Cl l.prog w K mg base 1 "check_moment" ["moment"] spCheckMoment := ok_check_moment d_check_moment (PySem.W.mg_of X G c_LAST_MOMENT)
    have C_ro : Cl l.prog w K mg base 1 "_aged_roughly" ["last", "mark", "begin", "end"] spRoughly := ok_roughly d_aged_roughly
    have C_ao := ok_aged_on d_aged_on m_min C_tm C_ro
    have C_em := ok_end_mark d_end_mark C_tm
    have C_se : Cl l.prog w K mg base 1 "seen" ["rule", "mark"] spSeen := ok_seen d_seen
    have C_gs := ok_agings d_agings C_se C_em
    have C_st := ok_stepped d_stepped_span m_min C_gs C_em
    have C_rs := ok_rough d_rough_span m_range C_em C_se C_ao
    have C_sp := ok_span d_span C_cr C_mo C_cm C_rs C_st
    have CI := ok_init dm_init T (PySem.W.mg_of X G c_MOST_THINGS) C_cr C_em
    obtain ⟨fI, fdI, GI, MI, bI⟩ := CI
    have MkB : Mk K C fI := ⟨mkB, MI.at_, MI.fn, kcB⟩
    have CK : ClM l.prog w K mg base (L2.CX l.prog w) 1 C "_check_thing" ["self", "thing"] (spChk C cNoThing) := ok_chk dm_check_thing T m_len E_NoThing
    have CS := ok_see dm_see T CK C_se
    have CP := ok_pass dm_pass_by T (PySem.W.mg_of X G c_LONGEST_PASS) E_BadMoment C_ao
    have CM : ClM l.prog w K mg base CX0 1 C "marks" ["self"] (spMarks C) := ok_marks dm_marks T m_list
    have CN : ClM l.prog w K mg base CX0 1 C "now" ["self"] (spNow C) := ok_now dm_now T
  
    have CG := ok_age dm_age T CK C_sp
    have CA := ok_ages dm_ages T m_len m_range CG
  
    have C_mix : Cl l.prog w K mg base 1 "_law_mix" ["_law_script", "_law_seed"] (spMix K) := ok_mix d_L_mix m_list
    have C_next : Cl l.prog w K mg base 1 "_law_next" ["_law_h", "_law_many"] spNext := ok_next d_L_next m_max m_len
  
    have C_al0 : Cl l.prog w K mg base 1 "_law_alike" ["_law_found", "_law_due"] (spAlike K 0) := ok_alike0 d_L_alike m_isi m_tuple m_list m_str m_bool m_int
    have C_al1 := ok_alikeS d_L_alike m_isi m_tuple m_list m_str m_bool m_int m_len m_range C_al0
    have C_al2 := ok_alikeS d_L_alike m_isi m_tuple m_list m_str m_bool m_int m_len m_range C_al1
    have C_al3 := ok_alikeS d_L_alike m_isi m_tuple m_list m_str m_bool m_int m_len m_range C_al2
  
    have C_rule := ok_rule d_L_rule m_int C_next
    have C_end : Cl l.prog w K mg base 1 "_law_end" ["_law_rule_here"] spEnd := ok_end d_L_end
    have C_most : Cl l.prog w K mg base 1 "_law_most" ["_law_rule_here"] spTopMark := ok_most d_L_most m_range m_int
    have C_tick := ok_tick d_L_tick m_int m_min C_end
    have C_la := ok_Laged d_L_aged m_range C_tick
    have C_top := ok_top d_L_top C_most
    have C_ls := ok_Lseen d_L_seen C_top
  
    have C_lb := ok_Lboard d_L_board C_end
    have C_do := ok_Ldo d_L_do C_ls C_la
    have C_lst := ok_Lstep d_L_step m_len C_next
  
    have C_lis := ok_Lis d_L_is T C_sp C_al3 CM CN CA
  
    exact ok_law (c2 := cBadMoment) lM0 cM0 TB0 d_L_kind EG I_NoThing I_BadMoment m_isi m_ve m_range T gB MkB GI bI C_mix C_next C_rule C_lb C_do C_lst C_al3 C_lis CS CP CM CA
end LS
open PySem PySem.W PyProof.Rows
set_option maxHeartbeats 0 in
theorem PySem.Challenge.cw_lastseen_k07_boards_step_by_step_holds : PySem.Challenge.rw_lastseen_k07_boards_step_by_step.Holds := by
  w_on; o_law; k_head; (case hw => w_witness2)
  k_fill
  refine LamX.walk_ofTs (l := PySem.Challenge.rw_lastseen_k07_boards_step_by_step) (n := 63) (k := 9) (x := "_law_script") (CX := fun _ => L2.CX0) rfl (by decide) rfl ⟨rfl, by decide, by decide⟩ (fun w h Y => PySem.W.km_in_of Y) ?F (fun _ _ _ _ _ h => h)
  case F =>
    intro w mg fa h Y KX G hmg
    have hT := PySem.W.km_tabs_of Y
    refine' LS.all_mk KX G hmg (LS.defAt_mk (st := LS.s_is_rule) (ps := ["rule"]) KX G ?a0 ?l0 ?c0 ?k0 (fun _ _ _ _ _ _ us hl => match us, hl with | [_], _ => rfl)) (LS.defAt_mk (st := LS.s_check_rule) (ps := ["rule"]) KX G ?a1 ?l1 ?c1 ?k1 (fun _ _ _ _ _ _ us hl => match us, hl with | [_], _ => rfl)) (LS.defAt_mk (st := LS.s_check_mark) (ps := ["rule", "mark"]) KX G ?a2 ?l2 ?c2 ?k2 (fun _ _ _ _ _ _ us hl => match us, hl with | [_, _], _ => rfl)) (LS.defAt_mk (st := LS.s_check_moment) (ps := ["moment"]) KX G ?a3 ?l3 ?c3 ?k3 (fun _ _ _ _ _ _ us hl => match us, hl with | [_], _ => rfl)) (LS.defAt_mk (st := LS.s_top_mark) (ps := ["rule"]) KX G ?a4 ?l4 ?c4 ?k4 (fun _ _ _ _ _ _ us hl => match us, hl with | [_], _ => rfl)) (LS.defAt_mk (st := LS.s_end_mark) (ps := ["rule"]) KX G ?a5 ?l5 ?c5 ?k5 (fun _ _ _ _ _ _ us hl => match us, hl with | [_], _ => rfl)) (LS.defAt_mk (st := LS.s_seen) (ps := ["rule", "mark"]) KX G ?a6 ?l6 ?c6 ?k6 (fun _ _ _ _ _ _ us hl => match us, hl with | [_, _], _ => rfl)) (LS.defAt_mk (st := LS.s_aged_on) (ps := ["rule", "mark", "begin", "end"]) KX G ?a7 ?l7 ?c7 ?k7 (fun _ _ _ _ _ _ us hl => match us, hl with | [_, _, _, _], _ => rfl)) (LS.defAt_mk (st := LS.s_aged_roughly) (ps := ["last", "mark", "begin", "end"]) KX G ?a8 ?l8 ?c8 ?k8 (fun _ _ _ _ _ _ us hl => match us, hl with | [_, _, _, _], _ => rfl)) (LS.defAt_mk (st := LS.s_span) (ps := ["rule", "now", "mark"]) KX G ?a9 ?l9 ?c9 ?k9 (fun _ _ _ _ _ _ us hl => match us, hl with | [_, _, _], _ => rfl)) (LS.defAt_mk (st := LS.s_agings) (ps := ["rule", "mark"]) KX G ?a10 ?l10 ?c10 ?k10 (fun _ _ _ _ _ _ us hl => match us, hl with | [_, _], _ => rfl)) (LS.defAt_mk (st := LS.s_stepped_span) (ps := ["rule", "now", "mark"]) KX G ?a11 ?l11 ?c11 ?k11 (fun _ _ _ _ _ _ us hl => match us, hl with | [_, _, _], _ => rfl)) (LS.defAt_mk (st := LS.s_rough_span) (ps := ["rule", "now", "mark"]) KX G ?a12 ?l12 ?c12 ?k12 (fun _ _ _ _ _ _ us hl => match us, hl with | [_, _, _], _ => rfl)) (LS.defAt_mk (st := LS.s_L_mix) (ps := ["_law_script", "_law_seed"]) KX G ?a13 ?l13 ?c13 ?k13 (fun _ _ _ _ _ _ us hl => match us, hl with | [_, _], _ => rfl)) (LS.defAt_mk (st := LS.s_L_next) (ps := ["_law_h", "_law_many"]) KX G ?a14 ?l14 ?c14 ?k14 (fun _ _ _ _ _ _ us hl => match us, hl with | [_, _], _ => rfl)) (LS.defAt_mk (st := LS.s_L_alike) (ps := ["_law_found", "_law_due"]) KX G ?a15 ?l15 ?c15 ?k15 (fun _ _ _ _ _ _ us hl => match us, hl with | [_, _], _ => rfl)) (LS.defAt_mk (st := LS.s_L_rule) (ps := ["_law_h", "_law_small"]) KX G ?a16 ?l16 ?c16 ?k16 (fun _ _ _ _ _ _ us hl => match us, hl with | [_, _], _ => rfl)) (LS.defAt_mk (st := LS.s_L_end) (ps := ["_law_rule_here"]) KX G ?a17 ?l17 ?c17 ?k17 (fun _ _ _ _ _ _ us hl => match us, hl with | [_], _ => rfl)) (LS.defAt_mk (st := LS.s_L_most) (ps := ["_law_rule_here"]) KX G ?a18 ?l18 ?c18 ?k18 (fun _ _ _ _ _ _ us hl => match us, hl with | [_], _ => rfl)) (LS.defAt_mk (st := LS.s_L_top) (ps := ["_law_rule_here"]) KX G ?a19 ?l19 ?c19 ?k19 (fun _ _ _ _ _ _ us hl => match us, hl with | [_], _ => rfl)) (LS.defAt_mk (st := LS.s_L_tick) (ps := ["_law_rule_here", "_law_mark", "_law_moment"]) KX G ?a20 ?l20 ?c20 ?k20 (fun _ _ _ _ _ _ us hl => match us, hl with | [_, _, _], _ => rfl)) (LS.defAt_mk (st := LS.s_L_aged) (ps := ["_law_rule_here", "_law_mark", "_law_begin", "_law_end_here"]) KX G ?a21 ?l21 ?c21 ?k21 (fun _ _ _ _ _ _ us hl => match us, hl with | [_, _, _, _], _ => rfl)) (LS.defAt_mk (st := LS.s_L_seen) (ps := ["_law_rule_here", "_law_mark"]) KX G ?a22 ?l22 ?c22 ?k22 (fun _ _ _ _ _ _ us hl => match us, hl with | [_, _], _ => rfl)) (LS.defAt_mk (st := LS.s_L_kind) (ps := ["_law_work"]) KX G ?a23 ?l23 ?c23 ?k23 (fun _ _ _ _ _ _ us hl => match us, hl with | [_], _ => rfl)) (LS.defAt_mk (st := LS.s_L_board) (ps := ["_law_rule_here", "_law_things"]) KX G ?a24 ?l24 ?c24 ?k24 (fun _ _ _ _ _ _ us hl => match us, hl with | [_, _], _ => rfl)) (LS.defAt_mk (st := LS.s_L_do) (ps := ["_law_m", "_law_step_here"]) KX G ?a25 ?l25 ?c25 ?k25 (fun _ _ _ _ _ _ us hl => match us, hl with | [_, _], _ => rfl)) (LS.defAt_mk (st := LS.s_L_step) (ps := ["_law_h", "_law_m"]) KX G ?a26 ?l26 ?c26 ?k26 (fun _ _ _ _ _ _ us hl => match us, hl with | [_, _], _ => rfl)) (LS.defAt_mk (st := LS.s_L_is) (ps := ["_law_board_here", "_law_m"]) KX G ?a27 ?l27 ?c27 ?k27 (fun _ _ _ _ _ _ us hl => match us, hl with | [_, _], _ => rfl)) ?hTab ?gM0 ?lM0 ?cM0 ?kM0 ?nP0 ?hP0 (PySem.W.mg_none_of KX G ?zlen) (PySem.W.mg_none_of KX G ?zall) (PySem.W.mg_none_of KX G ?zzip) (PySem.W.mg_none_of KX G ?zmin) (PySem.W.mg_none_of KX G ?zmax) (PySem.W.mg_none_of KX G ?zlist) (PySem.W.mg_none_of KX G ?zrange) (PySem.W.mg_none_of KX G ?zint) (PySem.W.mg_none_of KX G ?zisi) (PySem.W.mg_none_of KX G ?ztuple) (PySem.W.mg_none_of KX G ?zstr) (PySem.W.mg_none_of KX G ?zbool) (PySem.W.mg_none_of KX G ?zve) ?aL ?lL ?kL ?sL ?e1 ?t1 ?e2 ?t2 ?e3 ?t3 ?c_LAST_MOMENT ?c_MOST_THINGS ?c_LONGEST_PASS ?aB ?pgB ?hdB ?poB ?saB ?mkB ?kcB ?n_rule ?n_marks ?n_moment (LS.defM_mk (st := LS.m_Board_init) (ps := ["self", "rule", "things"]) ?ma0 ?mi0 ?ml0 ?mc0 ?mk0 (fun _ _ _ _ _ _ us hl => match us, hl with | [_, _, _], _ => rfl)) (LS.defM_mk (st := LS.m_Board_see) (ps := ["self", "thing"]) ?ma1 ?mi1 ?ml1 ?mc1 ?mk1 (fun _ _ _ _ _ _ us hl => match us, hl with | [_, _], _ => rfl)) (LS.defM_mk (st := LS.m_Board_pass_by) (ps := ["self", "many"]) ?ma2 ?mi2 ?ml2 ?mc2 ?mk2 (fun _ _ _ _ _ _ us hl => match us, hl with | [_, _], _ => rfl)) (LS.defM_mk (st := LS.m_Board_marks) (ps := ["self"]) ?ma3 ?mi3 ?ml3 ?mc3 ?mk3 (fun _ _ _ _ _ _ us hl => match us, hl with | [_], _ => rfl)) (LS.defM_mk (st := LS.m_Board_age) (ps := ["self", "thing"]) ?ma4 ?mi4 ?ml4 ?mc4 ?mk4 (fun _ _ _ _ _ _ us hl => match us, hl with | [_, _], _ => rfl)) (LS.defM_mk (st := LS.m_Board_ages) (ps := ["self"]) ?ma5 ?mi5 ?ml5 ?mc5 ?mk5 (fun _ _ _ _ _ _ us hl => match us, hl with | [_], _ => rfl)) (LS.defM_mk (st := LS.m_Board_now) (ps := ["self"]) ?ma6 ?mi6 ?ml6 ?mc6 ?mk6 (fun _ _ _ _ _ _ us hl => match us, hl with | [_], _ => rfl)) (LS.defM_mk (st := LS.m_Board_check_thing) (ps := ["self", "thing"]) ?ma7 ?mi7 ?ml7 ?mc7 ?mk7 (fun _ _ _ _ _ _ us hl => match us, hl with | [_, _], _ => rfl)) ?aSeenError ?aBadRule ?aBadMark ?aBadMoment ?aBadBounds ?aNoRule ?aBadThings ?aNoThing ?aBadText ?xNoThing ?kNoThing ?bNoThing ?tNoThing ?xBadMoment ?kBadMoment ?bBadMoment ?tBadMoment ?iNoThing ?iBadMoment
    (case a0 => k_is)
    (case l0 => k_is)
    (case c0 => k_is)
    (case k0 => k_is)
    (case a1 => k_is)
    (case l1 => k_is)
    (case c1 => k_is)
    (case k1 => k_is)
    (case a2 => k_is)
    (case l2 => k_is)
    (case c2 => k_is)
    (case k2 => k_is)
    (case a3 => k_is)
    (case l3 => k_is)
    (case c3 => k_is)
    (case k3 => k_is)
    (case a4 => k_is)
    (case l4 => k_is)
    (case c4 => k_is)
    (case k4 => k_is)
    (case a5 => k_is)
    (case l5 => k_is)
    (case c5 => k_is)
    (case k5 => k_is)
    (case a6 => k_is)
    (case l6 => k_is)
    (case c6 => k_is)
    (case k6 => k_is)
    (case a7 => k_is)
    (case l7 => k_is)
    (case c7 => k_is)
    (case k7 => k_is)
    (case a8 => k_is)
    (case l8 => k_is)
    (case c8 => k_is)
    (case k8 => k_is)
    (case a9 => k_is)
    (case l9 => k_is)
    (case c9 => k_is)
    (case k9 => k_is)
    (case a10 => k_is)
    (case l10 => k_is)
    (case c10 => k_is)
    (case k10 => k_is)
    (case a11 => k_is)
    (case l11 => k_is)
    (case c11 => k_is)
    (case k11 => k_is)
    (case a12 => k_is)
    (case l12 => k_is)
    (case c12 => k_is)
    (case k12 => k_is)
    (case a13 => k_is)
    (case l13 => k_is)
    (case c13 => k_is)
    (case k13 => k_is)
    (case a14 => k_is)
    (case l14 => k_is)
    (case c14 => k_is)
    (case k14 => k_is)
    (case a15 => k_is)
    (case l15 => k_is)
    (case c15 => k_is)
    (case k15 => k_is)
    (case a16 => k_is)
    (case l16 => k_is)
    (case c16 => k_is)
    (case k16 => k_is)
    (case a17 => k_is)
    (case l17 => k_is)
    (case c17 => k_is)
    (case k17 => k_is)
    (case a18 => k_is)
    (case l18 => k_is)
    (case c18 => k_is)
    (case k18 => k_is)
    (case a19 => k_is)
    (case l19 => k_is)
    (case c19 => k_is)
    (case k19 => k_is)
    (case a20 => k_is)
    (case l20 => k_is)
    (case c20 => k_is)
    (case k20 => k_is)
    (case a21 => k_is)
    (case l21 => k_is)
    (case c21 => k_is)
    (case k21 => k_is)
    (case a22 => k_is)
    (case l22 => k_is)
    (case c22 => k_is)
    (case k22 => k_is)
    (case a23 => k_is)
    (case l23 => k_is)
    (case c23 => k_is)
    (case k23 => k_is)
    (case a24 => k_is)
    (case l24 => k_is)
    (case c24 => k_is)
    (case k24 => k_is)
    (case a25 => k_is)
    (case l25 => k_is)
    (case c25 => k_is)
    (case k25 => k_is)
    (case a26 => k_is)
    (case l26 => k_is)
    (case c26 => k_is)
    (case k26 => k_is)
    (case a27 => k_is)
    (case l27 => k_is)
    (case c27 => k_is)
    (case k27 => k_is)
    (case hTab => exact hT)
    (case gM0 => k_is)
    (case lM0 => k_is)
    (case cM0 => k_is)
    (case kM0 => k_is)
    (case nP0 => kernel_rfl)
    (case hP0 => kernel_rfl)
    (case zlen => k_is)
    (case zall => k_is)
    (case zzip => k_is)
    (case zmin => k_is)
    (case zmax => k_is)
    (case zlist => k_is)
    (case zrange => k_is)
    (case zint => k_is)
    (case zisi => k_is)
    (case ztuple => k_is)
    (case zstr => k_is)
    (case zbool => k_is)
    (case zve => k_is)
    (case aL => k_is)
    (case lL => k_is)
    (case kL => k_keys)
    (case sL => decide)
    (case e1 => k_is)
    (case t1 => k_is)
    (case e2 => k_is)
    (case t2 => k_is)
    (case e3 => k_is)
    (case t3 => k_is)
    (case c_LAST_MOMENT => k_is)
    (case c_MOST_THINGS => k_is)
    (case c_LONGEST_PASS => k_is)
    (case aB => k_is)
    (case pgB => k_is)
    (case hdB => k_is)
    (case poB => k_is)
    (case saB => k_is)
    (case mkB => k_is)
    (case kcB => k_is)
    (case n_rule => k_is)
    (case n_marks => k_is)
    (case n_moment => k_is)
    (case ma0 => k_is)
    (case mi0 => k_is)
    (case ml0 => k_is)
    (case mc0 => k_is)
    (case mk0 => k_is)
    (case ma1 => k_is)
    (case mi1 => k_is)
    (case ml1 => k_is)
    (case mc1 => k_is)
    (case mk1 => k_is)
    (case ma2 => k_is)
    (case mi2 => k_is)
    (case ml2 => k_is)
    (case mc2 => k_is)
    (case mk2 => k_is)
    (case ma3 => k_is)
    (case mi3 => k_is)
    (case ml3 => k_is)
    (case mc3 => k_is)
    (case mk3 => k_is)
    (case ma4 => k_is)
    (case mi4 => k_is)
    (case ml4 => k_is)
    (case mc4 => k_is)
    (case mk4 => k_is)
    (case ma5 => k_is)
    (case mi5 => k_is)
    (case ml5 => k_is)
    (case mc5 => k_is)
    (case mk5 => k_is)
    (case ma6 => k_is)
    (case mi6 => k_is)
    (case ml6 => k_is)
    (case mc6 => k_is)
    (case mk6 => k_is)
    (case ma7 => k_is)
    (case mi7 => k_is)
    (case ml7 => k_is)
    (case mc7 => k_is)
    (case mk7 => k_is)
    (case aSeenError => k_is)
    (case aBadRule => k_is)
    (case aBadMark => k_is)
    (case aBadMoment => k_is)
    (case aBadBounds => k_is)
    (case aNoRule => k_is)
    (case aBadThings => k_is)
    (case aNoThing => k_is)
    (case aBadText => k_is)
    (case xNoThing => k_exc)
    (case kNoThing => k_is)
    (case bNoThing => k_is)
    (case tNoThing => k_is)
    (case xBadMoment => k_exc)
    (case kBadMoment => k_is)
    (case bBadMoment => k_is)
    (case tBadMoment => k_is)
    (case iNoThing => kernel_rfl)
    (case iBadMoment => kernel_rfl)
