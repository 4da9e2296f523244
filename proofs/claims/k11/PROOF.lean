import PyProof.Rows.All
import Wide.All
import OpenK.AllK
import Wide.FinOn
import HandS.ForMost
import HandS.IsInst
import HandS.Zip
import HandS.More
import HandS.WideBits
import HandS.Conv
import HandS.SetFor
import HandS.ExcIs
import HandS.Lambda
import HandS.ForExc
import HandS.EndTab
import HandS.TryMany
import PyProof.DictMoreH
import HandS.FStr
import HandS.StrMore
import HandS.ExcInit
import HandS.ExcField
import KE.KExcSuper
import HandS.Nested
import PySem.Challenge.RW_lastseen_k11_texts_that_tell_no_steps
set_option Elab.async false
set_option linter.all false
set_option maxRecDepth 100000
set_option maxHeartbeats 4000000
namespace LS
/-- a rule: its kind, bits, step -/
inductive Ru where
  | cnt (b s : Nat)
  | shf (b s : Nat)
  | rgh (b : Nat)
def Ru.ok : Ru → Prop
  | .cnt b s => 1 ≤ b ∧ b ≤ 6 ∧ 1 ≤ s ∧ s ≤ 20
  | .shf b s => 1 ≤ b ∧ b ≤ 10 ∧ 1 ≤ s ∧ s ≤ 20
  | .rgh b => 1 ≤ b ∧ b ≤ 3
def Ru.bits : Ru → Nat
  | .cnt b _ => b
  | .shf b _ => b
  | .rgh b => b
/-- the greatest mark -/
def Ru.most : Ru → Nat
  | .cnt b _ => 2 ^ b - 1
  | .shf b _ => 2 ^ (b + 1) - 1
  | .rgh b => 2 ^ b - 1
/-- the mark that ageing leaves -/
def Ru.fin : Ru → Nat
  | .cnt b _ => 2 ^ b - 1
  | .shf _ _ => 0
  | .rgh b => 2 ^ b - 1
/-- the mark of a thing that was just seen for the first time -/
def Ru.top : Ru → Nat
  | .shf b _ => 2 ^ b
  | _ => 0
/-- the beginning of a moment -/
def tick : Ru → Nat → Nat → Nat
  | .cnt b s, m, t => if t % s = 0 then min (m + 1) (2 ^ b - 1) else m
  | .shf _ s, m, t => if t % s = 0 then m / 2 else m
  | .rgh b, m, t => if m ≠ 2 ^ b - 1 ∧ t % 2 ^ m = 0 then m + 1 else m
/-- n moments behind moment t -/
def ag (R : Ru) (m t : Nat) : Nat → Nat
  | 0 => m
  | n + 1 => tick R (ag R m t n) (t + n + 1)
theorem ag_add (R : Ru) (m t n : Nat) : ∀ k, ag R m t (n + k) = ag R (ag R m t n) (t + n) k
  | 0 => rfl
  | k + 1 => by
    show tick R (ag R m t (n + k)) (t + (n + k) + 1) = tick R (ag R (ag R m t n) (t + n) k) (t + n + k + 1)
    rw [ag_add R m t n k, Nat.add_assoc t n k]
theorem succ_div (k s : Nat) (hs : 0 < s) : (k + 1) / s = k / s + (if (k + 1) % s = 0 then 1 else 0) := by
  have e := Nat.div_add_mod k s
  have hr : k % s < s := Nat.mod_lt k hs
  by_cases h : k % s + 1 < s
  · have e1 : k + 1 = s * (k / s) + (k % s + 1) := by omega
    have d : (k + 1) / s = k / s := by
      have := congrArg (· / s) e1
      simp only [Nat.mul_add_div hs, Nat.div_eq_of_lt h, Nat.add_zero] at this
      exact this
    have m : (k + 1) % s = k % s + 1 := by
      have := congrArg (· % s) e1
      simp only [Nat.mul_add_mod] at this
      rw [this, Nat.mod_eq_of_lt h]
    rw [d, if_neg (by omega), Nat.add_zero]
  · have e2 : k % s + 1 = s := by omega
    have e1 : k + 1 = s * (k / s + 1) := by rw [Nat.mul_add, Nat.mul_one]; omega
    have d : (k + 1) / s = k / s + 1 := by
      have := congrArg (· / s) e1
      simp only [Nat.mul_div_cancel_left _ hs] at this
      exact this
    have m : (k + 1) % s = 0 := by
      have := congrArg (· % s) e1
      simp only [Nat.mul_mod_right] at this
      exact this
    rw [d, if_pos m]
theorem div_mono {a b : Nat} (s : Nat) (h : a ≤ b) : a / s ≤ b / s := Nat.div_le_div_right h
theorem ag_cnt (b s m t : Nat) (hs : 0 < s) (hm : m ≤ 2 ^ b - 1) : ∀ n, ag (.cnt b s) m t n = min (m + ((t + n) / s - t / s)) (2 ^ b - 1)
  | 0 => by
    show m = _
    rw [Nat.add_zero, Nat.sub_self, Nat.add_zero, Nat.min_eq_left hm]
  | n + 1 => by
    show (if (t + n + 1) % s = 0 then min (ag (.cnt b s) m t n + 1) (2 ^ b - 1) else ag (.cnt b s) m t n) = _
    rw [ag_cnt b s m t hs hm n]
    have e := succ_div (t + n) s hs
    have g := div_mono s (Nat.le_add_right t n)
    rw [show t + (n + 1) = t + n + 1 from rfl, e]
    by_cases h : (t + n + 1) % s = 0
    · rw [if_pos h, if_pos h]; omega
    · rw [if_neg h, if_neg h, Nat.add_zero]
theorem ag_shf (b s m t : Nat) (hs : 0 < s) : ∀ n, ag (.shf b s) m t n = m / 2 ^ ((t + n) / s - t / s)
  | 0 => by
    show m = _
    rw [Nat.add_zero, Nat.sub_self, Nat.pow_zero, Nat.div_one]
  | n + 1 => by
    show (if (t + n + 1) % s = 0 then ag (.shf b s) m t n / 2 else ag (.shf b s) m t n) = _
    rw [ag_shf b s m t hs n]
    have e := succ_div (t + n) s hs
    have g := div_mono s (Nat.le_add_right t n)
    rw [show t + (n + 1) = t + n + 1 from rfl, e]
    by_cases h : (t + n + 1) % s = 0
    · rw [if_pos h, if_pos h, Nat.div_div_eq_div_mul, ← Nat.pow_succ]
      congr 2; omega
    · rw [if_neg h, if_neg h, Nat.add_zero]
/-- where rough stands still -/
theorem ag_rgh_fin (b t : Nat) : ∀ n, ag (.rgh b) (2 ^ b - 1) t n = 2 ^ b - 1
  | 0 => rfl
  | n + 1 => by
    show (if ag (.rgh b) (2 ^ b - 1) t n ≠ 2 ^ b - 1 ∧ _ then _ else _) = _
    rw [ag_rgh_fin b t n, if_neg (fun h => h.1 rfl)]
theorem ag_rgh_still (b m t : Nat) : ∀ n, n < (t / 2 ^ m + 1) * 2 ^ m - t → ag (.rgh b) m t n = m
  | 0, _ => rfl
  | n + 1, h => by
    show (if ag (.rgh b) m t n ≠ 2 ^ b - 1 ∧ (t + n + 1) % 2 ^ ag (.rgh b) m t n = 0 then ag (.rgh b) m t n + 1 else ag (.rgh b) m t n) = _
    rw [ag_rgh_still b m t n (by omega)]
    refine if_neg fun ⟨_, h2⟩ => ?_
    have hp : 0 < 2 ^ m := Nat.two_pow_pos m
    have e := Nat.div_add_mod t (2 ^ m)
    have e2 := Nat.div_add_mod (t + n + 1) (2 ^ m)
    have h3 : t + n + 1 < (t / 2 ^ m + 1) * 2 ^ m := by omega
    have h4 : (t + n + 1) / 2 ^ m < t / 2 ^ m + 1 := (Nat.div_lt_iff_lt_mul hp).mpr h3
    have h5 := div_mono (2 ^ m) (show t ≤ t + n + 1 by omega)
    have h6 : (t + n + 1) / 2 ^ m = t / 2 ^ m := by omega
    rw [h6, h2] at e2
    have h7 : 2 ^ m * (t / 2 ^ m) ≤ t := by omega
    omega
theorem next_gt (m t : Nat) : t < (t / 2 ^ m + 1) * 2 ^ m := by
  have hp : 0 < 2 ^ m := Nat.two_pow_pos m
  have e := Nat.div_add_mod t (2 ^ m)
  have := Nat.mod_lt t hp
  rw [Nat.add_mul, Nat.one_mul, Nat.mul_comm]
  omega
theorem next_le (m t : Nat) : (t / 2 ^ m + 1) * 2 ^ m ≤ t + 2 ^ m := by
  have e := Nat.div_add_mod t (2 ^ m)
  rw [Nat.add_mul, Nat.one_mul, Nat.mul_comm]
  omega
theorem ag_rgh_next (b m t : Nat) (hm : m ≠ 2 ^ b - 1) : ag (.rgh b) m t ((t / 2 ^ m + 1) * 2 ^ m - t) = m + 1 := by
  have g := next_gt m t
  obtain ⟨n, hn⟩ : ∃ n, (t / 2 ^ m + 1) * 2 ^ m - t = n + 1 := ⟨(t / 2 ^ m + 1) * 2 ^ m - t - 1, by omega⟩
  rw [hn]
  show (if ag (.rgh b) m t n ≠ 2 ^ b - 1 ∧ (t + n + 1) % 2 ^ ag (.rgh b) m t n = 0 then ag (.rgh b) m t n + 1 else ag (.rgh b) m t n) = _
  have e3 : (t + n + 1) % 2 ^ m = 0 := by
    rw [show t + n + 1 = (t / 2 ^ m + 1) * 2 ^ m by omega]
    exact Nat.mul_mod_left _ _
  rw [ag_rgh_still b m t n (by omega), if_pos ⟨hm, e3⟩]
theorem tick_le (R : Ru) (m t : Nat) (h : m ≤ R.most) : tick R m t ≤ R.most := by
  cases R with
  | cnt b s =>
    show (if t % s = 0 then min (m + 1) (2 ^ b - 1) else m) ≤ 2 ^ b - 1
    have h' : m ≤ 2 ^ b - 1 := h
    split <;> omega
  | shf b s =>
    show (if t % s = 0 then m / 2 else m) ≤ 2 ^ (b + 1) - 1
    have h' : m ≤ 2 ^ (b + 1) - 1 := h
    split <;> omega
  | rgh b =>
    show (if m ≠ 2 ^ b - 1 ∧ t % 2 ^ m = 0 then m + 1 else m) ≤ 2 ^ b - 1
    have h' : m ≤ 2 ^ b - 1 := h
    split
    · rename_i c
      have := c.1
      omega
    · exact h'
theorem ag_le (R : Ru) (m t : Nat) (h : m ≤ R.most) : ∀ n, ag R m t n ≤ R.most
  | 0 => h
  | n + 1 => tick_le R _ _ (ag_le R m t h n)
/-- the length of a round -/
def Ru.round : Ru → Nat
  | .cnt _ s => s
  | .shf _ s => s
  | .rgh _ => 64
theorem pow_div64 {m : Nat} (h : m ≤ 6) (t k : Nat) : (t + 64 * k) % 2 ^ m = t % 2 ^ m := by
  have : m = 0 ∨ m = 1 ∨ m = 2 ∨ m = 3 ∨ m = 4 ∨ m = 5 ∨ m = 6 := by omega
  rcases this with rfl | rfl | rfl | rfl | rfl | rfl | rfl <;> simp only [Nat.reducePow] <;> omega
theorem tick_round (R : Ru) (hR : R.ok) (m t k : Nat) (h : m ≤ R.most) : tick R m (t + R.round * k) = tick R m t := by
  cases R with
  | cnt b s =>
    show (if (t + s * k) % s = 0 then min (m + 1) (2 ^ b - 1) else m) = if t % s = 0 then min (m + 1) (2 ^ b - 1) else m
    rw [Nat.add_mul_mod_self_left]
  | shf b s =>
    show (if (t + s * k) % s = 0 then m / 2 else m) = if t % s = 0 then m / 2 else m
    rw [Nat.add_mul_mod_self_left]
  | rgh b =>
    show (if m ≠ 2 ^ b - 1 ∧ (t + 64 * k) % 2 ^ m = 0 then m + 1 else m) = if m ≠ 2 ^ b - 1 ∧ t % 2 ^ m = 0 then m + 1 else m
    by_cases e : m = 2 ^ b - 1
    · rw [if_neg (fun h => h.1 e), if_neg (fun h => h.1 e)]
    · have h' : m ≤ 2 ^ b - 1 := h
      obtain ⟨h1, h2⟩ : 1 ≤ b ∧ b ≤ 3 := hR
      have hb : b = 1 ∨ b = 2 ∨ b = 3 := by omega
      have h6 : m ≤ 6 := by
        rcases hb with rfl | rfl | rfl <;> simp only [Nat.reducePow] at h' e <;> omega
      rw [pow_div64 h6]
theorem ag_round (R : Ru) (hR : R.ok) (m t k : Nat) (h : m ≤ R.most) : ∀ n, ag R m (t + R.round * k) n = ag R m t n
  | 0 => rfl
  | n + 1 => by
    show tick R (ag R m (t + R.round * k) n) (t + R.round * k + n + 1) = tick R (ag R m t n) (t + n + 1)
    rw [ag_round R hR m t k h n, show t + R.round * k + n + 1 = (t + n + 1) + R.round * k by omega]
    exact tick_round R hR _ _ k (ag_le R m t h n)
theorem ag_rgh_mono1 (b m t n : Nat) : ag (.rgh b) m t n ≤ ag (.rgh b) m t (n + 1) := by
  show ag (.rgh b) m t n ≤ (if ag (.rgh b) m t n ≠ 2 ^ b - 1 ∧ (t + n + 1) % 2 ^ ag (.rgh b) m t n = 0 then ag (.rgh b) m t n + 1 else ag (.rgh b) m t n)
  split <;> omega
theorem ag_rgh_mono (b m t n : Nat) : ∀ k, ag (.rgh b) m t n ≤ ag (.rgh b) m t (n + k)
  | 0 => Nat.le_refl _
  | k + 1 => Nat.le_trans (ag_rgh_mono b m t n k) (ag_rgh_mono1 b m t (n + k))
theorem rgh_reach (b m t : Nat) : ∀ e, e ≤ 2 ^ b - 1 → e ≤ ag (.rgh b) m t (2 ^ e - 1)
  | 0, _ => Nat.zero_le _
  | e + 1, he => by
    have ih := rgh_reach b m t e (by omega)
    have hp := Nat.two_pow_pos e
    have e2 : 2 ^ (e + 1) - 1 = (2 ^ e - 1) + 2 ^ e := by rw [Nat.pow_succ]; omega
    rw [e2]
    by_cases c : e + 1 ≤ ag (.rgh b) m t (2 ^ e - 1)
    · exact Nat.le_trans c (ag_rgh_mono b m t _ _)
    · have ee : ag (.rgh b) m t (2 ^ e - 1) = e := by omega
      rw [ag_add, ee]
      have nx := next_le e (t + (2 ^ e - 1))
      have gx := next_gt e (t + (2 ^ e - 1))
      have r := ag_rgh_next b e (t + (2 ^ e - 1)) (by omega)
      obtain ⟨k, hk⟩ : ∃ k, 2 ^ e = ((t + (2 ^ e - 1)) / 2 ^ e + 1) * 2 ^ e - (t + (2 ^ e - 1)) + k :=
        ⟨2 ^ e - (((t + (2 ^ e - 1)) / 2 ^ e + 1) * 2 ^ e - (t + (2 ^ e - 1))), by omega⟩
      have mo := ag_rgh_mono b e (t + (2 ^ e - 1)) (((t + (2 ^ e - 1)) / 2 ^ e + 1) * 2 ^ e - (t + (2 ^ e - 1))) k
      rw [r, ← hk] at mo
      exact mo
theorem div_add_ge (t n s : Nat) (hs : 0 < s) : n / s ≤ (t + n) / s - t / s := by
  have h1 := Nat.div_mul_le_self t s
  have h2 := Nat.div_mul_le_self n s
  have : t / s + n / s ≤ (t + n) / s := (Nat.le_div_iff_mul_le hs).mpr (by rw [Nat.add_mul]; omega)
  omega
/-- far behind: the end -/
theorem ag_far (R : Ru) (hR : R.ok) (m t n : Nat) (h : m ≤ R.most) (hn : 1300 ≤ n) : ag R m t n = R.fin := by
  cases R with
  | cnt b s =>
    obtain ⟨h1, h2, h3, h4⟩ : 1 ≤ b ∧ b ≤ 6 ∧ 1 ≤ s ∧ s ≤ 20 := hR
    have h' : m ≤ 2 ^ b - 1 := h
    rw [ag_cnt b s m t h3 h' n]
    show _ = 2 ^ b - 1
    have g := div_add_ge t n s h3
    have : 65 ≤ n / s := (Nat.le_div_iff_mul_le h3).mpr (Nat.le_trans (Nat.mul_le_mul_left 65 h4) hn)
    have : 2 ^ b ≤ 2 ^ 6 := Nat.pow_le_pow_right (by decide) h2
    omega
  | shf b s =>
    obtain ⟨h1, h2, h3, h4⟩ : 1 ≤ b ∧ b ≤ 10 ∧ 1 ≤ s ∧ s ≤ 20 := hR
    have h' : m ≤ 2 ^ (b + 1) - 1 := h
    rw [ag_shf b s m t h3 n]
    show _ = 0
    have g := div_add_ge t n s h3
    have : 65 ≤ n / s := (Nat.le_div_iff_mul_le h3).mpr (Nat.le_trans (Nat.mul_le_mul_left 65 h4) hn)
    have : 2 ^ (b + 1) ≤ 2 ^ ((t + n) / s - t / s) := Nat.pow_le_pow_right (by decide) (by omega)
    have := Nat.two_pow_pos (b + 1)
    exact Nat.div_eq_of_lt (by omega)
  | rgh b =>
    obtain ⟨h1, h2⟩ : 1 ≤ b ∧ b ≤ 3 := hR
    have le := ag_le (.rgh b) m t h n
    have r := rgh_reach b m t (2 ^ b - 1) (Nat.le_refl _)
    have hb : b = 1 ∨ b = 2 ∨ b = 3 := by omega
    have h7 : 2 ^ (2 ^ b - 1) - 1 ≤ 127 := by rcases hb with rfl | rfl | rfl <;> decide
    obtain ⟨k, hk⟩ : ∃ k, n = 2 ^ (2 ^ b - 1) - 1 + k := ⟨n - (2 ^ (2 ^ b - 1) - 1), by omega⟩
    have mo := ag_rgh_mono b m t (2 ^ (2 ^ b - 1) - 1) k
    rw [← hk] at mo
    show _ = 2 ^ b - 1
    have le' : ag (.rgh b) m t n ≤ 2 ^ b - 1 := le
    omega
end LS
namespace LS
def Ru.isShf : Ru → Bool
  | .shf _ _ => true
  | _ => false
def Ru.isRgh : Ru → Bool
  | .rgh _ => true
  | _ => false
/-- what the mark of a thing that was seen so many moments ago comes to -/
def one (R : Ru) (now a : Nat) : Nat := ag R R.top (now - a) a
/-- it may have such a mark -/
def poss (R : Ru) (now mark a : Nat) : Bool :=
  if R.isShf && decide (0 < one R now a) then decide (one R now a ≤ mark) && decide (mark < 2 * one R now a) else decide (one R now a = mark)
def IsSpan (R : Ru) (now mark : Nat) (x y : Option Nat) : Prop :=
  (x = none ∧ y = none ∧ ∀ a, a ≤ now → poss R now mark a = false) ∨
  (∃ lo, x = some lo ∧ lo ≤ now ∧ poss R now mark lo = true ∧ (∀ a, a ≤ now → poss R now mark a = true → lo ≤ a) ∧
    ((mark = R.fin ∧ y = none) ∨ (mark ≠ R.fin ∧ ∃ hi, y = some hi ∧ hi ≤ now ∧ poss R now mark hi = true ∧ ∀ a, a ≤ now → poss R now mark a = true → a ≤ hi)))
theorem IsSpan.uniq {R : Ru} {now mark : Nat} {x y x' y' : Option Nat} (h : IsSpan R now mark x y) (h' : IsSpan R now mark x' y') : x = x' ∧ y = y' := by
  rcases h with ⟨rfl, rfl, h⟩ | ⟨lo, rfl, h1, h2, h3, h4⟩
  · rcases h' with ⟨rfl, rfl, _⟩ | ⟨lo', rfl, k1, k2, _⟩
    · exact ⟨rfl, rfl⟩
    · rw [h lo' k1] at k2
      cases k2
  · rcases h' with ⟨rfl, rfl, h'⟩ | ⟨lo', rfl, k1, k2, k3, k4⟩
    · rw [h' lo h1] at h2
      cases h2
    · have e : lo = lo' := Nat.le_antisymm (h3 _ k1 k2) (k3 _ h1 h2)
      refine ⟨by rw [e], ?_⟩
      rcases h4 with ⟨e1, rfl⟩ | ⟨e1, hi, rfl, a1, a2, a3⟩
      · rcases k4 with ⟨_, rfl⟩ | ⟨n1, _⟩
        · rfl
        · exact absurd e1 n1
      · rcases k4 with ⟨n1, rfl⟩ | ⟨_, hi', rfl, b1, b2, b3⟩
        · exact absurd n1 e1
        · rw [Nat.le_antisymm (b3 _ a1 a2) (a3 _ b1 b2)]
/-! ### the lists that are found -/
def fl (R : Ru) (now mark n : Nat) : List Nat := (List.range n).filter (poss R now mark)
theorem fl_succ (R : Ru) (now mark n : Nat) : fl R now mark (n + 1) = if poss R now mark n = true then fl R now mark n ++ [n] else fl R now mark n := by
  unfold fl
  rw [List.range_succ, List.filter_append]
  by_cases h : poss R now mark n = true
  · rw [if_pos h, List.filter_cons_of_pos h]
    rfl
  · rw [if_neg h, List.filter_cons_of_neg h, List.filter_nil, List.append_nil]
theorem mem_fl {R : Ru} {now mark n a : Nat} : a ∈ fl R now mark n ↔ a < n ∧ poss R now mark a = true := by
  unfold fl
  rw [List.mem_filter, List.mem_range]
theorem fl_len (R : Ru) (now mark n : Nat) : (fl R now mark n).length ≤ n := by
  unfold fl
  exact Nat.le_trans (List.length_filter_le _ _) (by rw [List.length_range]; exact Nat.le_refl n)
/-- the tried ones do -/
def Cov (R : Ru) (now mark cnt : Nat) : Prop := cnt ≤ now + 1 ∧ ∀ a, cnt ≤ a → a ≤ now → poss R now mark a = true → mark = R.fin ∧ ∃ a', a' < cnt ∧ poss R now mark a' = true
theorem span_nil {R : Ru} {now mark cnt : Nat} (c : Cov R now mark cnt) (h : fl R now mark cnt = []) : IsSpan R now mark none none := by
  have no : ∀ a, a < cnt → poss R now mark a = false := fun a ha => by
    cases e : poss R now mark a with
    | false => rfl
    | true =>
      have : a ∈ fl R now mark cnt := mem_fl.mpr ⟨ha, e⟩
      rw [h] at this
      cases this
  refine .inl ⟨rfl, rfl, fun a ha => ?_⟩
  by_cases hc : a < cnt
  · exact no a hc
  · cases e : poss R now mark a with
    | false => rfl
    | true =>
      obtain ⟨_, a', l, p⟩ := c.2 a (by omega) ha e
      rw [no a' l] at p
      cases p
theorem span_some {R : Ru} {now mark cnt lo : Nat} {y : Option Nat} (c : Cov R now mark cnt) (h1 : lo ∈ fl R now mark cnt) (h2 : ∀ a, a ∈ fl R now mark cnt → lo ≤ a)
    (h3 : (mark = R.fin ∧ y = none) ∨ (mark ≠ R.fin ∧ ∃ hi, y = some hi ∧ hi ∈ fl R now mark cnt ∧ ∀ a, a ∈ fl R now mark cnt → a ≤ hi)) : IsSpan R now mark (some lo) y := by
  obtain ⟨l1, l2⟩ := mem_fl.mp h1
  have c1 := c.1
  refine .inr ⟨lo, rfl, by omega, l2, fun a ha hp => ?_, ?_⟩
  · by_cases hc : a < cnt
    · exact h2 a (mem_fl.mpr ⟨hc, hp⟩)
    · omega
  · rcases h3 with h3 | ⟨n1, hi, rfl, m1, m2⟩
    · exact .inl h3
    · obtain ⟨q1, q2⟩ := mem_fl.mp m1
      refine .inr ⟨n1, hi, rfl, by omega, q2, fun a ha hp => ?_⟩
      by_cases hc : a < cnt
      · exact m2 a (mem_fl.mpr ⟨hc, hp⟩)
      · exact absurd (c.2 a (by omega) ha hp).1 n1
theorem fl_pair (R : Ru) (now mark n : Nat) : (fl R now mark n).Pairwise (· < ·) := List.Pairwise.filter _ List.pairwise_lt_range
theorem fl_head {R : Ru} {now mark n lo : Nat} {r : List Nat} (e : fl R now mark n = lo :: r) : lo ∈ fl R now mark n ∧ ∀ a, a ∈ fl R now mark n → lo ≤ a := by
  have p := fl_pair R now mark n
  rw [e] at p ⊢
  refine ⟨List.mem_cons_self, fun a ha => ?_⟩
  rcases List.mem_cons.mp ha with rfl | ha
  · exact Nat.le_refl _
  · exact Nat.le_of_lt ((List.pairwise_cons.mp p).1 a ha)
theorem fl_last {R : Ru} {now mark n hi : Nat} {r : List Nat} (e : fl R now mark n = r ++ [hi]) : hi ∈ fl R now mark n ∧ ∀ a, a ∈ fl R now mark n → a ≤ hi := by
  have p := fl_pair R now mark n
  rw [e] at p ⊢
  refine ⟨List.mem_append_right _ List.mem_cons_self, fun a ha => ?_⟩
  rcases List.mem_append.mp ha with ha | ha
  · exact Nat.le_of_lt ((List.pairwise_append.mp p).2.2 a ha hi List.mem_cons_self)
  · rcases List.mem_cons.mp ha with rfl | ha
    · exact Nat.le_refl _
    · cases ha
/-! ### rough: later is less -/
theorem tick_rgh_mono (b t : Nat) {m m' : Nat} (h : m ≤ m') : tick (.rgh b) m t ≤ tick (.rgh b) m' t := by
  by_cases e : m = m'
  · rw [e]; exact Nat.le_refl _
  · have h1 : tick (.rgh b) m t ≤ m + 1 := by
      show (if m ≠ 2 ^ b - 1 ∧ t % 2 ^ m = 0 then m + 1 else m) ≤ m + 1
      split <;> omega
    have h2 : m' ≤ tick (.rgh b) m' t := by
      show m' ≤ (if m' ≠ 2 ^ b - 1 ∧ t % 2 ^ m' = 0 then m' + 1 else m')
      split <;> omega
    omega
theorem ag_rgh_mark (b t : Nat) {m m' : Nat} (h : m ≤ m') : ∀ n, ag (.rgh b) m t n ≤ ag (.rgh b) m' t n
  | 0 => h
  | n + 1 => tick_rgh_mono b _ (ag_rgh_mark b t h n)
theorem one_rgh_step (b now a : Nat) (h : a + 1 ≤ now) : one (.rgh b) now a ≤ one (.rgh b) now (a + 1) := by
  show ag (.rgh b) 0 (now - a) a ≤ ag (.rgh b) 0 (now - (a + 1)) (a + 1)
  rw [Nat.add_comm a 1, ag_add]
  rw [show now - (1 + a) + 1 = now - a by omega]
  exact ag_rgh_mark b _ (Nat.zero_le _) a
theorem one_rgh_mono (b now a : Nat) : ∀ k, a + k ≤ now → one (.rgh b) now a ≤ one (.rgh b) now (a + k)
  | 0, _ => Nat.le_refl _
  | k + 1, h => Nat.le_trans (one_rgh_mono b now a k (by omega)) (one_rgh_step b now (a + k) (by omega))
theorem one_le (R : Ru) (now a : Nat) (h : R.top ≤ R.most) : one R now a ≤ R.most := ag_le R _ _ h a
theorem top_le (R : Ru) : R.top ≤ R.most := by
  cases R with
  | cnt b s => exact Nat.zero_le _
  | rgh b => exact Nat.zero_le _
  | shf b s =>
    show 2 ^ b ≤ 2 ^ (b + 1) - 1
    have := Nat.two_pow_pos b
    rw [Nat.pow_succ]
    omega
/-- the end is kept -/
theorem one_rgh_fin {b now a a' : Nat} (h : one (.rgh b) now a = 2 ^ b - 1) (h1 : a ≤ a') (h2 : a' ≤ now) : one (.rgh b) now a' = 2 ^ b - 1 := by
  obtain ⟨k, rfl⟩ : ∃ k, a' = a + k := ⟨a' - a, by omega⟩
  have m := one_rgh_mono b now a k h2
  have l : one (.rgh b) now (a + k) ≤ 2 ^ b - 1 := one_le (.rgh b) now (a + k) (top_le _)
  omega
theorem one_rgh_far {b now a : Nat} (hb : b ≤ 3) (ha : 127 ≤ a) : one (.rgh b) now a = 2 ^ b - 1 := by
  have p3 : 2 ^ b ≤ 2 ^ 3 := Nat.pow_le_pow_right (by decide) hb
  have h7 : 2 ^ (2 ^ b - 1) ≤ 2 ^ 7 := Nat.pow_le_pow_right (by decide) (by omega)
  have r := rgh_reach b 0 (now - a) (2 ^ b - 1) (Nat.le_refl _)
  obtain ⟨k, hk⟩ : ∃ k, a = (2 ^ (2 ^ b - 1) - 1) + k := ⟨a - (2 ^ (2 ^ b - 1) - 1), by omega⟩
  have mo := ag_rgh_mono b 0 (now - a) (2 ^ (2 ^ b - 1) - 1) k
  rw [← hk] at mo
  have l : one (.rgh b) now a ≤ 2 ^ b - 1 := one_le (.rgh b) now a (top_le _)
  have l2 : 2 ^ b - 1 ≤ one (.rgh b) now a := Nat.le_trans r mo
  omega
theorem poss_rgh (b now mark a : Nat) : poss (.rgh b) now mark a = decide (one (.rgh b) now a = mark) := rfl
theorem poss_cnt (b s now mark a : Nat) : poss (.cnt b s) now mark a = decide (one (.cnt b s) now a = mark) := rfl
theorem cov_end (R : Ru) (now mark : Nat) : Cov R now mark (now + 1) := ⟨Nat.le_refl _, fun a h1 h2 _ => by omega⟩
theorem cov_rgh {b now mark c : Nat} (h : one (.rgh b) now c = 2 ^ b - 1) (hc : c ≤ now) : Cov (.rgh b) now mark (c + 1) := by
  refine ⟨by omega, fun a h1 h2 h3 => ?_⟩
  have e := one_rgh_fin h (show c ≤ a by omega) h2
  rw [poss_rgh, e] at h3
  have e2 : 2 ^ b - 1 = mark := of_decide_eq_true h3
  exact ⟨e2.symm, c, by omega, by rw [poss_rgh, h, decide_eq_true e2]⟩
/-! ### count and shift: by how often a thing was aged -/
def bl (n : Nat) : Nat := if n = 0 then 0 else n.log2 + 1
theorem bl_pos {n : Nat} (h : n ≠ 0) : 2 ^ (bl n - 1) ≤ n ∧ n < 2 ^ bl n ∧ 1 ≤ bl n := by
  unfold bl
  rw [if_neg h]
  exact ⟨Nat.log2_self_le h, Nat.lt_log2_self, by omega⟩
theorem pow_uniq {i j n : Nat} (h1 : 2 ^ i ≤ n) (h2 : n < 2 ^ (i + 1)) (h3 : 2 ^ j ≤ n) (h4 : n < 2 ^ (j + 1)) : i = j := by
  have a : i < j + 1 := (Nat.pow_lt_pow_iff_right (by decide : 1 < 2)).mp (Nat.lt_of_le_of_lt h1 h4)
  have b : j < i + 1 := (Nat.pow_lt_pow_iff_right (by decide : 1 < 2)).mp (Nat.lt_of_le_of_lt h3 h2)
  omega
theorem bl_le {n b : Nat} (h : n < 2 ^ b) : bl n ≤ b := by
  by_cases e : n = 0
  · unfold bl; rw [if_pos e]; exact Nat.zero_le _
  · obtain ⟨h1, h2, h3⟩ := bl_pos e
    have : bl n - 1 < b := (Nat.pow_lt_pow_iff_right (by decide : 1 < 2)).mp (Nat.lt_of_le_of_lt h1 h)
    omega
/-- how often it was aged, for the end at the least -/
def Ru.ags : Ru → Nat → Nat
  | .cnt _ _, m => m
  | .shf b _, m => b + 1 - bl m
  | .rgh _, _ => 0
def Ru.step : Ru → Nat
  | .cnt _ s => s
  | .shf _ s => s
  | .rgh _ => 1
def dd (s now a : Nat) : Nat := now / s - (now - a) / s
theorem one_cnt (b s now a : Nat) (hs : 0 < s) (h : a ≤ now) : one (.cnt b s) now a = min (dd s now a) (2 ^ b - 1) := by
  show ag (.cnt b s) 0 (now - a) a = _
  rw [ag_cnt b s 0 (now - a) hs (Nat.zero_le _) a, Nat.zero_add, show now - a + a = now by omega]
  rfl
theorem one_shf (b s now a : Nat) (hs : 0 < s) (h : a ≤ now) : one (.shf b s) now a = 2 ^ b / 2 ^ dd s now a := by
  show ag (.shf b s) (2 ^ b) (now - a) a = _
  rw [ag_shf b s (2 ^ b) (now - a) hs a, show now - a + a = now by omega]
  rfl
theorem two_div {b d : Nat} (h : d ≤ b) : 2 ^ b / 2 ^ d = 2 ^ (b - d) := Nat.pow_div h (by decide)
theorem two_div0 {b d : Nat} (h : b < d) : 2 ^ b / 2 ^ d = 0 := Nat.div_eq_of_lt (Nat.pow_lt_pow_right (by decide) h)
theorem poss_stp {R : Ru} (hR : R.isRgh = false) (hs : 0 < R.step) {now mark a : Nat} (hm : mark ≤ R.most) (h : a ≤ now) : poss R now mark a = true ↔ (if mark = R.fin then R.ags mark ≤ dd R.step now a else dd R.step now a = R.ags mark) := by
  cases R with
  | rgh b => cases hR
  | cnt b s =>
    have hm' : mark ≤ 2 ^ b - 1 := hm
    rw [poss_cnt, one_cnt b s now a hs h, decide_eq_true_iff]
    show _ ↔ (if mark = 2 ^ b - 1 then mark ≤ dd s now a else dd s now a = mark)
    split <;> omega
  | shf b s =>
    have hm' : mark ≤ 2 ^ (b + 1) - 1 := hm
    have pb := Nat.two_pow_pos (b + 1)
    show (if (true && decide (0 < one (.shf b s) now a)) = true then decide (one (.shf b s) now a ≤ mark) && decide (mark < 2 * one (.shf b s) now a) else decide (one (.shf b s) now a = mark)) = true ↔ (if mark = 0 then b + 1 - bl mark ≤ dd s now a else dd s now a = b + 1 - bl mark)
    rw [one_shf b s now a hs h, Bool.true_and]
    by_cases hd : dd s now a ≤ b
    · rw [two_div hd]
      have p := Nat.two_pow_pos (b - dd s now a)
      rw [decide_eq_true p, if_pos rfl, Bool.and_eq_true, decide_eq_true_iff, decide_eq_true_iff, Nat.mul_comm, ← Nat.pow_succ]
      by_cases e : mark = 0
      · rw [if_pos e, e, show bl 0 = 0 from rfl]
        omega
      · rw [if_neg e]
        obtain ⟨h1, h2, h3⟩ := bl_pos e
        have h4 : bl mark ≤ b + 1 := bl_le (by omega)
        constructor
        · rintro ⟨q1, q2⟩
          have := pow_uniq q1 q2 h1 (by rw [show bl mark - 1 + 1 = bl mark by omega]; exact h2)
          omega
        · intro q
          have : b - dd s now a = bl mark - 1 := by omega
          rw [this, show (bl mark - 1).succ = bl mark by omega]
          exact ⟨h1, h2⟩
    · rw [two_div0 (by omega), if_neg (by decide)]
      rw [decide_eq_true_iff]
      by_cases e : mark = 0
      · rw [if_pos e, e]
        constructor
        · intro _
          rw [show bl 0 = 0 from rfl]
          omega
        · intro _
          rfl
      · rw [if_neg e]
        obtain ⟨h1, h2, h3⟩ := bl_pos e
        constructor
        · intro q
          exact absurd q.symm e
        · intro q
          omega
theorem span_stp_none {R : Ru} (hR : R.isRgh = false) (hs : 0 < R.step) {now mark : Nat} (hm : mark ≤ R.most) (h : now / R.step < R.ags mark) : IsSpan R now mark none none := by
  refine .inl ⟨rfl, rfl, fun a ha => ?_⟩
  cases e : poss R now mark a with
  | false => rfl
  | true =>
    have p := (poss_stp hR hs hm ha).mp e
    have : dd R.step now a ≤ now / R.step := Nat.sub_le _ _
    split at p <;> omega
theorem span_stp_some {R : Ru} (hR : R.isRgh = false) (hs : 0 < R.step) {now mark run first latest : Nat} (hm : mark ≤ R.most) (h : now / R.step = R.ags mark + run) (hf : first = run * R.step) (hl : latest = min now (first + R.step - 1)) :
    IsSpan R now mark (some (now - latest)) (if mark = R.fin then none else some (now - first)) ∧ first ≤ now := by
  have f1 : first ≤ now := by
    rw [hf]
    have := Nat.div_mul_le_self now R.step
    exact Nat.le_trans (Nat.mul_le_mul_right _ (by omega)) this
  have l1 : first ≤ latest := by omega
  have l2 : latest ≤ first + R.step - 1 := by omega
  have l3 : latest ≤ now := by omega
  have dl : latest / R.step = run := by
    refine Nat.div_eq_of_lt_le (by rw [← hf]; exact l1) ?_
    rw [Nat.add_mul, Nat.one_mul, ← hf]
    omega
  have df : first / R.step = run := by rw [hf]; exact Nat.mul_div_cancel _ hs
  refine ⟨.inr ⟨now - latest, rfl, by omega, ?_, fun a ha hp => ?_, ?_⟩, f1⟩
  · refine (poss_stp hR hs hm (by omega)).mpr ?_
    have : dd R.step now (now - latest) = R.ags mark := by
      unfold dd
      rw [show now - (now - latest) = latest by omega, dl]
      omega
    rw [this]
    split
    · exact Nat.le_refl _
    · rfl
  · have p := (poss_stp hR hs hm ha).mp hp
    have q : R.ags mark ≤ dd R.step now a := by split at p <;> omega
    have dm := div_mono R.step (show now - a ≤ now by omega)
    have q2 : (now - a) / R.step ≤ run := by
      unfold dd at q
      omega
    have q3 : now - a < (run + 1) * R.step := (Nat.div_lt_iff_lt_mul hs).mp (by omega)
    rw [Nat.add_mul, Nat.one_mul, ← hf] at q3
    omega
  · by_cases e : mark = R.fin
    · exact .inl ⟨e, if_pos e⟩
    · refine .inr ⟨e, now - first, if_neg e, by omega, ?_, fun a ha hp => ?_⟩
      · refine (poss_stp hR hs hm (by omega)).mpr ?_
        rw [if_neg e]
        unfold dd
        rw [show now - (now - first) = first by omega, df]
        omega
      · have p := (poss_stp hR hs hm ha).mp hp
        rw [if_neg e] at p
        have dm := div_mono R.step (show now - a ≤ now by omega)
        have q2 : (now - a) / R.step = run := by
          unfold dd at p
          omega
        have := Nat.div_mul_le_self (now - a) R.step
        rw [q2, ← hf] at this
        omega
/-- as far back as the law tries -/
def Ru.far : Ru → Nat
  | .cnt b s => s * (2 + max b (2 ^ b - 1))
  | .shf b s => s * (2 + max b 0)
  | .rgh _ => 140
theorem cov_far {R : Ru} (hR : R.ok) {now mark : Nat} (hm : mark ≤ R.most) : Cov R now mark (min now R.far + 1) := by
  by_cases hn : now ≤ R.far
  · rw [Nat.min_eq_left hn]
    exact cov_end R now mark
  · rw [Nat.min_eq_right (by omega)]
    cases R with
    | rgh b => exact cov_rgh (one_rgh_far hR.2 (show 127 ≤ 140 by decide)) (by omega)
    | cnt b s =>
      obtain ⟨h1, h2, h3, h4⟩ : 1 ≤ b ∧ b ≤ 6 ∧ 1 ≤ s ∧ s ≤ 20 := hR
      have hn' : s * (2 + max b (2 ^ b - 1)) ≤ now := by
        have : ¬ now ≤ s * (2 + max b (2 ^ b - 1)) := hn
        omega
      have big : ∀ a, s * (2 + max b (2 ^ b - 1)) ≤ a → a ≤ now → one (.cnt b s) now a = 2 ^ b - 1 := fun a l1 l2 => by
        rw [one_cnt b s now a h3 l2]
        have g := div_add_ge (now - a) a s h3
        rw [show now - a + a = now by omega] at g
        have : 2 + max b (2 ^ b - 1) ≤ a / s := (Nat.le_div_iff_mul_le h3).mpr (by rw [Nat.mul_comm]; exact l1)
        unfold dd
        omega
      refine ⟨Nat.succ_le_succ hn', fun a l1 l2 l3 => ?_⟩
      have e := big a (Nat.le_of_lt l1) l2
      rw [poss_cnt, e] at l3
      have e2 : 2 ^ b - 1 = mark := of_decide_eq_true l3
      exact ⟨e2.symm, s * (2 + max b (2 ^ b - 1)), Nat.lt_succ_self _, by rw [poss_cnt, big _ (Nat.le_refl _) hn', decide_eq_true e2]⟩
    | shf b s =>
      obtain ⟨h1, h2, h3, h4⟩ : 1 ≤ b ∧ b ≤ 10 ∧ 1 ≤ s ∧ s ≤ 20 := hR
      have hn' : s * (2 + max b 0) ≤ now := by
        have : ¬ now ≤ s * (2 + max b 0) := hn
        omega
      have big : ∀ a, s * (2 + max b 0) ≤ a → a ≤ now → one (.shf b s) now a = 0 := fun a l1 l2 => by
        rw [one_shf b s now a h3 l2]
        have g := div_add_ge (now - a) a s h3
        rw [show now - a + a = now by omega] at g
        have : 2 + max b 0 ≤ a / s := (Nat.le_div_iff_mul_le h3).mpr (by rw [Nat.mul_comm]; exact l1)
        refine two_div0 ?_
        unfold dd
        omega
      have ps : ∀ a, one (.shf b s) now a = 0 → poss (.shf b s) now mark a = decide (0 = mark) := fun a e => by
        unfold poss
        rw [e]
        rfl
      refine ⟨Nat.succ_le_succ hn', fun a l1 l2 l3 => ?_⟩
      have e := big a (Nat.le_of_lt l1) l2
      rw [ps a e] at l3
      have e2 : 0 = mark := of_decide_eq_true l3
      exact ⟨e2.symm, s * (2 + max b 0), Nat.lt_succ_self _, by rw [ps _ (big _ (Nat.le_refl _) hn'), decide_eq_true e2]⟩
theorem far_le {R : Ru} (hR : R.ok) : R.far ≤ 1300 := by
  cases R with
  | rgh b => exact (by decide : 140 ≤ 1300)
  | cnt b s =>
    obtain ⟨h1, h2, h3, h4⟩ : 1 ≤ b ∧ b ≤ 6 ∧ 1 ≤ s ∧ s ≤ 20 := hR
    have : 2 ^ b ≤ 2 ^ 6 := Nat.pow_le_pow_right (by decide) h2
    exact Nat.mul_le_mul h4 (show 2 + max b (2 ^ b - 1) ≤ 65 by omega)
  | shf b s =>
    obtain ⟨h1, h2, h3, h4⟩ : 1 ≤ b ∧ b ≤ 10 ∧ 1 ≤ s ∧ s ≤ 20 := hR
    exact Nat.mul_le_mul h4 (show 2 + max b 0 ≤ 65 by omega)
end LS
namespace LS
/-- a turn of rough -/
def tT (b : Nat) : Nat := 2 ^ (2 ^ b - 2)
theorem two_T {b : Nat} (hb : 1 ≤ b) : 2 ^ (2 ^ b - 1) = 2 * tT b := by
  have : 2 ^ 1 ≤ 2 ^ b := Nat.pow_le_pow_right (by decide) hb
  unfold tT
  rw [show 2 ^ b - 1 = (2 ^ b - 2) + 1 by omega, Nat.pow_succ, Nat.mul_comm]
theorem T_pos (b : Nat) : 1 ≤ tT b := Nat.two_pow_pos _
theorem T_le {b : Nat} (hb : b ≤ 3) : tT b ≤ 64 := by
  have : 2 ^ b ≤ 2 ^ 3 := Nat.pow_le_pow_right (by decide) hb
  have : tT b ≤ 2 ^ 6 := Nat.pow_le_pow_right (by decide) (by omega)
  exact this
theorem tick_T (b m t k : Nat) (h : m ≤ 2 ^ b - 1) : tick (.rgh b) m (t + tT b * k) = tick (.rgh b) m t := by
  show (if m ≠ 2 ^ b - 1 ∧ (t + tT b * k) % 2 ^ m = 0 then m + 1 else m) = if m ≠ 2 ^ b - 1 ∧ t % 2 ^ m = 0 then m + 1 else m
  by_cases e : m = 2 ^ b - 1
  · rw [if_neg (fun h => h.1 e), if_neg (fun h => h.1 e)]
  · have ed : tT b = 2 ^ m * 2 ^ (2 ^ b - 2 - m) := by
      unfold tT
      rw [← Nat.pow_add]
      congr 1
      omega
    rw [ed, Nat.mul_assoc, Nat.add_mul_mod_self_left]
theorem ag_T (b m t k : Nat) (h : m ≤ 2 ^ b - 1) : ∀ n, ag (.rgh b) m (t + tT b * k) n = ag (.rgh b) m t n
  | 0 => rfl
  | n + 1 => by
    show tick (.rgh b) (ag (.rgh b) m (t + tT b * k) n) (t + tT b * k + n + 1) = tick (.rgh b) (ag (.rgh b) m t n) (t + n + 1)
    rw [ag_T b m t k h n, show t + tT b * k + n + 1 = (t + n + 1) + tT b * k by omega]
    exact tick_T b _ _ k (ag_le (.rgh b) m t h n)
theorem one_T (b now k a : Nat) (h : a ≤ now) : one (.rgh b) (now + tT b * k) a = one (.rgh b) now a := by
  show ag (.rgh b) 0 (now + tT b * k - a) a = ag (.rgh b) 0 (now - a) a
  rw [show now + tT b * k - a = (now - a) + tT b * k by omega]
  exact ag_T b 0 (now - a) k (Nat.zero_le _) a
/-- a moment of the third turn that stands for another one -/
def rep (b now : Nat) : Nat := 2 * tT b + now % tT b
theorem rep_in (b now : Nat) : 2 * tT b ≤ rep b now ∧ rep b now < 3 * tT b := by
  have := Nat.mod_lt now (T_pos b)
  unfold rep
  omega
theorem rep_same (b now a : Nat) (h : a ≤ now) (h2 : a ≤ rep b now) : one (.rgh b) (rep b now) a = one (.rgh b) now a := by
  have e := Nat.div_add_mod now (tT b)
  by_cases c : now / tT b ≤ 2
  · obtain ⟨k, hk⟩ : ∃ k, 2 = now / tT b + k := ⟨2 - now / tT b, by omega⟩
    have : rep b now = now + tT b * k := by
      unfold rep
      have : 2 * tT b = tT b * (now / tT b) + tT b * k := by rw [← Nat.mul_add, ← hk, Nat.mul_comm]
      omega
    rw [this]
    exact one_T b now k a h
  · obtain ⟨k, hk⟩ : ∃ k, now / tT b = 2 + k := ⟨now / tT b - 2, by omega⟩
    have : now = rep b now + tT b * k := by
      unfold rep
      have : tT b * (now / tT b) = 2 * tT b + tT b * k := by rw [hk, Nat.mul_add, Nat.mul_comm]
      omega
    have q := one_T b (rep b now) k a h2
    rw [← this] at q
    exact q.symm
theorem one_far2 {b now a : Nat} (hb : 1 ≤ b) (ha : 2 * tT b - 1 ≤ a) : one (.rgh b) now a = 2 ^ b - 1 := by
  have r := rgh_reach b 0 (now - a) (2 ^ b - 1) (Nat.le_refl _)
  rw [two_T hb] at r
  obtain ⟨k, hk⟩ : ∃ k, a = (2 * tT b - 1) + k := ⟨a - (2 * tT b - 1), by omega⟩
  have mo := ag_rgh_mono b 0 (now - a) (2 * tT b - 1) k
  rw [← hk] at mo
  have l : one (.rgh b) now a ≤ 2 ^ b - 1 := one_le (.rgh b) now a (top_le _)
  have l2 : 2 ^ b - 1 ≤ one (.rgh b) now a := Nat.le_trans r mo
  omega
theorem exists_span (R : Ru) (now m : Nat) : ∃ x y, IsSpan R now m x y := by
  have c := cov_end R now m
  cases ef : fl R now m (now + 1) with
  | nil => exact ⟨none, none, span_nil c ef⟩
  | cons lo r =>
    obtain ⟨f1, f2⟩ := fl_head ef
    by_cases e : m = R.fin
    · exact ⟨some lo, none, span_some c f1 f2 (.inl ⟨e, rfl⟩)⟩
    · have hl : lo :: r = (lo :: r).dropLast ++ [(lo :: r).getLast (List.cons_ne_nil _ _)] := (List.dropLast_concat_getLast _).symm
      have g := fl_last (ef.trans hl)
      exact ⟨some lo, some _, span_some c f1 f2 (.inr ⟨e, _, rfl, g.1, g.2⟩)⟩
theorem IsSpan.lo_le {R : Ru} {now m a : Nat} {x y : Option Nat} (h : IsSpan R now m x y) (ha : a ≤ now) (hp : poss R now m a = true) : ∃ lo, x = some lo ∧ lo ≤ a ∧ lo ≤ now ∧ poss R now m lo = true := by
  rcases h with ⟨_, _, h⟩ | ⟨lo, rfl, h1, h2, h3, _⟩
  · rw [h a ha] at hp
    cases hp
  · exact ⟨lo, rfl, h3 a ha hp, h1, h2⟩
theorem IsSpan.hi_ge {R : Ru} {now m a : Nat} {x y : Option Nat} (h : IsSpan R now m x y) (ha : a ≤ now) (hp : poss R now m a = true) (hm : m ≠ R.fin) : ∃ hi, y = some hi ∧ a ≤ hi ∧ hi ≤ now ∧ poss R now m hi = true := by
  rcases h with ⟨_, _, h⟩ | ⟨lo, rfl, h1, h2, h3, h4⟩
  · rw [h a ha] at hp
    cases hp
  · rcases h4 with ⟨e, _⟩ | ⟨_, hi, rfl, k1, k2, k3⟩
    · exact absurd e hm
    · exact ⟨hi, rfl, k3 a ha hp, k1, k2⟩
theorem IsSpan.hi_none {R : Ru} {now m : Nat} {x y : Option Nat} (h : IsSpan R now m x y) (hm : m = R.fin) : y = none := by
  rcases h with ⟨_, e, _⟩ | ⟨lo, rfl, h1, h2, h3, h4⟩
  · exact e
  · rcases h4 with ⟨_, e⟩ | ⟨n, _⟩
    · exact e
    · exact absurd hm n
theorem IsSpan.both {R : Ru} {now m lo hi : Nat} (h : IsSpan R now m (some lo) (some hi)) : lo ≤ now ∧ hi ≤ now ∧ poss R now m lo = true ∧ poss R now m hi = true ∧ lo ≤ hi ∧ m ≠ R.fin := by
  rcases h with ⟨e, _⟩ | ⟨lo', e, h1, h2, h3, h4⟩
  · cases e
  · cases e
    rcases h4 with ⟨_, e⟩ | ⟨n, hi', e, k1, k2, k3⟩
    · cases e
    · cases e
      exact ⟨h1, k1, h2, k2, h3 _ k1 k2, n⟩
def wset (b d : Nat) : Prop := ∃ now m lo hi, 2 * tT b ≤ now ∧ now < 3 * tT b ∧ m < 2 ^ b - 1 ∧ IsSpan (.rgh b) now m (some lo) (some hi) ∧ d = hi - lo
def OffR (b v : Nat) : Prop := (∀ d, wset b d → d ≤ v) ∧ (v = 0 ∨ wset b v)
def lset (b l : Nat) : Prop := ∃ now, 2 * tT b ≤ now ∧ now < 3 * tT b ∧ IsSpan (.rgh b) now (2 ^ b - 1) (some l) none
def ReachR (b v : Nat) : Prop := (∀ l, lset b l → v + 1 ≤ l) ∧ lset b (v + 1)
def IsOff (R : Ru) (v : Nat) : Prop := (R.isRgh = true ∧ OffR R.bits v) ∨ (R.isRgh = false ∧ v = R.step - 1)
def IsReach (R : Ru) (v : Nat) : Prop := (R.isRgh = true ∧ ReachR R.bits v) ∨ (R.isRgh = false ∧ v = (R.ags R.fin - 1) * R.step)
theorem step_pos {R : Ru} (h : R.ok) : 0 < R.step := by
  cases R with
  | cnt b s => exact h.2.2.1
  | shf b s => exact h.2.2.1
  | rgh b => exact Nat.one_pos
theorem dd_lt {s now a k : Nat} (hs : 0 < s) (ha : a ≤ now) (h : k + 1 ≤ dd s now a) : k * s < a := by
  unfold dd at h
  have h1 := Nat.div_mul_le_self now s
  have h2 : now - a < ((now - a) / s + 1) * s := by
    have := Nat.lt_mul_div_succ (now - a) hs
    rw [Nat.mul_comm] at this
    exact this
  have h3 : ((now - a) / s + (k + 1)) * s ≤ now / s * s := Nat.mul_le_mul_right s (by omega)
  rw [Nat.add_mul] at h2 h3
  rw [Nat.add_mul k 1 s] at h3
  omega
theorem dd_eq {s now a c : Nat} (hs : 0 < s) (ha : a ≤ now) (hc : c ≤ now) (h : dd s now a = dd s now c) : c ≤ a + (s - 1) := by
  unfold dd at h
  have m1 := div_mono s (show now - a ≤ now by omega)
  have m2 := div_mono s (show now - c ≤ now by omega)
  have e : (now - a) / s = (now - c) / s := by omega
  have h1 := Nat.div_mul_le_self (now - c) s
  have h2 : now - a < ((now - a) / s + 1) * s := by
    have := Nat.lt_mul_div_succ (now - a) hs
    rw [Nat.mul_comm] at this
    exact this
  rw [e, Nat.add_mul] at h2
  omega
/-- by how much it can be too much -/
theorem off_all {R : Ru} {v now m lo hi : Nat} (hR : R.ok) (hv : IsOff R v) (hm : m ≤ R.most) (h : IsSpan R now m (some lo) (some hi)) : hi ≤ lo + v := by
  obtain ⟨l1, l2, p1, p2, lh, nf⟩ := h.both
  rcases hv with ⟨ir, hv⟩ | ⟨nr, rfl⟩
  · cases R with
    | cnt b s => cases ir
    | shf b s => cases ir
    | rgh b =>
      have b1 : 1 ≤ b := hR.1
      have hm' : m ≤ 2 ^ b - 1 := hm
      have nf' : m ≠ 2 ^ b - 1 := nf
      have lt : ∀ a, poss (.rgh b) now m a = true → a < 2 * tT b := fun a p => by
        by_cases c : a < 2 * tT b
        · exact c
        · rw [poss_rgh, one_far2 b1 (by omega)] at p
          exact absurd (of_decide_eq_true p).symm nf'
      obtain ⟨r1, r2⟩ := rep_in b now
      have tr : ∀ a, a ≤ now → poss (.rgh b) now m a = true → a ≤ rep b now ∧ poss (.rgh b) (rep b now) m a = true := fun a ha p => by
        have := lt a p
        refine ⟨by omega, ?_⟩
        rw [poss_rgh] at p ⊢
        rw [rep_same b now a ha (by omega)]
        exact p
      obtain ⟨x, y, sp⟩ := exists_span (.rgh b) (rep b now) m
      obtain ⟨q1, q2⟩ := tr lo l1 p1
      obtain ⟨q3, q4⟩ := tr hi l2 p2
      obtain ⟨lo', rfl, e1, _⟩ := sp.lo_le q1 q2
      obtain ⟨hi', rfl, e2, _⟩ := sp.hi_ge q3 q4 nf
      have := hv.1 (hi' - lo') ⟨rep b now, m, lo', hi', r1, r2, Nat.lt_of_le_of_ne hm' nf', sp, rfl⟩
      omega
  · have hs := step_pos hR
    have a1 := (poss_stp nr hs hm l1).mp p1
    have a2 := (poss_stp nr hs hm l2).mp p2
    rw [if_neg nf] at a1 a2
    exact dd_eq hs l1 l2 (a1.trans a2.symm)
theorem fin_most (R : Ru) : R.fin ≤ R.most := by
  cases R with
  | cnt b s => exact Nat.le_refl _
  | shf b s => exact Nat.zero_le _
  | rgh b => exact Nat.le_refl _
theorem ags_fin {R : Ru} (hR : R.ok) (nr : R.isRgh = false) : 1 ≤ R.ags R.fin := by
  cases R with
  | cnt b s =>
    have : 2 ^ 1 ≤ 2 ^ b := Nat.pow_le_pow_right (by decide) hR.1
    show 1 ≤ 2 ^ b - 1
    omega
  | shf b s => exact Nat.succ_le_succ (Nat.zero_le b)
  | rgh b => cases nr
/-- within reach no mark is the end -/
theorem reach_all {R : Ru} {v now a : Nat} (hR : R.ok) (hv : IsReach R v) (ha : a ≤ now) (hp : poss R now R.fin a = true) : v < a := by
  rcases hv with ⟨ir, hv⟩ | ⟨nr, rfl⟩
  · cases R with
    | cnt b s => cases ir
    | shf b s => cases ir
    | rgh b =>
      have b1 : 1 ≤ b := hR.1
      obtain ⟨r1, r2⟩ := rep_in b now
      have tp := T_pos b
      obtain ⟨x, y, sp⟩ := exists_span (.rgh b) (rep b now) (2 ^ b - 1)
      have pe : poss (.rgh b) (rep b now) (2 ^ b - 1) (2 * tT b - 1) = true := by
        rw [poss_rgh, one_far2 b1 (Nat.le_refl _), decide_eq_true rfl]
      have yn : y = none := sp.hi_none rfl
      subst yn
      obtain ⟨lo, rfl, e1, e3, _⟩ := sp.lo_le (show 2 * tT b - 1 ≤ rep b now by omega) pe
      have lb := hv.1 lo ⟨rep b now, r1, r2, sp⟩
      by_cases c : a ≤ rep b now
      · have hp' : poss (.rgh b) (rep b now) (2 ^ b - 1) a = true := by
          rw [poss_rgh, rep_same b now a ha c, ← poss_rgh]
          exact hp
        obtain ⟨lo', e, l, _⟩ := sp.lo_le c hp'
        cases e
        omega
      · omega
  · have hs := step_pos hR
    have a1 := (poss_stp nr hs (fin_most R) ha).mp hp
    rw [if_pos rfl] at a1
    have := ags_fin hR nr
    exact dd_lt hs ha (by omega)
/-- the marks of a thing that was just seen -/
def Fresh (R : Ru) (m : Nat) : Prop := if R.isShf = true then R.top ≤ m ∧ m < 2 * R.top else m = 0
/-- a thing that was truly seen may have been seen then -/
theorem poss_true {R : Ru} (hR : R.ok) {m last n : Nat} (h : Fresh R m) : poss R (last + n) (ag R m last n) n = true := by
  cases R with
  | cnt b s =>
    have e : m = 0 := h
    subst e
    rw [poss_cnt]
    refine decide_eq_true ?_
    show ag (.cnt b s) 0 (last + n - n) n = _
    rw [Nat.add_sub_cancel]
  | rgh b =>
    have e : m = 0 := h
    subst e
    rw [poss_rgh]
    refine decide_eq_true ?_
    show ag (.rgh b) 0 (last + n - n) n = _
    rw [Nat.add_sub_cancel]
  | shf b s =>
    obtain ⟨h1, h2⟩ : 2 ^ b ≤ m ∧ m < 2 * 2 ^ b := h
    have hs : 0 < s := hR.2.2.1
    have e1 : one (.shf b s) (last + n) n = 2 ^ b / 2 ^ ((last + n) / s - last / s) := by
      show ag (.shf b s) (2 ^ b) (last + n - n) n = _
      rw [Nat.add_sub_cancel]
      exact ag_shf b s _ last hs n
    rw [ag_shf b s m last hs n]
    generalize (last + n) / s - last / s = d at e1
    have pd := Nat.two_pow_pos d
    unfold poss
    rw [e1]
    by_cases hd : d ≤ b
    · have p := Nat.two_pow_pos (b - d)
      have es : 2 ^ b = 2 ^ (b - d) * 2 ^ d := by rw [← Nat.pow_add]; congr 1; omega
      rw [two_div hd, decide_eq_true p]
      have q1 : 2 ^ (b - d) ≤ m / 2 ^ d := (Nat.le_div_iff_mul_le pd).mpr (by rw [← es]; exact h1)
      have q2 : m / 2 ^ d < 2 * 2 ^ (b - d) := (Nat.div_lt_iff_lt_mul pd).mpr (by rw [Nat.mul_assoc, ← es]; exact h2)
      rw [decide_eq_true q1, decide_eq_true q2]
      rfl
    · have z : m / 2 ^ d = 0 := by
        refine Nat.div_eq_of_lt (Nat.lt_of_lt_of_le h2 ?_)
        rw [Nat.mul_comm, ← Nat.pow_succ]
        exact Nat.pow_le_pow_right (by decide) (by omega)
      rw [two_div0 (by omega), z]
      rfl
theorem fresh_most {R : Ru} {m : Nat} (h : Fresh R m) : m ≤ R.most := by
  cases R with
  | cnt b s =>
    have e : m = 0 := h
    rw [e]; exact Nat.zero_le _
  | rgh b =>
    have e : m = 0 := h
    rw [e]; exact Nat.zero_le _
  | shf b s =>
    obtain ⟨h1, h2⟩ : 2 ^ b ≤ m ∧ m < 2 * 2 ^ b := h
    show m ≤ 2 ^ (b + 1) - 1
    rw [Nat.pow_succ]
    omega
end LS
namespace LS
/-- a round that is tried throughout -/
def Ru.arnd : Ru → Nat
  | .cnt b s => s * (1 + (2 ^ b - 1))
  | .shf b s => s * (1 + (b + 1))
  | .rgh _ => 64
theorem ag_fin (R : Ru) (t : Nat) : ∀ n, ag R R.fin t n = R.fin
  | 0 => rfl
  | n + 1 => by
    show tick R (ag R R.fin t n) (t + n + 1) = R.fin
    rw [ag_fin R t n]
    cases R with
    | cnt b s =>
      show (if _ then min (2 ^ b - 1 + 1) (2 ^ b - 1) else 2 ^ b - 1) = 2 ^ b - 1
      split
      · exact Nat.min_eq_right (Nat.le_succ _)
      · rfl
    | shf b s =>
      show (if _ then 0 / 2 else 0) = 0
      split <;> rfl
    | rgh b => exact if_neg fun h => h.1 rfl
theorem fin_le {R : Ru} {t n n' : Nat} (h : ag R R.top t n = R.fin) (l : n ≤ n') : ag R R.top t n' = R.fin := by
  obtain ⟨k, rfl⟩ : ∃ k, n' = n + k := ⟨n' - n, by omega⟩
  rw [ag_add, h, ag_fin]
theorem one_at {R : Ru} {h b : Nat} (l : b ≤ h) : one R h (h - b) = ag R R.top b (h - b) := by
  show ag R R.top (h - (h - b)) (h - b) = _
  rw [show h - (h - b) = b by omega]
theorem poss_exact {R : Ru} {now m a : Nat} (e : one R now a = m) (h : m ≠ R.fin) : poss R now m a = true := by
  cases R with
  | cnt b s => rw [poss_cnt, decide_eq_true e]
  | rgh b => rw [poss_rgh, decide_eq_true e]
  | shf b s =>
    have h' : m ≠ 0 := h
    unfold poss
    rw [e, decide_eq_true (show 0 < m by omega), decide_eq_true (Nat.le_refl m), decide_eq_true (show m < 2 * m by omega)]
    rfl
theorem poss_fin {R : Ru} {now a : Nat} (e : one R now a = R.fin) : poss R now R.fin a = true := by
  cases R with
  | cnt b s => rw [poss_cnt, decide_eq_true e]
  | rgh b => rw [poss_rgh, decide_eq_true e]
  | shf b s =>
    unfold poss
    rw [e]
    rfl
/-- two begins of one mark -/
theorem begins_off {R : Ru} {v h m b1 b2 : Nat} (hR : R.ok) (hv : IsOff R v) (l1 : b1 ≤ h) (l2 : b2 ≤ h) (e1 : ag R R.top b1 (h - b1) = m) (e2 : ag R R.top b2 (h - b2) = m) (nf : m ≠ R.fin) : b2 ≤ b1 + v := by
  have p1 := poss_exact ((one_at l1).trans e1) nf
  have p2 := poss_exact ((one_at l2).trans e2) nf
  obtain ⟨x, y, sp⟩ := exists_span R h m
  obtain ⟨lo, rfl, e3, _⟩ := sp.lo_le (show h - b2 ≤ h by omega) p2
  obtain ⟨hi, rfl, e4, _⟩ := sp.hi_ge (show h - b1 ≤ h by omega) p1 nf
  have mm : m ≤ R.most := by rw [← e1]; exact ag_le R _ _ (top_le R) _
  have := off_all hR hv mm sp
  omega
theorem begins_reach {R : Ru} {u b n : Nat} (hR : R.ok) (hu : IsReach R u) (e : ag R R.top b n = R.fin) : u + 1 ≤ n := by
  have o : one R (b + n) n = R.fin := by
    show ag R R.top (b + n - n) n = _
    rw [Nat.add_sub_cancel]
    exact e
  exact reach_all hR hu (Nat.le_add_left n b) (poss_fin o)
theorem arnd_step {R : Ru} (hR : R.ok) (nr : R.isRgh = false) : ∃ k, R.arnd = R.step * k ∧ 2 ≤ k := by
  cases R with
  | cnt b s =>
    have : 2 ^ 1 ≤ 2 ^ b := Nat.pow_le_pow_right (by decide) hR.1
    exact ⟨1 + (2 ^ b - 1), rfl, by omega⟩
  | shf b s => exact ⟨1 + (b + 1), rfl, by omega⟩
  | rgh b => cases nr
theorem arnd_le {R : Ru} (hR : R.ok) : 1 ≤ R.arnd ∧ R.arnd ≤ 1280 := by
  cases R with
  | cnt b s =>
    obtain ⟨h1, h2, h3, h4⟩ : 1 ≤ b ∧ b ≤ 6 ∧ 1 ≤ s ∧ s ≤ 20 := hR
    have : 2 ^ b ≤ 2 ^ 6 := Nat.pow_le_pow_right (by decide) h2
    exact ⟨Nat.mul_le_mul h3 (show 1 ≤ 1 + (2 ^ b - 1) by omega), Nat.mul_le_mul h4 (show 1 + (2 ^ b - 1) ≤ 64 by omega)⟩
  | shf b s =>
    obtain ⟨h1, h2, h3, h4⟩ : 1 ≤ b ∧ b ≤ 10 ∧ 1 ≤ s ∧ s ≤ 20 := hR
    exact ⟨Nat.mul_le_mul h3 (show 1 ≤ 1 + (b + 1) by omega), Nat.mul_le_mul h4 (show 1 + (b + 1) ≤ 64 by omega)⟩
  | rgh b => exact ⟨(by decide : 1 ≤ 64), (by decide : 64 ≤ 1280)⟩
/-- by how often it was aged: count and shift -/
theorem ag_dd0 {R : Ru} (hR : R.ok) (nr : R.isRgh = false) {t n : Nat} (h : (t + n) / R.step - t / R.step = 0) : ag R R.top t n = R.top ∧ R.top ≠ R.fin := by
  have hs := step_pos hR
  cases R with
  | cnt b s =>
    have h' : (t + n) / s - t / s = 0 := h
    refine ⟨?_, ?_⟩
    · show ag (.cnt b s) 0 t n = 0
      rw [ag_cnt b s 0 t hs (Nat.zero_le _) n, h']
      omega
    · show 0 ≠ 2 ^ b - 1
      have : 2 ^ 1 ≤ 2 ^ b := Nat.pow_le_pow_right (by decide) hR.1
      omega
  | shf b s =>
    have h' : (t + n) / s - t / s = 0 := h
    refine ⟨?_, ?_⟩
    · show ag (.shf b s) (2 ^ b) t n = 2 ^ b
      rw [ag_shf b s _ t hs n, h', Nat.pow_zero, Nat.div_one]
    · show 2 ^ b ≠ 0
      have := Nat.two_pow_pos b
      omega
  | rgh b => cases nr
theorem ag_ddk {R : Ru} (hR : R.ok) (nr : R.isRgh = false) {t n : Nat} (h : (t + n) / R.step - t / R.step = R.ags R.fin) : ag R R.top t n = R.fin := by
  have hs := step_pos hR
  cases R with
  | cnt b s =>
    have h' : (t + n) / s - t / s = 2 ^ b - 1 := h
    show ag (.cnt b s) 0 t n = 2 ^ b - 1
    rw [ag_cnt b s 0 t hs (Nat.zero_le _) n, h']
    omega
  | shf b s =>
    have h' : (t + n) / s - t / s = b + 1 := h
    show ag (.shf b s) (2 ^ b) t n = 0
    rw [ag_shf b s _ t hs n, h']
    exact two_div0 (Nat.lt_succ_self b)
  | rgh b => cases nr
/-- the widest is met -/
theorem off_met {R : Ru} {v : Nat} (hR : R.ok) (hv : IsOff R v) : ∃ h m b1 b2, 4 * R.arnd ≤ h ∧ h < 5 * R.arnd ∧ b1 ≤ h ∧ b2 ≤ h ∧ ag R R.top b1 (h - b1) = m ∧ ag R R.top b2 (h - b2) = m ∧ m ≠ R.fin ∧ v ≤ b2 - b1 := by
  rcases hv with ⟨ir, hv⟩ | ⟨nr, rfl⟩
  · cases R with
    | cnt b s => cases ir
    | shf b s => cases ir
    | rgh b =>
      obtain ⟨b1, b3⟩ : 1 ≤ b ∧ b ≤ 3 := hR
      have p2 : 2 ^ 1 ≤ 2 ^ b := Nat.pow_le_pow_right (by decide) b1
      have tl := T_le b3
      have tp := T_pos b
      rcases hv.2 with rfl | ⟨now, m, lo, hi, n1, n2, hm, sp, rfl⟩
      · refine ⟨256, 0, 256, 256, Nat.le_refl _, (by decide : 256 < 320), Nat.le_refl _, Nat.le_refl _, rfl, rfl, ?_, Nat.zero_le _⟩
        show 0 ≠ 2 ^ b - 1
        omega
      · have n1' : 2 * tT b ≤ now := n1
        have n2' : now < 3 * tT b := n2
        have hm' : m < 2 ^ b - 1 := hm
        obtain ⟨c1, c2, c3, c4, c5, c6⟩ := sp.both
        have td : 64 % tT b = 0 := by
          have hb : b = 1 ∨ b = 2 ∨ b = 3 := by omega
          rcases hb with rfl | rfl | rfl <;> decide
        have hb0 : b = 1 ∨ b = 2 ∨ b = 3 := by omega
        have hr : rep b (256 + now % tT b) = now := by
          have hmod : (256 + now % tT b) % tT b = now % tT b := by
            rcases hb0 with rfl | rfl | rfl
            · show (256 + now % 1) % 1 = now % 1; omega
            · show (256 + now % 4) % 4 = now % 4; omega
            · show (256 + now % 64) % 64 = now % 64; omega
          unfold rep
          rw [hmod]
          have e := Nat.div_add_mod now (tT b)
          have q : now / tT b = 2 := by
            refine Nat.div_eq_of_lt_le n1' ?_
            exact n2'
          rw [q, Nat.mul_comm] at e
          exact e
        have ml := Nat.mod_lt now tp
        have tr : ∀ a, a ≤ now → poss (.rgh b) now m a = true → a ≤ 256 + now % tT b ∧ ag (.rgh b) 0 (256 + now % tT b - a) a = m := fun a ha p => by
          rw [poss_rgh] at p
          have p' := of_decide_eq_true p
          have al : a < 2 * tT b := by
            by_cases c : a < 2 * tT b
            · exact c
            · rw [one_far2 b1 (by omega)] at p'
              exact absurd p'.symm (Nat.ne_of_lt hm')
          have hle : a ≤ 256 + now % tT b := by omega
          have s := rep_same b (256 + now % tT b) a hle (by rw [hr]; exact ha)
          rw [hr] at s
          exact ⟨hle, s.symm.trans p'⟩
        obtain ⟨q1, q2⟩ := tr lo c1 c3
        obtain ⟨q3, q4⟩ := tr hi c2 c4
        refine ⟨256 + now % tT b, m, 256 + now % tT b - hi, 256 + now % tT b - lo, Nat.le_add_right _ _, ?_, Nat.sub_le _ _, Nat.sub_le _ _, ?_, ?_, Nat.ne_of_lt hm', ?_⟩
        · show 256 + now % tT b < 320
          omega
        · show ag (.rgh b) 0 (256 + now % tT b - hi) (256 + now % tT b - (256 + now % tT b - hi)) = m
          rw [show 256 + now % tT b - (256 + now % tT b - hi) = hi by omega]
          exact q4
        · show ag (.rgh b) 0 (256 + now % tT b - lo) (256 + now % tT b - (256 + now % tT b - lo)) = m
          rw [show 256 + now % tT b - (256 + now % tT b - lo) = lo by omega]
          exact q2
        · omega
  · obtain ⟨k, ek, k2⟩ := arnd_step hR nr
    have hs := step_pos hR
    have sk : R.step * 2 ≤ R.step * k := Nat.mul_le_mul_left _ k2
    have z : ∀ n, n < R.step → (4 * R.arnd + n) / R.step - 4 * R.arnd / R.step = 0 := fun n hn => by
      have e : 4 * R.arnd = R.step * (4 * k) := by rw [ek, Nat.mul_left_comm]
      rw [e, Nat.mul_add_div hs, Nat.div_eq_of_lt hn, Nat.mul_div_cancel_left _ hs]
      omega
    obtain ⟨a1, a2⟩ := ag_dd0 hR nr (z (R.step - 1) (by omega))
    refine ⟨4 * R.arnd + (R.step - 1), R.top, 4 * R.arnd, 4 * R.arnd + (R.step - 1), by omega, by omega, by omega, by omega, ?_, ?_, a2, by omega⟩
    · rw [Nat.add_sub_cancel_left]
      exact a1
    · rw [Nat.sub_self]
      rfl
/-- the soonest end is met -/
theorem reach_met {R : Ru} {u : Nat} (hR : R.ok) (hu : IsReach R u) : ∃ b, b < 6 * R.arnd ∧ ag R R.top b (u + 1) = R.fin := by
  rcases hu with ⟨ir, hu⟩ | ⟨nr, rfl⟩
  · cases R with
    | cnt b s => cases ir
    | shf b s => cases ir
    | rgh b =>
      obtain ⟨b1, b3⟩ : 1 ≤ b ∧ b ≤ 3 := hR
      have tl := T_le b3
      obtain ⟨now, n1, n2, sp⟩ := hu.2
      have n2' : now < 3 * tT b := n2
      rcases sp with ⟨e, _⟩ | ⟨lo, e, h1, h2, _⟩
      · cases e
      · cases e
        rw [poss_rgh] at h2
        exact ⟨now - (u + 1), by show now - (u + 1) < 384; omega, of_decide_eq_true h2⟩
  · obtain ⟨k, ek, k2⟩ := arnd_step hR nr
    have hs := step_pos hR
    have sk : R.step * 2 ≤ R.step * k := Nat.mul_le_mul_left _ k2
    have a1 := ags_fin hR nr
    refine ⟨R.step - 1, by omega, ag_ddk hR nr ?_⟩
    have e : R.step - 1 + ((R.ags R.fin - 1) * R.step + 1) = R.step * R.ags R.fin := by
      obtain ⟨j, hj⟩ : ∃ j, R.ags R.fin = j + 1 := ⟨R.ags R.fin - 1, by omega⟩
      rw [hj, Nat.add_sub_cancel, Nat.mul_add, Nat.mul_one, Nat.mul_comm j]
      omega
    rw [e, Nat.mul_div_cancel_left _ hs, Nat.div_eq_of_lt (show R.step - 1 < R.step by omega), Nat.sub_zero]
end LS
namespace LS
open PySem PySem.Spec PyProof.Rows L2 RZ
/-! ### calls by a promise alone -/
def Cl (P : Program) (w : World) (K : PySem.W.Frag) (mg : Str → Option Value) (base : Heap) (k : Nat) (x : Str) (ps : List Str) (sp : Sp) : Prop :=
  ∃ (f : Addr) (fd : FuncData), FnOk P w K mg base CX0 k f fd ps sp ∧ mg x = some (.ref f) ∧ PySem.W.keepIn K (.ref f) = true ∧ Binds K fd ps []
theorem pe_cl {X : Cx} {j k : Nat} {x : Str} {ps : List Str} {sp : Sp} {e : Expr} {es : List Expr} {t : TA} {p pos : Pos} (D : Cl X.prog X.w X.K X.mg X.base k x ps sp) (hr : Room j X.A) (ha : PA X (e :: es) t) (hk : k ≤ j := by decide) (hg : Gl X x := by rfl)
    (hdb : (x == ("__debug__" : Str)) = false := by decide) (he : starEach (e :: es) X.env = (false, eval e X.env) :: starEach es X.env := by rfl) (hpl : (backTo pos (starEach es X.env)).any (·.1) = false := by rfl) :
    PE X (.Call (.Name x p) (e :: es) [] pos) (tCall sp [] E0 t) := by
  obtain ⟨f, fd, G, g, kp, b⟩ := D
  exact pe_call G (hr.mono hk) hg g kp b .nil pass0 ha hdb he hpl
/-- a def as the top has left it -/
def DefAt (K : PySem.W.Frag) (mg : Str → Option Value) (x : Str) (st : Stmt) (ps : List Str) : Prop :=
  ∃ (f : Addr) (fd : FuncData), Fun K x x st f fd ∧ mg x = some (.ref f) ∧ Binds K fd ps []
theorem DefAt.cl {P : Program} {w : World} {K : PySem.W.Frag} {mg : Str → Option Value} {base : Heap} {k : Nat} {x : Str} {st : Stmt} {ps : List Str} {sp : Sp} (D : DefAt K mg x st ps)
    (h : ∀ f fd, Fun K x x st f fd → FnOk P w K mg base CX0 k f fd ps sp) : Cl P w K mg base k x ps sp := by
  obtain ⟨f, fd, F, g, b⟩ := D
  exact ⟨f, fd, h f fd F, g, F.kp, b⟩
theorem defAt_mk {K : PySem.W.Frag} {h : Heap} {mg : Str → Option Value} {x : Str} {st : Stmt} {ps : List Str} {f : Addr} {od an : Option Addr} {sl : Array (Option Value)} {oc kV dc pm cd ct : Value} (X : K.In h) (G : h.Ns mainGlobals mg)
    (a : PySem.W.nsIn K mainGlobals x = some (some (.ref f))) (l : K.lookup f = some ⟨oc, od, .func (PySem.W.fnOf x x (defArgs st) (defBody st) (defScope st) .none kV dc pm an cd ct), sl⟩) (c : PySem.W.codeIn K cd x = true) (k : PySem.W.keepIn K (.ref f) = true)
    (hb : ∀ (kV doc pm : Value) (an : Option Addr) (cdv ct : Value) (us : List Value), us.length = ps.length → bindArgs (PySem.W.fnOf x x (defArgs st) (defBody st) (defScope st) .none kV doc pm an cdv ct) ⟨us, []⟩ = pure (ps.zip us)) : DefAt K mg x st ps := by
  have F := fun_mk (st := st) l c k
  exact ⟨f, _, F, PySem.W.mg_of X G a, F.binds hb⟩
/-! ### heaps -/
theorem same_upd {H : Hp} {p : Addr} {o : HO} (h : H p = none) : Same H (upd H p o) := fun b x e => by
  rw [upd_ne (ne_of_none e h)]
  exact e
/-- all but two objects stands as it was -/
def Kp2 (h c : Addr) (H H' : Hp) : Prop := ∀ b o, H b = some o → b ≠ h → b ≠ c → H' b = some o
theorem Kp2.refl (h c : Addr) (H : Hp) : Kp2 h c H H := fun _ _ e _ _ => e
theorem Kp2.trans {h c : Addr} {H H1 H2 : Hp} (a : Kp2 h c H H1) (b : Kp2 h c H1 H2) : Kp2 h c H H2 := fun x o e n1 n2 => b x o (a x o e n1 n2) n1 n2
theorem Same.kp2 {h c : Addr} {H H1 : Hp} (a : Same H H1) : Kp2 h c H H1 := fun b o e _ _ => a b o e
/-- the list that is drawn from stands at h, its cells at c -/
structure HAt (H : Hp) (h c : Addr) : Prop where
  ex : ∃ (mx pl : Int) (ns : List Int), H h = some (.lst [.int mx, .ref c, .int pl]) ∧ H c = some (.lst (ns.map V.int)) ∧ 0 ≤ mx ∧ mx < 2147483647 ∧ 0 ≤ pl ∧ ns.length ≤ 63
  ne : h ≠ c
theorem HAt.same {H H' : Hp} {h c : Addr} (a : HAt H h c) (s : Same H H') : HAt H' h c := by
  obtain ⟨⟨mx, pl, ns, e1, e2, e3⟩, n⟩ := a
  exact ⟨⟨mx, pl, ns, s _ _ e1, s _ _ e2, e3⟩, n⟩
theorem HAt.neT {H : Hp} {h c p : Addr} {xs : List V} (a : HAt H h c) (e : H p = some (.tup xs)) : p ≠ h ∧ p ≠ c := by
  obtain ⟨⟨mx, pl, ns, e1, e2, e3⟩, n⟩ := a
  exact ⟨ne_of e e1 (by intro q; cases q), ne_of e e2 (by intro q; cases q)⟩
/-- a tuple stands behind a draw -/
theorem Kp2.tup {H H' : Hp} {h c p : Addr} {xs : List V} (k : Kp2 h c H H') (a : HAt H h c) (e : H p = some (.tup xs)) : H' p = some (.tup xs) := k p _ e (a.neT e).1 (a.neT e).2
/-! ### rules as tuples -/
def Ru.kind : Ru → Str
  | .cnt _ _ => "count"
  | .shf _ _ => "shift"
  | .rgh _ => "rough"
def Ru.nums : Ru → List Int
  | .cnt b s => [(b : Int), (s : Int)]
  | .shf b s => [(b : Int), (s : Int)]
  | .rgh b => [(b : Int)]
def Ru.tup (R : Ru) : List V := .str R.kind :: R.nums.map V.int
def Ru.lim : Ru → List Int
  | .cnt _ _ => [6, 20]
  | .shf _ _ => [10, 20]
  | .rgh _ => [3]
abbrev RuAt (H : Hp) (p : Addr) (R : Ru) : Prop := H p = some (.tup R.tup)
theorem Ru.at0 (R : Ru) : atI R.tup 0 = some (.str R.kind) := atI_nat (j := 0) rfl
theorem Ru.at1 (R : Ru) : atI R.tup 1 = some (.int (R.bits : Int)) := by
  cases R <;> exact atI_nat (j := 1) rfl
theorem Ru.bits_pos {R : Ru} (h : R.ok) : 1 ≤ R.bits ∧ R.bits ≤ 10 := by
  cases R with
  | cnt b s => obtain ⟨h1, h2, h3, h4⟩ : 1 ≤ b ∧ b ≤ 6 ∧ 1 ≤ s ∧ s ≤ 20 := h; exact ⟨h1, by show b ≤ 10; omega⟩
  | shf b s => obtain ⟨h1, h2, h3, h4⟩ : 1 ≤ b ∧ b ≤ 10 ∧ 1 ≤ s ∧ s ≤ 20 := h; exact ⟨h1, h2⟩
  | rgh b => obtain ⟨h1, h2⟩ : 1 ≤ b ∧ b ≤ 3 := h; exact ⟨h1, by show b ≤ 10; omega⟩
theorem cut1 (xs : List V) : cutV xs (some 1) none = xs.drop 1 := by
  unfold cutV
  rw [show HT.sIx xs.length 0 (some 1) = min 1 xs.length from HT.sIx_nat xs.length 0 1, HT.sIx_none]
  cases xs with
  | nil => rfl
  | cons x r =>
    rw [show min 1 (x :: r).length = 1 by
      rw [List.length_cons]
      omega]
    show (List.take ((x :: r).length - 1) r) = r
    rw [List.length_cons, Nat.add_sub_cancel]
    exact List.take_length
/-! ### whether texts are alike -/
theorem dec_str {a b : Str} : decide (V.str a = V.str b) = decide (a = b) := by
  by_cases h : a = b
  · subst h; rw [decide_eq_true rfl, decide_eq_true rfl]
  · rw [decide_eq_false h, decide_eq_false (fun q => h (V.str.inj q))]
theorem dec_int {a b : Int} : decide (V.int a = V.int b) = decide (a = b) := by
  by_cases h : a = b
  · subst h; rw [decide_eq_true rfl, decide_eq_true rfl]
  · rw [decide_eq_false h, decide_eq_false (fun q => h (V.int.inj q))]
/-! ### a comprehension over zip of two tuples -/
theorem lc_zipT {K : PySem.W.Frag} {a b : Addr} {xs ys : List V} {g : TG} {tt : TT} {te : TE} {vs : List Nat} {σ : L2.St} {H1 : Hp} {D : Addr} {Qd : Hp → Prop} (hl : xs.length = ys.length) (Pv : Nat → Hp → Prop) (h0 : Pv 0 (upd H1 D (.lst []))) (hq : ∀ i H, Pv i H → SqT K H a xs ∧ SqT K H b ys)
    (hs : ∀ i x y T H, xs[i]? = some x → ys[i]? = some y → Pv i H → H T = none → g (.ref T) (wipe σ vs) (upd H T (.tup [x, y])) fun σ2 H2 => wipe σ2 vs = wipe σ vs ∧ tt σ2 H2 fun b H3 =>
      if b = true then te σ2 H3 fun y H4 => ∃ acc, H4 D = some (.lst acc) ∧ acc.length < sizeLine ∧ Pv (i + 1) (upd H4 D (.lst (acc ++ [y]))) else Pv (i + 1) H3) (hd : ∀ H, Pv xs.length H → Qd H) :
    ∃ W : Nat → Nat → Hp → Prop, (∃ m, W 0 m (upd H1 D (.lst []))) ∧ ∀ i m H, W i m H →
      ((ItzT K a b).stop i H ∧ Qd H) ∨ ((ItzT K a b).go i H ∧ ∃ Nx : Hp → Prop, (∀ H', Nx H' → ∃ m', m' < m ∧ W (i + 1) m' H') ∧ ∀ x H', (ItzT K a b).yld i H x H' → g x (wipe σ vs) H' fun σ2 H2 => wipe σ2 vs = wipe σ vs ∧ tt σ2 H2 fun b H3 =>
        if b = true then te σ2 H3 fun y H4 => ∃ acc, H4 D = some (.lst acc) ∧ acc.length < sizeLine ∧ Nx (upd H4 D (.lst (acc ++ [y]))) else Nx H3) := by
  refine ⟨fun i m H => m = xs.length - i ∧ i ≤ xs.length ∧ Pv i H, ⟨xs.length, by simp, Nat.zero_le _, h0⟩, ?_⟩
  rintro i m H ⟨rfl, hi, p⟩
  obtain ⟨qx, qy⟩ := hq i H p
  by_cases hlt : i < xs.length
  · have hx : xs[i]? = some xs[i] := List.getElem?_eq_getElem hlt
    have hlt2 : i < ys.length := by omega
    have hy : ys[i]? = some ys[i] := List.getElem?_eq_getElem hlt2
    refine .inr ⟨⟨xs, ys, _, _, qx, qy, hx, hy⟩, Pv (i + 1), fun H' p' => ⟨xs.length - (i + 1), by omega, rfl, hlt, p'⟩, fun x H' y => ?_⟩
    obtain ⟨T, x', y', rfl, hT, rfl, f1, f2⟩ := y
    exact hs i x' y' T H (f1 xs qx) (f2 ys qy) p hT
  · have e : i = xs.length := by omega
    subst e
    exact .inl ⟨⟨xs, ys, qx, qy, Or.inl (Nat.le_refl _)⟩, hd H p⟩
/-! ### lists of ints against the empty list -/
theorem dpAll_ints {K : PySem.W.Frag} {H : Hp} : ∀ ns : List Int, DpAll K H (ns.map V.int) (ns.map PyData.int)
  | [] => .nil
  | n :: r => .cons (.int n) (dpAll_ints r)
theorem eqv_nil (ns : List Int) : PyData.eqv (.list (ns.map PyData.int)) (.list []) = ns.isEmpty := by
  cases ns with
  | nil => simp [PyData.eqv, PyData.eqvAll]
  | cons n r => simp [PyData.eqv, PyData.eqvAll]
theorem ixN_nn {n : Nat} {i : Int} (h0 : 0 ≤ i) (h1 : i < n) : ixN n i = some i.toNat := by
  unfold ixN
  rw [if_pos h0, if_pos h1]
/-- two ways to one value -/
theorem join_if {te1 te2 : TE} {σ : L2.St} {H1 : Hp} {Q' : VK} {c : Bool} (G : V → Hp → Prop) (hG : ∀ v H', G v H' → Q' v H') (h1 : c = true → ∃ v H', (∀ Q : VK, Q v H' → te1 σ H1 Q) ∧ G v H')
    (h2 : c = false → ∃ v H', (∀ Q : VK, Q v H' → te2 σ H1 Q) ∧ G v H') : if c = true then te1 σ H1 Q' else te2 σ H1 Q' := by
  cases c with
  | true =>
    obtain ⟨v, H', e, g⟩ := h1 rfl
    rw [if_pos rfl]
    exact e _ (hG _ _ g)
  | false =>
    obtain ⟨v, H', e, g⟩ := h2 rfl
    rw [if_neg Bool.false_ne_true]
    exact e _ (hG _ _ g)
/-- over a range, with a break -/
theorem for_rangeB {lo : Int} {n : Nat} {g : TG} {tb : TS} {D : Ends} {σ : L2.St} {H : Hp} (Pv : Nat → L2.St → Hp → Prop) (Post : L2.St → Hp → Prop) (h0 : Pv 0 σ H)
    (hs : ∀ (bk : L2.St → Hp → Prop), (∀ σ H, Post σ H → bk σ H) → ∀ i σ H, i < n → Pv i σ H → g (.int (lo + i)) σ H fun σ2 H2 => tb { D with nx := Pv (i + 1), ct := Pv (i + 1), bk := bk } σ2 H2) (hd : ∀ σ H, Pv n σ H → Post σ H) (hp : ∀ σ H, Post σ H → D.nx σ H) :
    ∃ W : Nat → Nat → L2.St → Hp → Prop, (∃ m, W 0 m σ H) ∧ ∀ i m σ H, W i m σ H →
      ((Itr lo n).stop i H ∧ D.nx σ H) ∨ ((Itr lo n).go i H ∧ ∃ N : L2.St → Hp → Prop, (∀ σ' H', N σ' H' → ∃ m', m' < m ∧ W (i + 1) m' σ' H') ∧ ∀ x H', (Itr lo n).yld i H x H' → g x σ H' fun σ2 H2 => tb { D with nx := N, ct := N, bk := D.nx } σ2 H2) :=
  for_range Pv h0 (hs D.nx hp) fun σ H h => hp σ H (hd σ H h)
/-- two ways to values of one kind -/
theorem join_ifA {te1 te2 : TE} {σ : L2.St} {H1 : Hp} {Q' : VK} {c : Bool} (G : V → Hp → Prop) (hG : ∀ v H', G v H' → Q' v H') (h1 : c = true → ∀ Q : VK, (∀ v H', G v H' → Q v H') → te1 σ H1 Q)
    (h2 : c = false → ∀ Q : VK, (∀ v H', G v H' → Q v H') → te2 σ H1 Q) : if c = true then te1 σ H1 Q' else te2 σ H1 Q' := by
  cases c with
  | true =>
    rw [if_pos rfl]
    exact h1 rfl Q' hG
  | false =>
    rw [if_neg Bool.false_ne_true]
    exact h2 rfl Q' hG
/-- a statement by what holds behind it -/
theorem abs_nx {t : TS} {D : Ends} {σ : L2.St} {H : Hp} (G : L2.St → Hp → Prop) (h : ∀ nx' : L2.St → Hp → Prop, (∀ σ' H', G σ' H' → nx' σ' H') → t { D with nx := nx' } σ H) (hG : ∀ σ' H', G σ' H' → D.nx σ' H') : t D σ H := h D.nx hG
theorem le64 {i : Int} (h0 : 0 ≤ i) (h : i < 18446744073709551616) : -(2 ^ 64) < i ∧ i < 2 ^ 64 := by
  constructor <;> omega
end LS
namespace LS
open PySem PySem.Spec PyProof.Rows L2 RZ
def top (i : Nat) : Stmt := PySem.Challenge.pw_lastseen_k11_texts_that_tell_no_steps.main.body.getD i (.Pass ⟨0, 0, 0, 0⟩)
abbrev m_BadText_init : Stmt := inClass (top 9) 0
abbrev s_read : Stmt := top 13
abbrev s_is_step : Stmt := top 14
abbrev s_is_number : Stmt := top 15
abbrev s_L_mix : Stmt := top 17
abbrev s_L_next : Stmt := top 18
abbrev s_L_alike : Stmt := top 19
abbrev s_L_text : Stmt := top 20
abbrev s_L_due : Stmt := top 21
abbrev s_L_told : Stmt := top 22
abbrev s_L_changed : Stmt := top 23
abbrev s_law : Stmt := top 24
/-! ### what stands behind a change; lists of marks -/
/-- all but some objects stands as it was -/
def KpL (L : List Addr) (H H' : Hp) : Prop := ∀ b o, H b = some o → ¬ b ∈ L → H' b = some o
theorem KpL.refl (L : List Addr) (H : Hp) : KpL L H H := fun _ _ e _ => e
theorem KpL.trans {L : List Addr} {H H1 H2 : Hp} (a : KpL L H H1) (b : KpL L H1 H2) : KpL L H H2 := fun x o e n => b x o (a x o e n) n
theorem KpL.mono {L L' : List Addr} {H H1 : Hp} (a : KpL L H H1) (h : ∀ x, x ∈ L → x ∈ L') : KpL L' H H1 := fun x o e n => a x o e fun z => n (h x z)
theorem Same.kpL {L : List Addr} {H H1 : Hp} (a : Same H H1) : KpL L H H1 := fun b o e _ => a b o e
theorem KpL.free {L : List Addr} {H H1 : Hp} (a : KpL L H H1) {x : Addr} (h : H1 x = none) (n : ¬ x ∈ L) : H x = none := by
  cases q : H x with
  | none => rfl
  | some o =>
    rw [a x o q n] at h
    cases h
def nvs (ms : List Nat) : List V := (ms.map Int.ofNat).map V.int
theorem rep_one (k : Nat) (v : V) : (List.replicate k [v]).flatten = List.replicate k v := by
  induction k with
  | zero => rfl
  | succ k ih => rw [List.replicate_succ, List.flatten_cons, ih, List.replicate_succ]; rfl
theorem nvs_len (ms : List Nat) : (nvs ms).length = ms.length := by
  unfold nvs
  rw [List.length_map, List.length_map]
theorem nvs_get {ms : List Nat} {j : Nat} (h : j < ms.length) : (nvs ms)[j]? = some (.int ((ms.getD j 0 : Nat) : Int)) := by
  unfold nvs
  rw [List.getElem?_map, List.getElem?_map, List.getElem?_eq_getElem h, List.getD_eq_getElem?_getD, List.getElem?_eq_getElem h]
  rfl
theorem nvs_set (ms : List Nat) (j x : Nat) : (nvs ms).set j (.int (x : Int)) = nvs (ms.set j x) := by
  unfold nvs
  rw [List.map_set, List.map_set]
  rfl
theorem getD_mem {ms : List Nat} {j : Nat} (h : j < ms.length) : ms.getD j 0 ∈ ms := by
  rw [List.getD_eq_getElem?_getD, List.getElem?_eq_getElem h]
  exact List.getElem_mem h
theorem Kp2.kpL {h c : Addr} {H H' : Hp} (k : Kp2 h c H H') : KpL [h, c] H H' := fun b o e n => k b o e (fun z => n (by rw [z]; simp)) (fun z => n (by rw [z]; simp))
theorem nin2 {x a b : Addr} (h1 : x ≠ a) (h2 : x ≠ b) : ¬ x ∈ [a, b] := by
  intro z
  rcases List.mem_cons.mp z with z | z
  · exact h1 z
  · exact h2 (List.mem_singleton.mp z)
/-! ### methods and errors by their promises -/
/-- a method by its promise alone -/
def ClM (P : Program) (w : World) (K : PySem.W.Frag) (mg : Str → Option Value) (base : Heap) (CX : CXT) (k : Nat) (C : Addr) (m : Str) (ps : List Str) (sp : Sp) : Prop :=
  ∃ (f : Addr) (fd : FuncData), FnOk P w K mg base CX k f fd ps sp ∧ Meth K C m f ∧ Binds K fd ps []
theorem pe_cm {X : Cx} {CX : CXT} {E : XK} {j k : Nat} {C : Addr} {m : Str} {ps : List Str} {sp : Sp} {o e : Expr} {es : List Expr} {ta : TE} {t : TA} {apos pos : Pos} {pl : Sem Bool} (D : ClM X.prog X.w X.K X.mg X.base CX k C m ps sp) (c : Cls X.K C)
    (hx : Passes CX X E) (hr : Room j X.A) (he : PE X o ta) (ha : PA X (e :: es) t) (hk : k ≤ j := by decide)
    (hst : starEach (e :: es) X.env = (false, eval e X.env) :: starEach es X.env := by rfl) (hpl : (backTo pos (starEach es X.env)).any (·.1) = false := by rfl)
    (ht : eval (.Call (.Attribute o m apos) (e :: es) [] pos) X.env = (do
      let ov ← eval o X.env
      standAt apos.atName
      let (f, first) ← holding [ov] (getMethod ov m pl)
      callWith pos f first (backTo pos (starEach (e :: es) X.env)) (backToKw pos (keywordEach [] X.env))) := by rfl) :
    PE X (.Call (.Attribute o m apos) (e :: es) [] pos) (tMeth C m sp [] E ta t) := by
  obtain ⟨f, fd, G, M, b⟩ := D
  exact pe_meth he c M G (hr.mono hk) b .nil hx ha hst hpl ht
theorem pe_cm0 {X : Cx} {CX : CXT} {E : XK} {j k : Nat} {C : Addr} {m : Str} {ps : List Str} {sp : Sp} {o : Expr} {ta : TE} {apos pos : Pos} {pl : Sem Bool} (D : ClM X.prog X.w X.K X.mg X.base CX k C m ps sp) (c : Cls X.K C)
    (hx : Passes CX X E) (hr : Room j X.A) (he : PE X o ta) (hk : k ≤ j := by decide)
    (ht : eval (.Call (.Attribute o m apos) [] [] pos) X.env = (do
      let ov ← eval o X.env
      standAt apos.atName
      let (f, first) ← holding [ov] (getMethod ov m pl)
      callWith pos f first (backTo pos (starEach [] X.env)) (backToKw pos (keywordEach [] X.env))) := by rfl) :
    PE X (.Call (.Attribute o m apos) [] [] pos) (tMeth C m sp [] E ta tNil) := by
  obtain ⟨f, fd, G, M, b⟩ := D
  exact pe_meth0 he c M G (hr.mono hk) b .nil hx ht
/-- a method as the top has left it -/
def DefM (K : PySem.W.Frag) (C : Addr) (m q : Str) (st : Stmt) (ps : List Str) : Prop :=
  ∃ (f : Addr) (fd : FuncData), Fun K m q st f fd ∧ Meth K C m f ∧ Binds K fd ps []
theorem DefM.cl {P : Program} {w : World} {K : PySem.W.Frag} {mg : Str → Option Value} {base : Heap} {CX : CXT} {k : Nat} {C : Addr} {m q : Str} {st : Stmt} {ps : List Str} {sp : Sp} (D : DefM K C m q st ps)
    (h : ∀ f fd, Fun K m q st f fd → FnOk P w K mg base CX k f fd ps sp) : ClM P w K mg base CX k C m ps sp := by
  obtain ⟨f, fd, F, g, b⟩ := D
  exact ⟨f, fd, h f fd F, g, b⟩
theorem defM_mk {K : PySem.W.Frag} {C : Addr} {m q : Str} {st : Stmt} {ps : List Str} {f : Addr} {od an : Option Addr} {sl : Array (Option Value)} {oc kV dc pm cd ct : Value}
    (a : PySem.W.findIn K (.ref C) m = some (some (.ref f))) (i : PySem.W.isFn K (.ref f) = true) (l : K.lookup f = some ⟨oc, od, .func (PySem.W.fnOf m q (defArgs st) (defBody st) (defScope st) .none kV dc pm an cd ct), sl⟩) (c : PySem.W.codeIn K cd q = true) (k : PySem.W.keepIn K (.ref f) = true)
    (hb : ∀ (kV doc pm : Value) (an : Option Addr) (cdv ct : Value) (us : List Value), us.length = ps.length → bindArgs (PySem.W.fnOf m q (defArgs st) (defBody st) (defScope st) .none kV doc pm an cdv ct) ⟨us, []⟩ = pure (ps.zip us)) : DefM K C m q st ps := by
  have F := fun_mk (st := st) l c k
  exact ⟨f, _, F, ⟨a, i, k⟩, F.binds hb⟩
/-- an own error's class -/
structure ErrC (K : PySem.W.Frag) (mg : Str → Option Value) (x : Str) (c : Addr) : Prop where
  g : mg x = some (.ref c)
  x : PySem.W.excIn K c [.type "ValueError", .type "Exception", .type "BaseException", .type "object"] "ValueError.__new__" = true
  k : PySem.W.keepIn K (.ref c) = true
  b : PySem.W.subIn K (.ref c) (.type "BaseException") = some true
  t : PySem.W.typeIn K (.ref c) = some (.type "type")
theorem ps_err {X : Cx} {W : WX} {x m : Str} {c : Addr} {j : Nat} {p p2 pos pos2 : Pos} (hc : X.calm = true) (tk : Takes X W) (e : ErrC X.K X.mg x c) (hg : Gl X x) (hdb : (x == ("__debug__" : Str)) = false := by decide) :
    PS X (.Raise (some (.Call (.Name x p) [.Constant (.str m) j p2] [] pos)) none pos2) (fun _ σ H => W (.ref c) none σ H) :=
  ps_raise hc tk (pmk_own PySem.F.excBase_ValueError e.x e.g e.k (raises_own e.b e.t) hg hdb)
/-- a def that may raise, by its promise -/
def ClX (P : Program) (w : World) (K : PySem.W.Frag) (mg : Str → Option Value) (base : Heap) (k : Nat) (x : Str) (ps : List Str) (sp : Sp) : Prop :=
  ∃ (f : Addr) (fd : FuncData), FnOk P w K mg base (L2.CX P w) k f fd ps sp ∧ mg x = some (.ref f) ∧ PySem.W.keepIn K (.ref f) = true ∧ Binds K fd ps []
theorem pe_clx {X : Cx} {E : XK} {j k : Nat} {x : Str} {ps : List Str} {sp : Sp} {e : Expr} {es : List Expr} {t : TA} {p pos : Pos} (D : ClX X.prog X.w X.K X.mg X.base k x ps sp) (hx : Passes (L2.CX X.prog X.w) X E) (hr : Room j X.A) (ha : PA X (e :: es) t) (hk : k ≤ j := by decide) (hg : Gl X x := by rfl)
    (hdb : (x == ("__debug__" : Str)) = false := by decide) (he : starEach (e :: es) X.env = (false, eval e X.env) :: starEach es X.env := by rfl) (hpl : (backTo pos (starEach es X.env)).any (·.1) = false := by rfl) :
    PE X (.Call (.Name x p) (e :: es) [] pos) (tCall sp [] E t) := by
  obtain ⟨f, fd, G, g, kp, b⟩ := D
  exact pe_call G (hr.mono hk) hg g kp b .nil hx ha hdb he hpl
theorem DefAt.clx {P : Program} {w : World} {K : PySem.W.Frag} {mg : Str → Option Value} {base : Heap} {k : Nat} {x : Str} {st : Stmt} {ps : List Str} {sp : Sp} (D : DefAt K mg x st ps)
    (h : ∀ f fd, Fun K x x st f fd → FnOk P w K mg base (L2.CX P w) k f fd ps sp) : ClX P w K mg base k x ps sp := by
  obtain ⟨f, fd, F, g, b⟩ := D
  exact ⟨f, fd, h f fd F, g, F.kp, b⟩
/-! ### whether two things are alike: the same data on both sides -/
theorem Same.seqT {K : PySem.W.Frag} {H H' : Hp} {a : Addr} {xs : List V} (e : Same H H') (h : SqT K H a xs) : SqT K H' a xs := by
  rcases h with (h | ⟨o, h⟩) | h
  · exact .inl (.inl (e _ _ h))
  · exact .inl (.inr ⟨o, e _ _ h⟩)
  · exact .inr h
mutual
theorem Dp.same {K : PySem.W.Frag} {H H' : Hp} (e : Same H H') : ∀ (d : PyData) (v : V), Dp K H v d → Dp K H' v d
  | .none, _, h => by cases h; exact .non
  | .bool b, _, h => by cases h; exact .bl b
  | .int i, _, h => by cases h; exact .int i
  | .str x, _, h => by cases h; exact .str x
  | .list ds, _, h => by
    cases h with
    | lst hs ha => exact .lst (Same.seq e hs) (DpAll.same e ds _ ha)
  | .tuple ds, _, h => by
    cases h with
    | tup hs ha => exact .tup (Same.seqT e hs) (DpAll.same e ds _ ha)
  | .dict _, _, h => by cases h
theorem DpAll.same {K : PySem.W.Frag} {H H' : Hp} (e : Same H H') : ∀ (ds : List PyData) (vs : List V), DpAll K H vs ds → DpAll K H' vs ds
  | [], _, h => by cases h; exact .nil
  | d :: ds, _, h => by
    cases h with
    | cons h1 h2 => exact .cons (Dp.same e d _ h1) (DpAll.same e ds _ h2)
end
theorem dpAll_len {K : PySem.W.Frag} {H : Hp} : ∀ {ds : List PyData} {vs : List V}, DpAll K H vs ds → vs.length = ds.length
  | [], _, h => by cases h; rfl
  | d :: ds, _, h => by
    cases h with
    | cons h1 h2 => exact congrArg (· + 1) (dpAll_len h2)
theorem dpAll_get {K : PySem.W.Frag} {H : Hp} : ∀ {ds : List PyData} {vs : List V} {i : Nat}, DpAll K H vs ds → i < ds.length → ∃ v d, vs[i]? = some v ∧ ds[i]? = some d ∧ Dp K H v d
  | [], _, _, _, l => absurd l (Nat.not_lt_zero _)
  | d :: ds, _, 0, h, _ => by
    cases h with
    | cons h1 h2 => exact ⟨_, d, rfl, rfl, h1⟩
  | d :: ds, _, i + 1, h, l => by
    cases h with
    | cons h1 h2 =>
      obtain ⟨v, d', e1, e2, e3⟩ := dpAll_get h2 (Nat.lt_of_succ_lt_succ l)
      exact ⟨v, d', e1, e2, e3⟩
theorem depth_get : ∀ {ds : List PyData} {i : Nat} {d : PyData}, ds[i]? = some d → PyData.depth d ≤ PyData.depthAll ds
  | [], _, _, h => by simp at h
  | x :: ds, 0, d, h => by
    have e : x = d := Option.some.inj h
    subst e
    simp only [PyData.depthAll]
    omega
  | x :: ds, i + 1, d, h => by
    have ih := depth_get (ds := ds) (i := i) (d := d) h
    simp only [PyData.depthAll]
    omega
mutual
/-- lists of at most a thousand items -/
def szOk : PyData → Bool
  | .list xs => decide (xs.length ≤ 100000) && szAll xs
  | .tuple xs => decide (xs.length ≤ 100000) && szAll xs
  | _ => true
def szAll : List PyData → Bool
  | [] => true
  | x :: r => szOk x && szAll r
end
theorem szOk_lst {ds : List PyData} (h : szOk (.list ds) = true) : ds.length ≤ 100000 ∧ szAll ds = true := by
  simp only [szOk, Bool.and_eq_true, decide_eq_true_eq] at h
  exact h
theorem szOk_tup {ds : List PyData} (h : szOk (.tuple ds) = true) : ds.length ≤ 100000 ∧ szAll ds = true := by
  simp only [szOk, Bool.and_eq_true, decide_eq_true_eq] at h
  exact h
theorem sz_get : ∀ {ds : List PyData} {i : Nat} {d : PyData}, ds[i]? = some d → szAll ds = true → szOk d = true
  | [], _, _, h, _ => by simp at h
  | x :: ds, 0, d, h, a => by
    have e : x = d := Option.some.inj h
    subst e
    simp only [szAll, Bool.and_eq_true] at a
    exact a.1
  | x :: ds, i + 1, d, h, a => by
    simp only [szAll, Bool.and_eq_true] at a
    exact sz_get (ds := ds) (i := i) (d := d) h a.2
theorem ty_list {K : PySem.W.Frag} {H : Hp} {a : Addr} {xs : List V} (h : SqL K H a xs) : TyX K H (.ref a) (.type "list") := by
  rcases h with (h | ⟨o, h⟩) | ⟨o, its, n, hk, hc, _⟩
  · exact .base (.lst h)
  · exact .base (.frz h)
  · exact .kList hk hc
theorem ty_tup {K : PySem.W.Frag} {H : Hp} {a : Addr} {xs : List V} (h : SqT K H a xs) : TyX K H (.ref a) (.type "tuple") := by
  rcases h with (h | ⟨o, h⟩) | ⟨o, its, n, hk, hc, _⟩
  · exact .base (.tup h)
  · exact .fTuple h
  · exact .kTuple hk hc
/-- alike: the same data, of small lists -/
def spAlike (K : PySem.W.Frag) (n : Nat) : Sp := fun vs H Q _ => ∃ (x y : V) (d : PyData), vs = [x, y] ∧ Dp K H x d ∧ Dp K H y d ∧ PyData.depth d ≤ n ∧ szOk d = true ∧ ∀ H', Same H H' → Q (.bl true) H'
section
variable {P : Program} {w : World} {K : PySem.W.Frag} {mg : Str → Option Value} {base : Heap}
theorem sc_alike : FnScope ["_law_found", "_law_due_here", "_law_k"] ["_law_found", "_law_due_here"] (defScope s_L_alike) := ⟨rfl, rfl, rfl, by decide +kernel, rfl, by decide +kernel, by decide +kernel⟩
theorem ok_alike0 (D : DefAt K mg "_law_alike" s_L_alike ["_law_found", "_law_due_here"]) (m_isi : mg "isinstance" = none) (m_tuple : mg "tuple" = none) (m_list : mg "list" = none) (m_str : mg "str" = none) (m_bool : mg "bool" = none) (m_int : mg "int" = none) :
    Cl P w K mg base 1 "_law_alike" ["_law_found", "_law_due_here"] (spAlike K 0) := by
  refine D.cl fun f fd F => ?_
  refine F.ok sc_alike (fun vs H Q E h => ?_) (fun cdv A outer s H vs Q E hr h => ?_)
  · obtain ⟨x, y, d, rfl, _⟩ := h
    rfl
  · obtain ⟨x, y, d, rfl, hx, hy, hd, hz, q⟩ := h
    refine ⟨_, pss_cons (ps_if (pt_val (pe_callB call_isiT (by rfl) m_isi (by decide +kernel) (pa_cons (pv 1) (pa_cons (pe_tup (pa_cons (pe_bltn (v := .ty "tuple") (u := .type "tuple") (by rfl) m_tuple (by decide +kernel) rfl) (pa_cons (pe_bltn (v := .ty "list") (u := .type "list") (by rfl) m_list (by decide +kernel) rfl) pa_nil))) pa_nil)))) pss_never pss_nil)
      (pss_cons (ps_if (pt_cmp (pc_isN (pv 1)) rfl) (pss_one (ps_ret (pe_cmp (pc_isN (pv 0)) rfl))) pss_nil)
      (pss_cons (ps_if (pt_val (pe_callB call_isi (by rfl) m_isi (by decide +kernel) (pa_cons (pv 1) (pa_cons (pe_bltn (v := .ty "str") (u := .type "str") (by rfl) m_str (by decide +kernel) rfl) pa_nil)))) (pss_one (ps_ret (pe_and (pe_callB call_isi (by rfl) m_isi (by decide +kernel) (pa_cons (pv 0) (pa_cons (pe_bltn (v := .ty "str") (u := .type "str") (by rfl) m_str (by decide +kernel) rfl) pa_nil))) (pe_one (pe_cmpR op_eq (pv 0) (pv 1) (nomark _)))))) pss_nil)
      (pss_cons (ps_if (PW.pt (pw_or (pt_val (pe_callB call_isi (by rfl) m_isi (by decide +kernel) (pa_cons (pv 1) (pa_cons (pe_bltn (v := .ty "bool") (u := .type "bool") (by rfl) m_bool (by decide +kernel) rfl) pa_nil)))) (pw_or1 (pt_val (pe_callB call_isi (by rfl) m_isi (by decide +kernel) (pa_cons (pv 0) (pa_cons (pe_bltn (v := .ty "bool") (u := .type "bool") (by rfl) m_bool (by decide +kernel) rfl) pa_nil))))))) (pss_one (ps_ret (pe_and (pe_callB call_isi (by rfl) m_isi (by decide +kernel) (pa_cons (pv 1) (pa_cons (pe_bltn (v := .ty "bool") (u := .type "bool") (by rfl) m_bool (by decide +kernel) rfl) pa_nil))) (pe_and (pe_callB call_isi (by rfl) m_isi (by decide +kernel) (pa_cons (pv 0) (pa_cons (pe_bltn (v := .ty "bool") (u := .type "bool") (by rfl) m_bool (by decide +kernel) rfl) pa_nil))) (pe_one (pe_cmpR op_eq (pv 0) (pv 1) (nomark _))))))) pss_nil)
      (pss_one (ps_ret (pe_and (pe_callB call_isi (by rfl) m_isi (by decide +kernel) (pa_cons (pv 0) (pa_cons (pe_bltn (v := .ty "int") (u := .type "int") (by rfl) m_int (by decide +kernel) rfl) pa_nil))) (pe_one (pe_cmpR op_eq (pv 0) (pv 1) (nomark _))))))))), ?_⟩
    cases hx with
    | non =>
      cases hy
      refine ⟨_, rfl, (by show 2 ≤ sizeLine; decide), fun p np => ?_⟩
      refine ⟨.non, p, _, _, _, false, rfl, upd_same, .cons (.ty "tuple") (.cons (.ty "list") .nil), .base (.non), (kitAny_cons (b := false) (kit_ty (by decide +kernel)) (fun _ => kitAny_cons (b := false) (kit_ty (by decide +kernel)) (fun _ => kitAny_nil) (fun e => nomatch e)) (fun e => nomatch e)), _, rfl, iteF ?_⟩
      refine ⟨_, rfl, _, rfl, ?_⟩
      rw [decide_eq_true rfl]
      exact iteT ⟨_, rfl, q _ (same_upd np)⟩
    | bl b =>
      cases hy
      refine ⟨_, rfl, (by show 2 ≤ sizeLine; decide), fun p np => ?_⟩
      refine ⟨.bl b, p, _, _, _, false, rfl, upd_same, .cons (.ty "tuple") (.cons (.ty "list") .nil), .base (.bl b), (kitAny_cons (b := false) (kit_ty (by decide +kernel)) (fun _ => kitAny_cons (b := false) (kit_ty (by decide +kernel)) (fun _ => kitAny_nil) (fun e => nomatch e)) (fun e => nomatch e)), _, rfl, iteF ?_⟩
      refine ⟨_, rfl, _, rfl, ?_⟩
      rw [decide_eq_false (show ¬ V.bl b = .non from fun z => nomatch z)]
      refine iteF ?_
      refine ⟨_, rfl, .bl b, _, _, _, false, rfl, .ty "str", .base (.bl b), kit_ty (by decide +kernel), _, rfl, iteF ?_⟩
      refine ⟨_, rfl, .bl b, _, _, _, true, rfl, .ty "bool", .base (.bl b), kit_ty (by decide +kernel), _, rfl, iteT ?_⟩
      refine ⟨_, rfl, .bl b, _, _, _, true, rfl, .ty "bool", .base (.bl b), kit_ty (by decide +kernel), true, rfl, iteT ?_⟩
      refine ⟨_, rfl, .bl b, _, _, _, true, rfl, .ty "bool", .base (.bl b), kit_ty (by decide +kernel), true, rfl, iteT ⟨_, rfl, _, rfl, rfl, ?_⟩⟩
      rw [decide_eq_true rfl]
      exact q _ (same_upd np)
    | int i =>
      cases hy
      refine ⟨_, rfl, (by show 2 ≤ sizeLine; decide), fun p np => ?_⟩
      refine ⟨.int i, p, _, _, _, false, rfl, upd_same, .cons (.ty "tuple") (.cons (.ty "list") .nil), .base (.int i), (kitAny_cons (b := false) (kit_ty (by decide +kernel)) (fun _ => kitAny_cons (b := false) (kit_ty (by decide +kernel)) (fun _ => kitAny_nil) (fun e => nomatch e)) (fun e => nomatch e)), _, rfl, iteF ?_⟩
      refine ⟨_, rfl, _, rfl, ?_⟩
      rw [decide_eq_false (show ¬ V.int i = .non from fun z => nomatch z)]
      refine iteF ?_
      refine ⟨_, rfl, .int i, _, _, _, false, rfl, .ty "str", .base (.int i), kit_ty (by decide +kernel), _, rfl, iteF ?_⟩
      refine ⟨_, rfl, .int i, _, _, _, false, rfl, .ty "bool", .base (.int i), kit_ty (by decide +kernel), _, rfl, iteF ?_⟩
      refine ⟨_, rfl, .int i, _, _, _, false, rfl, .ty "bool", .base (.int i), kit_ty (by decide +kernel), _, rfl, iteF ?_⟩
      refine ⟨_, rfl, .int i, _, _, _, true, rfl, .ty "int", .base (.int i), kit_ty (by decide +kernel), true, rfl, iteT ⟨_, rfl, _, rfl, rfl, ?_⟩⟩
      rw [decide_eq_true rfl]
      exact q _ (same_upd np)
    | str s =>
      cases hy
      refine ⟨_, rfl, (by show 2 ≤ sizeLine; decide), fun p np => ?_⟩
      refine ⟨.str s, p, _, _, _, false, rfl, upd_same, .cons (.ty "tuple") (.cons (.ty "list") .nil), .base (.str s), (kitAny_cons (b := false) (kit_ty (by decide +kernel)) (fun _ => kitAny_cons (b := false) (kit_ty (by decide +kernel)) (fun _ => kitAny_nil) (fun e => nomatch e)) (fun e => nomatch e)), _, rfl, iteF ?_⟩
      refine ⟨_, rfl, _, rfl, ?_⟩
      rw [decide_eq_false (show ¬ V.str s = .non from fun z => nomatch z)]
      refine iteF ?_
      refine ⟨_, rfl, .str s, _, _, _, true, rfl, .ty "str", .base (.str s), kit_ty (by decide +kernel), _, rfl, iteT ?_⟩
      refine ⟨_, rfl, .str s, _, _, _, true, rfl, .ty "str", .base (.str s), kit_ty (by decide +kernel), true, rfl, iteT ⟨_, rfl, _, rfl, rfl, ?_⟩⟩
      rw [decide_eq_true rfl]
      exact q _ (same_upd np)
    | lst hs ha => exact absurd hd (Nat.not_succ_le_zero _)
    | tup hs ha => exact absurd hd (Nat.not_succ_le_zero _)
theorem ok_alikeS {n : Nat} (D : DefAt K mg "_law_alike" s_L_alike ["_law_found", "_law_due_here"]) (m_isi : mg "isinstance" = none) (m_tuple : mg "tuple" = none) (m_list : mg "list" = none) (m_str : mg "str" = none) (m_bool : mg "bool" = none) (m_int : mg "int" = none) (m_len : mg "len" = none) (m_range : mg "range" = none)
    (C1 : Cl P w K mg base (n + 1) "_law_alike" ["_law_found", "_law_due_here"] (spAlike K n)) : Cl P w K mg base (n + 2) "_law_alike" ["_law_found", "_law_due_here"] (spAlike K (n + 1)) := by
  refine D.cl fun f fd F => ?_
  refine F.ok sc_alike (fun vs H Q E h => ?_) (fun cdv A outer s H vs Q E hr h => ?_)
  · obtain ⟨x, y, d, rfl, _⟩ := h
    rfl
  · obtain ⟨x, y, d, rfl, hx, hy, hd, hz, q⟩ := h
    refine ⟨_, pss_cons (ps_if (pt_val (pe_callB call_isiT (by rfl) m_isi (by decide +kernel) (pa_cons (pv 1) (pa_cons (pe_tup (pa_cons (pe_bltn (v := .ty "tuple") (u := .type "tuple") (by rfl) m_tuple (by decide +kernel) rfl) (pa_cons (pe_bltn (v := .ty "list") (u := .type "list") (by rfl) m_list (by decide +kernel) rfl) pa_nil))) pa_nil))))
        (pss_cons (ps_if (PW.pt (pw_or (pt_not (pt_val (pe_callB call_isiT (by rfl) m_isi (by decide +kernel) (pa_cons (pv 0) (pa_cons (pe_tup (pa_cons (pe_bltn (v := .ty "tuple") (u := .type "tuple") (by rfl) m_tuple (by decide +kernel) rfl) (pa_cons (pe_bltn (v := .ty "list") (u := .type "list") (by rfl) m_list (by decide +kernel) rfl) pa_nil))) pa_nil))))) (pw_or1 (pt_cmpR op_ne (pe_callB call_isi (by rfl) m_isi (by decide +kernel) (pa_cons (pv 0) (pa_cons (pe_bltn (v := .ty "list") (u := .type "list") (by rfl) m_list (by decide +kernel) rfl) pa_nil))) (pe_callB call_isi (by rfl) m_isi (by decide +kernel) (pa_cons (pv 1) (pa_cons (pe_bltn (v := .ty "list") (u := .type "list") (by rfl) m_list (by decide +kernel) rfl) pa_nil))) (nomark _))))) pss_never pss_nil)
        (pss_cons (ps_if (pt_cmpR op_ne (pe_callB call_len_seq (by rfl) m_len PySem.boot_len (pa_cons (pv 0) pa_nil)) (pe_callB call_len_seq (by rfl) m_len PySem.boot_len (pa_cons (pv 1) pa_nil)) (nomark _)) pss_never pss_nil)
        (pss_one (ps_ret (pe_cmpR (op_eqD hr.units) (pe_lc (own := [("_law_k", 2)]) (g := gName 2) (tt := tNot (tB (tCall (spAlike K n) [] E0 (tCons (tOp (rIx K) (tVar 0) (tVar 2)) (tCons (tOp (rIx K) (tVar 1) (tVar 2)) tNil))))) rfl sc_alike.nd
          (pi_range1 (by rfl) m_range (pa_cons (pe_callB call_len_seq (by rfl) m_len PySem.boot_len (pa_cons (pv 1) pa_nil)) pa_nil)) (blkOk_by (N := ["_law_found", "_law_due_here", "_law_k"]) (sc := defScope s_L_alike) (by decide +kernel))
          (fun _ _ _ _ _ => by exact pg_name (i := 2) sc_alike.nd rfl (Or.inl rfl)) (fun _ _ _ _ _ => by exact pts_one (pt_not (pt_val (pe_cl C1 hr (pa_cons (pe_ix ix_seq (pv 0) (pv 2) (fun _ _ => rfl)) (pa_cons (pe_ix ix_seq (pv 1) (pv 2) (fun _ _ => rfl)) pa_nil)) (Nat.le_refl _)))))
          (fun _ _ _ _ _ => by exact pv 2)) (pe_lst pa_nil) (nomark _)))))) pss_nil)
      (pss_cons (ps_if (pt_cmp (pc_isN (pv 1)) rfl) (pss_one (ps_ret (pe_cmp (pc_isN (pv 0)) rfl))) pss_nil)
      (pss_cons (ps_if (pt_val (pe_callB call_isi (by rfl) m_isi (by decide +kernel) (pa_cons (pv 1) (pa_cons (pe_bltn (v := .ty "str") (u := .type "str") (by rfl) m_str (by decide +kernel) rfl) pa_nil)))) (pss_one (ps_ret (pe_and (pe_callB call_isi (by rfl) m_isi (by decide +kernel) (pa_cons (pv 0) (pa_cons (pe_bltn (v := .ty "str") (u := .type "str") (by rfl) m_str (by decide +kernel) rfl) pa_nil))) (pe_one (pe_cmpR op_eq (pv 0) (pv 1) (nomark _)))))) pss_nil)
      (pss_cons (ps_if (PW.pt (pw_or (pt_val (pe_callB call_isi (by rfl) m_isi (by decide +kernel) (pa_cons (pv 1) (pa_cons (pe_bltn (v := .ty "bool") (u := .type "bool") (by rfl) m_bool (by decide +kernel) rfl) pa_nil)))) (pw_or1 (pt_val (pe_callB call_isi (by rfl) m_isi (by decide +kernel) (pa_cons (pv 0) (pa_cons (pe_bltn (v := .ty "bool") (u := .type "bool") (by rfl) m_bool (by decide +kernel) rfl) pa_nil))))))) (pss_one (ps_ret (pe_and (pe_callB call_isi (by rfl) m_isi (by decide +kernel) (pa_cons (pv 1) (pa_cons (pe_bltn (v := .ty "bool") (u := .type "bool") (by rfl) m_bool (by decide +kernel) rfl) pa_nil))) (pe_and (pe_callB call_isi (by rfl) m_isi (by decide +kernel) (pa_cons (pv 0) (pa_cons (pe_bltn (v := .ty "bool") (u := .type "bool") (by rfl) m_bool (by decide +kernel) rfl) pa_nil))) (pe_one (pe_cmpR op_eq (pv 0) (pv 1) (nomark _))))))) pss_nil)
      (pss_one (ps_ret (pe_and (pe_callB call_isi (by rfl) m_isi (by decide +kernel) (pa_cons (pv 0) (pa_cons (pe_bltn (v := .ty "int") (u := .type "int") (by rfl) m_int (by decide +kernel) rfl) pa_nil))) (pe_one (pe_cmpR op_eq (pv 0) (pv 1) (nomark _))))))))), ?_⟩
    cases hx with
    | non =>
      cases hy
      refine ⟨_, rfl, (by show 2 ≤ sizeLine; decide), fun p np => ?_⟩
      refine ⟨.non, p, _, _, _, false, rfl, upd_same, .cons (.ty "tuple") (.cons (.ty "list") .nil), .base (.non), (kitAny_cons (b := false) (kit_ty (by decide +kernel)) (fun _ => kitAny_cons (b := false) (kit_ty (by decide +kernel)) (fun _ => kitAny_nil) (fun e => nomatch e)) (fun e => nomatch e)), _, rfl, iteF ?_⟩
      refine ⟨_, rfl, _, rfl, ?_⟩
      rw [decide_eq_true rfl]
      exact iteT ⟨_, rfl, q _ (same_upd np)⟩
    | bl b =>
      cases hy
      refine ⟨_, rfl, (by show 2 ≤ sizeLine; decide), fun p np => ?_⟩
      refine ⟨.bl b, p, _, _, _, false, rfl, upd_same, .cons (.ty "tuple") (.cons (.ty "list") .nil), .base (.bl b), (kitAny_cons (b := false) (kit_ty (by decide +kernel)) (fun _ => kitAny_cons (b := false) (kit_ty (by decide +kernel)) (fun _ => kitAny_nil) (fun e => nomatch e)) (fun e => nomatch e)), _, rfl, iteF ?_⟩
      refine ⟨_, rfl, _, rfl, ?_⟩
      rw [decide_eq_false (show ¬ V.bl b = .non from fun z => nomatch z)]
      refine iteF ?_
      refine ⟨_, rfl, .bl b, _, _, _, false, rfl, .ty "str", .base (.bl b), kit_ty (by decide +kernel), _, rfl, iteF ?_⟩
      refine ⟨_, rfl, .bl b, _, _, _, true, rfl, .ty "bool", .base (.bl b), kit_ty (by decide +kernel), _, rfl, iteT ?_⟩
      refine ⟨_, rfl, .bl b, _, _, _, true, rfl, .ty "bool", .base (.bl b), kit_ty (by decide +kernel), true, rfl, iteT ?_⟩
      refine ⟨_, rfl, .bl b, _, _, _, true, rfl, .ty "bool", .base (.bl b), kit_ty (by decide +kernel), true, rfl, iteT ⟨_, rfl, _, rfl, rfl, ?_⟩⟩
      rw [decide_eq_true rfl]
      exact q _ (same_upd np)
    | int i =>
      cases hy
      refine ⟨_, rfl, (by show 2 ≤ sizeLine; decide), fun p np => ?_⟩
      refine ⟨.int i, p, _, _, _, false, rfl, upd_same, .cons (.ty "tuple") (.cons (.ty "list") .nil), .base (.int i), (kitAny_cons (b := false) (kit_ty (by decide +kernel)) (fun _ => kitAny_cons (b := false) (kit_ty (by decide +kernel)) (fun _ => kitAny_nil) (fun e => nomatch e)) (fun e => nomatch e)), _, rfl, iteF ?_⟩
      refine ⟨_, rfl, _, rfl, ?_⟩
      rw [decide_eq_false (show ¬ V.int i = .non from fun z => nomatch z)]
      refine iteF ?_
      refine ⟨_, rfl, .int i, _, _, _, false, rfl, .ty "str", .base (.int i), kit_ty (by decide +kernel), _, rfl, iteF ?_⟩
      refine ⟨_, rfl, .int i, _, _, _, false, rfl, .ty "bool", .base (.int i), kit_ty (by decide +kernel), _, rfl, iteF ?_⟩
      refine ⟨_, rfl, .int i, _, _, _, false, rfl, .ty "bool", .base (.int i), kit_ty (by decide +kernel), _, rfl, iteF ?_⟩
      refine ⟨_, rfl, .int i, _, _, _, true, rfl, .ty "int", .base (.int i), kit_ty (by decide +kernel), true, rfl, iteT ⟨_, rfl, _, rfl, rfl, ?_⟩⟩
      rw [decide_eq_true rfl]
      exact q _ (same_upd np)
    | str s =>
      cases hy
      refine ⟨_, rfl, (by show 2 ≤ sizeLine; decide), fun p np => ?_⟩
      refine ⟨.str s, p, _, _, _, false, rfl, upd_same, .cons (.ty "tuple") (.cons (.ty "list") .nil), .base (.str s), (kitAny_cons (b := false) (kit_ty (by decide +kernel)) (fun _ => kitAny_cons (b := false) (kit_ty (by decide +kernel)) (fun _ => kitAny_nil) (fun e => nomatch e)) (fun e => nomatch e)), _, rfl, iteF ?_⟩
      refine ⟨_, rfl, _, rfl, ?_⟩
      rw [decide_eq_false (show ¬ V.str s = .non from fun z => nomatch z)]
      refine iteF ?_
      refine ⟨_, rfl, .str s, _, _, _, true, rfl, .ty "str", .base (.str s), kit_ty (by decide +kernel), _, rfl, iteT ?_⟩
      refine ⟨_, rfl, .str s, _, _, _, true, rfl, .ty "str", .base (.str s), kit_ty (by decide +kernel), true, rfl, iteT ⟨_, rfl, _, rfl, rfl, ?_⟩⟩
      rw [decide_eq_true rfl]
      exact q _ (same_upd np)
    | @lst a xs ds hs hal =>
      cases hy with
      | @lst a2 ys _ hs2 hal2 =>
      have lx := dpAll_len hal
      have ly := dpAll_len hal2
      obtain ⟨zl, za⟩ := szOk_lst hz
      have hdd : PyData.depthAll ds ≤ n := Nat.le_of_succ_le_succ hd
      refine ⟨_, rfl, (by show 2 ≤ sizeLine; decide), fun p np => ?_⟩
      have s1 := same_upd (o := .tup [V.ty "tuple", V.ty "list"]) np
      refine ⟨.ref a2, p, _, _, _, true, rfl, upd_same, .cons (.ty "tuple") (.cons (.ty "list") .nil), ty_list (Same.seq s1 hs2), (kitAny_cons (b := false) (kit_ty (by decide +kernel)) (fun _ => kitAny_cons (b := true) (r := true) (kit_ty (by decide +kernel)) (fun e => nomatch e) (fun _ => rfl)) (fun e => nomatch e)), _, rfl, iteT ?_⟩
      refine ⟨_, rfl, (by show 2 ≤ sizeLine; decide), fun p2 np2 => ?_⟩
      have s2 := s1.trans (same_upd (o := .tup [V.ty "tuple", V.ty "list"]) np2)
      refine ⟨.ref a, p2, _, _, _, true, rfl, upd_same, .cons (.ty "tuple") (.cons (.ty "list") .nil), ty_list (Same.seq s2 hs), (kitAny_cons (b := false) (kit_ty (by decide +kernel)) (fun _ => kitAny_cons (b := true) (r := true) (kit_ty (by decide +kernel)) (fun e => nomatch e) (fun _ => rfl)) (fun e => nomatch e)), _, rfl, iteF ?_⟩
      refine ⟨_, rfl, .ref a, _, _, _, true, rfl, .ty "list", ty_list (Same.seq s2 hs), kit_ty (by decide +kernel), ?_⟩
      refine ⟨_, rfl, .ref a2, _, _, _, true, rfl, .ty "list", ty_list (Same.seq s2 hs2), kit_ty (by decide +kernel), rfl, _, rfl, iteF ?_⟩
      refine ⟨_, rfl, a, xs, rfl, .inl (Same.seq s2 hs), _, rfl, a2, ys, rfl, .inl (Same.seq s2 hs2), rfl, _, rfl, ?_⟩
      rw [lx, ly]
      refine iteNS rfl ?_
      have sz : ds.length ≤ sizeLine := by
        exact Nat.le_trans zl (by decide)
      have szn : sizeLine < 2 ^ 62 := by decide
      refine ⟨_, rfl, a2, ys, rfl, .inl (Same.seq s2 hs2), _, rfl, by omega, by omega, fun D nD => ?_⟩
      rw [Int.toNat_natCast, ly]
      refine lc_range (lo := 0) (n := ds.length) (fun i H3 => Same (upd (upd H p (.tup [V.ty "tuple", V.ty "list"])) p2 (.tup [V.ty "tuple", V.ty "list"])) H3 ∧ H3 D = some (.lst [])) ⟨same_upd nD, upd_same⟩ ?_ ?_
      · rintro i H3 hi ⟨s3, eD⟩
        have s4 := s2.trans s3
        obtain ⟨v, d, gv, gd, hv⟩ := dpAll_get hal hi
        obtain ⟨v2, d2, gv2, gd2, hv2⟩ := dpAll_get hal2 hi
        have ed : d2 = d := Option.some.inj (gd2.symm.trans gd)
        subst ed
        refine ⟨rfl, _, rfl, _, rfl, .inl ⟨a, _, _, _, rfl, rfl, Same.seq s4 hs, at_of (j := i) (Int.zero_add _) gv, ?_⟩⟩
        refine ⟨_, rfl, _, rfl, .inl ⟨a2, _, _, _, rfl, rfl, Same.seq s4 hs2, at_of (j := i) (Int.zero_add _) gv2, ?_⟩⟩
        refine ⟨v, v2, d2, rfl, Dp.same s4 d2 _ hv, Dp.same s4 d2 _ hv2, Nat.le_trans (depth_get gd) hdd, sz_get gd za, fun H5 s5 => ⟨_, rfl, ?_⟩⟩
        exact ⟨s3.trans s5, s5 _ _ eD⟩
      · rintro H3 ⟨s3, eD⟩
        refine ⟨Nat.zero_le _, fun p3 np3 => ?_⟩
        refine ⟨.list [], .list [], Dp.lst (SqL.of (same_upd np3 _ _ eD)) .nil, Dp.lst (SqL.of upd_same) .nil, PySem.W.shaped_ints [], PySem.W.shaped_ints [], ?_⟩
        rw [show PyData.eqv (.list []) (.list []) = true from eqv_nil []]
        exact q _ ((s2.trans s3).trans (same_upd np3))
    | @tup a xs ds hs hal =>
      cases hy with
      | @tup a2 ys _ hs2 hal2 =>
      have lx := dpAll_len hal
      have ly := dpAll_len hal2
      obtain ⟨zl, za⟩ := szOk_tup hz
      have hdd : PyData.depthAll ds ≤ n := Nat.le_of_succ_le_succ hd
      refine ⟨_, rfl, (by show 2 ≤ sizeLine; decide), fun p np => ?_⟩
      have s1 := same_upd (o := .tup [V.ty "tuple", V.ty "list"]) np
      refine ⟨.ref a2, p, _, _, _, true, rfl, upd_same, .cons (.ty "tuple") (.cons (.ty "list") .nil), ty_tup (Same.seqT s1 hs2), (kitAny_cons (b := true) (r := true) (kit_ty (by decide +kernel)) (fun e => nomatch e) (fun _ => rfl)), _, rfl, iteT ?_⟩
      refine ⟨_, rfl, (by show 2 ≤ sizeLine; decide), fun p2 np2 => ?_⟩
      have s2 := s1.trans (same_upd (o := .tup [V.ty "tuple", V.ty "list"]) np2)
      refine ⟨.ref a, p2, _, _, _, true, rfl, upd_same, .cons (.ty "tuple") (.cons (.ty "list") .nil), ty_tup (Same.seqT s2 hs), (kitAny_cons (b := true) (r := true) (kit_ty (by decide +kernel)) (fun e => nomatch e) (fun _ => rfl)), _, rfl, iteF ?_⟩
      refine ⟨_, rfl, .ref a, _, _, _, false, rfl, .ty "list", ty_tup (Same.seqT s2 hs), kit_ty (by decide +kernel), ?_⟩
      refine ⟨_, rfl, .ref a2, _, _, _, false, rfl, .ty "list", ty_tup (Same.seqT s2 hs2), kit_ty (by decide +kernel), rfl, _, rfl, iteF ?_⟩
      refine ⟨_, rfl, a, xs, rfl, .inr (Same.seqT s2 hs), _, rfl, a2, ys, rfl, .inr (Same.seqT s2 hs2), rfl, _, rfl, ?_⟩
      rw [lx, ly]
      refine iteNS rfl ?_
      have sz : ds.length ≤ sizeLine := by
        exact Nat.le_trans zl (by decide)
      have szn : sizeLine < 2 ^ 62 := by decide
      refine ⟨_, rfl, a2, ys, rfl, .inr (Same.seqT s2 hs2), _, rfl, by omega, by omega, fun D nD => ?_⟩
      rw [Int.toNat_natCast, ly]
      refine lc_range (lo := 0) (n := ds.length) (fun i H3 => Same (upd (upd H p (.tup [V.ty "tuple", V.ty "list"])) p2 (.tup [V.ty "tuple", V.ty "list"])) H3 ∧ H3 D = some (.lst [])) ⟨same_upd nD, upd_same⟩ ?_ ?_
      · rintro i H3 hi ⟨s3, eD⟩
        have s4 := s2.trans s3
        obtain ⟨v, d, gv, gd, hv⟩ := dpAll_get hal hi
        obtain ⟨v2, d2, gv2, gd2, hv2⟩ := dpAll_get hal2 hi
        have ed : d2 = d := Option.some.inj (gd2.symm.trans gd)
        subst ed
        refine ⟨rfl, _, rfl, _, rfl, .inr (.inl ⟨a, _, _, _, rfl, rfl, Same.seqT s4 hs, at_of (j := i) (Int.zero_add _) gv, ?_⟩)⟩
        refine ⟨_, rfl, _, rfl, .inr (.inl ⟨a2, _, _, _, rfl, rfl, Same.seqT s4 hs2, at_of (j := i) (Int.zero_add _) gv2, ?_⟩)⟩
        refine ⟨v, v2, d2, rfl, Dp.same s4 d2 _ hv, Dp.same s4 d2 _ hv2, Nat.le_trans (depth_get gd) hdd, sz_get gd za, fun H5 s5 => ⟨_, rfl, ?_⟩⟩
        exact ⟨s3.trans s5, s5 _ _ eD⟩
      · rintro H3 ⟨s3, eD⟩
        refine ⟨Nat.zero_le _, fun p3 np3 => ?_⟩
        refine ⟨.list [], .list [], Dp.lst (SqL.of (same_upd np3 _ _ eD)) .nil, Dp.lst (SqL.of upd_same) .nil, PySem.W.shaped_ints [], PySem.W.shaped_ints [], ?_⟩
        rw [show PyData.eqv (.list []) (.list []) = true from eqv_nil []]
        exact q _ ((s2.trans s3).trans (same_upd np3))
end

/-! ### the law's own helpers -/
def spMix (K : PySem.W.Frag) : Sp := fun vs H Q _ => ∃ (a : Addr) (sd : Int) (ns : List Int), vs = [.ref a, .int sd] ∧ SqL K H a (ns.map V.int) ∧ ns.length ≤ 63 ∧ 0 ≤ sd ∧ sd < 2147483647 ∧ ∀ H' h c, HAt H' h c → H h = none → H c = none → Same H H' → Q (.ref h) H'
def spNext : Sp := fun vs H Q _ => ∃ (h c : Addr) (m : Int), vs = [.ref h, .int m] ∧ 1 ≤ m ∧ m < 1073741824 ∧ HAt H h c ∧ ∀ (r : Nat) H', (r : Int) < m → HAt H' h c → Kp2 h c H H' → Q (.int (r : Int)) H'
section
variable {P : Program} {w : World} {K : PySem.W.Frag} {mg : Str → Option Value} {base : Heap}
theorem sc_mix : FnScope ["_law_script", "_law_seed", "_law_mixed", "_law_cell"] ["_law_script", "_law_seed"] (defScope s_L_mix) := ⟨rfl, rfl, rfl, by decide +kernel, rfl, by decide +kernel, by decide +kernel⟩
theorem ok_mix (D : DefAt K mg "_law_mix" s_L_mix ["_law_script", "_law_seed"]) (m_list : mg "list" = none) : Cl P w K mg base 1 "_law_mix" ["_law_script", "_law_seed"] (spMix K) := by
  refine D.cl fun f fd F => ?_
  refine F.ok sc_mix (fun vs H Q E h => ?_) (fun cdv A outer s H vs Q E hr h => ?_)
  · obtain ⟨a, sd, ns, rfl, _⟩ := h
    rfl
  · obtain ⟨a, sd, ns, rfl, hS, hl, s0, s1, q⟩ := h
    refine ⟨_, pss_cons (ps_set (i := 2) sc_mix.nd rfl (Or.inl rfl) (pv 1))
      (pss_cons (ps_for PassesOwn.never rfl (pi_list (pv 0)) (pg_name (i := 3) sc_mix.nd rfl (Or.inl rfl))
        (pss_one (ps_set (i := 2) sc_mix.nd rfl (Or.inl rfl) (pe_op op_mod (pe_op op_add (pe_op op_add (pe_op op_mul (pv 2) pe_int) (pe_op op_mod (pv 3) pe_int)) pe_int) pe_int))))
      (pss_one (ps_ret (pe_lst (pa_cons (pv 2) (pa_cons (pe_callTy call_list_of (by rfl) m_list (by decide +kernel) (pa_cons (pv 0) pa_nil)) (pa_cons pe_int pa_nil))))))), ?_⟩
    refine ⟨_, rfl, ?_⟩
    refine ⟨_, rfl, a, rfl, ⟨_, hS⟩, for_list (K := K) (a := a) (xs := ns.map V.int) (fun i σ H' => ∃ (mx : Int) (v : Option V), σ = [some (.ref a), some (.int sd), some (.int mx), v] ∧ H' = H ∧ 0 ≤ mx ∧ mx < 2147483647)
      ⟨sd, none, rfl, rfl, s0, s1⟩ (fun i σ H' _ ⟨_, _, _, e, _⟩ => by rw [e]; exact hS) ?_ ?_⟩
    · rintro i y σ H' hi ⟨mx, v, rfl, rfl, m0, m1⟩
      obtain ⟨z, rfl⟩ : ∃ z, y = V.int z := by
        rw [List.getElem?_map] at hi
        cases e : ns[i]? with
        | none =>
          rw [e] at hi
          cases hi
        | some z =>
          rw [e] at hi
          exact ⟨z, (Option.some.inj hi).symm⟩
      refine ⟨_, rfl, _, _, rfl, rfl, .inl (le64 m0 (by omega)), _, rfl, _, _, rfl, rfl, (by show (0 : Int) < 2147483629; decide), _, _, rfl, rfl, _, _, rfl, rfl, _, _, rfl, rfl, (by show (0 : Int) < 2147483647; decide), ?_⟩
      exact ⟨_, some (.int z), rfl, rfl, Int.emod_nonneg _ (by decide), Int.emod_lt_of_pos _ (by decide)⟩
    · rintro σ H' ⟨mx, v, rfl, rfl, m0, m1⟩
      refine ⟨_, rfl, _, rfl, a, ns.map V.int, rfl, .inl hS, fun c nc => ?_⟩
      refine ⟨(by show 3 ≤ sizeLine; decide), fun h nh => ?_⟩
      have sc' : Same H' (upd H' c (.lst (ns.map V.int))) := same_upd nc
      have nch : c ≠ h := ne_of_none upd_same nh
      refine q _ h c ⟨⟨mx, 0, ns, upd_same, ?_, m0, m1, Int.le_refl 0, hl⟩, nch.symm⟩ (sc'.free nh) nc (sc'.trans (same_upd nh))
      rw [upd_ne nch, upd_same]
theorem sc_next : FnScope ["_law_h", "_law_many", "_law_at", "_law_cell"] ["_law_h", "_law_many"] (defScope s_L_next) := ⟨rfl, rfl, rfl, by decide +kernel, rfl, by decide +kernel, by decide +kernel⟩
theorem ok_next (D : DefAt K mg "_law_next" s_L_next ["_law_h", "_law_many"]) (m_max : mg "max" = none) (m_len : mg "len" = none) : Cl P w K mg base 1 "_law_next" ["_law_h", "_law_many"] spNext := by
  refine D.cl fun f fd F => ?_
  refine F.ok sc_next (fun vs H Q E h => ?_) (fun cdv A outer s H vs Q E hr h => ?_)
  · obtain ⟨h, c, m, rfl, _⟩ := h
    rfl
  · obtain ⟨h, c, m, rfl, h1, h2, ha, q⟩ := h
    obtain ⟨⟨mx, pl, ns, eh, ec, m0, m1, p0, hl⟩, nhc⟩ := ha
    refine ⟨_, pss_cons (ps_set (i := 2) sc_next.nd rfl (Or.inl rfl) (pe_op op_mod (pe_ix ix_list (pv 0) pe_int (fun _ _ => rfl)) (pe_callB (call_max2 rfl) (by rfl) m_max (by decide +kernel) (pa_cons pe_int (pa_cons (pe_callB call_len_seq (by rfl) m_len PySem.boot_len (pa_cons (pe_ix ix_list (pv 0) pe_int (fun _ _ => rfl)) pa_nil)) pa_nil)))))
      (pss_cons (ps_set (i := 3) sc_next.nd rfl (Or.inl rfl) (pe_ifExp (pt_cmpR (op_neD hr.units) (pe_ix ix_list (pv 0) pe_int (fun _ _ => rfl)) (pe_lst pa_nil) (nomark _)) (pe_ix ix_list (pe_ix ix_list (pv 0) pe_int (fun _ _ => rfl)) (pv 2) (fun _ _ => rfl)) pe_int))
      (pss_cons (ps_if (pt_cmpR op_ge (pv 3) (pe_op op_pow pe_int pe_int) (nomark _))
        (pss_cons (ps_asg (pe_op op_fdiv (pv 3) (pv 1)) (pg_sub (pe_ix ix_list (pv 0) pe_int (fun _ _ => rfl)) (pv 2) set_list)) (pss_one (ps_ret (pe_op op_mod (pv 3) (pv 1))))) pss_nil)
      (pss_cons (ps_asg (pe_op op_mod (pe_op op_add (pe_op op_add (pe_op op_mul (pe_ix ix_list (pv 0) pe_int (fun _ _ => rfl)) pe_int) (pe_op op_mul (pv 3) pe_int)) pe_int) pe_int) (pg_sub (pv 0) pe_int set_list))
      (pss_cons (ps_asg (pe_op op_add (pe_ix ix_list (pv 0) pe_int (fun _ _ => rfl)) pe_int) (pg_sub (pv 0) pe_int set_list))
      (pss_one (ps_ret (pe_op op_mod (pe_op op_fdiv (pe_ix ix_list (pv 0) pe_int (fun _ _ => rfl)) pe_int) (pv 1)))))))), ?_⟩
    have a1 : atI [V.int mx, V.ref c, V.int pl] 1 = some (.ref c) := atI_nat (j := 1) rfl
    have a0 : atI [V.int mx, V.ref c, V.int pl] 0 = some (.int mx) := atI_nat (j := 0) rfl
    have a2 : atI [V.int mx, V.ref c, V.int pl] 2 = some (.int pl) := atI_nat (j := 2) rfl
    have hz : ((ns.map V.int).length : Int) = (ns.length : Int) := by rw [List.length_map]
    obtain ⟨M, hM, hM1, hM2⟩ : ∃ M : Int, (if ((ns.map V.int).length : Int) > 1 then ((ns.map V.int).length : Int) else 1) = M ∧ 1 ≤ M ∧ (ns ≠ [] → M = ns.length) := by
      refine ⟨_, rfl, ?_, ?_⟩
      · split <;> omega
      · intro hn
        have : 1 ≤ ns.length := List.length_pos_iff.mpr hn
        rw [hz]
        split <;> omega
    -- _law_at
    refine ⟨_, rfl, h, _, _, _, rfl, rfl, SqL.of eh, a2, _, rfl, h, _, _, _, rfl, rfl, SqL.of eh, a1, c, _, rfl, .inl (SqL.of ec), _, _, rfl, ?_⟩
    dsimp only
    rw [hM]
    refine ⟨_, _, rfl, rfl, (by show 0 < M; omega), ?_⟩
    have at0 : 0 ≤ pl % M := Int.emod_nonneg _ (by omega)
    have at1 : pl % M < M := Int.emod_lt_of_pos _ (by omega)
    -- _law_cell
    refine ⟨_, rfl, h, _, _, _, rfl, rfl, SqL.of eh, a1, (by show 0 ≤ sizeLine; decide), fun p np => ?_⟩
    have sp : Same H (upd H p (.lst [])) := same_upd np
    have eh1 := sp _ _ eh
    have ec1 := sp _ _ ec
    refine ⟨.list (ns.map PyData.int), .list [], Dp.lst (SqL.of ec1) (dpAll_ints ns), Dp.lst (SqL.of upd_same) .nil, PySem.W.shaped_ints ns, PySem.W.shaped_ints [], _, rfl, ?_⟩
    rw [eqv_nil]
    refine join_if (fun v H' => ∃ z : Int, v = .int z ∧ H' = upd H p (.lst []) ∧ (1000000000000000000 ≤ z → ns ≠ [])) ?_ ?_ ?_
    · rintro v H' ⟨z, rfl, rfl, hzn⟩
      refine ⟨_, rfl, _, _, rfl, rfl, ⟨by decide, by decide, by decide⟩, _, _, rfl, rfl, _, rfl, ?_⟩
      have e18 : (10 : Int) ^ (18 : Int).toNat = 1000000000000000000 := by decide
      dsimp only
      rw [e18]
      by_cases big : 1000000000000000000 ≤ z
      · rw [decide_eq_true big]
        refine iteT ?_
        have hn := hzn big
        have hj : (pl % M).toNat < ns.length := by
          have := hM2 hn
          omega
        refine ⟨_, rfl, _, rfl, _, _, rfl, rfl, ⟨by omega, by omega⟩, _, rfl, h, _, _, _, rfl, rfl, SqL.of eh1, a1, _, rfl, c, _, _, (pl % M).toNat, rfl, rfl, ec1, ?_, ?_⟩
        · rw [List.length_map]
          exact ixN_nn at0 (by omega)
        · refine ⟨_, rfl, _, rfl, _, _, rfl, rfl, (by show 0 < m; omega), ?_⟩
          dsimp only
          have e : z % m = ((z % m).toNat : Int) := (Int.toNat_of_nonneg (Int.emod_nonneg _ (by omega))).symm
          have lt := Int.emod_lt_of_pos z (show 0 < m by omega)
          rw [e]
          refine q _ _ (by omega) ⟨⟨mx, pl, ns.set (pl % M).toNat (z / m), ?_, ?_, m0, m1, p0, by rw [List.length_set]; exact hl⟩, nhc⟩ fun b o eb n1 n2 => ?_
          · rw [upd_ne nhc]
            exact eh1
          · rw [upd_same, List.map_set]
          · rw [upd_ne n2]
            exact sp _ _ eb
      · rw [decide_eq_false big]
        refine iteF ?_
        refine ⟨_, rfl, h, _, _, _, rfl, rfl, SqL.of eh1, a0, _, _, rfl, rfl, .inl (le64 m0 (by omega)), _, rfl, _, _, rfl, rfl, .inr ⟨by decide, by decide⟩, _, _, rfl, rfl, _, _, rfl, rfl, _, _, rfl, rfl, (by show (0 : Int) < 2147483647; decide),
          _, rfl, h, _, _, 0, rfl, rfl, eh1, rfl, ?_⟩
        refine ⟨_, rfl, h, _, _, _, rfl, rfl, SqL.of upd_same, atI_nat (j := 2) rfl, _, _, rfl, rfl, _, rfl, h, _, _, 2, rfl, rfl, upd_same, rfl, ?_⟩
        refine ⟨_, rfl, h, _, _, _, rfl, rfl, SqL.of upd_same, atI_nat (j := 0) rfl, _, _, rfl, rfl, ⟨by decide, by decide⟩, _, rfl, _, _, rfl, rfl, (by show 0 < m; omega), ?_⟩
        dsimp only
        have n0 := Int.emod_nonneg (mx * 48271 + z * 69621 + 11) (show (2147483647 : Int) ≠ 0 by decide)
        have n1 := Int.emod_lt_of_pos (mx * 48271 + z * 69621 + 11) (show (0 : Int) < 2147483647 by decide)
        generalize (mx * 48271 + z * 69621 + 11) % 2147483647 = y at n0 n1 ⊢
        have e : y / 7 % m = ((y / 7 % m).toNat : Int) := (Int.toNat_of_nonneg (Int.emod_nonneg _ (by omega))).symm
        have lt := Int.emod_lt_of_pos (y / 7) (show 0 < m by omega)
        rw [e]
        refine q _ _ (by omega) ⟨⟨y, pl + 1, ns, ?_, ?_, n0, n1, by omega, hl⟩, nhc⟩ fun b o eb n1 n2 => ?_
        · rw [upd_same]
          rfl
        · rw [upd_ne nhc.symm, upd_ne nhc.symm]
          exact ec1
        · rw [upd_ne n1, upd_ne n1]
          exact sp _ _ eb
    · intro e
      have hn : ns ≠ [] := by
        intro z
        subst z
        cases e
      have hj : (pl % M).toNat < ns.length := by
        have := hM2 hn
        omega
      exact ⟨.int ns[(pl % M).toNat], _, fun Q q => ⟨_, rfl, h, _, _, _, rfl, rfl, SqL.of eh1, a1, _, rfl, c, _, _, _, rfl, rfl, SqL.of ec1, at_of (j := (pl % M).toNat) (by omega) (by rw [List.getElem?_map, List.getElem?_eq_getElem hj]; rfl), q⟩, _, rfl, rfl, fun _ => hn⟩
    · intro e
      exact ⟨.int 0, _, fun Q q => q, 0, rfl, rfl, fun h => absurd h (by decide)⟩
end
/-! ### shapes of data (short) -/
theorem canLayAll_of : ∀ {ds : List PyData}, (∀ d, d ∈ ds → PyData.canLay0 d = true) → PyData.canLayAll0 ds = true
  | [], _ => by simp only [PyData.canLayAll0]
  | d :: r, h => by
    have h1 := h d List.mem_cons_self
    have h2 := canLayAll_of (ds := r) fun x hx => h x (List.mem_cons_of_mem _ hx)
    simp only [PyData.canLayAll0, h1, h2, Bool.and_self]
theorem shaped_of {d : PyData} (h : PyData.canLay0 d = true) (h2 : PyData.depth d ≤ 64) : SeqAt.shaped d = true := by
  unfold SeqAt.shaped
  rw [h, decide_eq_true h2]
  rfl
theorem eqv_nilL (ds : List PyData) : PyData.eqv (.list ds) (.list []) = ds.isEmpty := by
  cases ds with
  | nil => simp [PyData.eqv, PyData.eqvAll]
  | cons n r => simp [PyData.eqv, PyData.eqvAll]
theorem shaped_nil : SeqAt.shaped (.list []) = true := PySem.W.shaped_ints []
theorem eqv_same {d : PyData} (h : SeqAt.shaped d = true) : PyData.eqv d d = true := by
  first
    | exact PySem.Calls.eqv_refl d (SeqAt.canLay_of_shaped h)
    | exact PyData.eqv_refl d (SeqAt.canLay_of_shaped h)
    | exact SeqAt.eqv_refl d (SeqAt.canLay_of_shaped h)
    | exact eqv_refl d (SeqAt.canLay_of_shaped h)

/-! ### steps as a text -/
def rowOf (x : Str × Nat) : Str := x.1 ++ (" " : Str) ++ Str.ofString (toString (x.2 : Int))
structure StsAt (H : Hp) (as : List Addr) (ss : List (Str × Nat)) : Prop where
  len : as.length = ss.length
  at_ : ∀ (i : Nat) (a : Addr) (s : Str × Nat), as[i]? = some a → ss[i]? = some s → H a = some (.tup [.str s.1, .int (s.2 : Int)])
theorem StsAt.same {H H' : Hp} {as : List Addr} {ss : List (Str × Nat)} (h : StsAt H as ss) (k : Same H H') : StsAt H' as ss := ⟨h.len, fun i a s e1 e2 => k _ _ (h.at_ i a s e1 e2)⟩
def textOf (ss : List (Str × Nat)) : Str := Txt.join ("\n" : Str) (ss.map rowOf)
theorem slen (a b : Str) : (a ++ b).length = a.length + b.length := by
  show (a.cps ++ b.cps).size = a.cps.size + b.cps.size
  exact Array.size_append
theorem num_len {n : Nat} (h : n < 1000000) : (Str.ofString (toString (n : Int))).length ≤ 6 := toString_length_le (k := 6) (Int.natCast_nonneg _) (by decide) (by omega)
def spText : Sp := fun vs H Q _ => ∃ (l : Addr) (as : List Addr) (ss : List (Str × Nat)), vs = [.ref l] ∧ H l = some (.lst (as.map V.ref)) ∧ StsAt H as ss ∧ ss.length ≤ 60 ∧ (∀ s, s ∈ ss → s.1.length ≤ 100 ∧ s.2 < 1000000) ∧
  ∀ H', Same H H' → Q (.str (textOf ss)) H'
theorem sum_le {l : List Nat} {c : Nat} (h : ∀ x, x ∈ l → x ≤ c) : l.sum ≤ l.length * c := by
  induction l with
  | nil => exact Nat.zero_le _
  | cons a t ih =>
    have h1 := ih fun x hx => h x (List.mem_cons_of_mem _ hx)
    have h2 := h a (List.mem_cons_self ..)
    rw [List.sum_cons, List.length_cons, Nat.succ_mul]
    omega
theorem text_room {ss : List (Str × Nat)} (n60 : ss.length ≤ 60) (sm : ∀ s, s ∈ ss → s.1.length ≤ 100 ∧ s.2 < 1000000) : ((ss.map rowOf).map (·.length)).sum + (ss.map rowOf).length * ("\n" : Str).length ≤ 16777216 := by
  have hz : ((ss.map rowOf).map (·.length)).sum ≤ ((ss.map rowOf).map (·.length)).length * 107 := by
    refine sum_le fun x hx => ?_
    obtain ⟨y, hy, rfl⟩ := List.mem_map.mp hx
    obtain ⟨z, hz, rfl⟩ := List.mem_map.mp hy
    obtain ⟨w1, w2⟩ := sm _ hz
    have hn := num_len w2
    show (rowOf z).length ≤ 107
    unfold rowOf
    rw [slen, slen]
    have : (" " : Str).length = 1 := by decide +kernel
    omega
  rw [List.length_map, List.length_map] at hz
  rw [List.length_map]
  have : ("\n" : Str).length = 1 := by decide +kernel
  rw [this]
  omega
def okWord (wd : Str) : Prop := wd = "see" ∨ wd = "pass" ∨ wd = "ask"
/-! ### the law's own: the text of steps (k10, k11) -/
section
variable {P : Program} {w : World} {K : PySem.W.Frag} {mg : Str → Option Value} {base : Heap}
theorem sc_Ltext : FnScope ["_law_steps", "_law_word", "_law_number"] ["_law_steps"] (defScope s_L_text) := ⟨rfl, rfl, rfl, by decide +kernel, rfl, by decide +kernel, by decide +kernel⟩
theorem ok_Ltext (D : DefAt K mg "_law_text" s_L_text ["_law_steps"]) (m_str : mg "str" = none) : Cl P w K mg base 1 "_law_text" ["_law_steps"] spText := by
  refine D.cl fun f fd F => ?_
  refine F.ok sc_Ltext (fun vs H Q E h => ?_) (fun cdv A outer s H vs Q E hr h => ?_)
  · obtain ⟨l, as, ss, rfl, _⟩ := h
    rfl
  · obtain ⟨l, as, ss, rfl, el, hs, n60, sm, q⟩ := h
    have hu := hu_of hr
    refine ⟨_, pss_one (ps_ret (pe_join pe_str
      (pe_lc (own := [("_law_word", 1), ("_law_number", 2)]) (g := gTup K 2 (gCons (gName 1) (gCons (gName 2) gNil))) (tt := tYes) rfl sc_Ltext.nd (pi_list (pv 0)) (blkOk_by (N := ["_law_steps", "_law_word", "_law_number"]) (sc := defScope s_L_text) (by decide +kernel))
          (fun _ _ _ _ _ => by exact pg_tup rfl (pgs_cons (pg_name (i := 1) sc_Ltext.nd rfl (Or.inl rfl)) (pgs_cons (pg_name (i := 2) sc_Ltext.nd rfl (Or.inl rfl)) pgs_nil))) (fun _ _ _ _ _ => by exact pts_nil)
          (fun _ _ _ _ _ => by exact pe_op op_add_str (pe_op op_add_str (pv 1) pe_str) (pe_callTy call_str_int (by rfl) m_str (by decide +kernel) (pa_cons (pv 2) pa_nil)))))), ?_⟩
    refine ⟨⟨_, rfl⟩, ?_⟩
    refine ⟨_, rfl, l, rfl, ⟨_, SqL.of el⟩, fun D nD => ?_⟩
    refine lc_list (K := K) (a := l) (xs := as.map V.ref) (fun j H' => Same H H' ∧ H' D = some (.lst (((ss.take j).map rowOf).map V.str))) ⟨same_upd nD, upd_same⟩ (fun j H' _ h => SqL.of (h.1 _ _ el)) ?_ ?_
    · rintro j y H' hy ⟨sk, eD⟩
      rw [List.getElem?_map] at hy
      have jl : j < as.length := by
        rcases Nat.lt_or_ge j as.length with h | h
        · exact h
        · rw [List.getElem?_eq_none h] at hy
          cases hy
      have js : j < ss.length := by rw [← hs.len]; exact jl
      rw [List.getElem?_eq_getElem jl] at hy
      cases hy
      have ea := sk _ _ (hs.at_ j _ _ (List.getElem?_eq_getElem jl) (List.getElem?_eq_getElem js))
      obtain ⟨w1, w2⟩ := sm _ (List.getElem_mem js)
      have hn := num_len w2
      refine ⟨as[j], [.str ss[j].1, .int (ss[j].2 : Int)], rfl, SqT.of ea, rfl, .str ss[j].1, [.int (ss[j].2 : Int)], rfl, .int (ss[j].2 : Int), [], rfl, rfl, rfl, ?_⟩
      have sp1 : (" " : Str).length = 1 := by decide +kernel
      have l1 : ss[j].1.length + (" " : Str).length ≤ sizeLine := Nat.le_trans (show _ ≤ 101 by omega) (by decide)
      have l2 : (ss[j].1 ++ (" " : Str)).length + (Str.ofString (toString (ss[j].2 : Int))).length ≤ sizeLine := by
        refine Nat.le_trans (show _ ≤ 107 from ?_) (by decide)
        rw [slen]
        have : (" " : Str).length = 1 := by decide +kernel
        omega
      have lg : ((ss[j].2 : Int)).natAbs.log2 < 1920 := by
        rw [Int.natAbs_natCast]
        by_cases z : ss[j].2 = 0
        · rw [z]; decide
        · exact (Nat.log2_lt z).mpr (Nat.lt_of_lt_of_le w2 (Nat.le_trans (show 1000000 ≤ 2 ^ 20 by decide) (Nat.pow_le_pow_right (by decide) (by decide))))
      refine ⟨_, rfl, _, _, rfl, rfl, l1, _, rfl, _, rfl, lg, _, _, rfl, rfl, l2, _, eD, ?_, fun x o e => ?_, ?_⟩
      · rw [List.length_map, List.length_map, List.length_take]
        exact Nat.lt_of_le_of_lt (show _ ≤ 60 by omega) (by decide)
      · rw [upd_ne (ne_of_none e nD)]
        exact sk _ _ e
      · rw [upd_same, List.take_add_one, List.getElem?_eq_getElem js, List.map_append, List.map_append]
        rfl
    · rintro H' ⟨sk, eD⟩
      rw [List.length_map, hs.len, List.take_length] at eD
      refine ⟨_, D, ss.map rowOf, rfl, rfl, .inl (SqL.of eD), ?_, q H' sk⟩
      have hz : ((ss.map rowOf).map (·.length)).sum ≤ ((ss.map rowOf).map (·.length)).length * 107 := by
        refine sum_le fun x hx => ?_
        obtain ⟨y, hy, rfl⟩ := List.mem_map.mp hx
        obtain ⟨z, hz, rfl⟩ := List.mem_map.mp hy
        obtain ⟨w1, w2⟩ := sm _ hz
        have hn := num_len w2
        show (rowOf z).length ≤ 107
        unfold rowOf
        rw [slen, slen]
        have : (" " : Str).length = 1 := by decide +kernel
        omega
      rw [List.length_map, List.length_map] at hz
      rw [List.length_map]
      have : ("\n" : Str).length = 1 := by decide +kernel
      rw [this]
      omega
end
/-! ### the program: texts of steps -/
def numB (x : Str) : Bool := Txt.isascii x && Txt.isdigit x && decide (x.length ≤ 4) && (decide (x = "0") || !Txt.startswith x "0")
def wordsV : List V := [.str "see", .str "pass", .str "ask"]
def isStepB : List Str → Bool
  | [a, b] => inV (.str a) wordsV && numB b
  | _ => false
structure WordsAt (K : PySem.W.Frag) (mg : Str → Option Value) : Prop where
  ex : ∃ d, mg "WORDS" = some (.ref d) ∧ ∀ H, SqT K H d wordsV
def spIsNum : Sp := fun vs H Q _ => ∃ x : Str, vs = [.str x] ∧ x.length ≤ sizeLine ∧ Q (.bl (numB x)) H
def spIsStep : Sp := fun vs H Q _ => ∃ (l : Addr) (ws : List Str), vs = [.ref l] ∧ H l = some (.lst (ws.map V.str)) ∧ (∀ x, x ∈ ws → x.length ≤ sizeLine) ∧ ws.length ≤ sizeLine ∧ Q (.bl (isStepB ws)) H
section
variable {P : Program} {w : World} {K : PySem.W.Frag} {mg : Str → Option Value} {base : Heap}
theorem sc_isnum : FnScope ["word"] ["word"] (defScope s_is_number) := ⟨rfl, rfl, rfl, by decide +kernel, rfl, by decide +kernel, by decide +kernel⟩
theorem ok_isnum (D : DefAt K mg "_is_number" s_is_number ["word"]) (m_len : mg "len" = none) {tk : Tok} (gF : mg "MOST_FIGURES" = some (.int 4 tk)) : Cl P w K mg base 1 "_is_number" ["word"] spIsNum := by
  refine D.cl fun f fd F => ?_
  refine F.ok sc_isnum (fun vs H Q E h => ?_) (fun cdv A outer s H vs Q E hr h => ?_)
  · obtain ⟨x, rfl, _⟩ := h
    rfl
  · obtain ⟨x, rfl, sx, q⟩ := h
    refine ⟨_, pss_cons (ps_if (PW.pt (pw_or (pt_not (pt_val (pe_bm0 PySem.F.plainAttrs_str PySem.F.slot_str_isascii PySem.F.type_str_isascii mt_isascii (pv 0)))) (pw_or1 (pt_not (pt_val (pe_bm0 PySem.F.plainAttrs_str PySem.F.slot_str_isdigit PySem.F.type_str_isdigit mt_isdigit (pv 0))))))) (pss_one (ps_ret pe_bl)) pss_nil)
      (pss_cons (ps_if (pt_cmpR op_gt (pe_callB call_len_str (by rfl) m_len PySem.boot_len (pa_cons (pv 0) pa_nil)) (pe_glob (v := .int 4) (by rfl) gF ⟨_, rfl⟩) (nomark _)) (pss_one (ps_ret pe_bl)) pss_nil)
      (pss_one (ps_ret (pe_or (pe_cmpR op_eq (pv 0) pe_str (nomark _)) (pe_one (pe_not (pe_bm PySem.F.plainAttrs_str PySem.F.slot_str_startswith PySem.F.type_str_startswith mt_startswith (pv 0) (pa_cons pe_str pa_nil)))))))), ?_⟩
    refine ⟨_, rfl, rfl, _, rfl, rfl, True.intro, _, rfl, ?_⟩
    unfold numB at q
    by_cases h1 : Txt.isascii x = true
    · rw [h1] at q ⊢
      refine iteF ⟨_, rfl, rfl, _, rfl, rfl, True.intro, _, rfl, ?_⟩
      by_cases h2 : Txt.isdigit x = true
      · rw [h2] at q ⊢
        refine iteF ⟨_, rfl, _, rfl, sx, _, _, rfl, rfl, _, rfl, ?_⟩
        by_cases h3 : x.length ≤ 4
        · rw [decide_eq_true h3] at q
          rw [decide_eq_false (show ¬ (4 : Int) < (x.length : Int) by omega)]
          refine iteF ⟨_, rfl, rfl, _, rfl, ?_⟩
          rw [dec_str]
          by_cases h4 : x = "0"
          · rw [decide_eq_true h4] at q ⊢
            exact iteT q
          · rw [decide_eq_false h4] at q ⊢
            refine iteF ⟨_, rfl, rfl, _, _, rfl, rfl, _, rfl, q⟩
        · rw [decide_eq_false h3] at q
          rw [decide_eq_true (show (4 : Int) < (x.length : Int) by omega)]
          exact iteT q
      · rw [show Txt.isdigit x = false by simpa using h2] at q ⊢
        exact iteT q
    · rw [show Txt.isascii x = false by simpa using h1] at q ⊢
      exact iteT (iteT q)
theorem sc_isstep : FnScope ["words"] ["words"] (defScope s_is_step) := ⟨rfl, rfl, rfl, by decide +kernel, rfl, by decide +kernel, by decide +kernel⟩
theorem ok_isstep (D : DefAt K mg "_is_step" s_is_step ["words"]) (m_len : mg "len" = none) (W : WordsAt K mg) (C1 : Cl P w K mg base 1 "_is_number" ["word"] spIsNum) : Cl P w K mg base 2 "_is_step" ["words"] spIsStep := by
  refine D.cl fun f fd F => ?_
  obtain ⟨d, gW, sW⟩ := W.ex
  refine F.ok sc_isstep (fun vs H Q E h => ?_) (fun cdv A outer s H vs Q E hr h => ?_)
  · obtain ⟨l, ws, rfl, _⟩ := h
    rfl
  · obtain ⟨l, ws, rfl, el, hx, hw, q⟩ := h
    refine ⟨_, pss_one (ps_ret (pe_and (pe_cmpR op_eq (pe_callB call_len_seq (by rfl) m_len PySem.boot_len (pa_cons (pv 0) pa_nil)) pe_int (nomark _))
      (pe_and (pe_cmpR op_in_seq (pe_ix ix_list (pv 0) pe_int (fun _ _ => rfl)) (pe_glob (v := .ref d) (by rfl) gW rfl) (by rfl)) (pe_one (pe_cl C1 hr (pa_cons (pe_ix ix_list (pv 0) pe_int (fun _ _ => rfl)) pa_nil)))))), ?_⟩
    refine ⟨_, rfl, l, _, rfl, .inl (SqL.of el), rfl, _, rfl, ?_⟩
    rw [List.length_map, dec_int]
    by_cases c : ws.length = 2
    · obtain ⟨x, y, rfl⟩ : ∃ x y, ws = [x, y] := by
        match ws, c with
        | [x, y], _ => exact ⟨x, y, rfl⟩
      rw [decide_eq_true (show (([x, y] : List Str).length : Int) = 2 from rfl)]
      refine iteT ⟨_, rfl, l, _, _, _, rfl, rfl, SqL.of el, atI_nat (j := 0) rfl, d, wordsV, rfl, .inr (sW _), rfl, rfl, _, rfl, ?_⟩
      have q' : Q (.bl (inV (.str x) wordsV && numB y)) H := q
      refine (show if inV (.str x) wordsV = true then _ else _ from ?_)
      by_cases c2 : inV (.str x) wordsV = true
      · rw [c2] at q' ⊢
        refine iteT ⟨_, rfl, l, _, _, _, rfl, rfl, SqL.of el, atI_nat (j := 1) rfl, y, rfl, hx y (by simp), q'⟩
      · rw [show inV (.str x) wordsV = false by simpa using c2] at q' ⊢
        exact iteF q'
    · rw [decide_eq_false (show ¬ (ws.length : Int) = 2 by omega)]
      have q' : Q (.bl false) H := by
        have e : isStepB ws = false := by
          match ws, c with
          | [], _ => rfl
          | [_], _ => rfl
          | [_, _], c => exact absurd rfl c
          | _ :: _ :: _ :: _, _ => rfl
        rw [e] at q
        exact q
      exact iteF q'
end
/-! ### numbers as texts -/
def numS (n : Nat) : Str := Str.ofString (toString ((n : Nat) : Int))
theorem tl_numS (n : Nat) : TL.tl (numS n) = TL.numL n := TL.tl_num n
theorem all_tl (x : Str) (p : Nat → Bool) : x.cps.all p = (TL.tl x).all p := by
  show x.cps.all p = x.cps.toList.all p
  rw [Array.all_toList]
theorem dig_is {c : Nat} (h : 48 ≤ c ∧ c ≤ 57) : Unicode.isDigit c = true := by
  have : c = 48 ∨ c = 49 ∨ c = 50 ∨ c = 51 ∨ c = 52 ∨ c = 53 ∨ c = 54 ∨ c = 55 ∨ c = 56 ∨ c = 57 := by omega
  rcases this with rfl | rfl | rfl | rfl | rfl | rfl | rfl | rfl | rfl | rfl <;> decide +kernel
theorem numL_head : ∀ n : Nat, 0 < n → ∃ d r, TL.numL n = d :: r ∧ d ≠ 48 := by
  intro n
  induction n using Nat.strongRecOn with
  | _ n ih =>
    intro h
    by_cases c : n < 10
    · exact ⟨48 + n, [], TL.numL_lt c, by omega⟩
    · obtain ⟨d, r, e, nd⟩ := ih (n / 10) (by omega) (by omega)
      rw [TL.numL_step (by omega), e]
      exact ⟨d, r ++ [48 + n % 10], rfl, nd⟩
theorem starts0 (x : Str) : Txt.startswith x "0" = (match TL.tl x with | c :: _ => decide (c = 48) | [] => false) := by
  have h0 : TL.tl ("0" : Str) = [48] := by decide +kernel
  have l0 : ("0" : Str).length = 1 := by decide +kernel
  unfold Txt.startswith
  rw [l0, TL.len_tl x]
  cases e : TL.tl x with
  | nil => simp
  | cons c r =>
    have : Builtin.Str.subAt x "0" 0 = decide (c = 48) := by
      rw [StrLaws.subAt_eq]
      have e' : x.cps.toList = c :: r := e
      have h0' : ("0" : Str).cps.toList = [48] := h0
      rw [e', h0', l0, List.drop_zero]
      show ([c] == [48]) = decide (c = 48)
      by_cases z : c = 48
      · subst z
        rfl
      · rw [decide_eq_false z]
        exact beq_eq_false_iff_ne.mpr (fun y => z (List.cons.inj y).1)
    rw [this]
    simp
theorem isascii_tl (x : Str) : Txt.isascii x = (TL.tl x).all (fun c => decide (c < 128)) := all_tl x _
theorem isdigit_tl (x : Str) : Txt.isdigit x = (decide (0 < (TL.tl x).length) && (TL.tl x).all Unicode.isDigit) := by
  unfold Txt.isdigit
  rw [all_tl, TL.len_tl]
theorem numB_num {n : Nat} (h : n < 10000) : numB (numS n) = true := by
  have dg := TL.numL_digits n
  have ne := TL.numL_ne n
  unfold numB
  rw [isascii_tl, isdigit_tl, tl_numS, starts0, tl_numS, TL.len_tl, tl_numS]
  have a1 : (TL.numL n).all (fun c => decide (c < 128)) = true := List.all_eq_true.mpr fun c hc => by
    have := dg c hc
    exact decide_eq_true (by omega)
  have a2 : (TL.numL n).all Unicode.isDigit = true := List.all_eq_true.mpr fun c hc => dig_is (dg c hc)
  have a3 : 0 < (TL.numL n).length := List.length_pos_iff.mpr ne
  have a4 : (TL.numL n).length ≤ 4 := TL.numL_len (k := 4) (by decide) (by omega)
  rw [a1, a2, decide_eq_true a3, decide_eq_true a4]
  by_cases z : n = 0
  · subst z
    rw [show numS 0 = ("0" : Str) by decide +kernel, decide_eq_true rfl]
    rfl
  · obtain ⟨d, r, e, nd⟩ := numL_head n (by omega)
    rw [e]
    show (true && true && true && true && (_ || !decide (d = 48))) = true
    rw [decide_eq_false nd]
    simp
theorem inV_word {wd : Str} (h : okWord wd) : inV (.str wd) wordsV = true := by
  rcases h with rfl | rfl | rfl <;> decide +kernel
theorem rowOf_join (s : Str × Nat) : rowOf s = Txt.join (" " : Str) [s.1, numS s.2] := by
  rw [TL.join_eq]
  rfl
theorem word_free {wd : Str} (h : okWord wd) {c : Nat} (hc : c = 32 ∨ c = 10) : c ∉ TL.tl wd := by
  rcases h with rfl | rfl | rfl <;> rcases hc with rfl | rfl <;> decide +kernel
theorem split_row {s : Str × Nat} (h : okWord s.1) : Txt.split (rowOf s) (" " : Str) = [s.1, numS s.2] := by
  rw [rowOf_join]
  refine TL.split_join (s := 32) (S := []) (by decide +kernel) (by decide +kernel) (by simp) fun p hp => ?_
  rcases List.mem_cons.mp hp with rfl | hp
  · exact word_free h (.inl rfl)
  · rw [List.mem_singleton.mp hp, tl_numS]
    exact TL.numL_free (.inl (by decide))
theorem row_free {s : Str × Nat} (h : okWord s.1) : 10 ∉ TL.tl (rowOf s) := by
  unfold rowOf
  rw [TL.tl_append, TL.tl_append]
  intro z
  rcases List.mem_append.mp z with z | z
  · rcases List.mem_append.mp z with z | z
    · exact word_free h (.inr rfl) z
    · exact absurd z (by decide +kernel)
  · have e : TL.tl (Str.ofString (toString (s.2 : Int))) = TL.numL s.2 := tl_numS s.2
    rw [e] at z
    exact TL.numL_free (.inl (by decide)) z
theorem split_text {ss : List (Str × Nat)} (ne : ss ≠ []) (h : ∀ s, s ∈ ss → okWord s.1) : Txt.split (textOf ss) ("\n" : Str) = ss.map rowOf := by
  unfold textOf
  refine TL.split_join (s := 10) (S := []) (by decide +kernel) (by decide +kernel) (by simpa using ne) fun p hp => ?_
  obtain ⟨s, hs, rfl⟩ := List.mem_map.mp hp
  exact row_free (h s hs)
theorem text_ne {ss : List (Str × Nat)} (ne : ss ≠ []) (h : ∀ s, s ∈ ss → okWord s.1) : ¬ textOf ss = ("" : Str) := fun z => by
  have e := split_text ne h
  rw [z, show Txt.split ("" : Str) ("\n" : Str) = [("" : Str)] by decide +kernel] at e
  cases ss with
  | nil => exact ne rfl
  | cons s r =>
    have e1 : ("" : Str) = rowOf s := (List.cons.inj e).1
    have l := congrArg Str.length e1
    unfold rowOf at l
    rw [slen, slen] at l
    have l0 : ("" : Str).length = 0 := by decide +kernel
    have l1 : (" " : Str).length = 1 := by decide +kernel
    omega
theorem text_len {ss : List (Str × Nat)} (n60 : ss.length ≤ 60) (sm : ∀ s, s ∈ ss → s.1.length ≤ 100 ∧ s.2 < 1000000) : (textOf ss).length + 2 ≤ sizeLine := by
  have h1 := text_room n60 sm
  unfold textOf
  rw [TL.join_eq]
  have key : ∀ (l : List Str), (Str.join ("\n" : Str) l).length ≤ (l.map (·.length)).sum + l.length * ("\n" : Str).length := by
    intro l
    induction l with
    | nil => exact Nat.zero_le _
    | cons x r ih =>
      cases r with
      | nil =>
        show x.length ≤ _
        simp
      | cons y q =>
        show (x ++ ("\n" : Str) ++ Str.join ("\n" : Str) (y :: q)).length ≤ _
        rw [slen, slen, List.map_cons, List.sum_cons, List.length_cons, Nat.succ_mul]
        omega
  have h2 := key (ss.map rowOf)
  have h3 : ((ss.map rowOf).map (·.length)).sum ≤ ((ss.map rowOf).map (·.length)).length * 107 := by
    refine sum_le fun x hx => ?_
    obtain ⟨y, hy, rfl⟩ := List.mem_map.mp hx
    obtain ⟨z, hz, rfl⟩ := List.mem_map.mp hy
    obtain ⟨w1, w2⟩ := sm _ hz
    have hn := num_len w2
    show (rowOf z).length ≤ 107
    unfold rowOf
    rw [slen, slen]
    have : (" " : Str).length = 1 := by decide +kernel
    omega
  rw [List.length_map, List.length_map] at h3
  rw [List.length_map] at h2
  have l1 : ("\n" : Str).length = 1 := by decide +kernel
  rw [l1] at h2
  exact Nat.le_trans (show _ ≤ 6600 by omega) (by decide)
/-! ### the program: a text's error, made -/
section
open PySem.W PySem.Calls NdefX LamX
theorem inv_pin {X : Cx} {pins : List (Addr × Obj)} {σ : L2.St} {H : Hp} {s : Shared} {u : Addr} {o : Obj} (I : Inv X pins σ H s) (hu : s.heap.get? u = some o) (hn : H u = none) (h1 : u ≠ X.env.locals) (h2 : u ∉ X.fs) (h3 : ∀ v, o.data ≠ .cell v) : Inv X ((u, o) :: pins) σ H s :=
  ⟨I.ok, I.os, I.bare, I.base, I.loc, I.cell, I.free, I.freeC, fun p hp => by
    rcases List.mem_append.mp hp with hp | hp
    · exact I.pin p (List.mem_append.mpr (.inl hp))
    · rcases List.mem_cons.mp hp with rfl | hp
      · exact ⟨hu, hn, h1, h2, h3⟩
      · exact I.pin p (List.mem_append.mpr (.inr hp)), I.hok, I.len⟩
theorem inv_unpin {X : Cx} {pins : List (Addr × Obj)} {σ : L2.St} {H : Hp} {s : Shared} {q : Addr × Obj} (I : Inv X (q :: pins) σ H s) : Inv X pins σ H s :=
  ⟨I.ok, I.os, I.bare, I.base, I.loc, I.cell, I.free, I.freeC, fun p hp => by
    rcases List.mem_append.mp hp with hp | hp
    · exact I.pin p (List.mem_append.mpr (.inl hp))
    · exact I.pin p (List.mem_append.mpr (.inr (List.mem_cons_of_mem _ hp))), I.hok, I.len⟩
theorem sinit_call {X : Cx} {pins : List (Addr × Obj)} {σ : L2.St} {H : Hp} {s : Shared} {a C u : Addr} {us : List Value} {A : Around} {Q : Value → Shared → Prop} {E : Value → Shared → Prop} (T : OexC X.K C) (I : Inv X pins σ H s) (e : H a = some (exo a C none))
    (hu : s.heap.get? u = some (kxs_mw "ValueError.__init__" a)) (hl : us.length ≤ sizeLine) (h : ∀ s', Inv X pins σ H s' → Q .none s') : wpAny (model X.prog X.w) A (call (.ref u) us) Q E s := by
  obtain ⟨nm, q, N, bs, bm, sn, sub, ab, col, dd, k0, k1, k2, k3, k5, hC, hbm⟩ := T.cls
  have hCs := I.kIn _ _ hC
  obtain ⟨t1, ho⟩ := exo_at I.hok e
  have fin : ∀ h', (∀ b o, b ≠ a → s.heap.get? b = some o → h'.get? b = some o) → h'.get? a = some (excObj C s.heap.objs.size none .none) → Q .none { s with heap := h' } := fun h' k hx => by
    have J := I.write (t' := s.toks) (x := a) (e := a) (o := exo a C none) (by rw [e]; exact True.intro) (.inl rfl) k ⟨_, hx⟩ (exo_ok hx)
    have eu : upd H a (exo a C none) = H := funext fun b => by
      by_cases hb : b = a
      · rw [hb, upd_same, e]
      · rw [upd_ne hb]
    rw [eu] at J
    exact h _ J
  obtain ⟨hp, g, d, t, os⟩ := s
  have m1 : (Value.type "method-wrapper" == Value.type "method" || Value.type "method-wrapper" == Value.type "builtin_function_or_method" || Value.type "method-wrapper" == Value.type "method-wrapper") = true := by decide
  refine wpAny_call (codeAny_of_tree (show wpAny _ A.in1 (callAny (.ref u) ⟨us, []⟩) _ _ _ from ?_))
  simp only [callAny]
  refine wpAny_bind (wpAny_load hu ?_)
  simp only [kxs_mw, m1, if_true]
  refine KFB.if_so (by decide) (wpAny_bind (check_bound_init F.excBase_ValueError.toExcCallFacts hCs ho rfl (wpAny_bind (wpAny_pure (wpAny_pure ⟨plainId_quiet F.excBase_ValueError.init.plain _, codeAny_builtin F.excBase_ValueError.initEntry ?_⟩)))))
  exact exc_init_tree (cls := .ref C) (t0 := t1) (dv := none) (c2 := .none) (c3 := .none) (b4 := .bool false) ho hl fun h' k hx _ => fin h' k hx
def spBInit (C : Addr) : Sp := fun vs H Q _ => ∃ (a : Addr) (n : Nat), vs = [.ref a, .int (n : Int)] ∧ n < 1000000 ∧ H a = some (exo a C none) ∧ ∀ dx, H dx = none → dx ≠ a → Q .non (upd (upd H dx (exd dx [("row", .int (n : Int))])) a (exo a C (some dx)))
theorem sc_binit : NScope ["self", "row", "__class__"] ["self", "row"] ["__class__"] (defScope m_BadText_init) := nscope_by (by decide +kernel)
theorem ok_binit {P : Program} {w : World} {K : Frag} {mg : Str → Option Value} {base : Heap} {fI C cc cda : Addr} {oc kV doc pm ct ccl cl : Value} {od an cdd cld : Option Addr} {osl ccs csl : Array (Option Value)} {vv : Array Value} {file : Str} {tf : Tok} {cdD : ClassData}
    (lk : K.lookup fI = some ⟨oc, od, .func (ksFn "__init__" "BadText.__init__" (defArgs m_BadText_init) (defBody m_BadText_init) (defScope m_BadText_init) .none kV doc pm an (.ref cda) ct cc), osl⟩)
    (hcd : codeIn K (.ref cda) "BadText.__init__" = true) (hco : K.lookup cda = some ⟨ccl, cdd, .fields vv, ccs⟩) (hvs : vv[2]? = some (.str file tf)) (hfile : ((P.main.file : Str) == file) = true) (htop : (P.main.scope.names.lookup ("super" : Str)).isSome = false)
    (hce : K.lookup cc = some ⟨cl, cld, .cell (some (.ref C)), csl⟩) (hsu : mg "super" = none) (T : OexC K C) (hno : findIn K (.ref C) "row" = some none) (hth : nsIn K cStatics "thirdparty.any" = some none)
    (hcl : clsIn K C = some cdD) (hsm : alongIn K "__init__" ((cdD.mro.dropWhile (· != .ref C)).drop 1) = some (some (.builtin "ValueError.__init__"))) (hsB : subIn K (.ref C) (.type "ValueError") = some true) (hsC : mroIn K C (.ref C) = some true) :
    FnOk P w K mg base CX0 1 fI (ksFn "__init__" "BadText.__init__" (defArgs m_BadText_init) (defBody m_BadText_init) (defScope m_BadText_init) .none kV doc pm an (.ref cda) ct cc) ["self", "row"] (spBInit C) := by
  refine ⟨fun vs H Q E h => by obtain ⟨a, n, rfl, _⟩ := h; rfl, fun A outer s H args us vs Q E hr e0 hb r hsp => ?_⟩
  obtain ⟨a, n, rfl, n6, ha, q⟩ := hsp
  have KX : K.In s.heap := e0.mod.kin.keeps fun b o e => (e0.bs b o e).1
  have lim : s.heap.NoLimit := e0.mod.nolimit.keeps fun b o e => (e0.bs b o e).1
  have h0 : ∀ {b : Addr} {o : Obj}, K.lookup b = some o → H b = none := fun {b o} e => (e0.bs b o (e0.mod.kin _ _ e)).2
  obtain ⟨tk, rfl⟩ : ∃ tk, us = [.ref a, .int (n : Int) tk] := by
    cases r with
    | cons r1 rr =>
      cases rr with
      | cons r2 rr =>
        cases rr
        obtain ⟨tk, rfl⟩ := r2
        obtain rfl := r1
        exact ⟨tk, rfl⟩
  let F : NF := ⟨"__init__", "BadText.__init__", defArgs m_BadText_init, defBody m_BadText_init, defScope m_BadText_init, [("__class__", cc)], cda⟩
  have key : ∀ {y : Str} {c : Addr}, F.cl.lookup y = some c → y = "__class__" ∧ c = cc := fun {y c} e => by
    have e' : ([("__class__", cc)] : List (Str × Addr)).lookup y = some c := e
    cases z : (y == ("__class__" : Str)) with
    | true =>
      simp only [List.lookup, z] at e'
      exact ⟨beq_iff_eq.mp z, (Option.some.inj e').symm⟩
    | false =>
      simp only [List.lookup, z] at e'
      cases e'
  have CA : CellsAt F.cl ["__class__"] [none] s.heap H := by
    refine ⟨rfl, fun y c e => ?_, fun x y c e1 e2 => (key e1).1.trans (key e2).1.symm, fun i y e => ?_⟩
    · rw [(key e).2]
      exact ⟨h0 hce, _, _, KX _ _ hce, rfl⟩
    · cases i with
      | zero => exact ⟨cc, by rw [← Option.some.inj e]; rfl, fun v z => nomatch z⟩
      | succ i => simp at e
  have hloc : ∀ y ∈ (["self", "row"] : List Str).zip [Value.ref a, Value.int (n : Int) tk], (defScope m_BadText_init).names.lookup y.1 = some .local := fun y hy => by
    rcases List.mem_cons.mp hy with rfl | hy
    · exact sc_binit.par _ (by simp)
    · rw [List.mem_singleton.mp hy]
      exact sc_binit.par _ (by simp)
  refine ks_codeAny_call_defAt hr.depth (KX _ _ lk) rfl lim (codeRec_of KX hcd) rfl hb (show ∀ x ∈ (defScope m_BadText_init).names, x.2 ≠ .cell by decide +kernel) hloc (fun h₁ hns kp => ?_)
  have I : Inv (ncx CX0 P w K mg base ["self", "row", "__class__"] F fI A outer s H E) [] (startF ["self", "row", "__class__"] [.ref a, .int (n : Int)] [none]) H { s with heap := h₁, toks := s.toks + ((["self", "row"] : List Str).zip [Value.ref a, Value.int (n : Int) tk]).length } :=
    inv_startN sc_binit hr.hd e0 rfl r CA hns kp
  obtain ⟨t1, hoa⟩ := exo_at I.hok ha
  have hoC : ∃ oC, h₁.get? C = some oC ∧ oC.data = .cls cdD := by
    unfold clsIn at hcl
    split at hcl
    · rename_i c' d' cd' sl' ho
      cases hcl
      exact ⟨_, kp _ _ (KX _ _ ho), rfl⟩
    · cases hcl
  obtain ⟨oC, hC1, hC2⟩ := hoC
  have neC : a ≠ C := fun z => by
    rw [z, hC1] at hoa
    have e := Option.some.inj hoa
    rw [e] at hC2
    cases hC2
  have K1 : K.In h₁ := KX.keeps kp
  obtain ⟨mb, hmb, hbt⟩ := I.mod.blt
  refine ks_wpAt_execs_cons (ks_wpAt_Expr_any (ks_wpAt_MethodCall (ks_wpAt_super_base rfl rfl rfl rfl (kp _ _ (KX _ _ lk)) rfl rfl rfl (kp _ _ (KX _ _ hco)) rfl hvs hfile htop ?_)))
  refine ks_loadName_global rfl rfl (loadGlobal_builtin (I.mod.glob.keeps I.bk) hsu (hmb.keeps I.bk) ((hbt "super" (by decide +kernel)).trans Boot.«super») ⟨rfl, ?_⟩)
  refine wpAny_loadName_free rfl rfl rfl ⟨_, kp _ _ (KX _ _ hce), rfl⟩ ?_
  refine wpAny_loadName_local rfl rfl hns rfl ?_
  refine ks_wpAny_isType_cls hC1 hC2 ⟨rfl, ?_⟩
  refine ks_wpAny_call_super hC1 hC2 hoa rfl (fun c z => by cases z) (looks_mroIn K1 hsC) (fun h2 e2 k2 => ?_)
  have K2 : K.In h2 := K1.keeps k2
  have I2 : InstAt h2 a { cls := .ref C, dict := none, data := .fields #[.ref t1, .none, .none, .none, .bool false, .none] } C none := ⟨k2 _ _ hoa, rfl, rfl, trivial⟩
  refine kxs_getMethod kxs_ValueError e2 (looks_opaque K2 hth) (l₀ := cdD.mro) (fun A Q E s k q => wpAny_bind ((looks_clsIn K2 hcl) A _ E s k (wpAny_pure q))) rfl K2 hsm (I2.type.andThen (looks_subIn K2 hsB)) neC (by decide) ?_
  have sz2 : h₁.objs.size ≤ h2.objs.size := Nat.le_of_lt (Heap.lt_size e2)
  have keep3 : ∀ b o, h₁.get? b = some o → (h2.push (kxs_mw "ValueError.__init__" a)).get? b = some o := fun b o e => Heap.get?_push_of_some _ (k2 _ _ e)
  have hu : (h2.push (kxs_mw "ValueError.__init__" a)).get? h2.objs.size = some (kxs_mw "ValueError.__init__" a) := Heap.get?_push_size _ rfl
  refine kxs_callWith (i := "ValueError.__init__") (x := a) rfl (evalArgs_plain ?_)
  have J3 := inv_pin (I.kept (t' := s.toks + 2 + 1) keep3) hu (I.hok.fresh sz2) (Nat.ne_of_gt (Nat.lt_of_lt_of_le I.lt sz2)) (I.nofs sz2) (fun v z => by cases z)
  refine thn ((pa_cons (X := ncx CX0 P w K mg base ["self", "row", "__class__"] F fI A outer s H E) (pe_joined (.cons pe_str (.cons (pe_fmt (pv 1)) (.cons pe_str .nil)))) pa_nil).run _ _ _ _ _ (fun vs H1 => vs.length ≤ 1000 ∧ H1 = H) J3 ?_) (fun us s1 hh => ?_)
  · have hn := num_len n6
    have lg : ((n : Int)).natAbs.log2 < 1920 := by
      rw [Int.natAbs_natCast]
      by_cases z : n = 0
      · rw [z]; decide
      · exact (Nat.log2_lt z).mpr (Nat.lt_of_lt_of_le n6 (Nat.le_trans (show 1000000 ≤ 2 ^ 20 by decide) (Nat.pow_le_pow_right (by decide) (by decide))))
    have l1 : (Str.empty ++ ("row " : Str)).length = 4 := by decide +kernel
    have l3 : (" is no step" : Str).length = 11 := by decide +kernel
    have l2 : (Str.empty ++ ("row " : Str) ++ Str.ofString (toString (n : Int))).length ≤ 10 := by
      rw [slen, l1]
      omega
    refine ⟨_, rfl, by rw [l1]; decide, _, rfl, .inr ⟨_, rfl, lg, _, rfl, Nat.le_trans l2 (by decide), _, rfl, ?_, Nat.le_of_ble_eq_true rfl, rfl⟩⟩
    rw [slen, l3]
    exact Nat.le_trans (Nat.add_le_add_right l2 11) (by decide)
  · obtain ⟨vs, H1, I4, r4, hl4, rfl⟩ := hh
    have hp := I4.pin (_, _) (List.mem_append.mpr (.inr List.mem_cons_self))
    refine ⟨hp.1, sinit_call T I4 ha hp.1 (show us.length ≤ sizeLine by rw [← Paired.length r4, sizeLine_eq]; omega) fun s5 J5 => ?_⟩
    refine wpAt_of_wpAny (wpAny_mono ((pss_one (ps_ost (pv 0) (pv 1))).run [] s5 _ H1 { nx := fun _ H' => Q .non H', rt := Q } (inv_unpin J5) ?_) (fun fl s6 hs => ?_) fun e s6 hs => hs)
    · exact ⟨_, rfl, _, rfl, a, C, rfl, T, hno, .inl ⟨ha, fun dx n1 n2 => q dx n1 n2⟩⟩
    · cases fl with
      | next =>
        obtain ⟨σ', H', J, z⟩ := hs
        exact ⟨.non, H', J.os, J.bare, J.base, J.hok, rfl, z⟩
      | ret u =>
        obtain ⟨v, σ', H', J, rv, z⟩ := hs
        exact ⟨v, H', J.os, J.bare, J.base, J.hok, rv, z⟩
      | brk => exact absurd hs (fun ⟨_, _, _, z⟩ => z)
      | cont => exact absurd hs (fun ⟨_, _, _, z⟩ => z)
end
/-! ### isinstance of a caught error that has fields -/
section
open PySem.W PySem.Calls
theorem isd_class {prog : Program} {w : World} {A : Around} {E : Value → Shared → Prop} {s : Shared} {K : Frag} {x D : Addr} {ox od : Obj} {Q : Option Value → Shared → Prop} (C : ExcC K D) (X : K.In s.heap) (I : InstAt s.heap x ox D (some od)) (h : Q (some (.ref D)) { s with toks := s.toks + 1 }) :
    wpAny (model prog w) A (getAttr? (.ref x) "__class__") Q E s := by
  have here : findObj K D (some od) "__class__" = some (.bind (.builtin "getset_descriptor.__get__") (.builtin "object.__class__")) := findObj_data (by obtain ⟨cd, hc, _⟩ := any_some C.hd; rw [hc]; rfl) C.ha C.hn C.ht
  obtain ⟨hp, g, d, t, os⟩ := s
  have la := I.type (M := model prog w); have lb := looks_findIn (M := model prog w) X C.hg; have lc := looks_findIn (M := model prog w) X C.hk; have ld := looks_find (M := model prog w) X I here
  have isE : Looks (model prog w) hp (isInstance (.ref x) (.type "BaseException")) true := la.andThen (looks_subIn X C.hs)
  have no1 : (false && onTheHeap (Value.builtin "BaseException.__getattribute__")) = false := rfl; have no2 : (Value.builtin "BaseException.__getattribute__" == Value.builtin "object.__getattribute__") = false := by decide +kernel
  have no3 : (onTheHeap (Value.ref D) && Value.builtin "BaseException.__getattribute__" == Value.builtin "object.__getattribute__") = false := by rw [no2]; rfl
  unfold getAttr? getAttrBy? getAttrBy
  refine wpAny_bind (wpAny_mkText (wpAny_bind (wpAny_attempt (wpAny_holding (wpAny_bind (la.at (wpAny_bind (lb.at (show wpAny _ _ (if (onTheHeap (Value.ref D) && Value.builtin "BaseException.__getattribute__" == Value.builtin "object.__getattribute__") = true then _ else _) _ _ _ from ?_)))))))))
  rw [no3, if_neg Bool.false_ne_true]; unfold getAttrByItsOwn hookBefore
  refine wpAny_bind (show wpAny _ _ (if onTheHeap (Value.ref D) = true then _ else _) _ _ _ from ?_); rw [if_pos (show onTheHeap (Value.ref D) = true from rfl)]
  refine lc.at (wpAny_bind (wpAny_attempt (wpAny_holding ?_))); unfold callGetattribute
  rw [no1, if_neg Bool.false_ne_true]; unfold boundAndCalled
  rw [PySem.F.excAttr_ValueError.ga.bind (.ref x)]
  refine wpAny_bind (wpAny_pure (show wpAny _ _ (call (.builtin "BaseException.__getattribute__") [.ref x, .str "__class__" t]) _ _ _ from ?_))
  refine wpAny_call (codeAny_call_builtin PySem.F.excAttr_ValueError.ga.plain PySem.F.entry_bexc_ga (@check_slot (model prog w) _ _ ⟨hp, g, d, t + 1, os⟩ "BaseException.__getattribute__" "BaseException" "__getattribute__" (.ref x) [.str "__class__" t] [] _ (by decide +kernel) (by decide +kernel) isE (PySem.F.args_bexc_ga (.ref x) (.str "__class__" t)) ?_))
  unfold Builtin.«object.__getattribute__»
  refine wpAny_bind (wpAny_of_eq (a := ((Value.ref x : Value), [Value.str "__class__" t])) (by first | rfl | (simp only [slotArgs]; rfl)) (wpAny_bind (wpAny_pure (wpAny_bind (la.at (wpAny_bind (ld.at ?_)))))))
  show wpAny _ _ (holding [Value.builtin "object.__class__"] (call (.builtin "getset_descriptor.__get__") [.builtin "object.__class__", .ref x, .ref D]) >>= ret) _ _ _
  refine wpAny_bind (wpAny_holding (wpAny_call (class_get (s := ⟨hp, g, d, t + 1, os⟩) (ox := ox) (od := some od) X I C.hm (wpAny_pure (show wpAny _ _ (handedOut (.ref D)) _ _ _ from ?_)))))
  rw [handedOut_of (v := .ref D) rfl]
  first | exact wpAny_pure (wpAny_pure h) | exact wpAny_pure h | exact wpAny_pure (wpAny_bind (wpAny_pure (wpAny_pure h)))
theorem isd_kitx {K : Frag} {x D : Addr} {ox : Obj} (C : ExcC K D) : KitX K (.ref x) (.ref D) (fun h => ∃ od, InstAt h x ox D (some od)) where
  ty := fun _ _ _ ⟨od, I⟩ => I.type
  it := fun _ _ X _ => by
    obtain ⟨cd0, hc0, _⟩ := any_some C.hd
    unfold clsIn at hc0
    split at hc0
    · rename_i c1 d1 cd1 sl1 ho1
      intro A1 Q1 E1 s1 k q
      unfold isType loadHead
      exact wpAny_bind (wpAny_loadPart (k _ _ (X _ _ ho1)) (wpAny_pure q))
    · cases hc0
  ne := fun h tp dd its n sl X e => (handS_kitx_exc (x := x) (ox := ox) C.hg C.hk C.hs C.hd C.ha C.hn C.ht C.hm).ne h tp dd its n sl X e
  ca := fun X ⟨od, I⟩ k => isd_class C X I k
theorem vals_refs : ∀ {as : List Addr} {us : List Value}, Vals (as.map V.ref) us → us = as.map Value.ref
  | [], _, h => by cases h; rfl
  | a :: r, _, h => by
    cases h with
    | cons h1 h2 =>
      obtain rfl := h1
      rw [vals_refs h2]
      rfl
/-- isinstance(e, c), and isinstance(e, (c1, ..)), e the exception that the suite holds, with fields at dd -/
def rIsD (K : PySem.W.Frag) (D a dd : Addr) : List V → Hp → VK → Prop := fun xs H Q => ∃ (b : Bool) (fs : List (Str × V)), H dd = some (.xd fs) ∧ Q (.bl b) H ∧
  ((∃ (c : V) (cv : Value), xs = [.ref a, c] ∧ (∀ u, RelV c u → u = cv) ∧ PySem.W.kitOne K (.ref D) cv = some b) ∨ ∃ (tp : Addr) (as : List Addr), xs = [.ref a, .ref tp] ∧ H tp = some (.tup (as.map V.ref)) ∧ PySem.W.kitAny K (.ref D) (as.map Value.ref) = some b)
theorem call_isD {X : Cx} {a D dd : Addr} {oe : Obj} {pn : List (Addr × Obj)} (C : ExcC X.K D) (hz : Zc (.ref D) (some dd) oe) (hf : ∃ vs, oe.data = .fields vs) : CallR (X.suite a ((a, oe) :: pn)) (.builtin "isinstance") (rIsD X.K D a dd) := by
  intro pins s σ H xs us Q I r h
  obtain ⟨b, fs, ed, q, h⟩ := h
  obtain ⟨ha, _⟩ := I.pin (a, oe) (List.mem_append_left _ List.mem_cons_self)
  have hx : ObjOk X.prog X.w H s.heap dd (.xd fs) := I.hok dd _ ed
  obtain ⟨mA, hns, _⟩ := hx
  obtain ⟨od, ho, _⟩ := lookIn_ns hns
  have J : ∃ o, PySem.W.InstAt s.heap a oe D (some o) := ⟨od, ha, hz.1, by obtain ⟨vs, hd⟩ := hf; unfold PySem.W.notCls; rw [hd] <;> rfl, by rw [hz.2]; exact ho⟩
  rcases h with ⟨c, cv, rfl, hcv, e⟩ | ⟨tp, as, rfl, hT, e⟩
  · cases r with
    | cons rx rr =>
      cases rr with
      | cons rt rr =>
        cases rr
        cases rx
        have ec := hcv _ rt
        subst ec
        exact PySem.W.kia_one (isd_kitx C) I.kIn J e (fun z => nomatch z) fun tk => ⟨.bl b, H, I.tok tk, rfl, q⟩
  · cases r with
    | cons rx rr =>
      cases rr with
      | cons rt rr =>
        cases rr
        cases rx
        cases rt
        obtain ⟨_, its, rv, o, h1, h2, n, h3⟩ := (show ObjOk X.prog X.w H s.heap tp (.tup (as.map V.ref)) from I.hok tp _ hT)
        have e3 := vals_refs rv
        subst e3
        obtain ⟨oc, od', dt, sl⟩ := o
        simp only at h2 h3
        subst h2 h3
        exact PySem.W.kia_tup (isd_kitx C) I.kIn J h1 e (fun z => nomatch z) fun tk => ⟨.bl b, H, I.tok tk, rfl, q⟩
end
/-! ### how long the parts of a text are -/
theorem spl_wt (S : List Nat) : ∀ (l : List Nat) (k : Nat) (acc : List Nat), ((TL.spl S k acc l).map fun p => p.length + 1).sum ≤ acc.length + l.length + 1
  | [], k, acc => by
    rw [TL.spl_nil]
    simp
  | c :: r, 0, acc => by
    cases h : TL.pre S (c :: r) with
    | true =>
      rw [TL.spl_hit h, List.map_cons, List.sum_cons, List.length_cons]
      have := spl_wt S r (S.length - 1) []
      rw [List.length_nil] at this
      omega
    | false =>
      rw [TL.spl_miss h, List.length_cons]
      have := spl_wt S r 0 (acc ++ [c])
      rw [List.length_append, List.length_singleton] at this
      omega
  | c :: r, k + 1, acc => by
    have e : TL.spl S (k + 1) acc (c :: r) = TL.spl S k acc r := rfl
    rw [e, List.length_cons]
    have := spl_wt S r k acc
    omega
theorem spl_ne (S : List Nat) : ∀ (l : List Nat) (k : Nat) (acc : List Nat), TL.spl S k acc l ≠ []
  | [], k, acc => by
    rw [TL.spl_nil]
    simp
  | c :: r, 0, acc => by
    cases h : TL.pre S (c :: r) with
    | true =>
      rw [TL.spl_hit h]
      simp
    | false =>
      rw [TL.spl_miss h]
      exact spl_ne S r 0 _
  | c :: r, k + 1, acc => spl_ne S r k acc
def wt (ps : List Str) : Nat := (ps.map fun p => p.length + 1).sum
theorem wt_tl (ps : List Str) : wt ps = ((ps.map TL.tl).map fun p => p.length + 1).sum := by
  unfold wt
  rw [List.map_map]
  refine congrArg List.sum (List.map_congr_left fun p _ => ?_)
  show p.length + 1 = (TL.tl p).length + 1
  rw [TL.len_tl]
theorem split_wt {x y : Str} (hy : TL.tl y ≠ []) (hk : y.cps.all (· < 256) = true) : wt (Txt.split x y) ≤ x.length + 1 := by
  rw [wt_tl, TL.split_spl x y hy (TL.kind_ok hk), TL.len_tl x]
  have := spl_wt (TL.tl y) (TL.tl x) 0 []
  rw [List.length_nil] at this
  omega
theorem split_ne {x y : Str} (hy : TL.tl y ≠ []) (hk : y.cps.all (· < 256) = true) : Txt.split x y ≠ [] := fun z => by
  have := TL.split_spl x y hy (TL.kind_ok hk)
  rw [z] at this
  exact spl_ne _ _ _ _ this.symm
theorem wt_app (a b : List Str) : wt (a ++ b) = wt a + wt b := by
  unfold wt
  rw [List.map_append, List.sum_append]
theorem wt_cons (a : Str) (b : List Str) : wt (a :: b) = a.length + 1 + wt b := by
  unfold wt
  rw [List.map_cons, List.sum_cons]
theorem wt_nil : wt [] = 0 := rfl
theorem wt_take (ps : List Str) (n : Nat) : wt (ps.take n) ≤ wt ps := by
  have h := wt_app (ps.take n) (ps.drop n)
  rw [List.take_append_drop] at h
  omega
theorem wt_drop (ps : List Str) (n : Nat) : wt (ps.drop n) ≤ wt ps := by
  have h := wt_app (ps.take n) (ps.drop n)
  rw [List.take_append_drop] at h
  omega
theorem wt_mem : ∀ {ps : List Str} {p : Str}, p ∈ ps → p.length + 1 ≤ wt ps
  | a :: r, p, h => by
    rw [wt_cons]
    rcases List.mem_cons.mp h with rfl | h
    · omega
    · have := wt_mem h
      omega
theorem wt_len : ∀ ps : List Str, ps.length ≤ wt ps
  | [] => Nat.zero_le _
  | a :: r => by
    rw [wt_cons, List.length_cons]
    have := wt_len r
    omega
theorem join_wt {y : Str} (hy : y.length = 1) (ps : List Str) : (Txt.join y ps).length ≤ wt ps := by
  rw [TL.join_eq]
  induction ps with
  | nil => exact Nat.zero_le _
  | cons x r ih =>
    rw [wt_cons]
    cases r with
    | nil =>
      show x.length ≤ _
      omega
    | cons z q =>
      show (x ++ y ++ Str.join y (z :: q)).length ≤ _
      rw [slen, slen, hy]
      omega
theorem join_room {y : Str} (hy : y.length = 1) (ps : List Str) : (ps.map (·.length)).sum + ps.length * y.length = wt ps := by
  rw [hy, Nat.mul_one]
  induction ps with
  | nil => rfl
  | cons x r ih =>
    rw [wt_cons, List.map_cons, List.sum_cons, List.length_cons]
    omega
/-! ### numbers by their figures -/
theorem dig_back {l : List Nat} (h : NumText.AllDigits l) (h1 : l ≠ []) (h4 : l.length ≤ 4) (h0 : l.length = 1 ∨ l.head? ≠ some 48) : TL.numL (NumText.digitsVal l) = l := by
  match l, h1, h4, h0, h with
  | [a], _, _, _, h =>
    have ha := h a (by simp)
    have e : NumText.digitsVal [a] = a - 48 := by
      show 0 * 10 + (a - 48) = a - 48
      omega
    rw [e, TL.numL_lt (by omega), show 48 + (a - 48) = a by omega]
  | [a, b], _, _, h0, h =>
    have ha := h a (by simp)
    have hb := h b (by simp)
    have na : a ≠ 48 := fun z => h0.elim (fun q => by cases q) (fun q => q (by rw [z]; rfl))
    have e : NumText.digitsVal [a, b] = (a - 48) * 10 + (b - 48) := by
      show (0 * 10 + (a - 48)) * 10 + (b - 48) = _
      omega
    rw [e, TL.numL_step (by omega), show ((a - 48) * 10 + (b - 48)) / 10 = a - 48 by omega, show ((a - 48) * 10 + (b - 48)) % 10 = b - 48 by omega, TL.numL_lt (by omega), show 48 + (a - 48) = a by omega, show 48 + (b - 48) = b by omega]
    rfl
  | [a, b, c], _, _, h0, h =>
    have ha := h a (by simp)
    have hb := h b (by simp)
    have hc := h c (by simp)
    have na : a ≠ 48 := fun z => h0.elim (fun q => by cases q) (fun q => q (by rw [z]; rfl))
    have e : NumText.digitsVal [a, b, c] = ((a - 48) * 10 + (b - 48)) * 10 + (c - 48) := by
      show ((0 * 10 + (a - 48)) * 10 + (b - 48)) * 10 + (c - 48) = _
      omega
    rw [e, TL.numL_step (by omega), show (((a - 48) * 10 + (b - 48)) * 10 + (c - 48)) / 10 = (a - 48) * 10 + (b - 48) by omega, show (((a - 48) * 10 + (b - 48)) * 10 + (c - 48)) % 10 = c - 48 by omega,
      TL.numL_step (by omega), show ((a - 48) * 10 + (b - 48)) / 10 = a - 48 by omega, show ((a - 48) * 10 + (b - 48)) % 10 = b - 48 by omega, TL.numL_lt (by omega), show 48 + (a - 48) = a by omega, show 48 + (b - 48) = b by omega, show 48 + (c - 48) = c by omega]
    rfl
  | [a, b, c, d], _, _, h0, h =>
    have ha := h a (by simp)
    have hb := h b (by simp)
    have hc := h c (by simp)
    have hd := h d (by simp)
    have na : a ≠ 48 := fun z => h0.elim (fun q => by cases q) (fun q => q (by rw [z]; rfl))
    have e : NumText.digitsVal [a, b, c, d] = (((a - 48) * 10 + (b - 48)) * 10 + (c - 48)) * 10 + (d - 48) := by
      show (((0 * 10 + (a - 48)) * 10 + (b - 48)) * 10 + (c - 48)) * 10 + (d - 48) = _
      omega
    rw [e, TL.numL_step (by omega), show ((((a - 48) * 10 + (b - 48)) * 10 + (c - 48)) * 10 + (d - 48)) / 10 = ((a - 48) * 10 + (b - 48)) * 10 + (c - 48) by omega, show ((((a - 48) * 10 + (b - 48)) * 10 + (c - 48)) * 10 + (d - 48)) % 10 = d - 48 by omega,
      TL.numL_step (by omega), show (((a - 48) * 10 + (b - 48)) * 10 + (c - 48)) / 10 = (a - 48) * 10 + (b - 48) by omega, show (((a - 48) * 10 + (b - 48)) * 10 + (c - 48)) % 10 = c - 48 by omega,
      TL.numL_step (by omega), show ((a - 48) * 10 + (b - 48)) / 10 = a - 48 by omega, show ((a - 48) * 10 + (b - 48)) % 10 = b - 48 by omega, TL.numL_lt (by omega), show 48 + (a - 48) = a by omega, show 48 + (b - 48) = b by omega, show 48 + (c - 48) = c by omega, show 48 + (d - 48) = d by omega]
    rfl
  | a :: b :: c :: d :: e :: r, _, h4, _, _ => simp at h4
theorem numL_small {n : Nat} (h : (TL.numL n).length ≤ 4) : n < 10000 := by
  rcases Nat.lt_or_ge n 10000 with z | z
  · exact z
  · exfalso
    rw [TL.numL_step (by omega), TL.numL_step (show 10 ≤ n / 10 by omega), TL.numL_step (show 10 ≤ n / 10 / 10 by omega), TL.numL_step (show 10 ≤ n / 10 / 10 / 10 by omega)] at h
    have h1 := List.length_pos_iff.mpr (TL.numL_ne (n / 10 / 10 / 10 / 10))
    simp only [List.length_append, List.length_singleton] at h
    omega
theorem dig_ascii : ∀ c : Nat, c < 128 → Unicode.isDigit c = true → 48 ≤ c ∧ c ≤ 57 := by decide +kernel
def NumOk (b : Str) : Prop := b ≠ "" ∧ b.length ≤ 4 ∧ NumText.AllDigits (TL.tl b) ∧ numS (NumText.digitsVal (TL.tl b)) = b
theorem tl_empty {b : Str} : TL.tl b = [] ↔ b = "" := ⟨fun h => TL.ext_tl (h.trans (by decide +kernel)), fun h => by rw [h]; decide +kernel⟩
theorem numB_iff (b : Str) : numB b = true ↔ NumOk b := by
  constructor
  · intro h
    unfold numB at h
    rw [isascii_tl, isdigit_tl, starts0] at h
    simp only [Bool.and_eq_true, Bool.or_eq_true, List.all_eq_true, decide_eq_true_eq, Bool.not_eq_true'] at h
    obtain ⟨⟨⟨h1, h2, h3⟩, h4⟩, h5⟩ := h
    have ne : TL.tl b ≠ [] := List.length_pos_iff.mp h2
    have ad : NumText.AllDigits (TL.tl b) := fun c hc => dig_ascii c (h1 c hc) (h3 c hc)
    refine ⟨fun z => ne (tl_empty.mpr z), h4, ad, TL.ext_tl ?_⟩
    rw [tl_numS]
    refine dig_back ad ne (by rw [← TL.len_tl]; exact h4) ?_
    rcases h5 with h5 | h5
    · left
      rw [h5]
      decide +kernel
    · right
      intro z
      cases e : TL.tl b with
      | nil => exact ne e
      | cons c r =>
        rw [e] at z h5
        have z' : c = 48 := Option.some.inj z
        have h6 : decide (c = 48) = false := h5
        rw [decide_eq_true z'] at h6
        cases h6
  · rintro ⟨h1, h2, h3, h4⟩
    rw [← h4]
    refine numB_num (numL_small ?_)
    rw [← tl_numS, h4, ← TL.len_tl]
    exact h2
theorem numOk_int {b : Str} (h : NumOk b) : intText? b = some ((NumText.digitsVal (TL.tl b) : Nat) : Int) ∧ NumText.digitsVal (TL.tl b) < 10000 := by
  obtain ⟨h1, h2, h3, h4⟩ := h
  refine ⟨PySem.intText_digits h3 (fun z => h1 (tl_empty.mp z)) (by omega), numL_small ?_⟩
  rw [← tl_numS, h4, ← TL.len_tl]
  exact h2
/-- over enumerate of a list -/
theorem for_enum {K : PySem.W.Frag} {a : Addr} {xs : List V} {g : TG} {tb : TS} {D : Ends} {σ : L2.St} {H : Hp} (Pv : Nat → L2.St → Hp → Prop) (h0 : Pv 0 σ H) (hl : ∀ i σ H, i ≤ xs.length → Pv i σ H → SqL K H a xs)
    (hs : ∀ i x T σ H, xs[i]? = some x → Pv i σ H → H T = none → g (.ref T) σ (upd H T (.tup [.int ((i : Nat) : Int), x])) fun σ2 H2 => tb { D with nx := Pv (i + 1), ct := Pv (i + 1), bk := D.nx } σ2 H2) (hd : ∀ σ H, Pv xs.length σ H → D.nx σ H) :
    ∃ W : Nat → Nat → L2.St → Hp → Prop, (∃ m, W 0 m σ H) ∧ ∀ i m σ H, W i m σ H →
      ((Ite K a).stop i H ∧ D.nx σ H) ∨ ((Ite K a).go i H ∧ ∃ N : L2.St → Hp → Prop, (∀ σ' H', N σ' H' → ∃ m', m' < m ∧ W (i + 1) m' σ' H') ∧ ∀ x H', (Ite K a).yld i H x H' → g x σ H' fun σ2 H2 => tb { D with nx := N, ct := N, bk := D.nx } σ2 H2) := by
  refine ⟨fun i m σ H => m = xs.length - i ∧ i ≤ xs.length ∧ Pv i σ H, ⟨xs.length, by simp, Nat.zero_le _, h0⟩, ?_⟩
  rintro i m σ H ⟨rfl, hi, p⟩
  have q := hl i σ H hi p
  by_cases hlt : i < xs.length
  · refine .inr ⟨⟨xs, xs[i], q, List.getElem?_eq_getElem hlt⟩, Pv (i + 1), fun σ' H' p' => ⟨xs.length - (i + 1), by omega, rfl, hlt, p'⟩, fun x H' y => ?_⟩
    obtain ⟨T, x', rfl, hT, rfl, f⟩ := y
    exact hs i x' T σ H (f xs q) p hT
  · have e : i = xs.length := by omega
    subst e
    exact .inl ⟨⟨xs, q, Nat.le_refl _⟩, hd σ H p⟩
/-! ### the program: any text read -/
def rowOk (r : Str) : Bool := isStepB (Txt.split r " ")
def rowV (r : Str) : Str × Nat := match Txt.split r " " with
  | [a, b] => (a, NumText.digitsVal (TL.tl b))
  | _ => ("", 0)
def rowsOf (x : Str) : List Str := if x = "" then [] else Txt.split x "\n"
def badAt (rows : List Str) : Option Nat := rows.findIdx? fun r => !rowOk r
theorem isStepB_some {ws : List Str} (h : isStepB ws = true) : ∃ a b, ws = [a, b] ∧ inV (.str a) wordsV = true ∧ NumOk b := by
  match ws, h with
  | [a, b], h =>
    obtain ⟨h1, h2⟩ := Bool.and_eq_true_iff.mp (show (inV (.str a) wordsV && numB b) = true from h)
    exact ⟨a, b, rfl, h1, (numB_iff b).mp h2⟩
theorem isStepB_none {a b : Str} (h : ¬ (inV (.str a) wordsV = true ∧ NumOk b)) : isStepB [a, b] = false := by
  show (inV (.str a) wordsV && numB b) = false
  cases e1 : inV (.str a) wordsV with
  | false => rfl
  | true =>
    cases e2 : numB b with
    | false => rfl
    | true => exact absurd ⟨e1, (numB_iff b).mp e2⟩ h
theorem nl_tl : TL.tl ("\n" : Str) ≠ [] := by decide +kernel
theorem nl_kind : ("\n" : Str).cps.all (· < 256) = true := by decide +kernel
theorem bl_tl : TL.tl (" " : Str) ≠ [] := by decide +kernel
theorem bl_kind : (" " : Str).cps.all (· < 256) = true := by decide +kernel
theorem rows_wt (x : Str) : wt (Txt.split x "\n") ≤ x.length + 1 := split_wt nl_tl nl_kind
theorem words_wt (x : Str) : wt (Txt.split x " ") ≤ x.length + 1 := split_wt bl_tl bl_kind
theorem badAt_none {rows : List Str} (h : ∀ (j : Nat) (r : Str), rows[j]? = some r → rowOk r = true) : badAt rows = none := by
  unfold badAt
  rw [List.findIdx?_eq_none_iff]
  intro r hr
  obtain ⟨j, hj⟩ := List.mem_iff_getElem?.mp hr
  rw [h j r hj]
  rfl
theorem badAt_some {rows : List Str} {k : Nat} {r : Str} (hk : rows[k]? = some r) (hb : rowOk r = false) (h : ∀ (j : Nat) (r : Str), j < k → rows[j]? = some r → rowOk r = true) : badAt rows = some k := by
  unfold badAt
  obtain ⟨kl, ek⟩ := List.getElem?_eq_some_iff.mp hk
  rw [List.findIdx?_eq_some_iff_getElem]
  refine ⟨kl, by rw [ek, hb]; rfl, fun j jk => ?_⟩
  rw [h j _ jk (List.getElem?_eq_getElem _)]
  exact Bool.false_ne_true
theorem StsAt.snoc {H : Hp} {as : List Addr} {ss : List (Str × Nat)} {T : Addr} {x : Str × Nat} (st : StsAt H as ss) (e : H T = some (.tup [.str x.1, .int (x.2 : Int)])) : StsAt H (as ++ [T]) (ss ++ [x]) := by
  refine ⟨by rw [List.length_append, List.length_append, st.len]; rfl, fun i a s h1 h2 => ?_⟩
  by_cases il : i < as.length
  · rw [List.getElem?_append_left il] at h1
    rw [List.getElem?_append_left (by rw [← st.len]; exact il)] at h2
    exact st.at_ i a s h1 h2
  · have jn := (List.getElem?_eq_some_iff.mp h1).1
    rw [List.length_append] at jn
    have je : i = as.length := by
      have : i < as.length + 1 := jn
      omega
    subst je
    rw [List.getElem?_append_right (Nat.le_refl _), Nat.sub_self] at h1
    rw [st.len, List.getElem?_append_right (Nat.le_refl _), Nat.sub_self] at h2
    cases h1
    cases h2
    exact e
theorem StsAt.tk {H H' : Hp} {as : List Addr} {ss : List (Str × Nat)} (a : StsAt H as ss) (k : ∀ x xs, H x = some (.tup xs) → H' x = some (.tup xs)) : StsAt H' as ss := ⟨a.len, fun i x s h1 h2 => k _ _ (a.at_ i x s h1 h2)⟩
def spRead11 (cT : Addr) : Sp := fun vs H Q E => ∃ x : Str, vs = [.str x] ∧ x.length ≤ 100000 ∧
  (badAt (rowsOf x) = none → ∀ H' l as, H l = none → Same H H' → H' l = some (.lst (as.map V.ref)) → StsAt H' as ((rowsOf x).map rowV) → Q (.ref l) H') ∧
  (∀ k, badAt (rowsOf x) = some k → ∀ H' d, Same H H' → H' d = some (.xd [("row", .int (k : Int))]) → E (.ref cT) (some d) H')
section
variable {P : Program} {w : World} {K : PySem.W.Frag} {mg : Str → Option Value} {base : Heap}
theorem sc_read : FnScope ["text", "steps", "row", "line", "words"] ["text"] (defScope s_read) := ⟨rfl, rfl, rfl, by decide +kernel, rfl, by decide +kernel, by decide +kernel⟩
theorem ok_read {cT fI : Addr} {fdI : FuncData} (D : DefAt K mg "read" s_read ["text"]) (m_enum : mg "enumerate" = none) (m_int : mg "int" = none) (C1 : Cl P w K mg base 2 "_is_step" ["words"] spIsStep)
    (T : OexC K cT) (iC : PySem.W.findIn K (.ref cT) "__init__" = some (some (.ref fI))) (tI : PySem.W.typeIn K (.ref fI) = some (.type "function")) (F1 : FnOk P w K mg base CX0 1 fI fdI ["self", "row"] (spBInit cT)) (bI : Binds K fdI ["self", "row"] []) (gT : mg "BadText" = some (.ref cT)) :
    ClX P w K mg base 3 "read" ["text"] (spRead11 cT) := by
  refine D.clx fun f fd F => ?_
  refine F.okX sc_read (fun vs H Q E h => ?_) (fun cdv A outer s H vs Q E hr h => ?_)
  · obtain ⟨x, rfl, _⟩ := h
    rfl
  · obtain ⟨x, rfl, xl, q, qe⟩ := h
    refine ⟨_, pss_cons (ps_if (pt_cmpR op_eq (pv 0) pe_str (nomark _)) (pss_one (ps_ret (pe_lst pa_nil))) pss_nil)
      (pss_cons (ps_set (i := 1) sc_read.nd rfl (Or.inl rfl) (pe_lst pa_nil))
      (pss_cons (ps_for (passes_of rfl) rfl (pi_enum (by rfl) m_enum (pa_cons (pe_bm PySem.F.plainAttrs_str PySem.F.slot_str_split PySem.F.type_str_split mt_split (pv 0) (pa_cons pe_str pa_nil)) pa_nil)) (pg_tup rfl (pgs_cons (pg_name (i := 2) sc_read.nd rfl (Or.inl rfl)) (pgs_cons (pg_name (i := 3) sc_read.nd rfl (Or.inl rfl)) pgs_nil)))
        (pss_cons (ps_set (i := 4) sc_read.nd rfl (Or.inl rfl) (pe_bm PySem.F.plainAttrs_str PySem.F.slot_str_split PySem.F.type_str_split mt_split (pv 3) (pa_cons pe_str pa_nil)))
        (pss_cons (ps_if (pt_not (pt_val (pe_cl C1 hr (pa_cons (pv 4) pa_nil)))) (pss_one (ps_raise rfl (takes_of rfl rfl rfl rfl) (pmk_oex T iC tI F1 hr bI .nil (fun _ _ _ _ _ _ _ h => h.elim) (by rfl) gT (pa_cons (pv 2) pa_nil)))) pss_nil)
        (pss_one (ps_expr (pe_bm PySem.F.plainAttrs_list PySem.F.slot_list_append PySem.F.type_list_append mt_append (pv 1) (pa_cons (pe_tup (pa_cons (pe_ix ix_list (pv 4) pe_int (fun _ _ => rfl)) (pa_cons (pe_callTy call_int_str (by rfl) m_int (by decide +kernel) (pa_cons (pe_ix ix_list (pv 4) pe_int (fun _ _ => rfl)) pa_nil)) pa_nil))) pa_nil)))))))
      (pss_one (ps_ret (pv 1))))), ?_⟩
    refine ⟨_, rfl, rfl, _, rfl, ?_⟩
    rw [dec_str]
    by_cases ne : x = ""
    · subst ne
      rw [decide_eq_true rfl]
      refine iteT ⟨(by show 0 ≤ sizeLine; decide), fun l nl => ?_⟩
      exact q (by rfl) _ l [] nl (same_upd nl) upd_same ⟨rfl, fun i a s h => by simp at h⟩
    · rw [decide_eq_false ne]
      have er : rowsOf x = Txt.split x "\n" := if_neg ne
      rw [er] at q qe
      have rw1 := rows_wt x
      refine iteF ⟨(by show 0 ≤ sizeLine; decide), fun L nL => ?_⟩
      have sL := same_upd (o := .lst []) nL
      refine ⟨_, rfl, rfl, _, _, rfl, rfl, (by decide +kernel), Nat.le_trans (show _ ≤ 100002 by omega) (by decide), fun Lr nLr => ?_⟩
      generalize hrs : Txt.split x "\n" = rows at q qe rw1
      have lr := wt_len rows
      have sR := same_upd (o := .lst (rows.map V.str)) nLr
      refine ⟨Lr, _, rfl, SqL.of upd_same, for_enum (K := K) (a := Lr) (xs := rows.map V.str) (fun j σ H' => ∃ (as : List Addr) (v2 v3 v4 : Option V), σ = [some (.str x), some (.ref L), v2, v3, v4] ∧ Same H H' ∧ H' Lr = some (.lst (rows.map V.str)) ∧ H' L = some (.lst (as.map V.ref)) ∧ StsAt H' as ((rows.take j).map rowV) ∧ ∀ (i : Nat) (r : Str), i < j → rows[i]? = some r → rowOk r = true)
        ⟨[], none, none, none, rfl, sL.trans sR, upd_same, sR _ _ upd_same, ⟨rfl, fun i a s h => by simp at h⟩, fun i r h => absurd h (by omega)⟩ (fun j σ H' _ h => let ⟨_, _, _, _, _, _, e, _⟩ := h; SqL.of e) ?_ ?_⟩
      · rintro j y T0 σ H2 hy ⟨as, v2, v3, v4, rfl, s2, eR, eL, st, good⟩ nT
        have jl : j < rows.length := by
          have := (List.getElem?_eq_some_iff.mp hy).1
          rw [List.length_map] at this
          exact this
        have hs := List.getElem?_eq_getElem jl
        have ey : y = .str rows[j] := by
          rw [List.getElem?_map, hs] at hy
          exact (Option.some.inj hy).symm
        subst ey
        have mr := wt_mem (List.getElem_mem jl)
        have tk : rows.take (j + 1) = rows.take j ++ [rows[j]] := by rw [List.take_add_one, hs]; rfl
        generalize rows[j] = r at mr tk hs
        have sT := same_upd (o := .tup [.int ((j : Nat) : Int), .str r]) nT
        refine ⟨T0, _, rfl, SqT.of upd_same, rfl, _, _, rfl, _, _, rfl, rfl, ?_⟩
        refine ⟨_, rfl, rfl, _, _, rfl, rfl, (by decide +kernel), Nat.le_trans (show _ ≤ 100002 by omega) (by decide), fun lw nlw => ?_⟩
        have ww := words_wt r
        have sW := same_upd (o := .lst ((Txt.split r " ").map V.str)) nlw
        have s3 := sT.trans sW
        have wl := wt_len (Txt.split r " ")
        refine ⟨_, rfl, lw, Txt.split r " ", rfl, upd_same, fun z hz => ?_, Nat.le_trans (show _ ≤ 100002 by omega) (by decide), _, rfl, ?_⟩
        · have := wt_mem hz
          exact Nat.le_trans (show _ ≤ 100002 by omega) (by decide)
        cases eo : isStepB (Txt.split r " ") with
        | false =>
          refine iteT ⟨_, rfl, (by show 1 ≤ 1000; decide), fun a na => ⟨a, j, rfl, by omega, upd_same, fun dx n1 n2 => ⟨rfl, dx, [("row", .int (j : Int))], upd_same, ?_, ?_, ?_⟩⟩⟩
          · rw [upd_ne n2, upd_same]
          · rw [upd_ne n2] at n1
            exact n1
          · rw [upd_ne n2] at n1
            refine qe j (badAt_some hs eo good) _ dx (fun z o e => ?_) upd_same
            have e4 := s3 _ _ (s2 _ _ e)
            rw [upd_ne (ne_of_none e4 n1), del_ne (ne_of_none e4 na), upd_ne (ne_of_none e4 na), upd_ne (ne_of_none e4 n1), upd_ne (ne_of_none e4 na)]
            exact e4
        | true =>
          obtain ⟨wa, wb, ew, iv, nb⟩ := isStepB_some eo
          obtain ⟨ni, nv⟩ := numOk_int nb
          have erv : rowV r = (wa, NumText.digitsVal (TL.tl wb)) := by
            unfold rowV
            rw [ew]
          rw [ew] at sW s3
          rw [ew]
          refine iteF ?_
          have eL3 := s3 _ _ eL
          refine ⟨_, rfl, .inl ⟨rfl, _, SqL.of eL3⟩, ?_⟩
          refine ⟨_, rfl, lw, _, _, _, rfl, rfl, SqL.of upd_same, atI_nat (j := 0) rfl, _, rfl, lw, _, _, _, rfl, rfl, SqL.of upd_same, atI_nat (j := 1) rfl, _, _, rfl, ni, Nat.le_trans nb.2.1 (by decide), (by show 2 ≤ sizeLine; decide), fun Tt nTt => ?_⟩
          have sX := same_upd (o := .tup [.str wa, .int ((NumText.digitsVal (TL.tl wb) : Nat) : Int)]) nTt
          have s4 := s3.trans sX
          have eL4 := sX _ _ eL3
          have al : as.length ≤ 100001 := by
            rw [st.len, List.length_map, List.length_take]
            omega
          have nLR : Lr ≠ L := fun z => by
            have := nLr
            rw [z] at this
            rw [show (upd H L (.lst [])) L = some (.lst []) from upd_same] at this
            cases this
          have keep : ∀ z xs, H2 z = some (.tup xs) → (upd (upd (upd (upd H2 T0 (.tup [.int ((j : Nat) : Int), .str r])) lw (.lst (([wa, wb] : List Str).map V.str))) Tt (.tup [.str wa, .int ((NumText.digitsVal (TL.tl wb) : Nat) : Int)])) L (.lst (as.map V.ref ++ [V.ref Tt]))) z = some (.tup xs) := fun z xs e => by
            rw [upd_ne (ne_of e eL (fun z => nomatch z))]
            exact s4 _ _ e
          refine ⟨L, _, _, rfl, rfl, eL4, by rw [List.length_map]; exact Nat.lt_of_le_of_lt al (by decide), as ++ [Tt], _, _, _, rfl, fun z o e => ?_, ?_, ?_, ?_, fun i r' hi hr' => ?_⟩
          · rw [upd_ne (ne_of_none e nL)]
            exact s4 _ _ (s2 _ _ e)
          · rw [upd_ne nLR]
            exact s4 _ _ eR
          · rw [upd_same, List.map_append]
            rfl
          · rw [tk, List.map_append]
            refine (st.tk keep).snoc (x := rowV r) ?_
            rw [erv, upd_ne (ne_of_none eL3 nTt).symm]
            exact upd_same
          · by_cases ei : i = j
            · subst ei
              rw [hs] at hr'
              rw [← Option.some.inj hr']
              exact eo
            · exact good i r' (by omega) hr'
      · rintro σ H2 ⟨as, v2, v3, v4, rfl, s2, eR, eL, st, good⟩
        rw [List.length_map, List.take_length] at st
        refine ⟨_, rfl, ?_⟩
        exact q (badAt_none fun i r h => good i r (by rw [List.length_map]; exact (List.getElem?_eq_some_iff.mp h).1) h) H2 L as nL s2 eL st
end
/-! ### signs of texts -/
def TOk (x : Str) : Prop := ∀ c ∈ TL.tl x, c < 1114112
theorem spl_sub (S : List Nat) : ∀ (l : List Nat) (k : Nat) (acc : List Nat) (p : List Nat), p ∈ TL.spl S k acc l → ∀ c ∈ p, c ∈ acc ∨ c ∈ l
  | [], k, acc, p, h, c, hc => by
    rw [TL.spl_nil] at h
    rw [List.mem_singleton.mp h] at hc
    exact .inl hc
  | d :: r, 0, acc, p, h, c, hc => by
    cases e : TL.pre S (d :: r) with
    | true =>
      rw [TL.spl_hit e] at h
      rcases List.mem_cons.mp h with rfl | h
      · exact .inl hc
      · rcases spl_sub S r _ _ _ h c hc with z | z
        · cases z
        · exact .inr (List.mem_cons_of_mem _ z)
    | false =>
      rw [TL.spl_miss e] at h
      rcases spl_sub S r _ _ _ h c hc with z | z
      · rcases List.mem_append.mp z with z | z
        · exact .inl z
        · rw [List.mem_singleton.mp z]
          exact .inr List.mem_cons_self
      · exact .inr (List.mem_cons_of_mem _ z)
  | d :: r, k + 1, acc, p, h, c, hc => by
    have e : TL.spl S (k + 1) acc (d :: r) = TL.spl S k acc r := rfl
    rw [e] at h
    rcases spl_sub S r _ _ _ h c hc with z | z
    · exact .inl z
    · exact .inr (List.mem_cons_of_mem _ z)
theorem split_ok {x y : Str} (hy : TL.tl y ≠ []) (hk : y.cps.all (· < 256) = true) (hx : TOk x) {p : Str} (hp : p ∈ Txt.split x y) : TOk p := fun c hc => by
  have h1 : TL.tl p ∈ TL.spl (TL.tl y) 0 [] (TL.tl x) := by
    rw [← TL.split_spl x y hy (TL.kind_ok hk)]
    exact List.mem_map_of_mem hp
  rcases spl_sub _ _ _ _ _ h1 c hc with z | z
  · cases z
  · exact hx c z
theorem lc_str {x : Str} {g : TG} {tt : TT} {te : TE} {vs : List Nat} {σ : L2.St} {H1 : Hp} {D : Addr} {Qd : Hp → Prop} (Pv : Nat → Hp → Prop) (h0 : Pv 0 (upd H1 D (.lst [])))
    (hs : ∀ i c H, (TL.tl x)[i]? = some c → Pv i H → g (.str ⟨#[c]⟩) (wipe σ vs) H fun σ2 H2 => wipe σ2 vs = wipe σ vs ∧ tt σ2 H2 fun b H3 =>
      if b = true then te σ2 H3 fun y H4 => ∃ acc, H4 D = some (.lst acc) ∧ acc.length < sizeLine ∧ Pv (i + 1) (upd H4 D (.lst (acc ++ [y]))) else Pv (i + 1) H3) (hd : ∀ H, Pv (TL.tl x).length H → Qd H) :
    ∃ W : Nat → Nat → Hp → Prop, (∃ m, W 0 m (upd H1 D (.lst []))) ∧ ∀ i m H, W i m H →
      ((Its x).stop i H ∧ Qd H) ∨ ((Its x).go i H ∧ ∃ Nx : Hp → Prop, (∀ H', Nx H' → ∃ m', m' < m ∧ W (i + 1) m' H') ∧ ∀ v H', (Its x).yld i H v H' → g v (wipe σ vs) H' fun σ2 H2 => wipe σ2 vs = wipe σ vs ∧ tt σ2 H2 fun b H3 =>
        if b = true then te σ2 H3 fun y H4 => ∃ acc, H4 D = some (.lst acc) ∧ acc.length < sizeLine ∧ Nx (upd H4 D (.lst (acc ++ [y]))) else Nx H3) := by
  have el : x.cps.size = (TL.tl x).length := TL.len_tl x
  refine ⟨fun i m H => m = (TL.tl x).length - i ∧ i ≤ (TL.tl x).length ∧ Pv i H, ⟨(TL.tl x).length, by simp, Nat.zero_le _, h0⟩, ?_⟩
  rintro i m H ⟨rfl, hi, p⟩
  by_cases hlt : i < (TL.tl x).length
  · refine .inr ⟨(by show i < x.cps.size; omega), Pv (i + 1), fun H' p' => ⟨(TL.tl x).length - (i + 1), by omega, rfl, hlt, p'⟩, fun v H' y => ?_⟩
    obtain ⟨rfl, c, hc, rfl⟩ := y
    exact hs i c H' (by show x.cps.toList[i]? = some c; rw [Array.getElem?_toList]; exact hc) p
  · have e : i = (TL.tl x).length := by omega
    subst e
    exact .inl ⟨(by show x.cps.size ≤ _; omega), hd H p⟩
theorem dig_mem (c : Nat) : c ∈ TL.tl ("0123456789" : Str) ↔ 48 ≤ c ∧ c ≤ 57 := by
  rw [show TL.tl ("0123456789" : Str) = [48, 49, 50, 51, 52, 53, 54, 55, 56, 57] by decide +kernel]
  simp only [List.mem_cons, List.not_mem_nil, or_false]
  omega
theorem dv_lt : ∀ (l : List Nat) (a : Nat), NumText.AllDigits l → l.foldl (fun acc c => acc * 10 + (c - 48)) a < (a + 1) * 10 ^ l.length
  | [], a, _ => by simp
  | c :: r, a, h => by
    have h1 := dv_lt r (a * 10 + (c - 48)) h.tail
    have h2 := h.head
    rw [List.foldl_cons, List.length_cons, Nat.pow_succ, Nat.mul_comm (10 ^ r.length) 10, ← Nat.mul_assoc]
    exact Nat.lt_of_lt_of_le h1 (Nat.mul_le_mul_right _ (by omega))
theorem dv_small {l : List Nat} (h : NumText.AllDigits l) (h4 : l.length ≤ 4) : NumText.digitsVal l < 10000 := by
  have h1 := dv_lt l 0 h
  have h2 : 10 ^ l.length ≤ 10 ^ 4 := Nat.pow_le_pow_right (by decide) h4
  have e : NumText.digitsVal l = l.foldl (fun acc c => acc * 10 + (c - 48)) 0 := rfl
  rw [← e] at h1
  omega
def pd7 (s : Str × Nat) : PyData := .tuple [.str s.1, .int (s.2 : Int)]
def dueD (x : Str) : PyData := match badAt (rowsOf x) with
  | none => .list (((rowsOf x).map rowV).map pd7)
  | some k => .int (k : Int)
theorem dpSts7 {K : PySem.W.Frag} {H : Hp} : ∀ {as : List Addr} {ss : List (Str × Nat)}, StsAt H as ss → DpAll K H (as.map V.ref) (ss.map pd7)
  | [], [], _ => .nil
  | [], b :: r, h => absurd h.len (fun z => nomatch z)
  | g :: r, [], h => absurd h.len (fun z => nomatch z)
  | g :: r, b :: q, h => .cons (.tup (SqT.of (h.at_ 0 g b rfl rfl)) (.cons (.str _) (.cons (.int _) .nil))) (dpSts7 (as := r) (ss := q) ⟨Nat.succ.inj h.len, fun j v t h1 h2 => h.at_ (j + 1) v t h1 h2⟩)
theorem dueD_none {x : Str} (h : badAt (rowsOf x) = none) : dueD x = .list (((rowsOf x).map rowV).map pd7) := by
  unfold dueD
  rw [h]
theorem dueD_some {x : Str} {k : Nat} (h : badAt (rowsOf x) = some k) : dueD x = .int (k : Int) := by
  unfold dueD
  rw [h]
theorem signs_shaped {cs : List Nat} (h : ∀ c ∈ cs, c < 1114112) : SeqAt.shaped (.list ((cs.map fun c => (⟨#[c]⟩ : Str)).map PyData.str)) = true := by
  refine shaped_of ?_ ?_
  · simp only [PyData.canLay0]
    refine canLayAll_of fun d hd => ?_
    obtain ⟨s, hs, rfl⟩ := List.mem_map.mp hd
    obtain ⟨c, hc, rfl⟩ := List.mem_map.mp hs
    simp only [PyData.canLay0, PyData.strOk]
    have := h c hc
    simp [this]
  · have : ∀ ds : List PyData, (∀ d ∈ ds, PyData.depth d = 0) → PyData.depthAll ds = 0 := by
      intro ds
      induction ds with
      | nil => intro _; rfl
      | cons d r ih =>
        intro hd
        simp only [PyData.depthAll, hd d List.mem_cons_self, ih fun x hx => hd x (List.mem_cons_of_mem _ hx)]
        rfl
    simp only [PyData.depth]
    rw [this _ fun d hd => by
      obtain ⟨s, _, rfl⟩ := List.mem_map.mp hd
      simp only [PyData.depth]]
    decide
theorem dpAll_strs {K : PySem.W.Frag} {H : Hp} : ∀ l : List Str, DpAll K H (l.map V.str) (l.map PyData.str)
  | [] => .nil
  | x :: r => .cons (.str x) (dpAll_strs r)
def spDue (K : PySem.W.Frag) : Sp := fun vs H Q _ => ∃ x : Str, vs = [.str x] ∧ x.length ≤ 100000 ∧ TOk x ∧ ∀ v H', Same H H' → Dp K H' v (dueD x) → Q v H'
section
variable {P : Program} {w : World} {K : PySem.W.Frag} {mg : Str → Option Value} {base : Heap}
abbrev Ndue : List Str := ["_law_text_here", "_law_rows", "_law_found", "_law_k", "_law_words", "_law_sign"]
theorem sc_due : FnScope Ndue ["_law_text_here"] (defScope s_L_due) := ⟨rfl, rfl, rfl, by decide +kernel, rfl, by decide +kernel, by decide +kernel⟩
theorem ok_due (D : DefAt K mg "_law_due" s_L_due ["_law_text_here"]) (m_len : mg "len" = none) (m_range : mg "range" = none) (m_int : mg "int" = none) (m_str : mg "str" = none) : Cl P w K mg base 1 "_law_due" ["_law_text_here"] (spDue K) := by
  refine D.cl fun f fd F => ?_
  refine F.ok sc_due (fun vs H Q E h => ?_) (fun cdv A outer s H vs Q E hr h => ?_)
  · obtain ⟨x, rfl, _⟩ := h
    rfl
  · obtain ⟨x, rfl, xl, xo, q⟩ := h
    refine ⟨_, pss_cons (ps_set (i := 1) sc_due.nd rfl (Or.inl rfl) (pe_ifExp (pt_cmpR op_ne (pv 0) pe_str (nomark _)) (pe_bm PySem.F.plainAttrs_str PySem.F.slot_str_split PySem.F.type_str_split mt_split (pv 0) (pa_cons pe_str pa_nil)) (pe_lst pa_nil)))
      (pss_cons (ps_set (i := 2) sc_due.nd rfl (Or.inl rfl) (pe_lst pa_nil))
      (pss_cons (ps_for PassesOwn.never rfl (pi_range1 (by rfl) m_range (pa_cons (pe_callB call_len_seq (by rfl) m_len PySem.boot_len (pa_cons (pv 1) pa_nil)) pa_nil)) (pg_name (i := 3) sc_due.nd rfl (Or.inl rfl))
        (pss_cons (ps_set (i := 4) sc_due.nd rfl (Or.inl rfl) (pe_bm PySem.F.plainAttrs_str PySem.F.slot_str_split PySem.F.type_str_split mt_split (pe_ix ix_list (pv 1) (pv 3) (fun _ _ => rfl)) (pa_cons pe_str pa_nil)))
        (pss_cons (ps_if (PW.pt (pw_or (pt_cmpR op_ne (pe_callB call_len_seq (by rfl) m_len PySem.boot_len (pa_cons (pv 4) pa_nil)) pe_int (nomark _)) (pw_or (pt_cmpR op_notIn_seq (pe_ix ix_list (pv 4) pe_int (fun _ _ => rfl)) (pe_tup (pa_cons pe_str (pa_cons pe_str (pa_cons pe_str pa_nil)))) (by rfl))
          (pw_or (pt_cmpR op_eq (pe_ix ix_list (pv 4) pe_int (fun _ _ => rfl)) pe_str (nomark _)) (pw_or1 (pt_cmpR op_gt (pe_callB call_len_str (by rfl) m_len PySem.boot_len (pa_cons (pe_ix ix_list (pv 4) pe_int (fun _ _ => rfl)) pa_nil)) pe_int (nomark _))))))) (pss_one (ps_ret (pv 3))) pss_nil)
        (pss_cons (ps_if (PW.pt (pw_or (pt_cmpR (op_neD hr.units) (pe_lc (own := [("_law_sign", 5)]) (g := gName 5) (tt := tTest (tOp (fun x y H Q => ∃ (c : Nat) (z : Str), x = .str ⟨#[c]⟩ ∧ y = .str z ∧ Q (.bl (!decide (c ∈ z.cps.toList))) H) (tVar 5) (tC (.str "0123456789")))) (te := tVar 5) rfl sc_due.nd (pi_str (pe_ix ix_list (pv 4) pe_int (fun _ _ => rfl)))
            (blkOk_by (N := Ndue) (sc := defScope s_L_due) (by decide +kernel)) (fun _ _ _ _ _ => by exact pg_name (i := 5) sc_due.nd rfl (Or.inl rfl)) (fun _ _ _ _ _ => by exact pts_one (pt_cmpR op_notIn_sign (pv 5) pe_str (by rfl))) (fun _ _ _ _ _ => by exact pv 5)) (pe_lst pa_nil) (nomark _))
          (pw_or1 (pt_cmpR op_ne (pe_callTy call_str_int (by rfl) m_str (by decide +kernel) (pa_cons (pe_callTy call_int_str (by rfl) m_int (by decide +kernel) (pa_cons (pe_ix ix_list (pv 4) pe_int (fun _ _ => rfl)) pa_nil)) pa_nil)) (pe_ix ix_list (pv 4) pe_int (fun _ _ => rfl)) (nomark _))))) (pss_one (ps_ret (pv 3))) pss_nil)
        (pss_one (ps_expr (pe_bm PySem.F.plainAttrs_list PySem.F.slot_list_append PySem.F.type_list_append mt_append (pv 2) (pa_cons (pe_tup (pa_cons (pe_ix ix_list (pv 4) pe_int (fun _ _ => rfl)) (pa_cons (pe_callTy call_int_str (by rfl) m_int (by decide +kernel) (pa_cons (pe_ix ix_list (pv 4) pe_int (fun _ _ => rfl)) pa_nil)) pa_nil))) pa_nil))))))))
      (pss_one (ps_ret (pv 2))))), ?_⟩
    dsimp only [gName, tSeq]
    refine abs_nx (t := tAsg _ _) (fun σ' H' => ∃ Lr, σ' = [some (.str x), some (.ref Lr), none, none, none, none] ∧ Same H H' ∧ H' Lr = some (.lst ((rowsOf x).map V.str))) (fun nx' hnx => ?_) ?_
    · refine ⟨_, rfl, rfl, _, rfl, ?_⟩
      rw [dec_str]
      by_cases ne : x = ""
      · subst ne
        rw [decide_eq_true rfl]
        exact iteF ⟨(by show 0 ≤ sizeLine; decide), fun l nl => hnx _ _ ⟨l, rfl, same_upd nl, upd_same⟩⟩
      · rw [decide_eq_false ne]
        refine iteT ⟨_, rfl, rfl, _, _, rfl, rfl, (by decide +kernel), Nat.le_trans (show _ ≤ 100002 by omega) (by decide), fun Lr nLr => hnx _ _ ⟨Lr, rfl, same_upd nLr, ?_⟩⟩
        rw [upd_same, show rowsOf x = Txt.split x "\n" from if_neg ne]
    · rintro σ1 H1 ⟨Lr, rfl, k1, eLr⟩
      have rwt : wt (rowsOf x) ≤ 100001 := by
        unfold rowsOf
        split
        · exact Nat.zero_le _
        · have := rows_wt x
          omega
      have rok : ∀ r, r ∈ rowsOf x → TOk r := fun r hr' => by
        unfold rowsOf at hr'
        split at hr'
        · cases hr'
        · exact split_ok nl_tl nl_kind xo hr'
      have qn : badAt (rowsOf x) = none → ∀ v H', Same H H' → Dp K H' v (.list (((rowsOf x).map rowV).map pd7)) → Q v H' := fun e v H' k d => q v H' k (by rw [dueD_none e]; exact d)
      have qs : ∀ k, badAt (rowsOf x) = some k → ∀ H', Same H H' → Q (.int (k : Int)) H' := fun k e H' kk => q _ H' kk (by rw [dueD_some e]; exact .int _)
      clear q
      generalize rowsOf x = rows at eLr rwt rok qn qs
      have lr := wt_len rows
      dsimp only
      refine ⟨(by show 0 ≤ sizeLine; decide), fun L nL => ?_⟩
      have sL := same_upd (o := .lst []) nL
      refine ⟨_, rfl, Lr, _, rfl, .inl (SqL.of (sL _ _ eLr)), _, rfl, by omega, by rw [List.length_map]; omega, ?_⟩
      rw [Int.toNat_natCast, List.length_map]
      refine for_range (lo := 0) (n := rows.length) (fun j σ H' => ∃ (as : List Addr) (v3 v4 v5 : Option V), σ = [some (.str x), some (.ref Lr), some (.ref L), v3, v4, v5] ∧ Same H1 H' ∧ H' L = some (.lst (as.map V.ref)) ∧ StsAt H' as ((rows.take j).map rowV) ∧ ∀ (i : Nat) (r : Str), i < j → rows[i]? = some r → rowOk r = true)
        ⟨[], none, none, none, rfl, sL, upd_same, ⟨rfl, fun i a s h => by simp at h⟩, fun i r h => absurd h (by omega)⟩ ?_ ?_
      · rintro j σ H2 jl ⟨as, v3, v4, v5, rfl, s2, eL, st, good⟩
        have hs := List.getElem?_eq_getElem jl
        have mr := wt_mem (List.getElem_mem jl)
        have ro := rok _ (List.getElem_mem jl)
        have tk : rows.take (j + 1) = rows.take j ++ [rows[j]] := by rw [List.take_add_one, hs]; rfl
        have gl : (rows.map V.str)[j]? = some (.str rows[j]) := by rw [List.getElem?_map, hs]; rfl
        generalize rows[j] = r at mr tk hs ro gl
        refine ⟨_, rfl, _, rfl, Lr, _, _, _, rfl, rfl, SqL.of (s2 _ _ eLr), at_of (j := j) (Int.zero_add _) gl, rfl, _, _, rfl, rfl, (by decide +kernel), Nat.le_trans (show _ ≤ 100002 by omega) (by decide), fun lw nlw => ?_⟩
        have ww := words_wt r
        have sW := same_upd (o := .lst ((Txt.split r " ").map V.str)) nlw
        have bad : rowOk r = false → ∀ H', Same H2 H' → Q (.int (0 + (j : Int))) H' := fun e H' k => by
          rw [Int.zero_add]
          exact qs j (badAt_some hs e good) H' ((k1.trans s2).trans k)
        have wl := wt_len (Txt.split r " ")
        have wm : ∀ p, p ∈ Txt.split r " " → p.length + 1 ≤ wt (Txt.split r " ") := fun p hp => wt_mem hp
        have wo : ∀ p, p ∈ Txt.split r " " → TOk p := fun p hp => split_ok bl_tl bl_kind ro hp
        generalize hws : Txt.split r " " = ws at ww sW wl wm wo
        have ebad : isStepB ws = false → ∀ H', Same H2 H' → Q (.int (0 + (j : Int))) H' := fun e => bad (by unfold rowOk; rw [hws]; exact e)
        have eL1 := sW _ _ eL
        refine ⟨_, rfl, lw, _, rfl, .inl (SqL.of upd_same), rfl, _, rfl, ?_⟩
        rw [List.length_map, dec_int]
        by_cases c : ws.length = 2
        case neg =>
          rw [decide_eq_false (show ¬ (ws.length : Int) = 2 by omega)]
          refine iteT (iteT ⟨_, rfl, ebad ?_ _ sW⟩)
          match ws, c with
          | [], _ => rfl
          | [_], _ => rfl
          | [_, _], c => exact absurd rfl c
          | _ :: _ :: _ :: _, _ => rfl
        obtain ⟨wa, wb, rfl⟩ : ∃ x y, ws = [x, y] := by
          match ws, c with
          | [x, y], _ => exact ⟨x, y, rfl⟩
        rw [decide_eq_true (show (([wa, wb] : List Str).length : Int) = 2 from rfl)]
        have lb := wm wb (by simp)
        have ob := wo wb (by simp)
        refine iteF ⟨_, rfl, lw, _, _, _, rfl, rfl, SqL.of upd_same, atI_nat (j := 0) rfl, (by show 3 ≤ sizeLine; decide), fun tp ntp => ?_⟩
        have sP := same_upd (o := .tup [V.str "see", V.str "pass", V.str "ask"]) ntp
        have ew : (upd (upd H2 lw (.lst (([wa, wb] : List Str).map V.str))) tp (.tup [V.str "see", V.str "pass", V.str "ask"])) lw = some (.lst (([wa, wb] : List Str).map V.str)) := sP _ _ upd_same
        have eL2 := sP _ _ eL1
        have s12 := sW.trans sP
        refine ⟨tp, wordsV, rfl, .inr (SqT.of upd_same), rfl, rfl, _, rfl, ?_⟩
        cases iv : inV (.str wa) wordsV with
        | false => exact iteT (iteT ⟨_, rfl, ebad (isStepB_none (by rw [iv]; simp)) _ s12⟩)
        | true =>
          refine iteF ⟨_, rfl, lw, _, _, _, rfl, rfl, SqL.of ew, atI_nat (j := 1) rfl, rfl, _, rfl, ?_⟩
          rw [dec_str]
          by_cases be : wb = ""
          · rw [decide_eq_true be]
            exact iteT (iteT ⟨_, rfl, ebad (isStepB_none fun z => z.2.1 be) _ s12⟩)
          rw [decide_eq_false be]
          refine iteF ⟨_, rfl, lw, _, _, _, rfl, rfl, SqL.of ew, atI_nat (j := 1) rfl, _, rfl, Nat.le_trans (show _ ≤ 100002 by omega) (by decide), _, _, rfl, rfl, _, rfl, ?_⟩
          by_cases b4 : (4 : Int) < (wb.length : Int)
          · rw [decide_eq_true b4]
            exact iteT ⟨_, rfl, ebad (isStepB_none fun z => by have := z.2.2.1; omega) _ s12⟩
          rw [decide_eq_false b4]
          refine iteF ?_
          -- the signs
          generalize (upd (upd H2 lw (.lst (([wa, wb] : List Str).map V.str))) tp (.tup [V.str "see", V.str "pass", V.str "ask"])) = H3 at ew eL2 s12
          refine ⟨_, rfl, lw, _, _, _, rfl, rfl, SqL.of ew, atI_nat (j := 1) rfl, wb, rfl, fun D nD => ?_⟩
          refine lc_str (x := wb) (fun i H' => Same H3 H' ∧ ∃ cs : List Nat, H' D = some (.lst ((cs.map fun c => (⟨#[c]⟩ : Str)).map V.str)) ∧ (cs = [] → ∀ c ∈ (TL.tl wb).take i, 48 ≤ c ∧ c ≤ 57) ∧ (∀ c ∈ cs, c ∈ TL.tl wb ∧ ¬ (48 ≤ c ∧ c ≤ 57)) ∧ cs.length ≤ i)
            ⟨same_upd nD, [], upd_same, (fun _ c hc => by simp at hc), (fun c hc => by cases hc), Nat.le_refl 0⟩ ?_ ?_
          · rintro i c H' hc ⟨sk, cs, eD, h1, h2, h3⟩
            have tk2 : (TL.tl wb).take (i + 1) = (TL.tl wb).take i ++ [c] := by rw [List.take_add_one, hc]; rfl
            refine ⟨rfl, _, rfl, c, _, rfl, rfl, _, rfl, ?_⟩
            by_cases dg : 48 ≤ c ∧ c ≤ 57
            · rw [decide_eq_true (show c ∈ ("0123456789" : Str).cps.toList from (dig_mem c).mpr dg)]
              refine iteF ⟨sk, cs, eD, fun z c' hc' => ?_, h2, by omega⟩
              rw [tk2] at hc'
              rcases List.mem_append.mp hc' with hc' | hc'
              · exact h1 z c' hc'
              · rw [List.mem_singleton.mp hc']
                exact dg
            · rw [decide_eq_false (show ¬ c ∈ ("0123456789" : Str).cps.toList from fun z => dg ((dig_mem c).mp z))]
              have il := (List.getElem?_eq_some_iff.mp hc).1
              rw [← TL.len_tl] at il
              refine iteT ⟨_, rfl, _, eD, ?_, fun x o e => ?_, cs ++ [c], ?_, fun z => by simp at z, fun c' hc' => ?_, by rw [List.length_append]; exact Nat.add_le_add_right h3 1⟩
              · rw [List.length_map, List.length_map]
                exact Nat.lt_of_le_of_lt (show _ ≤ 100002 by omega) (by decide)
              · rw [upd_ne (ne_of_none e nD)]
                exact sk _ _ e
              · rw [upd_same, List.map_append, List.map_append]
                rfl
              · rcases List.mem_append.mp hc' with hc' | hc'
                · exact h2 c' hc'
                · rw [List.mem_singleton.mp hc']
                  exact ⟨List.mem_of_getElem? hc, dg⟩
          · rintro H4 ⟨sk, cs, eD, h1, h2, h3⟩
            rw [List.take_length] at h1
            refine ⟨(by show 0 ≤ sizeLine; decide), fun ln nln => ?_⟩
            have sln := same_upd (o := .lst []) nln
            refine ⟨.list ((cs.map fun c => (⟨#[c]⟩ : Str)).map PyData.str), .list [], .lst (SqL.of (sln _ _ eD)) (dpAll_strs _), .lst (SqL.of upd_same) .nil, signs_shaped (fun c hc => ob c (h2 c hc).1), shaped_nil, _, rfl, ?_⟩
            rw [eqv_nilL]
            have s14 := (s12.trans sk).trans sln
            cases cs with
            | cons c cr =>
              exact iteT (iteT ⟨_, rfl, ebad (isStepB_none fun z => (h2 c List.mem_cons_self).2 (z.2.2.2.1 c (h2 c List.mem_cons_self).1)) _ s14⟩)
            | nil =>
              have ad : NumText.AllDigits (TL.tl wb) := h1 rfl
              have ni := PySem.intText_digits ad (fun z => be (tl_empty.mp z)) (show wb.length ≤ 4300 by omega)
              have ew4 := sln _ _ (sk _ _ ew)
              have eL4 := sln _ _ (sk _ _ eL2)
              have n4 := dv_small ad (by rw [← TL.len_tl]; omega)
              have lg : ((NumText.digitsVal (TL.tl wb) : Nat) : Int).natAbs.log2 < 1920 := by
                rw [Int.natAbs_natCast]
                by_cases z : NumText.digitsVal (TL.tl wb) = 0
                · rw [z]; decide
                · exact (Nat.log2_lt z).mpr (Nat.lt_of_lt_of_le n4 (Nat.le_trans (show 10000 ≤ 2 ^ 20 by decide) (Nat.pow_le_pow_right (by decide) (by decide))))
              refine iteF ⟨_, rfl, lw, _, _, _, rfl, rfl, SqL.of ew4, atI_nat (j := 1) rfl, _, _, rfl, ni, (by omega), _, rfl, lg, _, rfl, lw, _, _, _, rfl, rfl, SqL.of ew4, atI_nat (j := 1) rfl, rfl, _, rfl, ?_⟩
              rw [dec_str]
              by_cases en : numS (NumText.digitsVal (TL.tl wb)) = wb
              case neg =>
                rw [decide_eq_false (show ¬ Str.ofString (toString ((NumText.digitsVal (TL.tl wb) : Nat) : Int)) = wb from en)]
                exact iteT ⟨_, rfl, ebad (isStepB_none fun z => en z.2.2.2.2) _ s14⟩
              rw [decide_eq_true (show Str.ofString (toString ((NumText.digitsVal (TL.tl wb) : Nat) : Int)) = wb from en)]
              refine iteF ?_
              have nb : NumOk wb := ⟨be, by omega, ad, en⟩
              have so : rowOk r = true := by
                unfold rowOk
                rw [hws]
                show (inV (.str wa) wordsV && numB wb) = true
                rw [iv, (numB_iff wb).mpr nb]
                rfl
              have erv : rowV r = (wa, NumText.digitsVal (TL.tl wb)) := by
                unfold rowV
                rw [hws]
              refine ⟨_, rfl, .inl ⟨rfl, _, SqL.of eL4⟩, ?_⟩
              refine ⟨_, rfl, lw, _, _, _, rfl, rfl, SqL.of ew4, atI_nat (j := 0) rfl, _, rfl, lw, _, _, _, rfl, rfl, SqL.of ew4, atI_nat (j := 1) rfl, _, _, rfl, ni, (by omega), (by show 2 ≤ sizeLine; decide), fun Tt nTt => ?_⟩
              have sX := same_upd (o := .tup [.str wa, .int ((NumText.digitsVal (TL.tl wb) : Nat) : Int)]) nTt
              have eL5 := sX _ _ eL4
              have al : as.length ≤ 100001 := by
                rw [st.len, List.length_map, List.length_take]
                omega
              have s15 := s14.trans sX
              refine ⟨L, _, _, rfl, rfl, eL5, by rw [List.length_map]; exact Nat.lt_of_le_of_lt al (by decide), as ++ [Tt], _, _, _, rfl, fun z o e => ?_, ?_, ?_, fun i r' hi hr' => ?_⟩
              · rw [upd_ne (ne_of_none e nL)]
                exact s15 _ _ (s2 _ _ e)
              · rw [upd_same, List.map_append]
                rfl
              · rw [tk, List.map_append]
                refine (st.tk fun z xs e => ?_).snoc (x := rowV r) ?_
                · rw [upd_ne (ne_of e eL (fun z => nomatch z))]
                  exact s15 _ _ e
                · rw [erv, upd_ne (ne_of_none eL4 nTt).symm]
                  exact upd_same
              · by_cases ei : i = j
                · subst ei
                  rw [hs] at hr'
                  rw [← Option.some.inj hr']
                  exact so
                · exact good i r' (by omega) hr'
      · rintro σ H2 ⟨as, v3, v4, v5, rfl, s2, eL, st, good⟩
        rw [List.take_length] at st
        refine ⟨_, rfl, ?_⟩
        exact qn (badAt_none fun i r h => good i r (List.getElem?_eq_some_iff.mp h).1 h) _ H2 (k1.trans s2) (.lst (SqL.of eL) (dpSts7 st))
end
/-! ### what read tells, or the row that it refuses -/
def spTold11 (K : PySem.W.Frag) : Sp := fun vs H Q _ => ∃ x : Str, vs = [.str x] ∧ x.length ≤ 100000 ∧ ∀ v H', Same H H' → Dp K H' v (dueD x) → Q v H'
/-- the classes at c0 .. c7, of which D is the last and none of the others -/
structure TextC (K : PySem.W.Frag) (mg : Str → Option Value) (cS c0 c1 c2 c3 c4 c5 c6 cT : Addr) : Prop where
  gS : mg "SeenError" = some (.ref cS)
  g0 : mg "BadRule" = some (.ref c0)
  g1 : mg "BadMark" = some (.ref c1)
  g2 : mg "BadMoment" = some (.ref c2)
  g3 : mg "BadBounds" = some (.ref c3)
  g4 : mg "NoRule" = some (.ref c4)
  g5 : mg "BadThings" = some (.ref c5)
  g6 : mg "NoThing" = some (.ref c6)
  g7 : mg "BadText" = some (.ref cT)
  ex : ExcC K cT
  em : PySem.W.exmOne K (.ref cT) (.ref cS) = some true
  k7 : PySem.W.kitOne K (.ref cT) (.ref cT) = some true
  kv : PySem.W.kitOne K (.ref cT) (.type "ValueError") = some true
  ka : PySem.W.kitAny K (.ref cT) ([c3, c1, c2, c0, c5, c4, c6].map Value.ref) = some false
  xf : XfC K cT
  no : PySem.W.findIn K (.ref cT) "row" = some none
section
variable {P : Program} {w : World} {K : PySem.W.Frag} {mg : Str → Option Value} {base : Heap}
abbrev Ntold : List Str := ["_law_text_here", "e", "_law_other"]
theorem sc_told11 : FnScope Ntold ["_law_text_here"] (defScope s_L_told) := ⟨rfl, rfl, rfl, by decide +kernel, rfl, by decide +kernel, by decide +kernel⟩
theorem ok_told11 {cS c0 c1 c2 c3 c4 c5 c6 cT : Addr} (D : DefAt K mg "_law_told" s_L_told ["_law_text_here"]) (G : TextC K mg cS c0 c1 c2 c3 c4 c5 c6 cT) (m_isi : mg "isinstance" = none) (m_ve : mg "ValueError" = none) (C1 : ClX P w K mg base 3 "read" ["text"] (spRead11 cT)) :
    Cl P w K mg base 4 "_law_told" ["_law_text_here"] (spTold11 K) := by
  refine D.cl fun f fd F => ?_
  refine F.ok sc_told11 (fun vs H Q E h => ?_) (fun cdv A outer s H vs Q E hr h => ?_)
  · obtain ⟨x, rfl, _⟩ := h
    rfl
  · obtain ⟨x, rfl, xl, q⟩ := h
    refine ⟨_, pss_one (ps_try_as (i := 1) (c := .ref cS)
      (tb := fun W D σ H => tCall (spRead11 cT) [] (fun cls d H => ∀ σ, W cls d σ H) (tCons (tVar 0) tNil) σ H D.rt)
      (ts := fun a cls d D σ H => ∃ (dd : Addr) (k : Nat), cls = .ref cT ∧ d = some dd ∧ H dd = some (.xd [("row", .int (k : Int))]) ∧ (∃ σ0 : L2.St, σ = σ0.set 1 (some (.ref a))) ∧ ∀ H', Same H H' → D.rt (.int (k : Int)) H')
      rfl rfl sc_told11.nd rfl rfl ⟨rfl, by decide, .inl G.gS⟩ takes0 (fun W pn xe tk _ => ?_) (fun a oe cls d pn hz hf => ?_)), ?_⟩
    · exact ⟨fun pins s' σ H' D I h' => (pss_one (ps_ret (pe_clx (E := fun cls d H => ∀ σ, W cls d σ H) C1 (passes_call tk (fun _ _ _ _ h => h _)) hr (pa_cons (pv 0) pa_nil)))).run pins s' σ H' D I h'⟩
    · refine ⟨fun pins s' σ H' D I h' => ?_⟩
      obtain ⟨dd, k, rfl, rfl, ed, ⟨σ0, rfl⟩, hq⟩ := h'
      have ln := I.len
      rw [List.length_set] at ln
      obtain ⟨y0, y1, y2, rfl⟩ : ∃ y0 y1 y2, σ0 = [y0, y1, y2] := by
        match σ0, ln with
        | [y0, y1, y2], _ => exact ⟨_, _, _, rfl⟩
      have isD := call_isD (X := (cxOf CX0 P w K mg base Ntold "_law_told" (defScope s_L_told) f cdv A outer s H E).nox) (a := a) (pn := pn) G.ex hz hf
      refine' PSs.run (X := ((cxOf CX0 P w K mg base Ntold "_law_told" (defScope s_L_told) f cdv A outer s H E).nox).suite a ((a, oe) :: pn)) (t := _) ?hh pins s' _ H' D I ?rr
      case hh =>
        refine' pss_cons (ps_set (i := 2) sc_told11.nd rfl (Or.inl rfl) (pe_callB isD (by rfl) m_isi (by decide +kernel) (pa_cons (pv 1) (pa_cons (pe_tup (pa_cons (pe_glob (v := .ref c3) (by rfl) G.g3 rfl) (pa_cons (pe_glob (v := .ref c1) (by rfl) G.g1 rfl) (pa_cons (pe_glob (v := .ref c2) (by rfl) G.g2 rfl)
          (pa_cons (pe_glob (v := .ref c0) (by rfl) G.g0 rfl) (pa_cons (pe_glob (v := .ref c5) (by rfl) G.g5 rfl) (pa_cons (pe_glob (v := .ref c4) (by rfl) G.g4 rfl) (pa_cons (pe_glob (v := .ref c6) (by rfl) G.g6 rfl) pa_nil)))))))) pa_nil)))) ?n1
        case n1 =>
          exact pss_one (ps_ret (pe_ifExp (PW.pt (pw_and (pt_val (pe_callB isD (by rfl) m_isi (by decide +kernel) (pa_cons (pv 1) (pa_cons (pe_glob (v := .ref cT) (by rfl) G.g7 rfl) pa_nil)))) (pw_and (pt_val (pe_callB isD (by rfl) m_isi (by decide +kernel) (pa_cons (pv 1) (pa_cons (pe_bltn (v := .ty "ValueError") (u := .type "ValueError") (by rfl) m_ve (by decide +kernel) rfl) pa_nil))))
            (pw_and1 (pt_not (pt_val (pv 2))))))) (pe_xf G.xf G.no hz hf (pv 1)) pe_str))
      case rr =>
        refine ⟨_, rfl, (by show 7 ≤ sizeLine; decide), fun tp ntp => ?_⟩
        have sP := same_upd (o := .tup ([c3, c1, c2, c0, c5, c4, c6].map V.ref)) ntp
        have ed2 := sP _ _ ed
        refine ⟨false, _, ed2, ?_, .inr ⟨tp, [c3, c1, c2, c0, c5, c4, c6], rfl, upd_same, G.ka⟩⟩
        refine ⟨_, rfl, true, _, ed2, ⟨_, rfl, iteT ?_⟩, .inl ⟨.ref cT, .ref cT, rfl, fun u r => r, G.k7⟩⟩
        refine ⟨_, rfl, true, _, ed2, ⟨_, rfl, iteT ?_⟩, .inl ⟨.ty "ValueError", .type "ValueError", rfl, fun u r => r, G.kv⟩⟩
        refine ⟨_, rfl, _, rfl, iteT ?_⟩
        exact ⟨_, rfl, rfl, rfl, dd, _, _, rfl, ed2, rfl, hq _ sP⟩
    · refine ⟨_, rfl, x, rfl, xl, fun hb H' l as nl k el st => ?_, fun k hb H' d kk ed σ => ?_⟩
      · exact q _ H' k (by rw [dueD_none hb]; exact .lst (SqL.of el) (dpSts7 st))
      · exact ⟨true, G.em, fun _ a _ => ⟨d, k, rfl, rfl, ed, ⟨σ, rfl⟩, fun H'' s'' => q _ H'' (kk.trans s'') (by rw [dueD_some hb]; exact .int _)⟩, fun e => nomatch e⟩
end
/-! ### texts changed -/
abbrev LsAt (H : Hp) (p : Addr) (ps : List Str) : Prop := H p = some (.lst (ps.map V.str))
def cutP (ps : List Str) (lo hi : Option Int) : List Str := (ps.drop (HT.sIx ps.length 0 lo)).take (HT.sIx ps.length ps.length hi - HT.sIx ps.length 0 lo)
theorem cutV_map (ps : List Str) (lo hi : Option Int) : cutV (ps.map V.str) lo hi = (cutP ps lo hi).map V.str := by
  unfold cutV cutP
  rw [List.length_map, List.map_take, List.map_drop]
theorem cutP_wt (ps : List Str) (lo hi : Option Int) : wt (cutP ps lo hi) ≤ wt ps := Nat.le_trans (wt_take _ _) (wt_drop _ _)
theorem cutP_mem {ps : List Str} {lo hi : Option Int} {p : Str} (h : p ∈ cutP ps lo hi) : p ∈ ps := List.mem_of_mem_drop (List.mem_of_mem_take h)
theorem cutS_ok {x : Str} (h : TOk x) (lo hi : Option Int) : TOk (cutS x lo hi) := fun c hc => h c (List.mem_of_mem_drop (List.mem_of_mem_take (show c ∈ (TL.tl x |>.drop (HT.sIx x.length 0 lo)).take (HT.sIx x.length x.length hi - HT.sIx x.length 0 lo) from hc)))
theorem app_ok {x y : Str} (h : TOk x) (h2 : TOk y) : TOk (x ++ y) := fun c hc => by
  rw [TL.tl_append] at hc
  rcases List.mem_append.mp hc with z | z
  · exact h c z
  · exact h2 c z
theorem joinL_mem (S : List Nat) : ∀ (ps : List (List Nat)) (c : Nat), c ∈ TL.joinL S ps → c ∈ S ∨ ∃ p ∈ ps, c ∈ p
  | [], c, h => by cases h
  | [p], c, h => .inr ⟨p, List.mem_cons_self, h⟩
  | p :: q :: r, c, h => by
    have h' : c ∈ p ++ (S ++ TL.joinL S (q :: r)) := h
    rcases List.mem_append.mp h' with z | z
    · exact .inr ⟨p, List.mem_cons_self, z⟩
    · rcases List.mem_append.mp z with z | z
      · exact .inl z
      · rcases joinL_mem S (q :: r) c z with z | ⟨t, ht, z⟩
        · exact .inl z
        · exact .inr ⟨t, List.mem_cons_of_mem _ ht, z⟩
theorem join_ok {y : Str} (hy : TOk y) {ps : List Str} (h : ∀ p ∈ ps, TOk p) : TOk (Txt.join y ps) := fun c hc => by
  rw [TL.join_eq, TL.tl_join] at hc
  rcases joinL_mem _ _ _ hc with z | ⟨p, hp, z⟩
  · exact hy c z
  · obtain ⟨s, hs, rfl⟩ := List.mem_map.mp hp
    exact h s hs c z
theorem nl_ok : TOk "\n" := by unfold TOk; decide +kernel
theorem bl_ok : TOk " " := by unfold TOk; decide +kernel
theorem cat_go {H : Hp} {Q : VK} {a b : Addr} {p p' : List Str} (l1 : LsAt H a p) (l2 : LsAt H b p') (hz : wt p + wt p' ≤ 1000000) (q : ∀ c H', H c = none → Same H H' → LsAt H' c (p ++ p') → Q (.ref c) H') : rCat (.ref a) (.ref b) H Q := by
  refine ⟨a, b, _, _, rfl, rfl, l1, l2, ?_, fun c nc => q c _ nc (same_upd nc) ?_⟩
  · rw [List.length_map, List.length_map]
    have h1 := wt_len p
    have h2 := wt_len p'
    exact Nat.le_trans (show _ ≤ 1000000 by omega) (by decide)
  · show (upd H c _) c = _
    rw [upd_same, List.map_append]
theorem cut_go {K : PySem.W.Frag} {H : Hp} {Q : VK} {a : Addr} {p : List Str} {lo hi : Option Int} (l : LsAt H a p) (q : ∀ c H', H c = none → Same H H' → LsAt H' c (cutP p lo hi) → Q (.ref c) H') : rSlL K (.ref a) lo hi H Q := by
  refine ⟨a, _, rfl, SqL.of l, fun c nc => q c _ nc (same_upd nc) ?_⟩
  show (upd H c _) c = _
  rw [upd_same, cutV_map]
theorem cut_goN {K : PySem.W.Frag} {H : Hp} {Q : VK} {σ : L2.St} {a : Addr} {p : List Str} {lo : Option Int} (l : LsAt H a p) (q : ∀ c H', H c = none → Same H H' → LsAt H' c (cutP p lo none) → Q (.ref c) H') : tNoPart σ H fun u H3 => rSlL K (.ref a) lo u H3 Q := cut_go (hi := none) l q
theorem HAt.fresh {H : Hp} {h c l : Addr} (a : HAt H h c) (n : H l = none) : l ≠ h ∧ l ≠ c := by
  obtain ⟨⟨mx, pl, ns, e1, e2, _⟩, _⟩ := a
  exact ⟨(ne_of_none e1 n).symm, (ne_of_none e2 n).symm⟩
theorem strs_get {ps : List Str} {j : Nat} (h : j < ps.length) : ∃ p, (ps.map V.str)[j]? = some (.str p) ∧ p ∈ ps := ⟨ps[j], by rw [List.getElem?_map, List.getElem?_eq_getElem h]; rfl, List.getElem_mem h⟩
def spChanged : Sp := fun vs H Q _ => ∃ (h c : Addr) (x : Str), vs = [.ref h, .str x] ∧ HAt H h c ∧ x.length ≤ 20000 ∧ TOk x ∧ ∀ y H', HAt H' h c → Kp2 h c H H' → y.length ≤ 7 * x.length + 20 → TOk y → Q (.str y) H'
section
variable {P : Program} {w : World} {K : PySem.W.Frag} {mg : Str → Option Value} {base : Heap}
abbrev Nchg : List Str := ["_law_h", "_law_text_here", "_law_turn", "_law_at", "_law_sign", "_law_rows", "_law_k", "_law_other", "_law_some", "_law_words", "_law_j", "_law_odd"]
theorem sc_chg : FnScope Nchg ["_law_h", "_law_text_here"] (defScope s_L_changed) := ⟨rfl, rfl, rfl, by decide +kernel, rfl, by decide +kernel, by decide +kernel⟩
theorem ok_changed (D : DefAt K mg "_law_changed" s_L_changed ["_law_h", "_law_text_here"]) (m_len : mg "len" = none) (m_int : mg "int" = none) (C1 : Cl P w K mg base 1 "_law_next" ["_law_h", "_law_many"] spNext) : Cl P w K mg base 2 "_law_changed" ["_law_h", "_law_text_here"] spChanged := by
  refine D.cl fun f fd F => ?_
  refine F.ok sc_chg (fun vs H Q E h => ?_) (fun cdv A outer s H vs Q E hr h => ?_)
  · obtain ⟨h, c, x, rfl, _⟩ := h
    rfl
  · obtain ⟨h, c, x, rfl, ha0, xl, xo, q⟩ := h
    refine ⟨_, pss_cons (ps_set (i := 2) sc_chg.nd rfl (Or.inl rfl) (pe_cl C1 hr (pa_cons (pv 0) (pa_cons pe_int pa_nil))))
      (pss_cons (ps_set (i := 3) sc_chg.nd rfl (Or.inl rfl) (pe_cl C1 hr (pa_cons (pv 0) (pa_cons (pe_op op_add (pe_callB call_len_str (by rfl) m_len PySem.boot_len (pa_cons (pv 1) pa_nil)) pe_int) pa_nil))))
      (pss_cons (ps_set (i := 4) sc_chg.nd rfl (Or.inl rfl) (pe_ix ix_str pe_str (pe_cl C1 hr (pa_cons (pv 0) (pa_cons pe_int pa_nil))) (fun _ _ => rfl)))
      (pss_cons (ps_if (pt_cmpR op_lt (pv 2) pe_int (nomark _)) (pss_one (ps_ret (pe_op op_add_str (pe_op op_add_str (pe_slice sl_str (pv 1) po_none (po_some (pv 3))) (pe_ix ix_list (pe_lst (pa_cons (pv 4) (pa_cons pe_str (pa_cons (pv 4) pa_nil)))) (pv 2) (fun _ _ => rfl)))
          (pe_slice sl_str (pv 1) (po_some (pe_op op_add (pv 3) (pe_callTy call_int1 (by rfl) m_int (by decide +kernel) (pa_cons (pe_cmpR op_gt (pv 2) pe_int (nomark _)) pa_nil)))) po_none)))) pss_nil)
      (pss_cons (ps_set (i := 5) sc_chg.nd rfl (Or.inl rfl) (pe_bm PySem.F.plainAttrs_str PySem.F.slot_str_split PySem.F.type_str_split mt_split (pv 1) (pa_cons pe_str pa_nil)))
      (pss_cons (ps_set (i := 6) sc_chg.nd rfl (Or.inl rfl) (pe_cl C1 hr (pa_cons (pv 0) (pa_cons (pe_callB call_len_seq (by rfl) m_len PySem.boot_len (pa_cons (pv 5) pa_nil)) pa_nil))))
      (pss_cons (ps_if (pt_cmpR op_lt (pv 2) pe_int (nomark _))
        (pss_cons (ps_set (i := 7) sc_chg.nd rfl (Or.inl rfl) (pe_cl C1 hr (pa_cons (pv 0) (pa_cons (pe_callB call_len_seq (by rfl) m_len PySem.boot_len (pa_cons (pv 5) pa_nil)) pa_nil))))
        (pss_cons (ps_set (i := 8) sc_chg.nd rfl (Or.inl rfl) (pe_lst (pa_cons (pe_op op_cat (pe_slice sl_list (pv 5) po_none (po_some (pv 6))) (pe_slice sl_list (pv 5) (po_some (pe_op op_add (pv 6) pe_int)) po_none))
          (pa_cons (pe_op op_cat (pe_op op_cat (pe_slice sl_list (pv 5) po_none (po_some (pv 6))) (pe_slice sl_list (pv 5) (po_some (pv 6)) (po_some (pe_op op_add (pv 6) pe_int)))) (pe_slice sl_list (pv 5) (po_some (pv 6)) po_none))
          (pa_cons (pe_op op_cat (pe_slice sl_list (pv 5) po_none (po_some (pv 7))) (pe_slice sl_list (pv 5) (po_some (pv 6)) po_none)) pa_nil)))))
        (pss_one (ps_ret (pe_join pe_str (pe_ix ix_list (pv 8) (pe_op op_sub (pv 2) pe_int) (fun _ _ => rfl))))))) pss_nil)
      (pss_cons (ps_set (i := 9) sc_chg.nd rfl (Or.inl rfl) (pe_bm PySem.F.plainAttrs_str PySem.F.slot_str_split PySem.F.type_str_split mt_split (pe_ix ix_list (pv 5) (pv 6) (fun _ _ => rfl)) (pa_cons pe_str pa_nil)))
      (pss_cons (ps_set (i := 10) sc_chg.nd rfl (Or.inl rfl) (pe_cl C1 hr (pa_cons (pv 0) (pa_cons (pe_callB call_len_seq (by rfl) m_len PySem.boot_len (pa_cons (pv 9) pa_nil)) pa_nil))))
      (pss_cons (ps_set (i := 11) sc_chg.nd rfl (Or.inl rfl) (pe_lst (pa_cons pe_str (pa_cons pe_str (pa_cons pe_str (pa_cons pe_str (pa_cons pe_str (pa_cons pe_str (pa_cons pe_str (pa_cons pe_str (pa_cons pe_str (pa_cons pe_str (pa_cons pe_str (pa_cons pe_str (pa_cons pe_str pa_nil)))))))))))))))
      (pss_cons (ps_set (i := 9) sc_chg.nd rfl (Or.inl rfl) (pe_op op_cat (pe_op op_cat (pe_slice sl_list (pv 9) po_none (po_some (pv 10))) (pe_ix ix_list (pe_lst (pa_cons (pe_lst pa_nil) (pa_cons (pe_lst (pa_cons (pe_ix ix_list (pv 9) (pv 10) (fun _ _ => rfl)) (pa_cons (pe_ix ix_list (pv 9) (pv 10) (fun _ _ => rfl)) pa_nil)))
          (pa_cons (pe_lst (pa_cons (pe_ix ix_list (pv 11) (pe_cl C1 hr (pa_cons (pv 0) (pa_cons pe_int pa_nil))) (fun _ _ => rfl)) pa_nil)) pa_nil)))) (pe_op op_sub (pv 2) pe_int) (fun _ _ => rfl))) (pe_slice sl_list (pv 9) (po_some (pe_op op_add (pv 10) pe_int)) po_none)))
      (pss_one (ps_ret (pe_join pe_str (pe_op op_cat (pe_op op_cat (pe_slice sl_list (pv 5) po_none (po_some (pv 6))) (pe_lst (pa_cons (pe_join pe_str (pv 9)) pa_nil))) (pe_slice sl_list (pv 5) (po_some (pe_op op_add (pv 6) pe_int)) po_none))))))))))))))), ?_⟩
    have big : (20010 : Nat) ≤ sizeLine := by decide
    refine ⟨_, rfl, h, c, 9, rfl, by decide, by decide, ha0, fun t Ha tl haa ka => ?_⟩
    refine ⟨_, rfl, _, rfl, _, rfl, Nat.le_trans (show _ ≤ 20010 by omega) big, _, _, rfl, rfl, h, c, _, rfl, by omega, by omega, haa, fun at_ Hb al hab kb => ?_⟩
    refine ⟨_, rfl, h, c, 18, rfl, by decide, by decide, hab, fun r Hc rl hac kc => ?_⟩
    have k03 := (ka.trans kb).trans kc
    obtain ⟨sg, hsg, sgk⟩ : ∃ sg, atI ("0123456789 -\nsepak" : Str).cps.toList (r : Int) = some sg ∧ sg < 128 := by
      have l18 : ("0123456789 -\nsepak" : Str).cps.toList.length = 18 := by decide +kernel
      have a18 : ∀ d ∈ ("0123456789 -\nsepak" : Str).cps.toList, d < 128 := by decide +kernel
      have rn : r < ("0123456789 -\nsepak" : Str).cps.toList.length := by
        have : (r : Int) < 18 := rl
        omega
      exact ⟨_, atI_nat (List.getElem?_eq_getElem rn), a18 _ (List.getElem_mem rn)⟩
    refine ⟨_, _, _, rfl, rfl, (by decide +kernel), hsg, ?_⟩
    have sok : TOk ⟨#[sg]⟩ := fun d hd => by
      have : d ∈ [sg] := hd
      rw [List.mem_singleton.mp this]
      omega
    have eok : TOk "" := by unfold TOk; decide +kernel
    have t9 : (t : Int) < 9 := tl
    refine ⟨_, rfl, _, _, rfl, rfl, _, rfl, ?_⟩
    by_cases z3 : (t : Int) < 3
    · rw [decide_eq_true z3]
      obtain ⟨mid, hmid, ml, mok⟩ : ∃ mid : Str, atI [V.str ⟨#[sg]⟩, V.str "", V.str ⟨#[sg]⟩] (t : Int) = some (.str mid) ∧ mid.length ≤ 1 ∧ TOk mid := by
        have : t = 0 ∨ t = 1 ∨ t = 2 := by omega
        rcases this with rfl | rfl | rfl
        · exact ⟨_, atI_nat (j := 0) rfl, Nat.le_refl 1, sok⟩
        · exact ⟨_, atI_nat (j := 1) rfl, by decide +kernel, eok⟩
        · exact ⟨_, atI_nat (j := 2) rfl, Nat.le_refl 1, sok⟩
      have c1 := cutS_length x none (some (at_ : Int))
      refine iteT ⟨_, rfl, _, rfl, _, rfl, x, rfl, Nat.le_trans (show _ ≤ 20010 by omega) big, _, rfl, _, rfl, (by show 3 ≤ sizeLine; decide), fun l nl => ?_⟩
      have sl := same_upd (o := .lst [V.str ⟨#[sg]⟩, V.str "", V.str ⟨#[sg]⟩]) nl
      refine ⟨_, rfl, l, _, _, _, rfl, rfl, SqL.of upd_same, hmid, _, _, rfl, rfl, Nat.le_trans (show _ ≤ 20010 by omega) big, _, rfl, _, rfl, _, rfl, _, _, rfl, rfl, .inr ⟨_, rfl, _, _, rfl, rfl, _, rfl, x, rfl, Nat.le_trans (show _ ≤ 20010 by omega) big, _, _, rfl, rfl, ?_, ?_⟩⟩
      · have c2 := cutS_length x (some ((at_ : Int) + (if decide ((0 : Int) < (t : Int)) = true then 1 else 0))) none
        rw [slen]
        exact Nat.le_trans (show _ ≤ 40010 by omega) (by decide)
      · have c2 := cutS_length x (some ((at_ : Int) + (if decide ((0 : Int) < (t : Int)) = true then 1 else 0))) none
        refine q _ _ (hac.same sl) (k03.trans (Same.kp2 sl)) ?_ (app_ok (app_ok (cutS_ok xo _ _) mok) (cutS_ok xo _ _))
        rw [slen, slen]
        omega
    rw [decide_eq_false z3]
    -- the rows
    refine iteF ⟨_, rfl, rfl, _, _, rfl, rfl, (by decide +kernel), Nat.le_trans (show _ ≤ 20010 by omega) big, fun Lr nLr => ?_⟩
    have rwt := rows_wt x
    have rne := split_ne (x := x) nl_tl nl_kind
    have rok : ∀ p, p ∈ Txt.split x "\n" → TOk p := fun p hp => split_ok nl_tl nl_kind xo hp
    generalize Txt.split x "\n" = rows at rwt rne rok nLr
    have sR := same_upd (o := .lst (rows.map V.str)) nLr
    have had := hac.same sR
    have fR := hac.fresh nLr
    have rl1 := wt_len rows
    have rl0 : 0 < rows.length := List.length_pos_iff.mpr rne
    refine ⟨_, rfl, _, rfl, Lr, _, rfl, .inl (SqL.of upd_same), h, c, _, rfl, by rw [List.length_map]; omega, by rw [List.length_map]; omega, had, fun k He kl hae ke => ?_⟩
    rw [List.length_map] at kl
    have er : LsAt He Lr rows := ke _ _ upd_same fR.1 fR.2
    have k05 := (k03.trans (Same.kp2 sR)).trans ke
    have kr : k < rows.length := by omega
    refine ⟨_, rfl, _, _, rfl, rfl, _, rfl, ?_⟩
    by_cases z6 : (t : Int) < 6
    · rw [decide_eq_true z6]
      refine iteT ⟨_, rfl, _, rfl, Lr, _, rfl, .inl (SqL.of er), h, c, _, rfl, by rw [List.length_map]; omega, by rw [List.length_map]; omega, hae, fun o Hf ol haf kf => ?_⟩
      have er2 : LsAt Hf Lr rows := kf _ _ er fR.1 fR.2
      have k06 := k05.trans kf
      have wc := cutP_wt rows
      refine ⟨_, rfl, _, rfl, _, rfl, cut_go er2 fun c1 H1 n1 s1 l1 => ⟨_, rfl, _, rfl, _, _, rfl, rfl, _, rfl, cut_goN (s1 _ _ er2) fun c2 H2 n2 s2 l2 => cat_go (s2 _ _ l1) l2 (by have := wc none (some (k : Int)); have := wc (some ((k : Int) + 1)) none; omega) fun d1 H3 n3 s3 e1 => ?_⟩⟩
      have er3 : LsAt H3 Lr rows := s3 _ _ (s2 _ _ (s1 _ _ er2))
      refine ⟨_, rfl, _, rfl, _, rfl, cut_go er3 fun c4 H4 n4 s4 l4 => ⟨_, rfl, _, rfl, _, rfl, _, rfl, _, _, rfl, rfl, _, rfl, cut_go (s4 _ _ er3) fun c5 H5 n5 s5 l5 => cat_go (s5 _ _ l4) l5 (by have := wc none (some (k : Int)); have := wc (some (k : Int)) (some ((k : Int) + 1)); omega) fun d5 H6 n6 s6 e5 => ?_⟩⟩
      have er6 : LsAt H6 Lr rows := s6 _ _ (s5 _ _ (s4 _ _ er3))
      refine ⟨_, rfl, _, rfl, _, rfl, cut_goN er6 fun c7 H7 n7 s7 l7 => cat_go (s7 _ _ e5) l7 (by rw [wt_app]; have := wc none (some (k : Int)); have := wc (some (k : Int)) (some ((k : Int) + 1)); have := wc (some (k : Int)) none; omega) fun d2 H8 n8 s8 e2 => ?_⟩
      have er8 : LsAt H8 Lr rows := s8 _ _ (s7 _ _ er6)
      refine ⟨_, rfl, _, rfl, _, rfl, cut_go er8 fun c9 H9 n9 s9 l9 => ⟨_, rfl, _, rfl, _, rfl, cut_goN (s9 _ _ er8) fun c10 H10 n10 s10 l10 => cat_go (s10 _ _ l9) l10 (by have := wc none (some (o : Int)); have := wc (some (k : Int)) none; omega) fun d3 H11 n11 s11 e3 => ?_⟩⟩
      refine ⟨(by show 3 ≤ sizeLine; decide), fun L nL => ?_⟩
      have sL := same_upd (o := .lst [V.ref d1, V.ref d2, V.ref d3]) nL
      have s3_8 := ((s4.trans s5).trans s6).trans (s7.trans s8)
      have s8_11 := (s9.trans s10).trans s11
      have sall := ((((s1.trans s2).trans s3).trans s3_8).trans s8_11).trans sL
      obtain ⟨dx, ps, hat, eps, wps, mps⟩ : ∃ (dx : Addr) (ps : List Str), atI [V.ref d1, V.ref d2, V.ref d3] ((t : Int) - 3) = some (.ref dx) ∧ LsAt (upd H11 L (.lst [V.ref d1, V.ref d2, V.ref d3])) dx ps ∧ wt ps ≤ 3 * wt rows ∧ ∀ p ∈ ps, p ∈ rows := by
        have : t = 3 ∨ t = 4 ∨ t = 5 := by omega
        rcases this with rfl | rfl | rfl
        · refine ⟨d1, _, atI_nat (j := 0) rfl, sL _ _ (s8_11 _ _ (s3_8 _ _ e1)), ?_, fun p hp => ?_⟩
          · rw [wt_app]
            have := wc none (some (k : Int)); have := wc (some ((k : Int) + 1)) none; omega
          · rcases List.mem_append.mp hp with z | z <;> exact cutP_mem z
        · refine ⟨d2, _, atI_nat (j := 1) rfl, sL _ _ (s8_11 _ _ e2), ?_, fun p hp => ?_⟩
          · rw [wt_app, wt_app]
            have := wc none (some (k : Int)); have := wc (some (k : Int)) (some ((k : Int) + 1)); have := wc (some (k : Int)) none; omega
          · rcases List.mem_append.mp hp with z | z
            · rcases List.mem_append.mp z with z | z <;> exact cutP_mem z
            · exact cutP_mem z
        · refine ⟨d3, _, atI_nat (j := 2) rfl, sL _ _ e3, ?_, fun p hp => ?_⟩
          · rw [wt_app]
            have := wc none (some (o : Int)); have := wc (some (k : Int)) none; omega
          · rcases List.mem_append.mp hp with z | z <;> exact cutP_mem z
      refine ⟨⟨_, rfl⟩, _, rfl, _, rfl, _, _, rfl, rfl, L, _, _, _, rfl, rfl, SqL.of upd_same, hat, _, dx, ps, rfl, rfl, .inl (SqL.of eps), ?_, ?_⟩
      · rw [join_room (by decide +kernel)]
        omega
      · refine q _ _ (haf.same sall) (k06.trans (Same.kp2 sall)) ?_ (join_ok nl_ok fun p hp => rok p (mps p hp))
        have := join_wt (y := "\n") (by decide +kernel) ps
        omega
    rw [decide_eq_false z6]
    obtain ⟨r, gr, mr⟩ := strs_get kr
    have rw1 := wt_mem mr
    have ro := rok r mr
    -- the words
    refine iteF ⟨_, rfl, _, rfl, Lr, _, _, _, rfl, rfl, SqL.of er, atI_nat gr, rfl, _, _, rfl, rfl, (by decide +kernel), Nat.le_trans (show _ ≤ 20010 by omega) big, fun lw nlw => ?_⟩
    have wwt := words_wt r
    have wne := split_ne (x := r) bl_tl bl_kind
    have wok : ∀ p, p ∈ Txt.split r " " → TOk p := fun p hp => split_ok bl_tl bl_kind ro hp
    generalize Txt.split r " " = ws at wwt wne wok nlw
    have sW := same_upd (o := .lst (ws.map V.str)) nlw
    have haW := hae.same sW
    have fW := hae.fresh nlw
    have wl1 := wt_len ws
    have wl0 : 0 < ws.length := List.length_pos_iff.mpr wne
    refine ⟨_, rfl, _, rfl, lw, _, rfl, .inl (SqL.of upd_same), h, c, _, rfl, by rw [List.length_map]; omega, by rw [List.length_map]; omega, haW, fun j Hf jl haf kf => ?_⟩
    rw [List.length_map] at jl
    have k06 := (k05.trans (Same.kp2 sW)).trans kf
    have er2 : LsAt Hf Lr rows := kf _ _ (sW _ _ er) fR.1 fR.2
    have ew2 : LsAt Hf lw ws := kf _ _ upd_same fW.1 fW.2
    refine ⟨(by show 13 ≤ sizeLine; decide), fun lo nlo => ?_⟩
    have fo := haf.fresh nlo
    have so := same_upd (o := .lst [V.str "", V.str "0", V.str "00", V.str "07", V.str "9999", V.str "10000", V.str "-1", V.str "see", V.str "pass", V.str "ask", V.str "See", V.str "look", V.str "1.0"]) nlo
    have haO := haf.same so
    have eo : LsAt (upd Hf lo (.lst [V.str "", V.str "0", V.str "00", V.str "07", V.str "9999", V.str "10000", V.str "-1", V.str "see", V.str "pass", V.str "ask", V.str "See", V.str "look", V.str "1.0"])) lo ["", "0", "00", "07", "9999", "10000", "-1", "see", "pass", "ask", "See", "look", "1.0"] := upd_same
    have er3 := so _ _ er2
    have ew3 := so _ _ ew2
    have k07 := k06.trans (Same.kp2 so)
    obtain ⟨wj, gj, mj⟩ := strs_get (show j < ws.length by omega)
    have wjw := wt_mem mj
    have wc := cutP_wt ws
    refine ⟨_, rfl, _, rfl, _, rfl, cut_go ew3 fun c1 H1 n1 s1 l1 => ⟨(by show 0 ≤ sizeLine; decide), fun x1 nx1 => ?_⟩⟩
    have f1 := haO.fresh n1
    have hb1 := haO.same s1
    have fx1 := hb1.fresh nx1
    have sx1 := same_upd (o := .lst []) nx1
    have ew4 := sx1 _ _ (s1 _ _ ew3)
    refine ⟨_, rfl, _, rfl, lw, _, _, _, rfl, rfl, SqL.of ew4, atI_nat gj, _, rfl, _, rfl, lw, _, _, _, rfl, rfl, SqL.of ew4, atI_nat gj, (by show 2 ≤ sizeLine; decide), fun x2 nx2 => ?_⟩
    have hb2 := hb1.same sx1
    have fx2 := hb2.fresh nx2
    have sx2 := same_upd (o := .lst [V.str wj, V.str wj]) nx2
    have hb3 := hb2.same sx2
    refine ⟨_, rfl, _, rfl, h, c, 13, rfl, by decide, by decide, hb3, fun r2 Hg r2l hag kg => ?_⟩
    have s02 := (s1.trans sx1).trans sx2
    have eo2 := kg _ _ (s02 _ _ eo) fo.1 fo.2
    obtain ⟨od, god, mod_⟩ := strs_get (ps := ["", "0", "00", "07", "9999", "10000", "-1", "see", "pass", "ask", "See", "look", "1.0"]) (show r2 < 13 by omega)
    have odl : od.length ≤ 5 ∧ TOk od := by
      have key : ∀ p ∈ (["", "0", "00", "07", "9999", "10000", "-1", "see", "pass", "ask", "See", "look", "1.0"] : List Str), p.length ≤ 5 ∧ ∀ c ∈ TL.tl p, c < 1114112 := by decide +kernel
      exact key od mod_
    refine ⟨lo, _, _, _, rfl, rfl, SqL.of eo2, atI_nat god, (by show 1 ≤ sizeLine; decide), fun x3 nx3 => ⟨(by show 3 ≤ sizeLine; decide), fun x4 nx4 => ?_⟩⟩
    have sx3 := same_upd (o := .lst [V.str od]) nx3
    have sx4 := same_upd (o := .lst [V.ref x1, V.ref x2, V.ref x3]) nx4
    have s34 := sx3.trans sx4
    have hb5 := hag.same s34
    obtain ⟨m, pm, hat, em, wm, om⟩ : ∃ (m : Addr) (pm : List Str), atI [V.ref x1, V.ref x2, V.ref x3] ((t : Int) - 6) = some (.ref m) ∧ LsAt (upd (upd Hg x3 (.lst [V.str od])) x4 (.lst [V.ref x1, V.ref x2, V.ref x3])) m pm ∧ wt pm ≤ 2 * wt ws + 6 ∧ ∀ p ∈ pm, TOk p := by
      have : t = 6 ∨ t = 7 ∨ t = 8 := by omega
      rcases this with rfl | rfl | rfl
      · exact ⟨x1, [], atI_nat (j := 0) rfl, s34 _ _ (kg _ _ (sx2 _ _ upd_same) fx1.1 fx1.2), Nat.zero_le _, fun p hp => by cases hp⟩
      · refine ⟨x2, [wj, wj], atI_nat (j := 1) rfl, s34 _ _ (kg _ _ upd_same fx2.1 fx2.2), ?_, fun p hp => ?_⟩
        · rw [wt_cons, wt_cons, wt_nil]
          omega
        · simp only [List.mem_cons, List.not_mem_nil, or_false, or_self] at hp
          rw [hp]
          exact wok wj mj
      · refine ⟨x3, [od], atI_nat (j := 2) rfl, sx4 _ _ upd_same, ?_, fun p hp => ?_⟩
        · rw [wt_cons, wt_nil]
          omega
        · rw [List.mem_singleton.mp hp]
          exact odl.2
    have l1' : LsAt (upd (upd Hg x3 (.lst [V.str od])) x4 (.lst [V.ref x1, V.ref x2, V.ref x3])) c1 (cutP ws none (some (j : Int))) := s34 _ _ (kg _ _ (sx2 _ _ (sx1 _ _ l1)) f1.1 f1.2)
    have ew5 : LsAt (upd (upd Hg x3 (.lst [V.str od])) x4 (.lst [V.ref x1, V.ref x2, V.ref x3])) lw ws := s34 _ _ (kg _ _ (sx2 _ _ ew4) fW.1 fW.2)
    have er5 : LsAt (upd (upd Hg x3 (.lst [V.str od])) x4 (.lst [V.ref x1, V.ref x2, V.ref x3])) Lr rows := s34 _ _ (kg _ _ (s02 _ _ er3) fR.1 fR.2)
    have ex4 : (upd (upd Hg x3 (.lst [V.str od])) x4 (.lst [V.ref x1, V.ref x2, V.ref x3])) x4 = some (.lst [V.ref x1, V.ref x2, V.ref x3]) := upd_same
    have k08 := ((k07.trans (Same.kp2 s02)).trans kg).trans (Same.kp2 s34)
    generalize (upd (upd Hg x3 (.lst [V.str od])) x4 (.lst [V.ref x1, V.ref x2, V.ref x3])) = H5 at em l1' ew5 er5 ex4 k08 hb5
    refine ⟨_, rfl, _, _, rfl, rfl, x4, _, _, _, rfl, rfl, SqL.of ex4, hat, cat_go l1' em (by have := wc none (some (j : Int)); omega) fun c2 H6 n6 s6 e6 => ⟨_, rfl, _, rfl, _, _, rfl, rfl, _, rfl, cut_goN (s6 _ _ ew5) fun c3 H7 n7 s7 l7 => cat_go (s7 _ _ e6) l7 (by rw [wt_app]; have := wc none (some (j : Int)); have := wc (some ((j : Int) + 1)) none; omega) fun c4 H8 n8 s8 e8 => ?_⟩⟩
    have er8 : LsAt H8 Lr rows := s8 _ _ (s7 _ _ (s6 _ _ er5))
    have w8 : wt (cutP ws none (some (j : Int)) ++ pm ++ cutP ws (some ((j : Int) + 1)) none) ≤ 4 * wt ws + 6 := by
      rw [wt_app, wt_app]
      have := wc none (some (j : Int)); have := wc (some ((j : Int) + 1)) none; omega
    have o8 : ∀ p ∈ cutP ws none (some (j : Int)) ++ pm ++ cutP ws (some ((j : Int) + 1)) none, TOk p := fun p hp => by
      rcases List.mem_append.mp hp with z | z
      · rcases List.mem_append.mp z with z | z
        · exact wok p (cutP_mem z)
        · exact om p z
      · exact wok p (cutP_mem z)
    generalize cutP ws none (some (j : Int)) ++ pm ++ cutP ws (some ((j : Int) + 1)) none = w2 at e8 w8 o8
    have wr := cutP_wt rows
    have jl2 := join_wt (y := " ") (by decide +kernel) w2
    have wr1 : wt (cutP rows none (some (k : Int)) ++ [Txt.join " " w2] ++ cutP rows (some ((k : Int) + 1)) none) ≤ 2 * wt rows + 4 * wt ws + 7 := by
      rw [wt_app, wt_app, wt_cons, wt_nil]
      have := wr none (some (k : Int)); have := wr (some ((k : Int) + 1)) none; omega
    -- the text
    refine ⟨⟨_, rfl⟩, _, rfl, _, rfl, _, rfl, cut_go er8 fun c5 H9 n9 s9 l9 => ⟨⟨_, rfl⟩, _, rfl, _, c4, w2, rfl, rfl, .inl (SqL.of (s9 _ _ e8)), (by rw [join_room (by decide +kernel)]; omega), (by show 1 ≤ sizeLine; decide), fun x5 nx5 => ?_⟩⟩
    have sx5 := same_upd (o := .lst (([Txt.join " " w2] : List Str).map V.str)) nx5
    refine cat_go (p' := [Txt.join " " w2]) (sx5 _ _ l9) upd_same (by rw [wt_cons, wt_nil]; have := wr none (some (k : Int)); omega) fun c6 H10 n10 s10 e10 => ?_
    refine ⟨_, rfl, _, rfl, _, _, rfl, rfl, _, rfl, cut_goN (s10 _ _ (sx5 _ _ (s9 _ _ er8))) fun c7 H11 n11 s11 l11 => cat_go (s11 _ _ e10) l11 (by rw [wt_app, wt_app, wt_cons, wt_nil] at wr1; rw [wt_app, wt_cons, wt_nil]; omega) fun c8 H12 n12 s12 e12 => ?_⟩
    refine ⟨_, c8, _, rfl, rfl, .inl (SqL.of e12), ?_, ?_⟩
    · rw [join_room (by decide +kernel)]
      omega
    · have sall := (((s6.trans s7).trans s8).trans s9).trans (((sx5.trans s10).trans s11).trans s12)
      refine q _ _ (hb5.same sall) (k08.trans (Same.kp2 sall)) ?_ (join_ok nl_ok fun p hp => ?_)
      · have := join_wt (y := "\n") (by decide +kernel) (cutP rows none (some (k : Int)) ++ [Txt.join " " w2] ++ cutP rows (some ((k : Int) + 1)) none)
        omega
      · rcases List.mem_append.mp hp with z | z
        · rcases List.mem_append.mp z with z | z
          · exact rok p (cutP_mem z)
          · rw [List.mem_singleton.mp z]
            exact join_ok bl_ok o8
        · exact rok p (cutP_mem z)
end
/-! ### the law -/
def spLaw (K : PySem.W.Frag) : Sp := fun vs H Q _ => ∃ (a : Addr) (ns : List Int), vs = [.ref a] ∧ SqL K H a (ns.map V.int) ∧ ns.length ≤ 63 ∧ ∀ H', Q (.bl true) H'
theorem wt_le {m : Nat} : ∀ {ps : List Str}, (∀ p ∈ ps, p.length ≤ m) → wt ps ≤ ps.length * (m + 1)
  | [], _ => Nat.zero_le _
  | p :: r, h => by
    rw [wt_cons, List.length_cons, Nat.succ_mul]
    have h1 := h p List.mem_cons_self
    have h2 := wt_le (ps := r) fun x hx => h x (List.mem_cons_of_mem _ hx)
    omega
theorem row_small {s : Str × Nat} (h : okWord s.1) (h2 : s.2 < 10000) : (rowOf s).length ≤ 9 ∧ TOk (rowOf s) := by
  have h1 : s.1.length ≤ 4 ∧ TOk s.1 := by
    rcases h with e | e | e <;> rw [e] <;> exact ⟨by decide +kernel, by unfold TOk; decide +kernel⟩
  have e2 : Str.ofString (toString (s.2 : Int)) = numS s.2 := rfl
  have h3 : (numS s.2).length ≤ 4 := by
    rw [TL.len_tl, tl_numS]
    exact TL.numL_len (k := 4) (by decide) (by omega)
  have h4 : TOk (numS s.2) := fun c hc => by
    rw [tl_numS] at hc
    have := TL.numL_digits s.2 c hc
    omega
  have l1 : (" " : Str).length = 1 := by decide +kernel
  unfold rowOf
  rw [e2]
  refine ⟨?_, app_ok (app_ok h1.2 bl_ok) h4⟩
  rw [slen, slen]
  have := h1.1
  omega
theorem text_small {ss : List (Str × Nat)} (n20 : ss.length ≤ 20) (h : ∀ s ∈ ss, okWord s.1 ∧ s.2 < 10000) : (textOf ss).length ≤ 200 ∧ TOk (textOf ss) := by
  unfold textOf
  have h1 : ∀ p ∈ ss.map rowOf, p.length ≤ 9 ∧ TOk p := fun p hp => by
    obtain ⟨s, hs, rfl⟩ := List.mem_map.mp hp
    exact row_small (h s hs).1 (h s hs).2
  refine ⟨?_, join_ok nl_ok fun p hp => (h1 p hp).2⟩
  have := join_wt (y := "\n") (by decide +kernel) (ss.map rowOf)
  have := wt_le (m := 9) fun p hp => (h1 p hp).1
  rw [List.length_map] at this
  omega
theorem dueD_d (x : Str) : PyData.depth (dueD x) ≤ 2 := by
  unfold dueD
  split
  · have : ∀ ds : List PyData, (∀ d ∈ ds, PyData.depth d ≤ 1) → PyData.depthAll ds ≤ 1 := by
      intro ds
      induction ds with
      | nil => intro _; exact Nat.zero_le _
      | cons d r ih =>
        intro hd
        have h1 := hd d List.mem_cons_self
        have h2 := ih fun x hx => hd x (List.mem_cons_of_mem _ hx)
        simp only [PyData.depthAll]
        omega
    simp only [PyData.depth]
    have := this _ fun d (hd : d ∈ ((rowsOf x).map rowV).map pd7) => by
      obtain ⟨s, _, rfl⟩ := List.mem_map.mp hd
      unfold pd7
      simp only [PyData.depth, PyData.depthAll]
      decide
    omega
  · simp only [PyData.depth]
    decide
theorem dueD_s {x : Str} (h : x.length ≤ 90000) : szOk (dueD x) = true := by
  unfold dueD
  split
  · have l1 : (rowsOf x).length ≤ 100000 := by
      unfold rowsOf
      split
      · exact Nat.zero_le _
      · have h1 := rows_wt x
        have h2 := wt_len (Txt.split x "\n")
        omega
    have : ∀ ds : List (Str × Nat), szAll (ds.map pd7) = true := by
      intro ds
      induction ds with
      | nil => rfl
      | cons d r ih =>
        simp only [List.map_cons, szAll, ih, Bool.and_true]
        rfl
    simp only [szOk, this, Bool.and_true, List.length_map]
    exact decide_eq_true l1
  · rfl
def oddL : List Str := ["", " ", "\n", "see", "see ", "see 0 ", "see  0", " see 0", "see 0\n", "pass -1", "ask a", "ask 00000", "see 0123", "pass 007", "ask 00"]
theorem oddL_ok : ∀ p ∈ oddL, p.length ≤ 100 ∧ ∀ c ∈ TL.tl p, c < 1114112 := by decide +kernel
section
variable {P : Program} {w : World} {K : PySem.W.Frag} {mg : Str → Option Value} {base : Heap}
abbrev Nlaw : List Str := ["_law_script", "_law_h", "_law_odd", "_law_turn", "_law_steps", "_law_k", "_law_number", "_law_text_here", "_law_some", "_law_again"]
theorem sc_law : FnScope Nlaw ["_law_script"] (defScope s_law) := ⟨rfl, rfl, rfl, by decide +kernel, rfl, by decide +kernel, by decide +kernel⟩
theorem ok_law {f : Addr} {fd : FuncData} (F : Fun K "law" "law" s_law f fd) (m_range : mg "range" = none)
    (C_mix : Cl P w K mg base 1 "_law_mix" ["_law_script", "_law_seed"] (spMix K)) (C_next : Cl P w K mg base 1 "_law_next" ["_law_h", "_law_many"] spNext) (C_tx : Cl P w K mg base 1 "_law_text" ["_law_steps"] spText) (C_ch : Cl P w K mg base 2 "_law_changed" ["_law_h", "_law_text_here"] spChanged)
    (C_al : Cl P w K mg base 3 "_law_alike" ["_law_found", "_law_due_here"] (spAlike K 2)) (C_to : Cl P w K mg base 4 "_law_told" ["_law_text_here"] (spTold11 K)) (C_du : Cl P w K mg base 1 "_law_due" ["_law_text_here"] (spDue K)) : FnOk P w K mg base CX0 5 f fd ["_law_script"] (spLaw K) := by
  refine F.ok sc_law (fun vs H Q E h => ?_) (fun cdv A outer s H vs Q E hr h => ?_)
  · obtain ⟨a, ns, rfl, _⟩ := h
    rfl
  · obtain ⟨a, ns, rfl, hS, hl, q⟩ := h
    refine ⟨_, pss_cons (ps_set (i := 1) sc_law.nd rfl (Or.inl rfl) (pe_cl C_mix hr (pa_cons (pv 0) (pa_cons pe_int pa_nil))))
      (pss_cons (ps_set (i := 2) sc_law.nd rfl (Or.inl rfl) (pe_lst (pa_cons pe_str (pa_cons pe_str (pa_cons pe_str (pa_cons pe_str (pa_cons pe_str (pa_cons pe_str (pa_cons pe_str (pa_cons pe_str (pa_cons pe_str (pa_cons pe_str (pa_cons pe_str (pa_cons pe_str pa_nil))))))))))))))
      (pss_cons (ps_set (i := 2) sc_law.nd rfl (Or.inl rfl) (pe_op op_cat (pv 2) (pe_lst (pa_cons pe_str (pa_cons pe_str (pa_cons pe_str pa_nil))))))
      (pss_cons (ps_for PassesOwn.never rfl (pi_range1 (by rfl) m_range (pa_cons pe_int pa_nil)) (pg_name (i := 3) sc_law.nd rfl (Or.inl rfl))
        (pss_cons (ps_set (i := 4) sc_law.nd rfl (Or.inl rfl) (pe_lst pa_nil))
        (pss_cons (ps_for PassesOwn.never rfl (pi_range1 (by rfl) m_range (pa_cons (pe_cl C_next hr (pa_cons (pv 1) (pa_cons pe_int pa_nil))) pa_nil)) (pg_name (i := 5) sc_law.nd rfl (Or.inl rfl))
          (pss_cons (ps_set (i := 6) sc_law.nd rfl (Or.inl rfl) (pe_cl C_next hr (pa_cons (pv 1) (pa_cons (pe_ix ix_list (pe_lst (pa_cons pe_int (pa_cons pe_int (pa_cons pe_int pa_nil)))) (pe_cl C_next hr (pa_cons (pv 1) (pa_cons pe_int pa_nil))) (fun _ _ => rfl)) pa_nil))))
          (pss_one (ps_expr (pe_bm PySem.F.plainAttrs_list PySem.F.slot_list_append PySem.F.type_list_append mt_append (pv 4) (pa_cons (pe_tup (pa_cons (pe_ix ix_list (pe_lst (pa_cons pe_str (pa_cons pe_str (pa_cons pe_str pa_nil)))) (pe_cl C_next hr (pa_cons (pv 1) (pa_cons pe_int pa_nil))) (fun _ _ => rfl)) (pa_cons (pv 6) pa_nil))) pa_nil))))))
        (pss_cons (ps_set (i := 7) sc_law.nd rfl (Or.inl rfl) (pe_cl C_tx hr (pa_cons (pv 4) pa_nil)))
        (pss_cons (ps_for PassesOwn.never rfl (pi_range1 (by rfl) m_range (pa_cons (pe_cl C_next hr (pa_cons (pv 1) (pa_cons pe_int pa_nil))) pa_nil)) (pg_name (i := 5) sc_law.nd rfl (Or.inl rfl))
          (pss_one (ps_set (i := 7) sc_law.nd rfl (Or.inl rfl) (pe_cl C_ch hr (pa_cons (pv 1) (pa_cons (pv 7) pa_nil))))))
        (pss_one (ps_for PassesOwn.never rfl (pi_list (pe_lst (pa_cons (pv 7) (pa_cons (pe_ix ix_list (pv 2) (pe_cl C_next hr (pa_cons (pv 1) (pa_cons pe_int pa_nil))) (fun _ _ => rfl)) pa_nil)))) (pg_name (i := 8) sc_law.nd rfl (Or.inl rfl))
          (pss_one (ps_for PassesOwn.never rfl (pi_range1 (by rfl) m_range (pa_cons pe_int pa_nil)) (pg_name (i := 9) sc_law.nd rfl (Or.inl rfl))
            (pss_one (ps_if (pt_not (pt_val (pe_cl C_al hr (pa_cons (pe_cl C_to hr (pa_cons (pv 8) pa_nil)) (pa_cons (pe_cl C_du hr (pa_cons (pv 8) pa_nil)) pa_nil))))) pss_never pss_nil)))))))))))
      (pss_one (ps_ret pe_bl))))), ?_⟩
    refine ⟨_, rfl, a, 37, ns, rfl, hS, hl, by decide, by decide, fun H0 h c ha0 _ _ s0 => ?_⟩
    refine ⟨(by show 12 ≤ sizeLine; decide), fun o1 no1 => ?_⟩
    have so1 := same_upd (o := .lst ((oddL.take 12).map V.str)) no1
    have ha1 := ha0.same so1
    refine ⟨_, rfl, (by show 3 ≤ sizeLine; decide), fun o2 no2 => ?_⟩
    have so2 := same_upd (o := .lst ((oddL.drop 12).map V.str)) no2
    have ha2 := ha1.same so2
    refine cat_go (p := oddL.take 12) (p' := oddL.drop 12) (so2 _ _ upd_same) upd_same (by decide +kernel) fun od H1 nod sod eod => ?_
    rw [List.take_append_drop] at eod
    have ha3 := ha2.same sod
    have fod := ha2.fresh nod
    refine ⟨5, rfl, by decide, by decide, for_range (lo := 0) (n := 5) (fun i σ H' => ∃ v3 v4 v5 v6 v7 v8 v9 : Option V, σ = [some (.ref a), some (.ref h), some (.ref od), v3, v4, v5, v6, v7, v8, v9] ∧ HAt H' h c ∧ LsAt H' od oddL)
      ⟨none, none, none, none, none, none, none, rfl, ha3, eod⟩ ?_ ?_⟩
    · rintro i σ Ha hi ⟨v3, v4, v5, v6, v7, v8, v9, rfl, haa, eoa⟩
      refine ⟨(by show 0 ≤ sizeLine; decide), fun L nL => ?_⟩
      have sL := same_upd (o := .lst []) nL
      have hab := haa.same sL
      have fL := haa.fresh nL
      have eob := sL _ _ eoa
      have noL : od ≠ L := ne_of_none eoa nL
      refine ⟨_, rfl, h, c, 21, rfl, by decide, by decide, hab, fun many Hc manyl hac kc => ?_⟩
      have many' : (many : Int) < 21 := manyl
      refine ⟨_, rfl, by omega, by omega, ?_⟩
      rw [Int.toNat_natCast]
      refine for_range (lo := 0) (n := many) (fun k σ H' => ∃ (as : List Addr) (ss : List (Str × Nat)) (v5 v6 : Option V), σ = [some (.ref a), some (.ref h), some (.ref od), some (.int (0 + (i : Int))), some (.ref L), v5, v6, v7, v8, v9] ∧ HAt H' h c ∧ LsAt H' od oddL ∧ H' L = some (.lst (as.map V.ref)) ∧ StsAt H' as ss ∧ ss.length = k ∧ ∀ s ∈ ss, okWord s.1 ∧ s.2 < 10000)
        ⟨[], [], v5, v6, rfl, hac, kc _ _ eob fod.1 fod.2, kc _ _ upd_same fL.1 fL.2, ⟨rfl, fun i a s h => by simp at h⟩, rfl, fun s hs => by cases hs⟩ ?_ ?_
      · rintro k σ Hd hk ⟨as, ss, v5, v6, rfl, had, eod2, eL, st, ls, oks⟩
        refine ⟨_, rfl, (by show 3 ≤ sizeLine; decide), fun l1 nl1 => ?_⟩
        have sl1 := same_upd (o := .lst [V.int 8, V.int 100, V.int 10000]) nl1
        have f1 := had.fresh nl1
        refine ⟨_, rfl, h, c, 3, rfl, by decide, by decide, had.same sl1, fun r1 He r1l hae ke => ?_⟩
        obtain ⟨mx, hmx, m1, m2⟩ : ∃ mx : Nat, atI [V.int 8, V.int 100, V.int 10000] (r1 : Int) = some (.int (mx : Int)) ∧ 1 ≤ mx ∧ mx ≤ 10000 := by
          have : r1 = 0 ∨ r1 = 1 ∨ r1 = 2 := by omega
          rcases this with rfl | rfl | rfl
          · exact ⟨8, atI_nat (j := 0) rfl, by decide, by decide⟩
          · exact ⟨100, atI_nat (j := 1) rfl, by decide, by decide⟩
          · exact ⟨10000, atI_nat (j := 2) rfl, by decide, by decide⟩
        refine ⟨l1, _, _, _, rfl, rfl, SqL.of (ke _ _ upd_same f1.1 f1.2), hmx, h, c, _, rfl, by omega, by omega, hae, fun nm Hf nml haf kf => ?_⟩
        have eLf := kf _ _ (ke _ _ (sl1 _ _ eL) fL.1 fL.2) fL.1 fL.2
        have eof := kf _ _ (ke _ _ (sl1 _ _ eod2) fod.1 fod.2) fod.1 fod.2
        have stf : StsAt Hf as ss := (st.tk fun x xs e => by
          have e1 := sl1 _ _ e
          have n1 := hae.neT (ke.tup (had.same sl1) e1)
          exact kf.tup hae (ke.tup (had.same sl1) e1))
        refine ⟨_, rfl, .inl ⟨rfl, _, SqL.of eLf⟩, (by show 3 ≤ sizeLine; decide), fun l2 nl2 => ?_⟩
        have sl2 := same_upd (o := .lst [V.str "see", V.str "pass", V.str "ask"]) nl2
        have f2 := haf.fresh nl2
        refine ⟨_, rfl, h, c, 3, rfl, by decide, by decide, haf.same sl2, fun r2 Hg r2l hag kg => ?_⟩
        obtain ⟨wd, hwd, okw⟩ : ∃ wd : Str, atI [V.str "see", V.str "pass", V.str "ask"] (r2 : Int) = some (.str wd) ∧ okWord wd := by
          have : r2 = 0 ∨ r2 = 1 ∨ r2 = 2 := by omega
          rcases this with rfl | rfl | rfl
          · exact ⟨_, atI_nat (j := 0) rfl, .inl rfl⟩
          · exact ⟨_, atI_nat (j := 1) rfl, .inr (.inl rfl)⟩
          · exact ⟨_, atI_nat (j := 2) rfl, .inr (.inr rfl)⟩
        refine ⟨l2, _, _, _, rfl, rfl, SqL.of (kg _ _ upd_same f2.1 f2.2), hwd, _, rfl, (by show 2 ≤ sizeLine; decide), fun T nT => ?_⟩
        have sT := same_upd (o := .tup [V.str wd, V.int (nm : Int)]) nT
        have eLg := sT _ _ (kg _ _ (sl2 _ _ eLf) fL.1 fL.2)
        have eog := sT _ _ (kg _ _ (sl2 _ _ eof) fod.1 fod.2)
        have hah := hag.same sT
        refine ⟨L, _, _, rfl, rfl, eLg, ?_, as ++ [T], ss ++ [(wd, nm)], _, _, rfl, ?_, ?_, ?_, ?_, by rw [List.length_append, ls]; rfl, fun s hs => ?_⟩
        · rw [List.length_map, st.len]
          exact small1000 (by omega)
        · obtain ⟨⟨mx', pl, ns', e1, e2, rest⟩, hne⟩ := hah
          exact ⟨⟨mx', pl, ns', by rw [upd_ne fL.1.symm]; exact e1, by rw [upd_ne fL.2.symm]; exact e2, rest⟩, hne⟩
        · show (upd _ L _) od = _
          rw [upd_ne noL]
          exact eog
        · rw [upd_same, List.map_append]
          rfl
        · refine (stf.tk fun x xs e => ?_).snoc (x := (wd, nm)) ?_
          · have e2 := sT _ _ (kg.tup (haf.same sl2) (sl2 _ _ e))
            rw [upd_ne (ne_of e2 eLg (fun z => nomatch z))]
            exact e2
          · rw [upd_ne (ne_of (show (upd Hg T (.tup [V.str wd, V.int (nm : Int)])) T = some (.tup [V.str wd, V.int (nm : Int)]) from upd_same) eLg (fun z => nomatch z))]
            exact upd_same
        · rcases List.mem_append.mp hs with hs | hs
          · exact oks s hs
          · rw [List.mem_singleton.mp hs]
            exact ⟨okw, by omega⟩
      · rintro σ Hd ⟨as, ss, v5, v6, rfl, had, eod2, eL, st, ls, oks⟩
        obtain ⟨t1, t2⟩ := text_small (by omega) oks
        refine ⟨_, rfl, L, as, ss, rfl, eL, st, by omega, fun s hs => ?_, fun He se => ?_⟩
        · have h1 := oks s hs
          have h2 : s.1.length ≤ 4 := by
            rcases h1.1 with e | e | e <;> rw [e] <;> decide +kernel
          omega
        have hae := had.same se
        have eoe := se _ _ eod2
        refine ⟨_, rfl, h, c, 4, rfl, by decide, by decide, hae, fun m Hf ml haf kf => ?_⟩
        have m4 : (m : Int) < 4 := ml
        refine ⟨_, rfl, by omega, by omega, ?_⟩
        rw [Int.toNat_natCast]
        have bnd : ∀ k, k ≤ 3 → ∀ y : Nat, y ≤ [200, 1420, 9960, 69740].getD k 0 → y ≤ 69740 := by
          intro k hk y hy
          have : k = 0 ∨ k = 1 ∨ k = 2 ∨ k = 3 := by omega
          rcases this with rfl | rfl | rfl | rfl
          · exact Nat.le_trans hy (by decide)
          · exact Nat.le_trans hy (by decide)
          · exact Nat.le_trans hy (by decide)
          · exact hy
        refine for_range (lo := 0) (n := m) (fun k σ H' => ∃ (x : Str) (v5 : Option V), σ = [some (.ref a), some (.ref h), some (.ref od), some (.int (0 + (i : Int))), some (.ref L), v5, v6, some (.str x), v8, v9] ∧ HAt H' h c ∧ LsAt H' od oddL ∧ x.length ≤ [200, 1420, 9960, 69740].getD k 0 ∧ TOk x)
          ⟨textOf ss, v5, rfl, haf, kf _ _ eoe fod.1 fod.2, t1, t2⟩ ?_ ?_
        · rintro k σ Hg hk ⟨x, v5, rfl, hag, eog, xl, xo⟩
          have x2 : x.length ≤ 20000 ∧ 7 * x.length + 20 ≤ [200, 1420, 9960, 69740].getD (k + 1) 0 := by
            have : k = 0 ∨ k = 1 ∨ k = 2 := by omega
            rcases this with rfl | rfl | rfl
            · have : x.length ≤ 200 := xl
              exact ⟨by omega, (by show 7 * x.length + 20 ≤ 1420; omega)⟩
            · have : x.length ≤ 1420 := xl
              exact ⟨by omega, (by show 7 * x.length + 20 ≤ 9960; omega)⟩
            · have : x.length ≤ 9960 := xl
              exact ⟨by omega, (by show 7 * x.length + 20 ≤ 69740; omega)⟩
          exact ⟨_, rfl, _, rfl, h, c, x, rfl, hag, x2.1, xo, fun y Hh hah kh yl yo => ⟨y, _, rfl, hah, kh _ _ eog fod.1 fod.2, Nat.le_trans yl x2.2, yo⟩⟩
        · rintro σ Hg ⟨x, v5, rfl, hag, eog, xl, xo⟩
          have xl2 := bnd m (by omega) _ xl
          refine ⟨_, rfl, _, rfl, _, rfl, h, c, 15, rfl, by decide, by decide, hag, fun r3 Hh r3l hah kh => ?_⟩
          have eoh := kh _ _ eog fod.1 fod.2
          obtain ⟨p, gp, mp⟩ := strs_get (ps := oddL) (show r3 < 15 by omega)
          have pok := oddL_ok p mp
          refine ⟨od, _, _, _, rfl, rfl, SqL.of eoh, atI_nat gp, (by show 2 ≤ sizeLine; decide), fun l3 nl3 => ?_⟩
          have sl3 := same_upd (o := .lst [V.str x, V.str p]) nl3
          refine ⟨l3, rfl, ⟨_, SqL.of upd_same⟩, for_list (K := K) (a := l3) (xs := [V.str x, V.str p]) (fun j σ H' => ∃ (v8 v9 : Option V), σ = [some (.ref a), some (.ref h), some (.ref od), some (.int (0 + (i : Int))), some (.ref L), v5, v6, some (.str x), v8, v9] ∧ Same (upd Hh l3 (.lst [V.str x, V.str p])) H')
            ⟨v8, v9, rfl, Same.refl _⟩ (fun j σ H' _ h => let ⟨_, _, _, s⟩ := h; SqL.of (s _ _ upd_same)) ?_ ?_⟩
          · rintro j y σ Hi hy ⟨v8, v9, rfl, si⟩
            obtain ⟨z, rfl, zl, zo⟩ : ∃ z : Str, y = .str z ∧ z.length ≤ 69740 ∧ TOk z := by
              match j, hy with
              | 0, hy => exact ⟨x, (Option.some.inj hy).symm, xl2, xo⟩
              | 1, hy => exact ⟨p, (Option.some.inj hy).symm, by omega, pok.2⟩
              | j + 2, hy => simp at hy
            refine ⟨2, rfl, by decide, by decide, for_range (lo := 0) (n := 2) (fun u σ H' => ∃ v9 : Option V, σ = [some (.ref a), some (.ref h), some (.ref od), some (.int (0 + (i : Int))), some (.ref L), v5, v6, some (.str x), some (.str z), v9] ∧ Same (upd Hh l3 (.lst [V.str x, V.str p])) H') ⟨v9, rfl, si⟩ ?_ ?_⟩
            · rintro u σ Hj hu ⟨v9, rfl, sj⟩
              refine ⟨_, rfl, z, rfl, by omega, fun v Hk sk dv => ⟨_, rfl, z, rfl, by omega, zo, fun v2 Hl sl dv2 => ⟨v, v2, dueD z, rfl, Dp.same sl _ _ dv, dv2, dueD_d z, dueD_s (by omega), fun Hm sm => ⟨_, rfl, iteF ?_⟩⟩⟩⟩
              exact ⟨_, rfl, sj.trans (sk.trans (sl.trans sm))⟩
            · rintro σ Hj ⟨v9, rfl, sj⟩
              exact ⟨_, _, rfl, sj⟩
          · rintro σ Hi ⟨v8, v9, rfl, si⟩
            exact ⟨_, _, _, _, _, _, _, rfl, (hah.same sl3).same si, si _ _ (sl3 _ _ eoh)⟩
    · rintro σ Ha _
      exact q Ha
end
/-! ### the error's class and its facts -/
section
open PySem.W
def textB (K : Frag) (cS c0 c1 c2 c3 c4 c5 c6 D : Addr) : Bool :=
  (decide (findIn K (.ref D) "__getattribute__" = some (some (.builtin "BaseException.__getattribute__"))) && decide (findIn K (.ref D) "__getattr__" = some none) && decide (subIn K (.ref D) (.type "BaseException") = some true) && hasDictIn K D &&
    decide (findIn K (.ref D) "__class__" = some (some (.builtin "object.__class__"))) && decide (specialIn K (.builtin "object.__class__") "__get__" = some (some (.builtin "getset_descriptor.__get__"))) && decide (takesIn K (.builtin "object.__class__") = some true) && decide (mroIn K D (.type "object") = some true)) &&
  (decide (exmOne K (.ref D) (.ref cS) = some true) && decide (kitOne K (.ref D) (.ref D) = some true) && decide (kitOne K (.ref D) (.type "ValueError") = some true) && decide (kitAny K (.ref D) ([c3, c1, c2, c0, c5, c4, c6].map Value.ref) = some false) && xfB K D && decide (findIn K (.ref D) "row" = some none))
theorem textC_of {K : Frag} {mg : Str → Option Value} {cS c0 c1 c2 c3 c4 c5 c6 D : Addr} (gS : mg "SeenError" = some (.ref cS)) (g0 : mg "BadRule" = some (.ref c0)) (g1 : mg "BadMark" = some (.ref c1)) (g2 : mg "BadMoment" = some (.ref c2)) (g3 : mg "BadBounds" = some (.ref c3)) (g4 : mg "NoRule" = some (.ref c4))
    (g5 : mg "BadThings" = some (.ref c5)) (g6 : mg "NoThing" = some (.ref c6)) (g7 : mg "BadText" = some (.ref D)) (h : textB K cS c0 c1 c2 c3 c4 c5 c6 D = true) : TextC K mg cS c0 c1 c2 c3 c4 c5 c6 D := by
  unfold textB at h
  simp only [Bool.and_eq_true, decide_eq_true_eq] at h
  obtain ⟨⟨⟨⟨⟨⟨⟨⟨h1, h2⟩, h3⟩, h4⟩, h5⟩, h6⟩, h7⟩, h8⟩, ⟨⟨⟨⟨⟨k0, k1⟩, k2⟩, k3⟩, k4⟩, k5⟩⟩ := h
  exact ⟨gS, g0, g1, g2, g3, g4, g5, g6, g7, ⟨h1, h2, h3, h4, h5, h6, h7, h8⟩, k0, k1, k2, k3, xfB_ok k4, k5⟩
theorem binit_binds {K : Frag} (kV doc pm : Value) (an : Option Addr) (cd ct : Value) (cc : Addr) : Binds K (ksFn "__init__" "BadText.__init__" (defArgs m_BadText_init) (defBody m_BadText_init) (defScope m_BadText_init) .none kV doc pm an cd ct cc) ["self", "row"] [] :=
  .all fun us hl => match us, hl with | [_, _], _ => rfl
end
theorem all_mk {l : PySem.W.OpenLaw} {w : World} {K : PySem.W.Frag} {h : Heap} {mg : Str → Option Value} {fa : Addr} (X : K.In h) (G : h.Ns mainGlobals mg) (hfa : mg "law" = some (.ref fa))
    {tk_MOST_FIGURES : Tok}
    {dW : Addr} {odW : Option Addr} {nW : Nat} {slW : Array (Option Value)} {y1 y2 y3 : Tok}
    {cSeenError cBadRule cBadMark cBadMoment cBadBounds cNoRule cBadThings cNoThing cBadText : Addr}
    {fI cc cda N : Addr} {ocI kV doc pm ct ccl cl : Value} {odI an cdd cld : Option Addr} {oslI ccs csl : Array (Option Value)} {vv : Array Value} {file : Str} {tf : Tok}
    {nmC q : Str} {bs bm : List Value} {sn : List Str} {sub : List Value} {ab : Bool} {col : Option Bool} {dd : Option Addr} {k0 k1 k2 k3 k5 : Option Value}
    (d_read : DefAt K mg "read" s_read ["text"])
    (d_is_step : DefAt K mg "_is_step" s_is_step ["words"])
    (d_is_number : DefAt K mg "_is_number" s_is_number ["word"])
    (d_L_mix : DefAt K mg "_law_mix" s_L_mix ["_law_script", "_law_seed"])
    (d_L_next : DefAt K mg "_law_next" s_L_next ["_law_h", "_law_many"])
    (d_L_alike : DefAt K mg "_law_alike" s_L_alike ["_law_found", "_law_due_here"])
    (d_L_text : DefAt K mg "_law_text" s_L_text ["_law_steps"])
    (d_L_due : DefAt K mg "_law_due" s_L_due ["_law_text_here"])
    (d_L_told : DefAt K mg "_law_told" s_L_told ["_law_text_here"])
    (d_L_changed : DefAt K mg "_law_changed" s_L_changed ["_law_h", "_law_text_here"])
    (d_law : DefAt K mg "law" s_law ["_law_script"])
    (m_enum : mg "enumerate" = none)
    (m_len : mg "len" = none)
    (m_min : mg "min" = none)
    (m_max : mg "max" = none)
    (m_list : mg "list" = none)
    (m_range : mg "range" = none)
    (m_int : mg "int" = none)
    (m_isi : mg "isinstance" = none)
    (m_tuple : mg "tuple" = none)
    (m_str : mg "str" = none)
    (m_bool : mg "bool" = none)
    (m_ve : mg "ValueError" = none)
    (m_super : mg "super" = none)
    (c_MOST_FIGURES : PySem.W.nsIn K mainGlobals "MOST_FIGURES" = some (some (.int 4 tk_MOST_FIGURES)))
    (aW : PySem.W.nsIn K mainGlobals "WORDS" = some (some (.ref dW)))
    (tW : K.lookup dW = some ⟨.type "tuple", odW, .seq #[.str "see" y1, .str "pass" y2, .str "ask" y3] nW, slW⟩)
    (aSeenError : PySem.W.nsIn K mainGlobals "SeenError" = some (some (.ref cSeenError)))
    (aBadRule : PySem.W.nsIn K mainGlobals "BadRule" = some (some (.ref cBadRule)))
    (aBadMark : PySem.W.nsIn K mainGlobals "BadMark" = some (some (.ref cBadMark)))
    (aBadMoment : PySem.W.nsIn K mainGlobals "BadMoment" = some (some (.ref cBadMoment)))
    (aBadBounds : PySem.W.nsIn K mainGlobals "BadBounds" = some (some (.ref cBadBounds)))
    (aNoRule : PySem.W.nsIn K mainGlobals "NoRule" = some (some (.ref cNoRule)))
    (aBadThings : PySem.W.nsIn K mainGlobals "BadThings" = some (some (.ref cBadThings)))
    (aNoThing : PySem.W.nsIn K mainGlobals "NoThing" = some (some (.ref cNoThing)))
    (aBadText : PySem.W.nsIn K mainGlobals "BadText" = some (some (.ref cBadText)))
    (iI : PySem.W.findIn K (.ref cBadText) "__init__" = some (some (.ref fI)))
    (lkI : K.lookup fI = some ⟨ocI, odI, .func (PySem.W.ksFn "__init__" "BadText.__init__" (defArgs m_BadText_init) (defBody m_BadText_init) (defScope m_BadText_init) .none kV doc pm an (.ref cda) ct cc), oslI⟩)
    (cdI : PySem.W.codeIn K (.ref cda) "BadText.__init__" = true)
    (lkD : K.lookup cda = some ⟨ccl, cdd, .fields vv, ccs⟩)
    (vvI : vv[2]? = some (.str file tf))
    (fiI : ((l.prog.main.file : Str) == file) = true)
    (toI : (l.prog.main.scope.names.lookup ("super" : Str)).isSome = false)
    (lkE : K.lookup cc = some ⟨cl, cld, .cell (some (.ref cBadText)), csl⟩)
    (tyI : PySem.W.typeIn K (.ref fI) = some (.type "function"))
    (noI : PySem.W.findIn K (.ref cBadText) "row" = some none)
    (thI : PySem.W.nsIn K cStatics "thirdparty.any" = some none)
    (sBI : PySem.W.subIn K (.ref cBadText) (.type "ValueError") = some true)
    (sCI : PySem.W.mroIn K cBadText (.ref cBadText) = some true)
    (lkC : K.lookup cBadText = some (excClassObj nmC q cBadText N bs bm true sn sub ab col dd k0 k1 k2 k3 k5 "ValueError.__new__"))
    (bmC : PySem.HandSPX.refsVE bm = true)
    (alC : PySem.W.alongIn K "__init__" bm = some (some (.builtin "ValueError.__init__")))
    (saC : PySem.W.findIn K (.ref cBadText) "__setattr__" = some (some (.builtin "object.__setattr__")))
    (exC : PySem.W.subIn K (.ref cBadText) (.type "BaseException") = some true)
    (tyC : PySem.W.typeIn K (.ref cBadText) = some (.type "type"))
    (kpC : PySem.W.keepIn K (.ref cBadText) = true)
    (txC : textB K cSeenError cBadRule cBadMark cBadMoment cBadBounds cNoRule cBadThings cNoThing cBadText = true)
    : ∃ fd : FuncData, (∀ (s : Shared) (v : Value), BindsTo s fd ⟨[v], []⟩ [("_law_script", v)]) ∧ ∀ base : Heap, K.In base → base.Ns mainGlobals mg → FnOk l.prog w K mg base CX0 5 fa fd ["_law_script"] (spLaw K) := by
  obtain ⟨f, fd, F, g, b⟩ := d_law
  have e := hfa.symm.trans g
  cases e
  have F' := F
  obtain ⟨⟨oc, od, kV, doc, pm, an, cdv, ct, osl, rfl, lk, hcd⟩, kp⟩ := F'
  refine ⟨PySem.W.fnOf "law" "law" (defArgs s_law) (defBody s_law) (defScope s_law) .none kV doc pm an cdv ct, fun s v => .of_eq rfl, fun base _ _ => ?_⟩
  have C_mix : Cl l.prog w K mg base 1 "_law_mix" ["_law_script", "_law_seed"] (spMix K) := ok_mix d_L_mix m_list
  have C_next : Cl l.prog w K mg base 1 "_law_next" ["_law_h", "_law_many"] spNext := ok_next d_L_next m_max m_len

  have C_al0 : Cl l.prog w K mg base 1 "_law_alike" ["_law_found", "_law_due_here"] (spAlike K 0) := ok_alike0 d_L_alike m_isi m_tuple m_list m_str m_bool m_int
  have C_al1 := ok_alikeS d_L_alike m_isi m_tuple m_list m_str m_bool m_int m_len m_range C_al0
  have C_al2 := ok_alikeS d_L_alike m_isi m_tuple m_list m_str m_bool m_int m_len m_range C_al1

  have W : WordsAt K mg := ⟨dW, PySem.W.mg_of X G aW, fun H => .inr ⟨_, _, _, tW, rfl, rfl, (by show 3 ≤ sizeLine; decide), .cons ⟨_, rfl⟩ (.cons ⟨_, rfl⟩ (.cons ⟨_, rfl⟩ .nil))⟩⟩
  have T : OexC K cBadText := ⟨⟨nmC, q, N, bs, bm, sn, sub, ab, col, dd, k0, k1, k2, k3, k5, lkC, bmC⟩, saC, exC, tyC, kpC⟩
  have G7 : TextC K mg cSeenError cBadRule cBadMark cBadMoment cBadBounds cNoRule cBadThings cNoThing cBadText := textC_of (PySem.W.mg_of X G aSeenError) (PySem.W.mg_of X G aBadRule) (PySem.W.mg_of X G aBadMark) (PySem.W.mg_of X G aBadMoment) (PySem.W.mg_of X G aBadBounds) (PySem.W.mg_of X G aNoRule) (PySem.W.mg_of X G aBadThings) (PySem.W.mg_of X G aNoThing) (PySem.W.mg_of X G aBadText) txC
  have C_num : Cl l.prog w K mg base 1 "_is_number" ["word"] spIsNum := ok_isnum d_is_number m_len (PySem.W.mg_of X G c_MOST_FIGURES)
  have C_iss := ok_isstep d_is_step m_len W C_num
  have hcl : ∃ cd : ClassData, PySem.W.clsIn K cBadText = some cd ∧ cd.mro = .ref cBadText :: bm := by
    unfold PySem.W.clsIn
    rw [lkC]
    exact ⟨_, rfl, rfl⟩
  obtain ⟨cdD, hcl, hmr⟩ := hcl
  have hsm : PySem.W.alongIn K "__init__" ((cdD.mro.dropWhile (· != .ref cBadText)).drop 1) = some (some (.builtin "ValueError.__init__")) := by
    rw [hmr]
    simp only [List.dropWhile_cons, bne_self_eq_false, Bool.false_eq_true, if_false, List.drop_succ_cons, List.drop_zero]
    exact alC
  have F1 := ok_binit (P := l.prog) (w := w) (base := base) lkI cdI lkD vvI fiI toI lkE m_super T noI thI hcl hsm sBI sCI
  have C_rd := ok_read d_read m_enum m_int C_iss T iI tyI F1 (binit_binds _ _ _ _ _ _ _) (PySem.W.mg_of X G aBadText)
  have C_tx : Cl l.prog w K mg base 1 "_law_text" ["_law_steps"] spText := ok_Ltext d_L_text m_str
  have C_du : Cl l.prog w K mg base 1 "_law_due" ["_law_text_here"] (spDue K) := ok_due d_L_due m_len m_range m_int m_str
  have C_to := ok_told11 d_L_told G7 m_isi m_ve C_rd
  have C_ch := ok_changed d_L_changed m_len m_int C_next
  exact ok_law F m_range C_mix C_next C_tx C_ch C_al2 C_to C_du
end LS
open PySem PySem.W PyProof.Rows
set_option maxHeartbeats 0 in
theorem PySem.Challenge.cw_lastseen_k11_texts_that_tell_no_steps_holds : PySem.Challenge.rw_lastseen_k11_texts_that_tell_no_steps.Holds := by
  w_on; o_law; k_head; (case hw => w_witness2)
  k_fill
  refine L2.walk_of (l := PySem.Challenge.rw_lastseen_k11_texts_that_tell_no_steps) (n := 63) (k := 5) (x := "_law_script") (CX := fun _ => L2.CX0) (sp := fun w => LS.spLaw _) rfl (by decide) rfl ⟨rfl, by decide, by decide⟩ (fun w h Y => PySem.W.kIn_of Y) ?F (fun _ _ a ns hl _ hS => ⟨a, ns, rfl, hS, hl, fun _ => rfl⟩) (fun _ _ _ _ _ h => h)
  case F =>
    intro w mg fa h KX G hmg
    refine' LS.all_mk KX G hmg (LS.defAt_mk (st := LS.s_read) (ps := ["text"]) KX G ?a0 ?l0 ?c0 ?k0 (fun _ _ _ _ _ _ us hl => match us, hl with | [_], _ => rfl)) (LS.defAt_mk (st := LS.s_is_step) (ps := ["words"]) KX G ?a1 ?l1 ?c1 ?k1 (fun _ _ _ _ _ _ us hl => match us, hl with | [_], _ => rfl)) (LS.defAt_mk (st := LS.s_is_number) (ps := ["word"]) KX G ?a2 ?l2 ?c2 ?k2 (fun _ _ _ _ _ _ us hl => match us, hl with | [_], _ => rfl)) (LS.defAt_mk (st := LS.s_L_mix) (ps := ["_law_script", "_law_seed"]) KX G ?a3 ?l3 ?c3 ?k3 (fun _ _ _ _ _ _ us hl => match us, hl with | [_, _], _ => rfl)) (LS.defAt_mk (st := LS.s_L_next) (ps := ["_law_h", "_law_many"]) KX G ?a4 ?l4 ?c4 ?k4 (fun _ _ _ _ _ _ us hl => match us, hl with | [_, _], _ => rfl)) (LS.defAt_mk (st := LS.s_L_alike) (ps := ["_law_found", "_law_due_here"]) KX G ?a5 ?l5 ?c5 ?k5 (fun _ _ _ _ _ _ us hl => match us, hl with | [_, _], _ => rfl)) (LS.defAt_mk (st := LS.s_L_text) (ps := ["_law_steps"]) KX G ?a6 ?l6 ?c6 ?k6 (fun _ _ _ _ _ _ us hl => match us, hl with | [_], _ => rfl)) (LS.defAt_mk (st := LS.s_L_due) (ps := ["_law_text_here"]) KX G ?a7 ?l7 ?c7 ?k7 (fun _ _ _ _ _ _ us hl => match us, hl with | [_], _ => rfl)) (LS.defAt_mk (st := LS.s_L_told) (ps := ["_law_text_here"]) KX G ?a8 ?l8 ?c8 ?k8 (fun _ _ _ _ _ _ us hl => match us, hl with | [_], _ => rfl)) (LS.defAt_mk (st := LS.s_L_changed) (ps := ["_law_h", "_law_text_here"]) KX G ?a9 ?l9 ?c9 ?k9 (fun _ _ _ _ _ _ us hl => match us, hl with | [_, _], _ => rfl)) (LS.defAt_mk (st := LS.s_law) (ps := ["_law_script"]) KX G ?a10 ?l10 ?c10 ?k10 (fun _ _ _ _ _ _ us hl => match us, hl with | [_], _ => rfl)) (PySem.W.mg_none_of KX G ?zenum) (PySem.W.mg_none_of KX G ?zlen) (PySem.W.mg_none_of KX G ?zmin) (PySem.W.mg_none_of KX G ?zmax) (PySem.W.mg_none_of KX G ?zlist) (PySem.W.mg_none_of KX G ?zrange) (PySem.W.mg_none_of KX G ?zint) (PySem.W.mg_none_of KX G ?zisi) (PySem.W.mg_none_of KX G ?ztuple) (PySem.W.mg_none_of KX G ?zstr) (PySem.W.mg_none_of KX G ?zbool) (PySem.W.mg_none_of KX G ?zve) (PySem.W.mg_none_of KX G ?zsuper) ?c_MOST_FIGURES ?aW ?tW ?aSeenError ?aBadRule ?aBadMark ?aBadMoment ?aBadBounds ?aNoRule ?aBadThings ?aNoThing ?aBadText ?iI ?lkI ?cdI ?lkD ?vvI ?fiI ?toI ?lkE ?tyI ?noI ?thI ?sBI ?sCI ?lkC ?bmC ?alC ?saC ?exC ?tyC ?kpC ?txC
    (case a0 => k_is)
    (case l0 => k_is)
    (case c0 => k_is)
    (case k0 => k_is)
    (case a1 => k_is)
    (case l1 => k_is)
    (case c1 => k_is)
    (case k1 => k_is)
    (case a2 => k_is)
    (case l2 => k_is)
    (case c2 => k_is)
    (case k2 => k_is)
    (case a3 => k_is)
    (case l3 => k_is)
    (case c3 => k_is)
    (case k3 => k_is)
    (case a4 => k_is)
    (case l4 => k_is)
    (case c4 => k_is)
    (case k4 => k_is)
    (case a5 => k_is)
    (case l5 => k_is)
    (case c5 => k_is)
    (case k5 => k_is)
    (case a6 => k_is)
    (case l6 => k_is)
    (case c6 => k_is)
    (case k6 => k_is)
    (case a7 => k_is)
    (case l7 => k_is)
    (case c7 => k_is)
    (case k7 => k_is)
    (case a8 => k_is)
    (case l8 => k_is)
    (case c8 => k_is)
    (case k8 => k_is)
    (case a9 => k_is)
    (case l9 => k_is)
    (case c9 => k_is)
    (case k9 => k_is)
    (case a10 => k_is)
    (case l10 => k_is)
    (case c10 => k_is)
    (case k10 => k_is)
    (case zenum => k_is)
    (case zlen => k_is)
    (case zmin => k_is)
    (case zmax => k_is)
    (case zlist => k_is)
    (case zrange => k_is)
    (case zint => k_is)
    (case zisi => k_is)
    (case ztuple => k_is)
    (case zstr => k_is)
    (case zbool => k_is)
    (case zve => k_is)
    (case zsuper => k_is)
    (case c_MOST_FIGURES => k_is)
    (case aW => k_is)
    (case tW => k_is)
    (case aSeenError => k_is)
    (case aBadRule => k_is)
    (case aBadMark => k_is)
    (case aBadMoment => k_is)
    (case aBadBounds => k_is)
    (case aNoRule => k_is)
    (case aBadThings => k_is)
    (case aNoThing => k_is)
    (case aBadText => k_is)
    (case iI => k_is)
    (case lkI => k_is)
    (case cdI => k_is)
    (case lkD => k_is)
    (case vvI => exact rfl)
    (case fiI => decide +kernel)
    (case toI => decide +kernel)
    (case lkE => k_is)
    (case tyI => k_is)
    (case noI => k_is)
    (case thI => k_is)
    (case sBI => k_is)
    (case sCI => k_is)
    (case lkC => k_is)
    (case bmC => kernel_rfl)
    (case alC => kernel_rfl)
    (case saC => k_is)
    (case exC => k_is)
    (case tyC => k_is)
    (case kpC => k_is)
    (case txC => kernel_rfl)
