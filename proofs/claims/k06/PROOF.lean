import PyProof.Rows.All
import Wide.All
import OpenK.AllK
import Wide.FinOn
import HandS.ForMost
import HandS.IsInst
import HandS.Zip
import HandS.More
import HandS.WideBits
import HandS.Conv
import HandS.SetFor
import HandS.ExcIs
import HandS.Lambda
import HandS.ForExc
import HandS.EndTab
import HandS.TryMany
import PyProof.DictMoreH
import KE.KNestM
import PySem.Challenge.RW_lastseen_k06_whole_the_fewest_bits
set_option Elab.async false
set_option linter.all false
set_option maxRecDepth 100000
set_option maxHeartbeats 4000000
namespace LS
/-- a rule: its kind, bits, step -/
inductive Ru where
  | cnt (b s : Nat)
  | shf (b s : Nat)
  | rgh (b : Nat)
def Ru.ok : Ru → Prop
  | .cnt b s => 1 ≤ b ∧ b ≤ 6 ∧ 1 ≤ s ∧ s ≤ 20
  | .shf b s => 1 ≤ b ∧ b ≤ 10 ∧ 1 ≤ s ∧ s ≤ 20
  | .rgh b => 1 ≤ b ∧ b ≤ 3
def Ru.bits : Ru → Nat
  | .cnt b _ => b
  | .shf b _ => b
  | .rgh b => b
/-- the greatest mark -/
def Ru.most : Ru → Nat
  | .cnt b _ => 2 ^ b - 1
  | .shf b _ => 2 ^ (b + 1) - 1
  | .rgh b => 2 ^ b - 1
/-- the mark that ageing leaves -/
def Ru.fin : Ru → Nat
  | .cnt b _ => 2 ^ b - 1
  | .shf _ _ => 0
  | .rgh b => 2 ^ b - 1
/-- the mark of a thing that was just seen for the first time -/
def Ru.top : Ru → Nat
  | .shf b _ => 2 ^ b
  | _ => 0
/-- the beginning of a moment -/
def tick : Ru → Nat → Nat → Nat
  | .cnt b s, m, t => if t % s = 0 then min (m + 1) (2 ^ b - 1) else m
  | .shf _ s, m, t => if t % s = 0 then m / 2 else m
  | .rgh b, m, t => if m ≠ 2 ^ b - 1 ∧ t % 2 ^ m = 0 then m + 1 else m
/-- n moments behind moment t -/
def ag (R : Ru) (m t : Nat) : Nat → Nat
  | 0 => m
  | n + 1 => tick R (ag R m t n) (t + n + 1)
theorem ag_add (R : Ru) (m t n : Nat) : ∀ k, ag R m t (n + k) = ag R (ag R m t n) (t + n) k
  | 0 => rfl
  | k + 1 => by
    show tick R (ag R m t (n + k)) (t + (n + k) + 1) = tick R (ag R (ag R m t n) (t + n) k) (t + n + k + 1)
    rw [ag_add R m t n k, Nat.add_assoc t n k]
theorem succ_div (k s : Nat) (hs : 0 < s) : (k + 1) / s = k / s + (if (k + 1) % s = 0 then 1 else 0) := by
  have e := Nat.div_add_mod k s
  have hr : k % s < s := Nat.mod_lt k hs
  by_cases h : k % s + 1 < s
  · have e1 : k + 1 = s * (k / s) + (k % s + 1) := by omega
    have d : (k + 1) / s = k / s := by
      have := congrArg (· / s) e1
      simp only [Nat.mul_add_div hs, Nat.div_eq_of_lt h, Nat.add_zero] at this
      exact this
    have m : (k + 1) % s = k % s + 1 := by
      have := congrArg (· % s) e1
      simp only [Nat.mul_add_mod] at this
      rw [this, Nat.mod_eq_of_lt h]
    rw [d, if_neg (by omega), Nat.add_zero]
  · have e2 : k % s + 1 = s := by omega
    have e1 : k + 1 = s * (k / s + 1) := by rw [Nat.mul_add, Nat.mul_one]; omega
    have d : (k + 1) / s = k / s + 1 := by
      have := congrArg (· / s) e1
      simp only [Nat.mul_div_cancel_left _ hs] at this
      exact this
    have m : (k + 1) % s = 0 := by
      have := congrArg (· % s) e1
      simp only [Nat.mul_mod_right] at this
      exact this
    rw [d, if_pos m]
theorem div_mono {a b : Nat} (s : Nat) (h : a ≤ b) : a / s ≤ b / s := Nat.div_le_div_right h
theorem ag_cnt (b s m t : Nat) (hs : 0 < s) (hm : m ≤ 2 ^ b - 1) : ∀ n, ag (.cnt b s) m t n = min (m + ((t + n) / s - t / s)) (2 ^ b - 1)
  | 0 => by
    show m = _
    rw [Nat.add_zero, Nat.sub_self, Nat.add_zero, Nat.min_eq_left hm]
  | n + 1 => by
    show (if (t + n + 1) % s = 0 then min (ag (.cnt b s) m t n + 1) (2 ^ b - 1) else ag (.cnt b s) m t n) = _
    rw [ag_cnt b s m t hs hm n]
    have e := succ_div (t + n) s hs
    have g := div_mono s (Nat.le_add_right t n)
    rw [show t + (n + 1) = t + n + 1 from rfl, e]
    by_cases h : (t + n + 1) % s = 0
    · rw [if_pos h, if_pos h]; omega
    · rw [if_neg h, if_neg h, Nat.add_zero]
theorem ag_shf (b s m t : Nat) (hs : 0 < s) : ∀ n, ag (.shf b s) m t n = m / 2 ^ ((t + n) / s - t / s)
  | 0 => by
    show m = _
    rw [Nat.add_zero, Nat.sub_self, Nat.pow_zero, Nat.div_one]
  | n + 1 => by
    show (if (t + n + 1) % s = 0 then ag (.shf b s) m t n / 2 else ag (.shf b s) m t n) = _
    rw [ag_shf b s m t hs n]
    have e := succ_div (t + n) s hs
    have g := div_mono s (Nat.le_add_right t n)
    rw [show t + (n + 1) = t + n + 1 from rfl, e]
    by_cases h : (t + n + 1) % s = 0
    · rw [if_pos h, if_pos h, Nat.div_div_eq_div_mul, ← Nat.pow_succ]
      congr 2; omega
    · rw [if_neg h, if_neg h, Nat.add_zero]
/-- where rough stands still -/
theorem ag_rgh_fin (b t : Nat) : ∀ n, ag (.rgh b) (2 ^ b - 1) t n = 2 ^ b - 1
  | 0 => rfl
  | n + 1 => by
    show (if ag (.rgh b) (2 ^ b - 1) t n ≠ 2 ^ b - 1 ∧ _ then _ else _) = _
    rw [ag_rgh_fin b t n, if_neg (fun h => h.1 rfl)]
theorem ag_rgh_still (b m t : Nat) : ∀ n, n < (t / 2 ^ m + 1) * 2 ^ m - t → ag (.rgh b) m t n = m
  | 0, _ => rfl
  | n + 1, h => by
    show (if ag (.rgh b) m t n ≠ 2 ^ b - 1 ∧ (t + n + 1) % 2 ^ ag (.rgh b) m t n = 0 then ag (.rgh b) m t n + 1 else ag (.rgh b) m t n) = _
    rw [ag_rgh_still b m t n (by omega)]
    refine if_neg fun ⟨_, h2⟩ => ?_
    have hp : 0 < 2 ^ m := Nat.two_pow_pos m
    have e := Nat.div_add_mod t (2 ^ m)
    have e2 := Nat.div_add_mod (t + n + 1) (2 ^ m)
    have h3 : t + n + 1 < (t / 2 ^ m + 1) * 2 ^ m := by omega
    have h4 : (t + n + 1) / 2 ^ m < t / 2 ^ m + 1 := (Nat.div_lt_iff_lt_mul hp).mpr h3
    have h5 := div_mono (2 ^ m) (show t ≤ t + n + 1 by omega)
    have h6 : (t + n + 1) / 2 ^ m = t / 2 ^ m := by omega
    rw [h6, h2] at e2
    have h7 : 2 ^ m * (t / 2 ^ m) ≤ t := by omega
    omega
theorem next_gt (m t : Nat) : t < (t / 2 ^ m + 1) * 2 ^ m := by
  have hp : 0 < 2 ^ m := Nat.two_pow_pos m
  have e := Nat.div_add_mod t (2 ^ m)
  have := Nat.mod_lt t hp
  rw [Nat.add_mul, Nat.one_mul, Nat.mul_comm]
  omega
theorem next_le (m t : Nat) : (t / 2 ^ m + 1) * 2 ^ m ≤ t + 2 ^ m := by
  have e := Nat.div_add_mod t (2 ^ m)
  rw [Nat.add_mul, Nat.one_mul, Nat.mul_comm]
  omega
theorem ag_rgh_next (b m t : Nat) (hm : m ≠ 2 ^ b - 1) : ag (.rgh b) m t ((t / 2 ^ m + 1) * 2 ^ m - t) = m + 1 := by
  have g := next_gt m t
  obtain ⟨n, hn⟩ : ∃ n, (t / 2 ^ m + 1) * 2 ^ m - t = n + 1 := ⟨(t / 2 ^ m + 1) * 2 ^ m - t - 1, by omega⟩
  rw [hn]
  show (if ag (.rgh b) m t n ≠ 2 ^ b - 1 ∧ (t + n + 1) % 2 ^ ag (.rgh b) m t n = 0 then ag (.rgh b) m t n + 1 else ag (.rgh b) m t n) = _
  have e3 : (t + n + 1) % 2 ^ m = 0 := by
    rw [show t + n + 1 = (t / 2 ^ m + 1) * 2 ^ m by omega]
    exact Nat.mul_mod_left _ _
  rw [ag_rgh_still b m t n (by omega), if_pos ⟨hm, e3⟩]
theorem tick_le (R : Ru) (m t : Nat) (h : m ≤ R.most) : tick R m t ≤ R.most := by
  cases R with
  | cnt b s =>
    show (if t % s = 0 then min (m + 1) (2 ^ b - 1) else m) ≤ 2 ^ b - 1
    have h' : m ≤ 2 ^ b - 1 := h
    split <;> omega
  | shf b s =>
    show (if t % s = 0 then m / 2 else m) ≤ 2 ^ (b + 1) - 1
    have h' : m ≤ 2 ^ (b + 1) - 1 := h
    split <;> omega
  | rgh b =>
    show (if m ≠ 2 ^ b - 1 ∧ t % 2 ^ m = 0 then m + 1 else m) ≤ 2 ^ b - 1
    have h' : m ≤ 2 ^ b - 1 := h
    split
    · rename_i c
      have := c.1
      omega
    · exact h'
theorem ag_le (R : Ru) (m t : Nat) (h : m ≤ R.most) : ∀ n, ag R m t n ≤ R.most
  | 0 => h
  | n + 1 => tick_le R _ _ (ag_le R m t h n)
/-- the length of a round -/
def Ru.round : Ru → Nat
  | .cnt _ s => s
  | .shf _ s => s
  | .rgh _ => 64
theorem pow_div64 {m : Nat} (h : m ≤ 6) (t k : Nat) : (t + 64 * k) % 2 ^ m = t % 2 ^ m := by
  have : m = 0 ∨ m = 1 ∨ m = 2 ∨ m = 3 ∨ m = 4 ∨ m = 5 ∨ m = 6 := by omega
  rcases this with rfl | rfl | rfl | rfl | rfl | rfl | rfl <;> simp only [Nat.reducePow] <;> omega
theorem tick_round (R : Ru) (hR : R.ok) (m t k : Nat) (h : m ≤ R.most) : tick R m (t + R.round * k) = tick R m t := by
  cases R with
  | cnt b s =>
    show (if (t + s * k) % s = 0 then min (m + 1) (2 ^ b - 1) else m) = if t % s = 0 then min (m + 1) (2 ^ b - 1) else m
    rw [Nat.add_mul_mod_self_left]
  | shf b s =>
    show (if (t + s * k) % s = 0 then m / 2 else m) = if t % s = 0 then m / 2 else m
    rw [Nat.add_mul_mod_self_left]
  | rgh b =>
    show (if m ≠ 2 ^ b - 1 ∧ (t + 64 * k) % 2 ^ m = 0 then m + 1 else m) = if m ≠ 2 ^ b - 1 ∧ t % 2 ^ m = 0 then m + 1 else m
    by_cases e : m = 2 ^ b - 1
    · rw [if_neg (fun h => h.1 e), if_neg (fun h => h.1 e)]
    · have h' : m ≤ 2 ^ b - 1 := h
      obtain ⟨h1, h2⟩ : 1 ≤ b ∧ b ≤ 3 := hR
      have hb : b = 1 ∨ b = 2 ∨ b = 3 := by omega
      have h6 : m ≤ 6 := by
        rcases hb with rfl | rfl | rfl <;> simp only [Nat.reducePow] at h' e <;> omega
      rw [pow_div64 h6]
theorem ag_round (R : Ru) (hR : R.ok) (m t k : Nat) (h : m ≤ R.most) : ∀ n, ag R m (t + R.round * k) n = ag R m t n
  | 0 => rfl
  | n + 1 => by
    show tick R (ag R m (t + R.round * k) n) (t + R.round * k + n + 1) = tick R (ag R m t n) (t + n + 1)
    rw [ag_round R hR m t k h n, show t + R.round * k + n + 1 = (t + n + 1) + R.round * k by omega]
    exact tick_round R hR _ _ k (ag_le R m t h n)
theorem ag_rgh_mono1 (b m t n : Nat) : ag (.rgh b) m t n ≤ ag (.rgh b) m t (n + 1) := by
  show ag (.rgh b) m t n ≤ (if ag (.rgh b) m t n ≠ 2 ^ b - 1 ∧ (t + n + 1) % 2 ^ ag (.rgh b) m t n = 0 then ag (.rgh b) m t n + 1 else ag (.rgh b) m t n)
  split <;> omega
theorem ag_rgh_mono (b m t n : Nat) : ∀ k, ag (.rgh b) m t n ≤ ag (.rgh b) m t (n + k)
  | 0 => Nat.le_refl _
  | k + 1 => Nat.le_trans (ag_rgh_mono b m t n k) (ag_rgh_mono1 b m t (n + k))
theorem rgh_reach (b m t : Nat) : ∀ e, e ≤ 2 ^ b - 1 → e ≤ ag (.rgh b) m t (2 ^ e - 1)
  | 0, _ => Nat.zero_le _
  | e + 1, he => by
    have ih := rgh_reach b m t e (by omega)
    have hp := Nat.two_pow_pos e
    have e2 : 2 ^ (e + 1) - 1 = (2 ^ e - 1) + 2 ^ e := by rw [Nat.pow_succ]; omega
    rw [e2]
    by_cases c : e + 1 ≤ ag (.rgh b) m t (2 ^ e - 1)
    · exact Nat.le_trans c (ag_rgh_mono b m t _ _)
    · have ee : ag (.rgh b) m t (2 ^ e - 1) = e := by omega
      rw [ag_add, ee]
      have nx := next_le e (t + (2 ^ e - 1))
      have gx := next_gt e (t + (2 ^ e - 1))
      have r := ag_rgh_next b e (t + (2 ^ e - 1)) (by omega)
      obtain ⟨k, hk⟩ : ∃ k, 2 ^ e = ((t + (2 ^ e - 1)) / 2 ^ e + 1) * 2 ^ e - (t + (2 ^ e - 1)) + k :=
        ⟨2 ^ e - (((t + (2 ^ e - 1)) / 2 ^ e + 1) * 2 ^ e - (t + (2 ^ e - 1))), by omega⟩
      have mo := ag_rgh_mono b e (t + (2 ^ e - 1)) (((t + (2 ^ e - 1)) / 2 ^ e + 1) * 2 ^ e - (t + (2 ^ e - 1))) k
      rw [r, ← hk] at mo
      exact mo
theorem div_add_ge (t n s : Nat) (hs : 0 < s) : n / s ≤ (t + n) / s - t / s := by
  have h1 := Nat.div_mul_le_self t s
  have h2 := Nat.div_mul_le_self n s
  have : t / s + n / s ≤ (t + n) / s := (Nat.le_div_iff_mul_le hs).mpr (by rw [Nat.add_mul]; omega)
  omega
/-- far behind: the end -/
theorem ag_far (R : Ru) (hR : R.ok) (m t n : Nat) (h : m ≤ R.most) (hn : 1300 ≤ n) : ag R m t n = R.fin := by
  cases R with
  | cnt b s =>
    obtain ⟨h1, h2, h3, h4⟩ : 1 ≤ b ∧ b ≤ 6 ∧ 1 ≤ s ∧ s ≤ 20 := hR
    have h' : m ≤ 2 ^ b - 1 := h
    rw [ag_cnt b s m t h3 h' n]
    show _ = 2 ^ b - 1
    have g := div_add_ge t n s h3
    have : 65 ≤ n / s := (Nat.le_div_iff_mul_le h3).mpr (Nat.le_trans (Nat.mul_le_mul_left 65 h4) hn)
    have : 2 ^ b ≤ 2 ^ 6 := Nat.pow_le_pow_right (by decide) h2
    omega
  | shf b s =>
    obtain ⟨h1, h2, h3, h4⟩ : 1 ≤ b ∧ b ≤ 10 ∧ 1 ≤ s ∧ s ≤ 20 := hR
    have h' : m ≤ 2 ^ (b + 1) - 1 := h
    rw [ag_shf b s m t h3 n]
    show _ = 0
    have g := div_add_ge t n s h3
    have : 65 ≤ n / s := (Nat.le_div_iff_mul_le h3).mpr (Nat.le_trans (Nat.mul_le_mul_left 65 h4) hn)
    have : 2 ^ (b + 1) ≤ 2 ^ ((t + n) / s - t / s) := Nat.pow_le_pow_right (by decide) (by omega)
    have := Nat.two_pow_pos (b + 1)
    exact Nat.div_eq_of_lt (by omega)
  | rgh b =>
    obtain ⟨h1, h2⟩ : 1 ≤ b ∧ b ≤ 3 := hR
    have le := ag_le (.rgh b) m t h n
    have r := rgh_reach b m t (2 ^ b - 1) (Nat.le_refl _)
    have hb : b = 1 ∨ b = 2 ∨ b = 3 := by omega
    have h7 : 2 ^ (2 ^ b - 1) - 1 ≤ 127 := by rcases hb with rfl | rfl | rfl <;> decide
    obtain ⟨k, hk⟩ : ∃ k, n = 2 ^ (2 ^ b - 1) - 1 + k := ⟨n - (2 ^ (2 ^ b - 1) - 1), by omega⟩
    have mo := ag_rgh_mono b m t (2 ^ (2 ^ b - 1) - 1) k
    rw [← hk] at mo
    show _ = 2 ^ b - 1
    have le' : ag (.rgh b) m t n ≤ 2 ^ b - 1 := le
    omega
end LS
namespace LS
def Ru.isShf : Ru → Bool
  | .shf _ _ => true
  | _ => false
def Ru.isRgh : Ru → Bool
  | .rgh _ => true
  | _ => false
/-- what the mark of a thing that was seen so many moments ago comes to -/
def one (R : Ru) (now a : Nat) : Nat := ag R R.top (now - a) a
/-- it may have such a mark -/
def poss (R : Ru) (now mark a : Nat) : Bool :=
  if R.isShf && decide (0 < one R now a) then decide (one R now a ≤ mark) && decide (mark < 2 * one R now a) else decide (one R now a = mark)
def IsSpan (R : Ru) (now mark : Nat) (x y : Option Nat) : Prop :=
  (x = none ∧ y = none ∧ ∀ a, a ≤ now → poss R now mark a = false) ∨
  (∃ lo, x = some lo ∧ lo ≤ now ∧ poss R now mark lo = true ∧ (∀ a, a ≤ now → poss R now mark a = true → lo ≤ a) ∧
    ((mark = R.fin ∧ y = none) ∨ (mark ≠ R.fin ∧ ∃ hi, y = some hi ∧ hi ≤ now ∧ poss R now mark hi = true ∧ ∀ a, a ≤ now → poss R now mark a = true → a ≤ hi)))
theorem IsSpan.uniq {R : Ru} {now mark : Nat} {x y x' y' : Option Nat} (h : IsSpan R now mark x y) (h' : IsSpan R now mark x' y') : x = x' ∧ y = y' := by
  rcases h with ⟨rfl, rfl, h⟩ | ⟨lo, rfl, h1, h2, h3, h4⟩
  · rcases h' with ⟨rfl, rfl, _⟩ | ⟨lo', rfl, k1, k2, _⟩
    · exact ⟨rfl, rfl⟩
    · rw [h lo' k1] at k2
      cases k2
  · rcases h' with ⟨rfl, rfl, h'⟩ | ⟨lo', rfl, k1, k2, k3, k4⟩
    · rw [h' lo h1] at h2
      cases h2
    · have e : lo = lo' := Nat.le_antisymm (h3 _ k1 k2) (k3 _ h1 h2)
      refine ⟨by rw [e], ?_⟩
      rcases h4 with ⟨e1, rfl⟩ | ⟨e1, hi, rfl, a1, a2, a3⟩
      · rcases k4 with ⟨_, rfl⟩ | ⟨n1, _⟩
        · rfl
        · exact absurd e1 n1
      · rcases k4 with ⟨n1, rfl⟩ | ⟨_, hi', rfl, b1, b2, b3⟩
        · exact absurd n1 e1
        · rw [Nat.le_antisymm (b3 _ a1 a2) (a3 _ b1 b2)]
/-! ### the lists that are found -/
def fl (R : Ru) (now mark n : Nat) : List Nat := (List.range n).filter (poss R now mark)
theorem fl_succ (R : Ru) (now mark n : Nat) : fl R now mark (n + 1) = if poss R now mark n = true then fl R now mark n ++ [n] else fl R now mark n := by
  unfold fl
  rw [List.range_succ, List.filter_append]
  by_cases h : poss R now mark n = true
  · rw [if_pos h, List.filter_cons_of_pos h]
    rfl
  · rw [if_neg h, List.filter_cons_of_neg h, List.filter_nil, List.append_nil]
theorem mem_fl {R : Ru} {now mark n a : Nat} : a ∈ fl R now mark n ↔ a < n ∧ poss R now mark a = true := by
  unfold fl
  rw [List.mem_filter, List.mem_range]
theorem fl_len (R : Ru) (now mark n : Nat) : (fl R now mark n).length ≤ n := by
  unfold fl
  exact Nat.le_trans (List.length_filter_le _ _) (by rw [List.length_range]; exact Nat.le_refl n)
/-- the tried ones do -/
def Cov (R : Ru) (now mark cnt : Nat) : Prop := cnt ≤ now + 1 ∧ ∀ a, cnt ≤ a → a ≤ now → poss R now mark a = true → mark = R.fin ∧ ∃ a', a' < cnt ∧ poss R now mark a' = true
theorem span_nil {R : Ru} {now mark cnt : Nat} (c : Cov R now mark cnt) (h : fl R now mark cnt = []) : IsSpan R now mark none none := by
  have no : ∀ a, a < cnt → poss R now mark a = false := fun a ha => by
    cases e : poss R now mark a with
    | false => rfl
    | true =>
      have : a ∈ fl R now mark cnt := mem_fl.mpr ⟨ha, e⟩
      rw [h] at this
      cases this
  refine .inl ⟨rfl, rfl, fun a ha => ?_⟩
  by_cases hc : a < cnt
  · exact no a hc
  · cases e : poss R now mark a with
    | false => rfl
    | true =>
      obtain ⟨_, a', l, p⟩ := c.2 a (by omega) ha e
      rw [no a' l] at p
      cases p
theorem span_some {R : Ru} {now mark cnt lo : Nat} {y : Option Nat} (c : Cov R now mark cnt) (h1 : lo ∈ fl R now mark cnt) (h2 : ∀ a, a ∈ fl R now mark cnt → lo ≤ a)
    (h3 : (mark = R.fin ∧ y = none) ∨ (mark ≠ R.fin ∧ ∃ hi, y = some hi ∧ hi ∈ fl R now mark cnt ∧ ∀ a, a ∈ fl R now mark cnt → a ≤ hi)) : IsSpan R now mark (some lo) y := by
  obtain ⟨l1, l2⟩ := mem_fl.mp h1
  have c1 := c.1
  refine .inr ⟨lo, rfl, by omega, l2, fun a ha hp => ?_, ?_⟩
  · by_cases hc : a < cnt
    · exact h2 a (mem_fl.mpr ⟨hc, hp⟩)
    · omega
  · rcases h3 with h3 | ⟨n1, hi, rfl, m1, m2⟩
    · exact .inl h3
    · obtain ⟨q1, q2⟩ := mem_fl.mp m1
      refine .inr ⟨n1, hi, rfl, by omega, q2, fun a ha hp => ?_⟩
      by_cases hc : a < cnt
      · exact m2 a (mem_fl.mpr ⟨hc, hp⟩)
      · exact absurd (c.2 a (by omega) ha hp).1 n1
theorem fl_pair (R : Ru) (now mark n : Nat) : (fl R now mark n).Pairwise (· < ·) := List.Pairwise.filter _ List.pairwise_lt_range
theorem fl_head {R : Ru} {now mark n lo : Nat} {r : List Nat} (e : fl R now mark n = lo :: r) : lo ∈ fl R now mark n ∧ ∀ a, a ∈ fl R now mark n → lo ≤ a := by
  have p := fl_pair R now mark n
  rw [e] at p ⊢
  refine ⟨List.mem_cons_self, fun a ha => ?_⟩
  rcases List.mem_cons.mp ha with rfl | ha
  · exact Nat.le_refl _
  · exact Nat.le_of_lt ((List.pairwise_cons.mp p).1 a ha)
theorem fl_last {R : Ru} {now mark n hi : Nat} {r : List Nat} (e : fl R now mark n = r ++ [hi]) : hi ∈ fl R now mark n ∧ ∀ a, a ∈ fl R now mark n → a ≤ hi := by
  have p := fl_pair R now mark n
  rw [e] at p ⊢
  refine ⟨List.mem_append_right _ List.mem_cons_self, fun a ha => ?_⟩
  rcases List.mem_append.mp ha with ha | ha
  · exact Nat.le_of_lt ((List.pairwise_append.mp p).2.2 a ha hi List.mem_cons_self)
  · rcases List.mem_cons.mp ha with rfl | ha
    · exact Nat.le_refl _
    · cases ha
/-! ### rough: later is less -/
theorem tick_rgh_mono (b t : Nat) {m m' : Nat} (h : m ≤ m') : tick (.rgh b) m t ≤ tick (.rgh b) m' t := by
  by_cases e : m = m'
  · rw [e]; exact Nat.le_refl _
  · have h1 : tick (.rgh b) m t ≤ m + 1 := by
      show (if m ≠ 2 ^ b - 1 ∧ t % 2 ^ m = 0 then m + 1 else m) ≤ m + 1
      split <;> omega
    have h2 : m' ≤ tick (.rgh b) m' t := by
      show m' ≤ (if m' ≠ 2 ^ b - 1 ∧ t % 2 ^ m' = 0 then m' + 1 else m')
      split <;> omega
    omega
theorem ag_rgh_mark (b t : Nat) {m m' : Nat} (h : m ≤ m') : ∀ n, ag (.rgh b) m t n ≤ ag (.rgh b) m' t n
  | 0 => h
  | n + 1 => tick_rgh_mono b _ (ag_rgh_mark b t h n)
theorem one_rgh_step (b now a : Nat) (h : a + 1 ≤ now) : one (.rgh b) now a ≤ one (.rgh b) now (a + 1) := by
  show ag (.rgh b) 0 (now - a) a ≤ ag (.rgh b) 0 (now - (a + 1)) (a + 1)
  rw [Nat.add_comm a 1, ag_add]
  rw [show now - (1 + a) + 1 = now - a by omega]
  exact ag_rgh_mark b _ (Nat.zero_le _) a
theorem one_rgh_mono (b now a : Nat) : ∀ k, a + k ≤ now → one (.rgh b) now a ≤ one (.rgh b) now (a + k)
  | 0, _ => Nat.le_refl _
  | k + 1, h => Nat.le_trans (one_rgh_mono b now a k (by omega)) (one_rgh_step b now (a + k) (by omega))
theorem one_le (R : Ru) (now a : Nat) (h : R.top ≤ R.most) : one R now a ≤ R.most := ag_le R _ _ h a
theorem top_le (R : Ru) : R.top ≤ R.most := by
  cases R with
  | cnt b s => exact Nat.zero_le _
  | rgh b => exact Nat.zero_le _
  | shf b s =>
    show 2 ^ b ≤ 2 ^ (b + 1) - 1
    have := Nat.two_pow_pos b
    rw [Nat.pow_succ]
    omega
/-- the end is kept -/
theorem one_rgh_fin {b now a a' : Nat} (h : one (.rgh b) now a = 2 ^ b - 1) (h1 : a ≤ a') (h2 : a' ≤ now) : one (.rgh b) now a' = 2 ^ b - 1 := by
  obtain ⟨k, rfl⟩ : ∃ k, a' = a + k := ⟨a' - a, by omega⟩
  have m := one_rgh_mono b now a k h2
  have l : one (.rgh b) now (a + k) ≤ 2 ^ b - 1 := one_le (.rgh b) now (a + k) (top_le _)
  omega
theorem one_rgh_far {b now a : Nat} (hb : b ≤ 3) (ha : 127 ≤ a) : one (.rgh b) now a = 2 ^ b - 1 := by
  have p3 : 2 ^ b ≤ 2 ^ 3 := Nat.pow_le_pow_right (by decide) hb
  have h7 : 2 ^ (2 ^ b - 1) ≤ 2 ^ 7 := Nat.pow_le_pow_right (by decide) (by omega)
  have r := rgh_reach b 0 (now - a) (2 ^ b - 1) (Nat.le_refl _)
  obtain ⟨k, hk⟩ : ∃ k, a = (2 ^ (2 ^ b - 1) - 1) + k := ⟨a - (2 ^ (2 ^ b - 1) - 1), by omega⟩
  have mo := ag_rgh_mono b 0 (now - a) (2 ^ (2 ^ b - 1) - 1) k
  rw [← hk] at mo
  have l : one (.rgh b) now a ≤ 2 ^ b - 1 := one_le (.rgh b) now a (top_le _)
  have l2 : 2 ^ b - 1 ≤ one (.rgh b) now a := Nat.le_trans r mo
  omega
theorem poss_rgh (b now mark a : Nat) : poss (.rgh b) now mark a = decide (one (.rgh b) now a = mark) := rfl
theorem poss_cnt (b s now mark a : Nat) : poss (.cnt b s) now mark a = decide (one (.cnt b s) now a = mark) := rfl
theorem cov_end (R : Ru) (now mark : Nat) : Cov R now mark (now + 1) := ⟨Nat.le_refl _, fun a h1 h2 _ => by omega⟩
theorem cov_rgh {b now mark c : Nat} (h : one (.rgh b) now c = 2 ^ b - 1) (hc : c ≤ now) : Cov (.rgh b) now mark (c + 1) := by
  refine ⟨by omega, fun a h1 h2 h3 => ?_⟩
  have e := one_rgh_fin h (show c ≤ a by omega) h2
  rw [poss_rgh, e] at h3
  have e2 : 2 ^ b - 1 = mark := of_decide_eq_true h3
  exact ⟨e2.symm, c, by omega, by rw [poss_rgh, h, decide_eq_true e2]⟩
/-! ### count and shift: by how often a thing was aged -/
def bl (n : Nat) : Nat := if n = 0 then 0 else n.log2 + 1
theorem bl_pos {n : Nat} (h : n ≠ 0) : 2 ^ (bl n - 1) ≤ n ∧ n < 2 ^ bl n ∧ 1 ≤ bl n := by
  unfold bl
  rw [if_neg h]
  exact ⟨Nat.log2_self_le h, Nat.lt_log2_self, by omega⟩
theorem pow_uniq {i j n : Nat} (h1 : 2 ^ i ≤ n) (h2 : n < 2 ^ (i + 1)) (h3 : 2 ^ j ≤ n) (h4 : n < 2 ^ (j + 1)) : i = j := by
  have a : i < j + 1 := (Nat.pow_lt_pow_iff_right (by decide : 1 < 2)).mp (Nat.lt_of_le_of_lt h1 h4)
  have b : j < i + 1 := (Nat.pow_lt_pow_iff_right (by decide : 1 < 2)).mp (Nat.lt_of_le_of_lt h3 h2)
  omega
theorem bl_le {n b : Nat} (h : n < 2 ^ b) : bl n ≤ b := by
  by_cases e : n = 0
  · unfold bl; rw [if_pos e]; exact Nat.zero_le _
  · obtain ⟨h1, h2, h3⟩ := bl_pos e
    have : bl n - 1 < b := (Nat.pow_lt_pow_iff_right (by decide : 1 < 2)).mp (Nat.lt_of_le_of_lt h1 h)
    omega
/-- how often it was aged, for the end at the least -/
def Ru.ags : Ru → Nat → Nat
  | .cnt _ _, m => m
  | .shf b _, m => b + 1 - bl m
  | .rgh _, _ => 0
def Ru.step : Ru → Nat
  | .cnt _ s => s
  | .shf _ s => s
  | .rgh _ => 1
def dd (s now a : Nat) : Nat := now / s - (now - a) / s
theorem one_cnt (b s now a : Nat) (hs : 0 < s) (h : a ≤ now) : one (.cnt b s) now a = min (dd s now a) (2 ^ b - 1) := by
  show ag (.cnt b s) 0 (now - a) a = _
  rw [ag_cnt b s 0 (now - a) hs (Nat.zero_le _) a, Nat.zero_add, show now - a + a = now by omega]
  rfl
theorem one_shf (b s now a : Nat) (hs : 0 < s) (h : a ≤ now) : one (.shf b s) now a = 2 ^ b / 2 ^ dd s now a := by
  show ag (.shf b s) (2 ^ b) (now - a) a = _
  rw [ag_shf b s (2 ^ b) (now - a) hs a, show now - a + a = now by omega]
  rfl
theorem two_div {b d : Nat} (h : d ≤ b) : 2 ^ b / 2 ^ d = 2 ^ (b - d) := Nat.pow_div h (by decide)
theorem two_div0 {b d : Nat} (h : b < d) : 2 ^ b / 2 ^ d = 0 := Nat.div_eq_of_lt (Nat.pow_lt_pow_right (by decide) h)
theorem poss_stp {R : Ru} (hR : R.isRgh = false) (hs : 0 < R.step) {now mark a : Nat} (hm : mark ≤ R.most) (h : a ≤ now) : poss R now mark a = true ↔ (if mark = R.fin then R.ags mark ≤ dd R.step now a else dd R.step now a = R.ags mark) := by
  cases R with
  | rgh b => cases hR
  | cnt b s =>
    have hm' : mark ≤ 2 ^ b - 1 := hm
    rw [poss_cnt, one_cnt b s now a hs h, decide_eq_true_iff]
    show _ ↔ (if mark = 2 ^ b - 1 then mark ≤ dd s now a else dd s now a = mark)
    split <;> omega
  | shf b s =>
    have hm' : mark ≤ 2 ^ (b + 1) - 1 := hm
    have pb := Nat.two_pow_pos (b + 1)
    show (if (true && decide (0 < one (.shf b s) now a)) = true then decide (one (.shf b s) now a ≤ mark) && decide (mark < 2 * one (.shf b s) now a) else decide (one (.shf b s) now a = mark)) = true ↔ (if mark = 0 then b + 1 - bl mark ≤ dd s now a else dd s now a = b + 1 - bl mark)
    rw [one_shf b s now a hs h, Bool.true_and]
    by_cases hd : dd s now a ≤ b
    · rw [two_div hd]
      have p := Nat.two_pow_pos (b - dd s now a)
      rw [decide_eq_true p, if_pos rfl, Bool.and_eq_true, decide_eq_true_iff, decide_eq_true_iff, Nat.mul_comm, ← Nat.pow_succ]
      by_cases e : mark = 0
      · rw [if_pos e, e, show bl 0 = 0 from rfl]
        omega
      · rw [if_neg e]
        obtain ⟨h1, h2, h3⟩ := bl_pos e
        have h4 : bl mark ≤ b + 1 := bl_le (by omega)
        constructor
        · rintro ⟨q1, q2⟩
          have := pow_uniq q1 q2 h1 (by rw [show bl mark - 1 + 1 = bl mark by omega]; exact h2)
          omega
        · intro q
          have : b - dd s now a = bl mark - 1 := by omega
          rw [this, show (bl mark - 1).succ = bl mark by omega]
          exact ⟨h1, h2⟩
    · rw [two_div0 (by omega), if_neg (by decide)]
      rw [decide_eq_true_iff]
      by_cases e : mark = 0
      · rw [if_pos e, e]
        constructor
        · intro _
          rw [show bl 0 = 0 from rfl]
          omega
        · intro _
          rfl
      · rw [if_neg e]
        obtain ⟨h1, h2, h3⟩ := bl_pos e
        constructor
        · intro q
          exact absurd q.symm e
        · intro q
          omega
theorem span_stp_none {R : Ru} (hR : R.isRgh = false) (hs : 0 < R.step) {now mark : Nat} (hm : mark ≤ R.most) (h : now / R.step < R.ags mark) : IsSpan R now mark none none := by
  refine .inl ⟨rfl, rfl, fun a ha => ?_⟩
  cases e : poss R now mark a with
  | false => rfl
  | true =>
    have p := (poss_stp hR hs hm ha).mp e
    have : dd R.step now a ≤ now / R.step := Nat.sub_le _ _
    split at p <;> omega
theorem span_stp_some {R : Ru} (hR : R.isRgh = false) (hs : 0 < R.step) {now mark run first latest : Nat} (hm : mark ≤ R.most) (h : now / R.step = R.ags mark + run) (hf : first = run * R.step) (hl : latest = min now (first + R.step - 1)) :
    IsSpan R now mark (some (now - latest)) (if mark = R.fin then none else some (now - first)) ∧ first ≤ now := by
  have f1 : first ≤ now := by
    rw [hf]
    have := Nat.div_mul_le_self now R.step
    exact Nat.le_trans (Nat.mul_le_mul_right _ (by omega)) this
  have l1 : first ≤ latest := by omega
  have l2 : latest ≤ first + R.step - 1 := by omega
  have l3 : latest ≤ now := by omega
  have dl : latest / R.step = run := by
    refine Nat.div_eq_of_lt_le (by rw [← hf]; exact l1) ?_
    rw [Nat.add_mul, Nat.one_mul, ← hf]
    omega
  have df : first / R.step = run := by rw [hf]; exact Nat.mul_div_cancel _ hs
  refine ⟨.inr ⟨now - latest, rfl, by omega, ?_, fun a ha hp => ?_, ?_⟩, f1⟩
  · refine (poss_stp hR hs hm (by omega)).mpr ?_
    have : dd R.step now (now - latest) = R.ags mark := by
      unfold dd
      rw [show now - (now - latest) = latest by omega, dl]
      omega
    rw [this]
    split
    · exact Nat.le_refl _
    · rfl
  · have p := (poss_stp hR hs hm ha).mp hp
    have q : R.ags mark ≤ dd R.step now a := by split at p <;> omega
    have dm := div_mono R.step (show now - a ≤ now by omega)
    have q2 : (now - a) / R.step ≤ run := by
      unfold dd at q
      omega
    have q3 : now - a < (run + 1) * R.step := (Nat.div_lt_iff_lt_mul hs).mp (by omega)
    rw [Nat.add_mul, Nat.one_mul, ← hf] at q3
    omega
  · by_cases e : mark = R.fin
    · exact .inl ⟨e, if_pos e⟩
    · refine .inr ⟨e, now - first, if_neg e, by omega, ?_, fun a ha hp => ?_⟩
      · refine (poss_stp hR hs hm (by omega)).mpr ?_
        rw [if_neg e]
        unfold dd
        rw [show now - (now - first) = first by omega, df]
        omega
      · have p := (poss_stp hR hs hm ha).mp hp
        rw [if_neg e] at p
        have dm := div_mono R.step (show now - a ≤ now by omega)
        have q2 : (now - a) / R.step = run := by
          unfold dd at p
          omega
        have := Nat.div_mul_le_self (now - a) R.step
        rw [q2, ← hf] at this
        omega
/-- as far back as the law tries -/
def Ru.far : Ru → Nat
  | .cnt b s => s * (2 + max b (2 ^ b - 1))
  | .shf b s => s * (2 + max b 0)
  | .rgh _ => 140
theorem cov_far {R : Ru} (hR : R.ok) {now mark : Nat} (hm : mark ≤ R.most) : Cov R now mark (min now R.far + 1) := by
  by_cases hn : now ≤ R.far
  · rw [Nat.min_eq_left hn]
    exact cov_end R now mark
  · rw [Nat.min_eq_right (by omega)]
    cases R with
    | rgh b => exact cov_rgh (one_rgh_far hR.2 (show 127 ≤ 140 by decide)) (by omega)
    | cnt b s =>
      obtain ⟨h1, h2, h3, h4⟩ : 1 ≤ b ∧ b ≤ 6 ∧ 1 ≤ s ∧ s ≤ 20 := hR
      have hn' : s * (2 + max b (2 ^ b - 1)) ≤ now := by
        have : ¬ now ≤ s * (2 + max b (2 ^ b - 1)) := hn
        omega
      have big : ∀ a, s * (2 + max b (2 ^ b - 1)) ≤ a → a ≤ now → one (.cnt b s) now a = 2 ^ b - 1 := fun a l1 l2 => by
        rw [one_cnt b s now a h3 l2]
        have g := div_add_ge (now - a) a s h3
        rw [show now - a + a = now by omega] at g
        have : 2 + max b (2 ^ b - 1) ≤ a / s := (Nat.le_div_iff_mul_le h3).mpr (by rw [Nat.mul_comm]; exact l1)
        unfold dd
        omega
      refine ⟨Nat.succ_le_succ hn', fun a l1 l2 l3 => ?_⟩
      have e := big a (Nat.le_of_lt l1) l2
      rw [poss_cnt, e] at l3
      have e2 : 2 ^ b - 1 = mark := of_decide_eq_true l3
      exact ⟨e2.symm, s * (2 + max b (2 ^ b - 1)), Nat.lt_succ_self _, by rw [poss_cnt, big _ (Nat.le_refl _) hn', decide_eq_true e2]⟩
    | shf b s =>
      obtain ⟨h1, h2, h3, h4⟩ : 1 ≤ b ∧ b ≤ 10 ∧ 1 ≤ s ∧ s ≤ 20 := hR
      have hn' : s * (2 + max b 0) ≤ now := by
        have : ¬ now ≤ s * (2 + max b 0) := hn
        omega
      have big : ∀ a, s * (2 + max b 0) ≤ a → a ≤ now → one (.shf b s) now a = 0 := fun a l1 l2 => by
        rw [one_shf b s now a h3 l2]
        have g := div_add_ge (now - a) a s h3
        rw [show now - a + a = now by omega] at g
        have : 2 + max b 0 ≤ a / s := (Nat.le_div_iff_mul_le h3).mpr (by rw [Nat.mul_comm]; exact l1)
        refine two_div0 ?_
        unfold dd
        omega
      have ps : ∀ a, one (.shf b s) now a = 0 → poss (.shf b s) now mark a = decide (0 = mark) := fun a e => by
        unfold poss
        rw [e]
        rfl
      refine ⟨Nat.succ_le_succ hn', fun a l1 l2 l3 => ?_⟩
      have e := big a (Nat.le_of_lt l1) l2
      rw [ps a e] at l3
      have e2 : 0 = mark := of_decide_eq_true l3
      exact ⟨e2.symm, s * (2 + max b 0), Nat.lt_succ_self _, by rw [ps _ (big _ (Nat.le_refl _) hn'), decide_eq_true e2]⟩
theorem far_le {R : Ru} (hR : R.ok) : R.far ≤ 1300 := by
  cases R with
  | rgh b => exact (by decide : 140 ≤ 1300)
  | cnt b s =>
    obtain ⟨h1, h2, h3, h4⟩ : 1 ≤ b ∧ b ≤ 6 ∧ 1 ≤ s ∧ s ≤ 20 := hR
    have : 2 ^ b ≤ 2 ^ 6 := Nat.pow_le_pow_right (by decide) h2
    exact Nat.mul_le_mul h4 (show 2 + max b (2 ^ b - 1) ≤ 65 by omega)
  | shf b s =>
    obtain ⟨h1, h2, h3, h4⟩ : 1 ≤ b ∧ b ≤ 10 ∧ 1 ≤ s ∧ s ≤ 20 := hR
    exact Nat.mul_le_mul h4 (show 2 + max b 0 ≤ 65 by omega)
end LS
namespace LS
/-- a turn of rough -/
def tT (b : Nat) : Nat := 2 ^ (2 ^ b - 2)
theorem two_T {b : Nat} (hb : 1 ≤ b) : 2 ^ (2 ^ b - 1) = 2 * tT b := by
  have : 2 ^ 1 ≤ 2 ^ b := Nat.pow_le_pow_right (by decide) hb
  unfold tT
  rw [show 2 ^ b - 1 = (2 ^ b - 2) + 1 by omega, Nat.pow_succ, Nat.mul_comm]
theorem T_pos (b : Nat) : 1 ≤ tT b := Nat.two_pow_pos _
theorem T_le {b : Nat} (hb : b ≤ 3) : tT b ≤ 64 := by
  have : 2 ^ b ≤ 2 ^ 3 := Nat.pow_le_pow_right (by decide) hb
  have : tT b ≤ 2 ^ 6 := Nat.pow_le_pow_right (by decide) (by omega)
  exact this
theorem tick_T (b m t k : Nat) (h : m ≤ 2 ^ b - 1) : tick (.rgh b) m (t + tT b * k) = tick (.rgh b) m t := by
  show (if m ≠ 2 ^ b - 1 ∧ (t + tT b * k) % 2 ^ m = 0 then m + 1 else m) = if m ≠ 2 ^ b - 1 ∧ t % 2 ^ m = 0 then m + 1 else m
  by_cases e : m = 2 ^ b - 1
  · rw [if_neg (fun h => h.1 e), if_neg (fun h => h.1 e)]
  · have ed : tT b = 2 ^ m * 2 ^ (2 ^ b - 2 - m) := by
      unfold tT
      rw [← Nat.pow_add]
      congr 1
      omega
    rw [ed, Nat.mul_assoc, Nat.add_mul_mod_self_left]
theorem ag_T (b m t k : Nat) (h : m ≤ 2 ^ b - 1) : ∀ n, ag (.rgh b) m (t + tT b * k) n = ag (.rgh b) m t n
  | 0 => rfl
  | n + 1 => by
    show tick (.rgh b) (ag (.rgh b) m (t + tT b * k) n) (t + tT b * k + n + 1) = tick (.rgh b) (ag (.rgh b) m t n) (t + n + 1)
    rw [ag_T b m t k h n, show t + tT b * k + n + 1 = (t + n + 1) + tT b * k by omega]
    exact tick_T b _ _ k (ag_le (.rgh b) m t h n)
theorem one_T (b now k a : Nat) (h : a ≤ now) : one (.rgh b) (now + tT b * k) a = one (.rgh b) now a := by
  show ag (.rgh b) 0 (now + tT b * k - a) a = ag (.rgh b) 0 (now - a) a
  rw [show now + tT b * k - a = (now - a) + tT b * k by omega]
  exact ag_T b 0 (now - a) k (Nat.zero_le _) a
/-- a moment of the third turn that stands for another one -/
def rep (b now : Nat) : Nat := 2 * tT b + now % tT b
theorem rep_in (b now : Nat) : 2 * tT b ≤ rep b now ∧ rep b now < 3 * tT b := by
  have := Nat.mod_lt now (T_pos b)
  unfold rep
  omega
theorem rep_same (b now a : Nat) (h : a ≤ now) (h2 : a ≤ rep b now) : one (.rgh b) (rep b now) a = one (.rgh b) now a := by
  have e := Nat.div_add_mod now (tT b)
  by_cases c : now / tT b ≤ 2
  · obtain ⟨k, hk⟩ : ∃ k, 2 = now / tT b + k := ⟨2 - now / tT b, by omega⟩
    have : rep b now = now + tT b * k := by
      unfold rep
      have : 2 * tT b = tT b * (now / tT b) + tT b * k := by rw [← Nat.mul_add, ← hk, Nat.mul_comm]
      omega
    rw [this]
    exact one_T b now k a h
  · obtain ⟨k, hk⟩ : ∃ k, now / tT b = 2 + k := ⟨now / tT b - 2, by omega⟩
    have : now = rep b now + tT b * k := by
      unfold rep
      have : tT b * (now / tT b) = 2 * tT b + tT b * k := by rw [hk, Nat.mul_add, Nat.mul_comm]
      omega
    have q := one_T b (rep b now) k a h2
    rw [← this] at q
    exact q.symm
theorem one_far2 {b now a : Nat} (hb : 1 ≤ b) (ha : 2 * tT b - 1 ≤ a) : one (.rgh b) now a = 2 ^ b - 1 := by
  have r := rgh_reach b 0 (now - a) (2 ^ b - 1) (Nat.le_refl _)
  rw [two_T hb] at r
  obtain ⟨k, hk⟩ : ∃ k, a = (2 * tT b - 1) + k := ⟨a - (2 * tT b - 1), by omega⟩
  have mo := ag_rgh_mono b 0 (now - a) (2 * tT b - 1) k
  rw [← hk] at mo
  have l : one (.rgh b) now a ≤ 2 ^ b - 1 := one_le (.rgh b) now a (top_le _)
  have l2 : 2 ^ b - 1 ≤ one (.rgh b) now a := Nat.le_trans r mo
  omega
theorem exists_span (R : Ru) (now m : Nat) : ∃ x y, IsSpan R now m x y := by
  have c := cov_end R now m
  cases ef : fl R now m (now + 1) with
  | nil => exact ⟨none, none, span_nil c ef⟩
  | cons lo r =>
    obtain ⟨f1, f2⟩ := fl_head ef
    by_cases e : m = R.fin
    · exact ⟨some lo, none, span_some c f1 f2 (.inl ⟨e, rfl⟩)⟩
    · have hl : lo :: r = (lo :: r).dropLast ++ [(lo :: r).getLast (List.cons_ne_nil _ _)] := (List.dropLast_concat_getLast _).symm
      have g := fl_last (ef.trans hl)
      exact ⟨some lo, some _, span_some c f1 f2 (.inr ⟨e, _, rfl, g.1, g.2⟩)⟩
theorem IsSpan.lo_le {R : Ru} {now m a : Nat} {x y : Option Nat} (h : IsSpan R now m x y) (ha : a ≤ now) (hp : poss R now m a = true) : ∃ lo, x = some lo ∧ lo ≤ a ∧ lo ≤ now ∧ poss R now m lo = true := by
  rcases h with ⟨_, _, h⟩ | ⟨lo, rfl, h1, h2, h3, _⟩
  · rw [h a ha] at hp
    cases hp
  · exact ⟨lo, rfl, h3 a ha hp, h1, h2⟩
theorem IsSpan.hi_ge {R : Ru} {now m a : Nat} {x y : Option Nat} (h : IsSpan R now m x y) (ha : a ≤ now) (hp : poss R now m a = true) (hm : m ≠ R.fin) : ∃ hi, y = some hi ∧ a ≤ hi ∧ hi ≤ now ∧ poss R now m hi = true := by
  rcases h with ⟨_, _, h⟩ | ⟨lo, rfl, h1, h2, h3, h4⟩
  · rw [h a ha] at hp
    cases hp
  · rcases h4 with ⟨e, _⟩ | ⟨_, hi, rfl, k1, k2, k3⟩
    · exact absurd e hm
    · exact ⟨hi, rfl, k3 a ha hp, k1, k2⟩
theorem IsSpan.hi_none {R : Ru} {now m : Nat} {x y : Option Nat} (h : IsSpan R now m x y) (hm : m = R.fin) : y = none := by
  rcases h with ⟨_, e, _⟩ | ⟨lo, rfl, h1, h2, h3, h4⟩
  · exact e
  · rcases h4 with ⟨_, e⟩ | ⟨n, _⟩
    · exact e
    · exact absurd hm n
theorem IsSpan.both {R : Ru} {now m lo hi : Nat} (h : IsSpan R now m (some lo) (some hi)) : lo ≤ now ∧ hi ≤ now ∧ poss R now m lo = true ∧ poss R now m hi = true ∧ lo ≤ hi ∧ m ≠ R.fin := by
  rcases h with ⟨e, _⟩ | ⟨lo', e, h1, h2, h3, h4⟩
  · cases e
  · cases e
    rcases h4 with ⟨_, e⟩ | ⟨n, hi', e, k1, k2, k3⟩
    · cases e
    · cases e
      exact ⟨h1, k1, h2, k2, h3 _ k1 k2, n⟩
def wset (b d : Nat) : Prop := ∃ now m lo hi, 2 * tT b ≤ now ∧ now < 3 * tT b ∧ m < 2 ^ b - 1 ∧ IsSpan (.rgh b) now m (some lo) (some hi) ∧ d = hi - lo
def OffR (b v : Nat) : Prop := (∀ d, wset b d → d ≤ v) ∧ (v = 0 ∨ wset b v)
def lset (b l : Nat) : Prop := ∃ now, 2 * tT b ≤ now ∧ now < 3 * tT b ∧ IsSpan (.rgh b) now (2 ^ b - 1) (some l) none
def ReachR (b v : Nat) : Prop := (∀ l, lset b l → v + 1 ≤ l) ∧ lset b (v + 1)
def IsOff (R : Ru) (v : Nat) : Prop := (R.isRgh = true ∧ OffR R.bits v) ∨ (R.isRgh = false ∧ v = R.step - 1)
def IsReach (R : Ru) (v : Nat) : Prop := (R.isRgh = true ∧ ReachR R.bits v) ∨ (R.isRgh = false ∧ v = (R.ags R.fin - 1) * R.step)
theorem step_pos {R : Ru} (h : R.ok) : 0 < R.step := by
  cases R with
  | cnt b s => exact h.2.2.1
  | shf b s => exact h.2.2.1
  | rgh b => exact Nat.one_pos
theorem dd_lt {s now a k : Nat} (hs : 0 < s) (ha : a ≤ now) (h : k + 1 ≤ dd s now a) : k * s < a := by
  unfold dd at h
  have h1 := Nat.div_mul_le_self now s
  have h2 : now - a < ((now - a) / s + 1) * s := by
    have := Nat.lt_mul_div_succ (now - a) hs
    rw [Nat.mul_comm] at this
    exact this
  have h3 : ((now - a) / s + (k + 1)) * s ≤ now / s * s := Nat.mul_le_mul_right s (by omega)
  rw [Nat.add_mul] at h2 h3
  rw [Nat.add_mul k 1 s] at h3
  omega
theorem dd_eq {s now a c : Nat} (hs : 0 < s) (ha : a ≤ now) (hc : c ≤ now) (h : dd s now a = dd s now c) : c ≤ a + (s - 1) := by
  unfold dd at h
  have m1 := div_mono s (show now - a ≤ now by omega)
  have m2 := div_mono s (show now - c ≤ now by omega)
  have e : (now - a) / s = (now - c) / s := by omega
  have h1 := Nat.div_mul_le_self (now - c) s
  have h2 : now - a < ((now - a) / s + 1) * s := by
    have := Nat.lt_mul_div_succ (now - a) hs
    rw [Nat.mul_comm] at this
    exact this
  rw [e, Nat.add_mul] at h2
  omega
/-- by how much it can be too much -/
theorem off_all {R : Ru} {v now m lo hi : Nat} (hR : R.ok) (hv : IsOff R v) (hm : m ≤ R.most) (h : IsSpan R now m (some lo) (some hi)) : hi ≤ lo + v := by
  obtain ⟨l1, l2, p1, p2, lh, nf⟩ := h.both
  rcases hv with ⟨ir, hv⟩ | ⟨nr, rfl⟩
  · cases R with
    | cnt b s => cases ir
    | shf b s => cases ir
    | rgh b =>
      have b1 : 1 ≤ b := hR.1
      have hm' : m ≤ 2 ^ b - 1 := hm
      have nf' : m ≠ 2 ^ b - 1 := nf
      have lt : ∀ a, poss (.rgh b) now m a = true → a < 2 * tT b := fun a p => by
        by_cases c : a < 2 * tT b
        · exact c
        · rw [poss_rgh, one_far2 b1 (by omega)] at p
          exact absurd (of_decide_eq_true p).symm nf'
      obtain ⟨r1, r2⟩ := rep_in b now
      have tr : ∀ a, a ≤ now → poss (.rgh b) now m a = true → a ≤ rep b now ∧ poss (.rgh b) (rep b now) m a = true := fun a ha p => by
        have := lt a p
        refine ⟨by omega, ?_⟩
        rw [poss_rgh] at p ⊢
        rw [rep_same b now a ha (by omega)]
        exact p
      obtain ⟨x, y, sp⟩ := exists_span (.rgh b) (rep b now) m
      obtain ⟨q1, q2⟩ := tr lo l1 p1
      obtain ⟨q3, q4⟩ := tr hi l2 p2
      obtain ⟨lo', rfl, e1, _⟩ := sp.lo_le q1 q2
      obtain ⟨hi', rfl, e2, _⟩ := sp.hi_ge q3 q4 nf
      have := hv.1 (hi' - lo') ⟨rep b now, m, lo', hi', r1, r2, Nat.lt_of_le_of_ne hm' nf', sp, rfl⟩
      omega
  · have hs := step_pos hR
    have a1 := (poss_stp nr hs hm l1).mp p1
    have a2 := (poss_stp nr hs hm l2).mp p2
    rw [if_neg nf] at a1 a2
    exact dd_eq hs l1 l2 (a1.trans a2.symm)
theorem fin_most (R : Ru) : R.fin ≤ R.most := by
  cases R with
  | cnt b s => exact Nat.le_refl _
  | shf b s => exact Nat.zero_le _
  | rgh b => exact Nat.le_refl _
theorem ags_fin {R : Ru} (hR : R.ok) (nr : R.isRgh = false) : 1 ≤ R.ags R.fin := by
  cases R with
  | cnt b s =>
    have : 2 ^ 1 ≤ 2 ^ b := Nat.pow_le_pow_right (by decide) hR.1
    show 1 ≤ 2 ^ b - 1
    omega
  | shf b s => exact Nat.succ_le_succ (Nat.zero_le b)
  | rgh b => cases nr
/-- within reach no mark is the end -/
theorem reach_all {R : Ru} {v now a : Nat} (hR : R.ok) (hv : IsReach R v) (ha : a ≤ now) (hp : poss R now R.fin a = true) : v < a := by
  rcases hv with ⟨ir, hv⟩ | ⟨nr, rfl⟩
  · cases R with
    | cnt b s => cases ir
    | shf b s => cases ir
    | rgh b =>
      have b1 : 1 ≤ b := hR.1
      obtain ⟨r1, r2⟩ := rep_in b now
      have tp := T_pos b
      obtain ⟨x, y, sp⟩ := exists_span (.rgh b) (rep b now) (2 ^ b - 1)
      have pe : poss (.rgh b) (rep b now) (2 ^ b - 1) (2 * tT b - 1) = true := by
        rw [poss_rgh, one_far2 b1 (Nat.le_refl _), decide_eq_true rfl]
      have yn : y = none := sp.hi_none rfl
      subst yn
      obtain ⟨lo, rfl, e1, e3, _⟩ := sp.lo_le (show 2 * tT b - 1 ≤ rep b now by omega) pe
      have lb := hv.1 lo ⟨rep b now, r1, r2, sp⟩
      by_cases c : a ≤ rep b now
      · have hp' : poss (.rgh b) (rep b now) (2 ^ b - 1) a = true := by
          rw [poss_rgh, rep_same b now a ha c, ← poss_rgh]
          exact hp
        obtain ⟨lo', e, l, _⟩ := sp.lo_le c hp'
        cases e
        omega
      · omega
  · have hs := step_pos hR
    have a1 := (poss_stp nr hs (fin_most R) ha).mp hp
    rw [if_pos rfl] at a1
    have := ags_fin hR nr
    exact dd_lt hs ha (by omega)
/-- the marks of a thing that was just seen -/
def Fresh (R : Ru) (m : Nat) : Prop := if R.isShf = true then R.top ≤ m ∧ m < 2 * R.top else m = 0
/-- a thing that was truly seen may have been seen then -/
theorem poss_true {R : Ru} (hR : R.ok) {m last n : Nat} (h : Fresh R m) : poss R (last + n) (ag R m last n) n = true := by
  cases R with
  | cnt b s =>
    have e : m = 0 := h
    subst e
    rw [poss_cnt]
    refine decide_eq_true ?_
    show ag (.cnt b s) 0 (last + n - n) n = _
    rw [Nat.add_sub_cancel]
  | rgh b =>
    have e : m = 0 := h
    subst e
    rw [poss_rgh]
    refine decide_eq_true ?_
    show ag (.rgh b) 0 (last + n - n) n = _
    rw [Nat.add_sub_cancel]
  | shf b s =>
    obtain ⟨h1, h2⟩ : 2 ^ b ≤ m ∧ m < 2 * 2 ^ b := h
    have hs : 0 < s := hR.2.2.1
    have e1 : one (.shf b s) (last + n) n = 2 ^ b / 2 ^ ((last + n) / s - last / s) := by
      show ag (.shf b s) (2 ^ b) (last + n - n) n = _
      rw [Nat.add_sub_cancel]
      exact ag_shf b s _ last hs n
    rw [ag_shf b s m last hs n]
    generalize (last + n) / s - last / s = d at e1
    have pd := Nat.two_pow_pos d
    unfold poss
    rw [e1]
    by_cases hd : d ≤ b
    · have p := Nat.two_pow_pos (b - d)
      have es : 2 ^ b = 2 ^ (b - d) * 2 ^ d := by rw [← Nat.pow_add]; congr 1; omega
      rw [two_div hd, decide_eq_true p]
      have q1 : 2 ^ (b - d) ≤ m / 2 ^ d := (Nat.le_div_iff_mul_le pd).mpr (by rw [← es]; exact h1)
      have q2 : m / 2 ^ d < 2 * 2 ^ (b - d) := (Nat.div_lt_iff_lt_mul pd).mpr (by rw [Nat.mul_assoc, ← es]; exact h2)
      rw [decide_eq_true q1, decide_eq_true q2]
      rfl
    · have z : m / 2 ^ d = 0 := by
        refine Nat.div_eq_of_lt (Nat.lt_of_lt_of_le h2 ?_)
        rw [Nat.mul_comm, ← Nat.pow_succ]
        exact Nat.pow_le_pow_right (by decide) (by omega)
      rw [two_div0 (by omega), z]
      rfl
theorem fresh_most {R : Ru} {m : Nat} (h : Fresh R m) : m ≤ R.most := by
  cases R with
  | cnt b s =>
    have e : m = 0 := h
    rw [e]; exact Nat.zero_le _
  | rgh b =>
    have e : m = 0 := h
    rw [e]; exact Nat.zero_le _
  | shf b s =>
    obtain ⟨h1, h2⟩ : 2 ^ b ≤ m ∧ m < 2 * 2 ^ b := h
    show m ≤ 2 ^ (b + 1) - 1
    rw [Nat.pow_succ]
    omega
end LS
namespace LS
/-- a round that is tried throughout -/
def Ru.arnd : Ru → Nat
  | .cnt b s => s * (1 + (2 ^ b - 1))
  | .shf b s => s * (1 + (b + 1))
  | .rgh _ => 64
theorem ag_fin (R : Ru) (t : Nat) : ∀ n, ag R R.fin t n = R.fin
  | 0 => rfl
  | n + 1 => by
    show tick R (ag R R.fin t n) (t + n + 1) = R.fin
    rw [ag_fin R t n]
    cases R with
    | cnt b s =>
      show (if _ then min (2 ^ b - 1 + 1) (2 ^ b - 1) else 2 ^ b - 1) = 2 ^ b - 1
      split
      · exact Nat.min_eq_right (Nat.le_succ _)
      · rfl
    | shf b s =>
      show (if _ then 0 / 2 else 0) = 0
      split <;> rfl
    | rgh b => exact if_neg fun h => h.1 rfl
theorem fin_le {R : Ru} {t n n' : Nat} (h : ag R R.top t n = R.fin) (l : n ≤ n') : ag R R.top t n' = R.fin := by
  obtain ⟨k, rfl⟩ : ∃ k, n' = n + k := ⟨n' - n, by omega⟩
  rw [ag_add, h, ag_fin]
theorem one_at {R : Ru} {h b : Nat} (l : b ≤ h) : one R h (h - b) = ag R R.top b (h - b) := by
  show ag R R.top (h - (h - b)) (h - b) = _
  rw [show h - (h - b) = b by omega]
theorem poss_exact {R : Ru} {now m a : Nat} (e : one R now a = m) (h : m ≠ R.fin) : poss R now m a = true := by
  cases R with
  | cnt b s => rw [poss_cnt, decide_eq_true e]
  | rgh b => rw [poss_rgh, decide_eq_true e]
  | shf b s =>
    have h' : m ≠ 0 := h
    unfold poss
    rw [e, decide_eq_true (show 0 < m by omega), decide_eq_true (Nat.le_refl m), decide_eq_true (show m < 2 * m by omega)]
    rfl
theorem poss_fin {R : Ru} {now a : Nat} (e : one R now a = R.fin) : poss R now R.fin a = true := by
  cases R with
  | cnt b s => rw [poss_cnt, decide_eq_true e]
  | rgh b => rw [poss_rgh, decide_eq_true e]
  | shf b s =>
    unfold poss
    rw [e]
    rfl
/-- two begins of one mark -/
theorem begins_off {R : Ru} {v h m b1 b2 : Nat} (hR : R.ok) (hv : IsOff R v) (l1 : b1 ≤ h) (l2 : b2 ≤ h) (e1 : ag R R.top b1 (h - b1) = m) (e2 : ag R R.top b2 (h - b2) = m) (nf : m ≠ R.fin) : b2 ≤ b1 + v := by
  have p1 := poss_exact ((one_at l1).trans e1) nf
  have p2 := poss_exact ((one_at l2).trans e2) nf
  obtain ⟨x, y, sp⟩ := exists_span R h m
  obtain ⟨lo, rfl, e3, _⟩ := sp.lo_le (show h - b2 ≤ h by omega) p2
  obtain ⟨hi, rfl, e4, _⟩ := sp.hi_ge (show h - b1 ≤ h by omega) p1 nf
  have mm : m ≤ R.most := by rw [← e1]; exact ag_le R _ _ (top_le R) _
  have := off_all hR hv mm sp
  omega
theorem begins_reach {R : Ru} {u b n : Nat} (hR : R.ok) (hu : IsReach R u) (e : ag R R.top b n = R.fin) : u + 1 ≤ n := by
  have o : one R (b + n) n = R.fin := by
    show ag R R.top (b + n - n) n = _
    rw [Nat.add_sub_cancel]
    exact e
  exact reach_all hR hu (Nat.le_add_left n b) (poss_fin o)
theorem arnd_step {R : Ru} (hR : R.ok) (nr : R.isRgh = false) : ∃ k, R.arnd = R.step * k ∧ 2 ≤ k := by
  cases R with
  | cnt b s =>
    have : 2 ^ 1 ≤ 2 ^ b := Nat.pow_le_pow_right (by decide) hR.1
    exact ⟨1 + (2 ^ b - 1), rfl, by omega⟩
  | shf b s => exact ⟨1 + (b + 1), rfl, by omega⟩
  | rgh b => cases nr
theorem arnd_le {R : Ru} (hR : R.ok) : 1 ≤ R.arnd ∧ R.arnd ≤ 1280 := by
  cases R with
  | cnt b s =>
    obtain ⟨h1, h2, h3, h4⟩ : 1 ≤ b ∧ b ≤ 6 ∧ 1 ≤ s ∧ s ≤ 20 := hR
    have : 2 ^ b ≤ 2 ^ 6 := Nat.pow_le_pow_right (by decide) h2
    exact ⟨Nat.mul_le_mul h3 (show 1 ≤ 1 + (2 ^ b - 1) by omega), Nat.mul_le_mul h4 (show 1 + (2 ^ b - 1) ≤ 64 by omega)⟩
  | shf b s =>
    obtain ⟨h1, h2, h3, h4⟩ : 1 ≤ b ∧ b ≤ 10 ∧ 1 ≤ s ∧ s ≤ 20 := hR
    exact ⟨Nat.mul_le_mul h3 (show 1 ≤ 1 + (b + 1) by omega), Nat.mul_le_mul h4 (show 1 + (b + 1) ≤ 64 by omega)⟩
  | rgh b => exact ⟨(by decide : 1 ≤ 64), (by decide : 64 ≤ 1280)⟩
/-- by how often it was aged: count and shift -/
theorem ag_dd0 {R : Ru} (hR : R.ok) (nr : R.isRgh = false) {t n : Nat} (h : (t + n) / R.step - t / R.step = 0) : ag R R.top t n = R.top ∧ R.top ≠ R.fin := by
  have hs := step_pos hR
  cases R with
  | cnt b s =>
    have h' : (t + n) / s - t / s = 0 := h
    refine ⟨?_, ?_⟩
    · show ag (.cnt b s) 0 t n = 0
      rw [ag_cnt b s 0 t hs (Nat.zero_le _) n, h']
      omega
    · show 0 ≠ 2 ^ b - 1
      have : 2 ^ 1 ≤ 2 ^ b := Nat.pow_le_pow_right (by decide) hR.1
      omega
  | shf b s =>
    have h' : (t + n) / s - t / s = 0 := h
    refine ⟨?_, ?_⟩
    · show ag (.shf b s) (2 ^ b) t n = 2 ^ b
      rw [ag_shf b s _ t hs n, h', Nat.pow_zero, Nat.div_one]
    · show 2 ^ b ≠ 0
      have := Nat.two_pow_pos b
      omega
  | rgh b => cases nr
theorem ag_ddk {R : Ru} (hR : R.ok) (nr : R.isRgh = false) {t n : Nat} (h : (t + n) / R.step - t / R.step = R.ags R.fin) : ag R R.top t n = R.fin := by
  have hs := step_pos hR
  cases R with
  | cnt b s =>
    have h' : (t + n) / s - t / s = 2 ^ b - 1 := h
    show ag (.cnt b s) 0 t n = 2 ^ b - 1
    rw [ag_cnt b s 0 t hs (Nat.zero_le _) n, h']
    omega
  | shf b s =>
    have h' : (t + n) / s - t / s = b + 1 := h
    show ag (.shf b s) (2 ^ b) t n = 0
    rw [ag_shf b s _ t hs n, h']
    exact two_div0 (Nat.lt_succ_self b)
  | rgh b => cases nr
/-- the widest is met -/
theorem off_met {R : Ru} {v : Nat} (hR : R.ok) (hv : IsOff R v) : ∃ h m b1 b2, 4 * R.arnd ≤ h ∧ h < 5 * R.arnd ∧ b1 ≤ h ∧ b2 ≤ h ∧ ag R R.top b1 (h - b1) = m ∧ ag R R.top b2 (h - b2) = m ∧ m ≠ R.fin ∧ v ≤ b2 - b1 := by
  rcases hv with ⟨ir, hv⟩ | ⟨nr, rfl⟩
  · cases R with
    | cnt b s => cases ir
    | shf b s => cases ir
    | rgh b =>
      obtain ⟨b1, b3⟩ : 1 ≤ b ∧ b ≤ 3 := hR
      have p2 : 2 ^ 1 ≤ 2 ^ b := Nat.pow_le_pow_right (by decide) b1
      have tl := T_le b3
      have tp := T_pos b
      rcases hv.2 with rfl | ⟨now, m, lo, hi, n1, n2, hm, sp, rfl⟩
      · refine ⟨256, 0, 256, 256, Nat.le_refl _, (by decide : 256 < 320), Nat.le_refl _, Nat.le_refl _, rfl, rfl, ?_, Nat.zero_le _⟩
        show 0 ≠ 2 ^ b - 1
        omega
      · have n1' : 2 * tT b ≤ now := n1
        have n2' : now < 3 * tT b := n2
        have hm' : m < 2 ^ b - 1 := hm
        obtain ⟨c1, c2, c3, c4, c5, c6⟩ := sp.both
        have td : 64 % tT b = 0 := by
          have hb : b = 1 ∨ b = 2 ∨ b = 3 := by omega
          rcases hb with rfl | rfl | rfl <;> decide
        have hb0 : b = 1 ∨ b = 2 ∨ b = 3 := by omega
        have hr : rep b (256 + now % tT b) = now := by
          have hmod : (256 + now % tT b) % tT b = now % tT b := by
            rcases hb0 with rfl | rfl | rfl
            · show (256 + now % 1) % 1 = now % 1; omega
            · show (256 + now % 4) % 4 = now % 4; omega
            · show (256 + now % 64) % 64 = now % 64; omega
          unfold rep
          rw [hmod]
          have e := Nat.div_add_mod now (tT b)
          have q : now / tT b = 2 := by
            refine Nat.div_eq_of_lt_le n1' ?_
            exact n2'
          rw [q, Nat.mul_comm] at e
          exact e
        have ml := Nat.mod_lt now tp
        have tr : ∀ a, a ≤ now → poss (.rgh b) now m a = true → a ≤ 256 + now % tT b ∧ ag (.rgh b) 0 (256 + now % tT b - a) a = m := fun a ha p => by
          rw [poss_rgh] at p
          have p' := of_decide_eq_true p
          have al : a < 2 * tT b := by
            by_cases c : a < 2 * tT b
            · exact c
            · rw [one_far2 b1 (by omega)] at p'
              exact absurd p'.symm (Nat.ne_of_lt hm')
          have hle : a ≤ 256 + now % tT b := by omega
          have s := rep_same b (256 + now % tT b) a hle (by rw [hr]; exact ha)
          rw [hr] at s
          exact ⟨hle, s.symm.trans p'⟩
        obtain ⟨q1, q2⟩ := tr lo c1 c3
        obtain ⟨q3, q4⟩ := tr hi c2 c4
        refine ⟨256 + now % tT b, m, 256 + now % tT b - hi, 256 + now % tT b - lo, Nat.le_add_right _ _, ?_, Nat.sub_le _ _, Nat.sub_le _ _, ?_, ?_, Nat.ne_of_lt hm', ?_⟩
        · show 256 + now % tT b < 320
          omega
        · show ag (.rgh b) 0 (256 + now % tT b - hi) (256 + now % tT b - (256 + now % tT b - hi)) = m
          rw [show 256 + now % tT b - (256 + now % tT b - hi) = hi by omega]
          exact q4
        · show ag (.rgh b) 0 (256 + now % tT b - lo) (256 + now % tT b - (256 + now % tT b - lo)) = m
          rw [show 256 + now % tT b - (256 + now % tT b - lo) = lo by omega]
          exact q2
        · omega
  · obtain ⟨k, ek, k2⟩ := arnd_step hR nr
    have hs := step_pos hR
    have sk : R.step * 2 ≤ R.step * k := Nat.mul_le_mul_left _ k2
    have z : ∀ n, n < R.step → (4 * R.arnd + n) / R.step - 4 * R.arnd / R.step = 0 := fun n hn => by
      have e : 4 * R.arnd = R.step * (4 * k) := by rw [ek, Nat.mul_left_comm]
      rw [e, Nat.mul_add_div hs, Nat.div_eq_of_lt hn, Nat.mul_div_cancel_left _ hs]
      omega
    obtain ⟨a1, a2⟩ := ag_dd0 hR nr (z (R.step - 1) (by omega))
    refine ⟨4 * R.arnd + (R.step - 1), R.top, 4 * R.arnd, 4 * R.arnd + (R.step - 1), by omega, by omega, by omega, by omega, ?_, ?_, a2, by omega⟩
    · rw [Nat.add_sub_cancel_left]
      exact a1
    · rw [Nat.sub_self]
      rfl
/-- the soonest end is met -/
theorem reach_met {R : Ru} {u : Nat} (hR : R.ok) (hu : IsReach R u) : ∃ b, b < 6 * R.arnd ∧ ag R R.top b (u + 1) = R.fin := by
  rcases hu with ⟨ir, hu⟩ | ⟨nr, rfl⟩
  · cases R with
    | cnt b s => cases ir
    | shf b s => cases ir
    | rgh b =>
      obtain ⟨b1, b3⟩ : 1 ≤ b ∧ b ≤ 3 := hR
      have tl := T_le b3
      obtain ⟨now, n1, n2, sp⟩ := hu.2
      have n2' : now < 3 * tT b := n2
      rcases sp with ⟨e, _⟩ | ⟨lo, e, h1, h2, _⟩
      · cases e
      · cases e
        rw [poss_rgh] at h2
        exact ⟨now - (u + 1), by show now - (u + 1) < 384; omega, of_decide_eq_true h2⟩
  · obtain ⟨k, ek, k2⟩ := arnd_step hR nr
    have hs := step_pos hR
    have sk : R.step * 2 ≤ R.step * k := Nat.mul_le_mul_left _ k2
    have a1 := ags_fin hR nr
    refine ⟨R.step - 1, by omega, ag_ddk hR nr ?_⟩
    have e : R.step - 1 + ((R.ags R.fin - 1) * R.step + 1) = R.step * R.ags R.fin := by
      obtain ⟨j, hj⟩ : ∃ j, R.ags R.fin = j + 1 := ⟨R.ags R.fin - 1, by omega⟩
      rw [hj, Nat.add_sub_cancel, Nat.mul_add, Nat.mul_one, Nat.mul_comm j]
      omega
    rw [e, Nat.mul_div_cancel_left _ hs, Nat.div_eq_of_lt (show R.step - 1 < R.step by omega), Nat.sub_zero]
end LS
namespace LS
open PySem PySem.Spec PyProof.Rows L2 RZ
/-! ### calls by a promise alone -/
def Cl (P : Program) (w : World) (K : PySem.W.Frag) (mg : Str → Option Value) (base : Heap) (k : Nat) (x : Str) (ps : List Str) (sp : Sp) : Prop :=
  ∃ (f : Addr) (fd : FuncData), FnOk P w K mg base CX0 k f fd ps sp ∧ mg x = some (.ref f) ∧ PySem.W.keepIn K (.ref f) = true ∧ Binds K fd ps []
theorem pe_cl {X : Cx} {j k : Nat} {x : Str} {ps : List Str} {sp : Sp} {e : Expr} {es : List Expr} {t : TA} {p pos : Pos} (D : Cl X.prog X.w X.K X.mg X.base k x ps sp) (hr : Room j X.A) (ha : PA X (e :: es) t) (hk : k ≤ j := by decide) (hg : Gl X x := by rfl)
    (hdb : (x == ("__debug__" : Str)) = false := by decide) (he : starEach (e :: es) X.env = (false, eval e X.env) :: starEach es X.env := by rfl) (hpl : (backTo pos (starEach es X.env)).any (·.1) = false := by rfl) :
    PE X (.Call (.Name x p) (e :: es) [] pos) (tCall sp [] E0 t) := by
  obtain ⟨f, fd, G, g, kp, b⟩ := D
  exact pe_call G (hr.mono hk) hg g kp b .nil pass0 ha hdb he hpl
/-- a def as the top has left it -/
def DefAt (K : PySem.W.Frag) (mg : Str → Option Value) (x : Str) (st : Stmt) (ps : List Str) : Prop :=
  ∃ (f : Addr) (fd : FuncData), Fun K x x st f fd ∧ mg x = some (.ref f) ∧ Binds K fd ps []
theorem DefAt.cl {P : Program} {w : World} {K : PySem.W.Frag} {mg : Str → Option Value} {base : Heap} {k : Nat} {x : Str} {st : Stmt} {ps : List Str} {sp : Sp} (D : DefAt K mg x st ps)
    (h : ∀ f fd, Fun K x x st f fd → FnOk P w K mg base CX0 k f fd ps sp) : Cl P w K mg base k x ps sp := by
  obtain ⟨f, fd, F, g, b⟩ := D
  exact ⟨f, fd, h f fd F, g, F.kp, b⟩
theorem defAt_mk {K : PySem.W.Frag} {h : Heap} {mg : Str → Option Value} {x : Str} {st : Stmt} {ps : List Str} {f : Addr} {od an : Option Addr} {sl : Array (Option Value)} {oc kV dc pm cd ct : Value} (X : K.In h) (G : h.Ns mainGlobals mg)
    (a : PySem.W.nsIn K mainGlobals x = some (some (.ref f))) (l : K.lookup f = some ⟨oc, od, .func (PySem.W.fnOf x x (defArgs st) (defBody st) (defScope st) .none kV dc pm an cd ct), sl⟩) (c : PySem.W.codeIn K cd x = true) (k : PySem.W.keepIn K (.ref f) = true)
    (hb : ∀ (kV doc pm : Value) (an : Option Addr) (cdv ct : Value) (us : List Value), us.length = ps.length → bindArgs (PySem.W.fnOf x x (defArgs st) (defBody st) (defScope st) .none kV doc pm an cdv ct) ⟨us, []⟩ = pure (ps.zip us)) : DefAt K mg x st ps := by
  have F := fun_mk (st := st) l c k
  exact ⟨f, _, F, PySem.W.mg_of X G a, F.binds hb⟩
/-! ### heaps -/
theorem same_upd {H : Hp} {p : Addr} {o : HO} (h : H p = none) : Same H (upd H p o) := fun b x e => by
  rw [upd_ne (ne_of_none e h)]
  exact e
/-- all but two objects stands as it was -/
def Kp2 (h c : Addr) (H H' : Hp) : Prop := ∀ b o, H b = some o → b ≠ h → b ≠ c → H' b = some o
theorem Kp2.refl (h c : Addr) (H : Hp) : Kp2 h c H H := fun _ _ e _ _ => e
theorem Kp2.trans {h c : Addr} {H H1 H2 : Hp} (a : Kp2 h c H H1) (b : Kp2 h c H1 H2) : Kp2 h c H H2 := fun x o e n1 n2 => b x o (a x o e n1 n2) n1 n2
theorem Same.kp2 {h c : Addr} {H H1 : Hp} (a : Same H H1) : Kp2 h c H H1 := fun b o e _ _ => a b o e
/-- the list that is drawn from stands at h, its cells at c -/
structure HAt (H : Hp) (h c : Addr) : Prop where
  ex : ∃ (mx pl : Int) (ns : List Int), H h = some (.lst [.int mx, .ref c, .int pl]) ∧ H c = some (.lst (ns.map V.int)) ∧ 0 ≤ mx ∧ mx < 2147483647 ∧ 0 ≤ pl ∧ ns.length ≤ 63
  ne : h ≠ c
theorem HAt.same {H H' : Hp} {h c : Addr} (a : HAt H h c) (s : Same H H') : HAt H' h c := by
  obtain ⟨⟨mx, pl, ns, e1, e2, e3⟩, n⟩ := a
  exact ⟨⟨mx, pl, ns, s _ _ e1, s _ _ e2, e3⟩, n⟩
theorem HAt.neT {H : Hp} {h c p : Addr} {xs : List V} (a : HAt H h c) (e : H p = some (.tup xs)) : p ≠ h ∧ p ≠ c := by
  obtain ⟨⟨mx, pl, ns, e1, e2, e3⟩, n⟩ := a
  exact ⟨ne_of e e1 (by intro q; cases q), ne_of e e2 (by intro q; cases q)⟩
/-- a tuple stands behind a draw -/
theorem Kp2.tup {H H' : Hp} {h c p : Addr} {xs : List V} (k : Kp2 h c H H') (a : HAt H h c) (e : H p = some (.tup xs)) : H' p = some (.tup xs) := k p _ e (a.neT e).1 (a.neT e).2
/-! ### rules as tuples -/
def Ru.kind : Ru → Str
  | .cnt _ _ => "count"
  | .shf _ _ => "shift"
  | .rgh _ => "rough"
def Ru.nums : Ru → List Int
  | .cnt b s => [(b : Int), (s : Int)]
  | .shf b s => [(b : Int), (s : Int)]
  | .rgh b => [(b : Int)]
def Ru.tup (R : Ru) : List V := .str R.kind :: R.nums.map V.int
def Ru.lim : Ru → List Int
  | .cnt _ _ => [6, 20]
  | .shf _ _ => [10, 20]
  | .rgh _ => [3]
abbrev RuAt (H : Hp) (p : Addr) (R : Ru) : Prop := H p = some (.tup R.tup)
theorem Ru.at0 (R : Ru) : atI R.tup 0 = some (.str R.kind) := atI_nat (j := 0) rfl
theorem Ru.at1 (R : Ru) : atI R.tup 1 = some (.int (R.bits : Int)) := by
  cases R <;> exact atI_nat (j := 1) rfl
theorem Ru.bits_pos {R : Ru} (h : R.ok) : 1 ≤ R.bits ∧ R.bits ≤ 10 := by
  cases R with
  | cnt b s => obtain ⟨h1, h2, h3, h4⟩ : 1 ≤ b ∧ b ≤ 6 ∧ 1 ≤ s ∧ s ≤ 20 := h; exact ⟨h1, by show b ≤ 10; omega⟩
  | shf b s => obtain ⟨h1, h2, h3, h4⟩ : 1 ≤ b ∧ b ≤ 10 ∧ 1 ≤ s ∧ s ≤ 20 := h; exact ⟨h1, h2⟩
  | rgh b => obtain ⟨h1, h2⟩ : 1 ≤ b ∧ b ≤ 3 := h; exact ⟨h1, by show b ≤ 10; omega⟩
theorem cut1 (xs : List V) : cutV xs (some 1) none = xs.drop 1 := by
  unfold cutV
  rw [show HT.sIx xs.length 0 (some 1) = min 1 xs.length from HT.sIx_nat xs.length 0 1, HT.sIx_none]
  cases xs with
  | nil => rfl
  | cons x r =>
    rw [show min 1 (x :: r).length = 1 by
      rw [List.length_cons]
      omega]
    show (List.take ((x :: r).length - 1) r) = r
    rw [List.length_cons, Nat.add_sub_cancel]
    exact List.take_length
/-! ### whether texts are alike -/
theorem dec_str {a b : Str} : decide (V.str a = V.str b) = decide (a = b) := by
  by_cases h : a = b
  · subst h; rw [decide_eq_true rfl, decide_eq_true rfl]
  · rw [decide_eq_false h, decide_eq_false (fun q => h (V.str.inj q))]
theorem dec_int {a b : Int} : decide (V.int a = V.int b) = decide (a = b) := by
  by_cases h : a = b
  · subst h; rw [decide_eq_true rfl, decide_eq_true rfl]
  · rw [decide_eq_false h, decide_eq_false (fun q => h (V.int.inj q))]
/-! ### a comprehension over zip of two tuples -/
theorem lc_zipT {K : PySem.W.Frag} {a b : Addr} {xs ys : List V} {g : TG} {tt : TT} {te : TE} {vs : List Nat} {σ : L2.St} {H1 : Hp} {D : Addr} {Qd : Hp → Prop} (hl : xs.length = ys.length) (Pv : Nat → Hp → Prop) (h0 : Pv 0 (upd H1 D (.lst []))) (hq : ∀ i H, Pv i H → SqT K H a xs ∧ SqT K H b ys)
    (hs : ∀ i x y T H, xs[i]? = some x → ys[i]? = some y → Pv i H → H T = none → g (.ref T) (wipe σ vs) (upd H T (.tup [x, y])) fun σ2 H2 => wipe σ2 vs = wipe σ vs ∧ tt σ2 H2 fun b H3 =>
      if b = true then te σ2 H3 fun y H4 => ∃ acc, H4 D = some (.lst acc) ∧ acc.length < sizeLine ∧ Pv (i + 1) (upd H4 D (.lst (acc ++ [y]))) else Pv (i + 1) H3) (hd : ∀ H, Pv xs.length H → Qd H) :
    ∃ W : Nat → Nat → Hp → Prop, (∃ m, W 0 m (upd H1 D (.lst []))) ∧ ∀ i m H, W i m H →
      ((ItzT K a b).stop i H ∧ Qd H) ∨ ((ItzT K a b).go i H ∧ ∃ Nx : Hp → Prop, (∀ H', Nx H' → ∃ m', m' < m ∧ W (i + 1) m' H') ∧ ∀ x H', (ItzT K a b).yld i H x H' → g x (wipe σ vs) H' fun σ2 H2 => wipe σ2 vs = wipe σ vs ∧ tt σ2 H2 fun b H3 =>
        if b = true then te σ2 H3 fun y H4 => ∃ acc, H4 D = some (.lst acc) ∧ acc.length < sizeLine ∧ Nx (upd H4 D (.lst (acc ++ [y]))) else Nx H3) := by
  refine ⟨fun i m H => m = xs.length - i ∧ i ≤ xs.length ∧ Pv i H, ⟨xs.length, by simp, Nat.zero_le _, h0⟩, ?_⟩
  rintro i m H ⟨rfl, hi, p⟩
  obtain ⟨qx, qy⟩ := hq i H p
  by_cases hlt : i < xs.length
  · have hx : xs[i]? = some xs[i] := List.getElem?_eq_getElem hlt
    have hlt2 : i < ys.length := by omega
    have hy : ys[i]? = some ys[i] := List.getElem?_eq_getElem hlt2
    refine .inr ⟨⟨xs, ys, _, _, qx, qy, hx, hy⟩, Pv (i + 1), fun H' p' => ⟨xs.length - (i + 1), by omega, rfl, hlt, p'⟩, fun x H' y => ?_⟩
    obtain ⟨T, x', y', rfl, hT, rfl, f1, f2⟩ := y
    exact hs i x' y' T H (f1 xs qx) (f2 ys qy) p hT
  · have e : i = xs.length := by omega
    subst e
    exact .inl ⟨⟨xs, ys, qx, qy, Or.inl (Nat.le_refl _)⟩, hd H p⟩
/-! ### lists of ints against the empty list -/
theorem dpAll_ints {K : PySem.W.Frag} {H : Hp} : ∀ ns : List Int, DpAll K H (ns.map V.int) (ns.map PyData.int)
  | [] => .nil
  | n :: r => .cons (.int n) (dpAll_ints r)
theorem eqv_nil (ns : List Int) : PyData.eqv (.list (ns.map PyData.int)) (.list []) = ns.isEmpty := by
  cases ns with
  | nil => simp [PyData.eqv, PyData.eqvAll]
  | cons n r => simp [PyData.eqv, PyData.eqvAll]
theorem ixN_nn {n : Nat} {i : Int} (h0 : 0 ≤ i) (h1 : i < n) : ixN n i = some i.toNat := by
  unfold ixN
  rw [if_pos h0, if_pos h1]
/-- two ways to one value -/
theorem join_if {te1 te2 : TE} {σ : L2.St} {H1 : Hp} {Q' : VK} {c : Bool} (G : V → Hp → Prop) (hG : ∀ v H', G v H' → Q' v H') (h1 : c = true → ∃ v H', (∀ Q : VK, Q v H' → te1 σ H1 Q) ∧ G v H')
    (h2 : c = false → ∃ v H', (∀ Q : VK, Q v H' → te2 σ H1 Q) ∧ G v H') : if c = true then te1 σ H1 Q' else te2 σ H1 Q' := by
  cases c with
  | true =>
    obtain ⟨v, H', e, g⟩ := h1 rfl
    rw [if_pos rfl]
    exact e _ (hG _ _ g)
  | false =>
    obtain ⟨v, H', e, g⟩ := h2 rfl
    rw [if_neg Bool.false_ne_true]
    exact e _ (hG _ _ g)
/-- over a range, with a break -/
theorem for_rangeB {lo : Int} {n : Nat} {g : TG} {tb : TS} {D : Ends} {σ : L2.St} {H : Hp} (Pv : Nat → L2.St → Hp → Prop) (Post : L2.St → Hp → Prop) (h0 : Pv 0 σ H)
    (hs : ∀ (bk : L2.St → Hp → Prop), (∀ σ H, Post σ H → bk σ H) → ∀ i σ H, i < n → Pv i σ H → g (.int (lo + i)) σ H fun σ2 H2 => tb { D with nx := Pv (i + 1), ct := Pv (i + 1), bk := bk } σ2 H2) (hd : ∀ σ H, Pv n σ H → Post σ H) (hp : ∀ σ H, Post σ H → D.nx σ H) :
    ∃ W : Nat → Nat → L2.St → Hp → Prop, (∃ m, W 0 m σ H) ∧ ∀ i m σ H, W i m σ H →
      ((Itr lo n).stop i H ∧ D.nx σ H) ∨ ((Itr lo n).go i H ∧ ∃ N : L2.St → Hp → Prop, (∀ σ' H', N σ' H' → ∃ m', m' < m ∧ W (i + 1) m' σ' H') ∧ ∀ x H', (Itr lo n).yld i H x H' → g x σ H' fun σ2 H2 => tb { D with nx := N, ct := N, bk := D.nx } σ2 H2) :=
  for_range Pv h0 (hs D.nx hp) fun σ H h => hp σ H (hd σ H h)
/-- two ways to values of one kind -/
theorem join_ifA {te1 te2 : TE} {σ : L2.St} {H1 : Hp} {Q' : VK} {c : Bool} (G : V → Hp → Prop) (hG : ∀ v H', G v H' → Q' v H') (h1 : c = true → ∀ Q : VK, (∀ v H', G v H' → Q v H') → te1 σ H1 Q)
    (h2 : c = false → ∀ Q : VK, (∀ v H', G v H' → Q v H') → te2 σ H1 Q) : if c = true then te1 σ H1 Q' else te2 σ H1 Q' := by
  cases c with
  | true =>
    rw [if_pos rfl]
    exact h1 rfl Q' hG
  | false =>
    rw [if_neg Bool.false_ne_true]
    exact h2 rfl Q' hG
/-- a statement by what holds behind it -/
theorem abs_nx {t : TS} {D : Ends} {σ : L2.St} {H : Hp} (G : L2.St → Hp → Prop) (h : ∀ nx' : L2.St → Hp → Prop, (∀ σ' H', G σ' H' → nx' σ' H') → t { D with nx := nx' } σ H) (hG : ∀ σ' H', G σ' H' → D.nx σ' H') : t D σ H := h D.nx hG
theorem le64 {i : Int} (h0 : 0 ≤ i) (h : i < 18446744073709551616) : -(2 ^ 64) < i ∧ i < 2 ^ 64 := by
  constructor <;> omega
end LS
namespace LS
open PySem PySem.Spec PyProof.Rows L2 RZ
def top (i : Nat) : Stmt := PySem.Challenge.pw_lastseen_k06_whole_the_fewest_bits.main.body.getD i (.Pass ⟨0, 0, 0, 0⟩)
abbrev m_BadText_init : Stmt := inClass (top 9) 0
abbrev s_is_rule : Stmt := top 12
abbrev s_check_rule : Stmt := top 13
abbrev s_top_mark : Stmt := top 14
abbrev s_end_mark : Stmt := top 15
abbrev s_seen : Stmt := top 16
abbrev s_aged_on : Stmt := top 17
abbrev s_aged_roughly : Stmt := top 18
abbrev s_off : Stmt := top 20
abbrev s_reach : Stmt := top 21
abbrev s_agings : Stmt := top 22
abbrev s_rough_span : Stmt := top 23
abbrev s_rough_moments : Stmt := top 24
abbrev s_rough_width : Stmt := top 25
abbrev s_fewest : Stmt := top 30
abbrev s_rule_for : Stmt := top 31
abbrev s_papers : Stmt := top 32
abbrev s_ended_too_soon : Stmt := top 33
abbrev s_alike : Stmt := top 34
abbrev s_L_mix : Stmt := top 36
abbrev s_L_next : Stmt := top 37
abbrev s_L_alike : Stmt := top 38
abbrev s_L_end : Stmt := top 39
abbrev s_L_kind : Stmt := top 40
abbrev s_L_reach : Stmt := top 41
abbrev s_L_mark : Stmt := top 42
abbrev s_L_are_papers : Stmt := top 43
abbrev s_law : Stmt := top 44
/-! ### the program: rules -/
theorem k_cs : ¬ (("count" : Str) = "shift") := by decide +kernel
theorem k_cr : ¬ (("count" : Str) = "rough") := by decide +kernel
theorem k_sc : ¬ (("shift" : Str) = "count") := by decide +kernel
theorem k_sr : ¬ (("shift" : Str) = "rough") := by decide +kernel
theorem k_rc : ¬ (("rough" : Str) = "count") := by decide +kernel
theorem k_rs : ¬ (("rough" : Str) = "shift") := by decide +kernel

/-- what the top has written of the limits, at d -/
def WrT (K : PySem.W.Frag) (a : Addr) (xs : List V) : Prop := ∃ (o : Obj) (its : Array Value) (n : Nat), K.lookup a = some o ∧ o.cls = .type "tuple" ∧ o.data = .seq its n ∧ its.size ≤ sizeLine ∧ Vals xs its.toList
structure Lims (K : PySem.W.Frag) (w : World) (mg : Str → Option Value) : Prop where
  ex : ∃ (d : Addr) (es : Array DictEntry) (n : Nat), mg "LIMITS" = some (.ref d) ∧ KDict K w d es n ∧ ∀ R : Ru, ∃ t, PySem.W.nsIn K d R.kind = some (some (.ref t)) ∧ WrT K t (R.lim.map V.int)
theorem nums_ok {R : Ru} (h : R.ok) {i : Nat} {x y : V} (hx : (R.nums.map V.int)[i]? = some x) (hy : (R.lim.map V.int)[i]? = some y) : ∃ n m : Int, x = .int n ∧ y = .int m ∧ 1 ≤ n ∧ n ≤ m := by
  cases R with
  | cnt b s =>
    obtain ⟨h1, h2, h3, h4⟩ : 1 ≤ b ∧ b ≤ 6 ∧ 1 ≤ s ∧ s ≤ 20 := h
    match i, hx, hy with
    | 0, hx, hy => exact ⟨b, 6, (Option.some.inj hx).symm, (Option.some.inj hy).symm, by omega, by omega⟩
    | 1, hx, hy => exact ⟨s, 20, (Option.some.inj hx).symm, (Option.some.inj hy).symm, by omega, by omega⟩
    | i + 2, hx, hy => simp [Ru.nums] at hx
  | shf b s =>
    obtain ⟨h1, h2, h3, h4⟩ : 1 ≤ b ∧ b ≤ 10 ∧ 1 ≤ s ∧ s ≤ 20 := h
    match i, hx, hy with
    | 0, hx, hy => exact ⟨b, 10, (Option.some.inj hx).symm, (Option.some.inj hy).symm, by omega, by omega⟩
    | 1, hx, hy => exact ⟨s, 20, (Option.some.inj hx).symm, (Option.some.inj hy).symm, by omega, by omega⟩
    | i + 2, hx, hy => simp [Ru.nums] at hx
  | rgh b =>
    obtain ⟨h1, h2⟩ : 1 ≤ b ∧ b ≤ 3 := h
    match i, hx, hy with
    | 0, hx, hy => exact ⟨b, 3, (Option.some.inj hx).symm, (Option.some.inj hy).symm, by omega, by omega⟩
    | i + 1, hx, hy => simp [Ru.nums] at hx
theorem nums_lim (R : Ru) : (R.nums.map V.int).length = (R.lim.map V.int).length := by cases R <;> rfl
theorem lim_short (R : Ru) : (R.lim.map V.int).length ≤ 2 := by
  cases R with
  | cnt b s => exact Nat.le_refl 2
  | shf b s => exact Nat.le_refl 2
  | rgh b => exact (by decide : 1 ≤ 2)
def spIsRule : Sp := fun vs H Q _ => ∃ (p : Addr) (R : Ru), vs = [.ref p] ∧ RuAt H p R ∧ R.ok ∧ ∀ H', Same H H' → Q (.bl true) H'
section
variable {P : Program} {w : World} {K : PySem.W.Frag} {mg : Str → Option Value} {base : Heap}
theorem sc_is_rule : FnScope ["rule", "limits", "numbers", "number", "most"] ["rule"] (defScope s_is_rule) := ⟨rfl, rfl, rfl, by decide +kernel, rfl, by decide +kernel, by decide +kernel⟩
theorem ok_is_rule (D : DefAt K mg "is_rule" s_is_rule ["rule"]) (LI : Lims K w mg) (m_len : mg "len" = none) (m_all : mg "all" = none) (m_zip : mg "zip" = none) : Cl P w K mg base 1 "is_rule" ["rule"] spIsRule := by
  refine D.cl fun f fd F => ?_
  obtain ⟨d, es, n, gL, kd, lt⟩ := LI.ex
  refine F.ok sc_is_rule (fun vs H Q E h => ?_) (fun cdv A outer s H vs Q E hr h => ?_)
  · obtain ⟨p, R, rfl, _⟩ := h
    rfl
  · obtain ⟨p, R, rfl, hp, ok, q⟩ := h
    obtain ⟨t, ht, wt⟩ := lt R
    refine ⟨_, pss_cons (ps_if (pt_cmpR (op_notIn_kd kd) (pe_ix ix_tup (pv 0) pe_int (fun _ _ => rfl)) (pe_glob (v := .ref d) (by rfl) gL rfl) (by rfl)) (pss_one ps_never) pss_nil)
      (pss_cons (ps_set (i := 1) sc_is_rule.nd rfl (Or.inl rfl) (pe_ix ix_kdict (pe_glob (v := .ref d) (by rfl) gL rfl) (pe_ix ix_tup (pv 0) pe_int (fun _ _ => rfl)) (fun _ _ => rfl)))
      (pss_cons (ps_set (i := 2) sc_is_rule.nd rfl (Or.inl rfl) (pe_slice sl_tup (pv 0) (po_some pe_int) po_none))
      (pss_cons (ps_if (pt_cmpR op_ne (pe_callB call_len_seq (by rfl) m_len PySem.boot_len (pa_cons (pv 2) pa_nil)) (pe_callB call_len_seq (by rfl) m_len PySem.boot_len (pa_cons (pv 1) pa_nil)) (nomark _)) (pss_one ps_never) pss_nil)
      (pss_one (ps_ret (pe_callB (cr_all rfl) (by rfl) m_all (by decide +kernel) (pa_cons
        (pe_lc (own := [("number", 3), ("most", 4)]) (g := gTup K 2 (gCons (gName 3) (gCons (gName 4) gNil))) (tt := tYes) rfl sc_is_rule.nd (pi_zipA (by rfl) m_zip (pa_cons (pv 2) (pa_cons (pv 1) pa_nil))) (blkOk_by (N := ["rule", "limits", "numbers", "number", "most"]) (sc := defScope s_is_rule) (by decide +kernel))
          (fun _ _ _ _ _ => by exact pg_tup rfl (pgs_cons (pg_name (i := 3) sc_is_rule.nd rfl (Or.inl rfl)) (pgs_cons (pg_name (i := 4) sc_is_rule.nd rfl (Or.inl rfl)) pgs_nil))) (fun _ _ _ _ _ => by exact pts_nil)
          (fun _ _ _ _ _ => by exact pe_chain op_le op_le pe_int (pv 3) (pv 4))) pa_nil))))))), ?_⟩
    refine ⟨_, rfl, p, _, _, _, rfl, rfl, SqT.of hp, R.at0, R.kind, _, rfl, rfl, ht, _, rfl, iteF ?_⟩
    refine ⟨_, rfl, p, _, _, _, rfl, rfl, SqT.of hp, R.at0, d, R.kind, .ref t, rfl, rfl, ⟨es, n, _, kd.at_, kd.lit, ht, rfl⟩, ?_⟩
    refine ⟨_, rfl, 1, rfl, p, R.tup, rfl, SqT.of hp, ?_, fun u nu => ?_⟩
    · have h1 : R.tup.length = (R.nums.map V.int).length + 1 := rfl
      have h2 : 1 ≤ (R.nums.map V.int).length := by cases R <;> exact Nat.succ_le_succ (Nat.zero_le _)
      rintro ⟨e, _⟩
      rw [show HT.sIx R.tup.length 0 (some 1) = min 1 R.tup.length from HT.sIx_nat _ 0 1] at e
      omega
    have su : Same H (upd H u (.tup (cutV R.tup (some 1) none))) := same_upd nu
    have eu : (upd H u (.tup (cutV R.tup (some 1) none))) u = some (.tup (R.nums.map V.int)) := by
      rw [upd_same, cut1]; rfl
    refine ⟨_, rfl, u, R.nums.map V.int, rfl, .inr (SqT.of eu), _, rfl, t, R.lim.map V.int, rfl, .inr (.inr wt), rfl, _, rfl, ?_⟩
    rw [nums_lim]
    refine iteNS rfl ?_
    refine ⟨_, rfl, _, rfl, u, t, R.nums.map V.int, R.lim.map V.int, rfl, .inr ⟨SqT.of eu, .inr wt, fun D nD => ?_⟩⟩
    refine lc_zipT (K := K) (xs := R.nums.map V.int) (ys := R.lim.map V.int) (nums_lim R) (fun i H' => Same (upd H u (.tup (cutV R.tup (some 1) none))) H' ∧ H' D = some (.lst ((List.replicate i true).map V.bl)))
      ⟨same_upd nD, upd_same⟩ (fun i H' h => ⟨SqT.of (h.1 _ _ eu), .inr wt⟩) ?_ ?_
    · rintro i x y T H' hx hy ⟨sm, hD⟩ hT
      obtain ⟨a, b, rfl, rfl, h1, h2⟩ := nums_ok ok hx hy
      have nT : D ≠ T := ne_of_none hD hT
      refine ⟨T, [.int a, .int b], rfl, .inl (.inl upd_same), rfl, .int a, [.int b], rfl, .int b, [], rfl, rfl, rfl, ?_⟩
      refine ⟨_, rfl, _, _, rfl, rfl, _, rfl, ?_⟩
      rw [decide_eq_true h1]
      refine iteT ?_
      refine ⟨_, rfl, _, _, rfl, rfl, ?_⟩
      dsimp only
      rw [decide_eq_true h2]
      refine ⟨_, (by rw [upd_ne nT]; exact hD), ?_, ?_, ?_⟩
      · rw [List.length_map, List.length_replicate]
        have : i < (R.lim.map V.int).length := (List.getElem?_eq_some_iff.mp hy).1
        have := lim_short R
        exact small1000 (by omega)
      · intro z o e
        rw [upd_ne (show z ≠ D from ne_of_none e nD), upd_ne (ne_of_none (sm _ _ e) hT)]
        exact sm _ _ e
      · rw [upd_same, List.replicate_succ', List.map_append]
        rfl
    · rintro H' ⟨sm, hD⟩
      refine ⟨D, List.replicate _ true, rfl, SqL.of hD, ?_⟩
      rw [show (List.replicate (R.nums.map V.int).length true).all id = true by simp]
      exact q H' (su.trans sm)
end
/-! ### the program: marks and ageing -/
def spCheckRule : Sp := fun vs H Q _ => ∃ (p : Addr) (R : Ru), vs = [.ref p] ∧ RuAt H p R ∧ R.ok ∧ ∀ H', Same H H' → Q .non H'
def spTopMark : Sp := fun vs H Q _ => ∃ (p : Addr) (R : Ru), vs = [.ref p] ∧ RuAt H p R ∧ R.ok ∧ Q (.int (R.most : Int)) H
def spCheckMark : Sp := fun vs H Q _ => ∃ (p : Addr) (R : Ru) (i : Int), vs = [.ref p, .int i] ∧ RuAt H p R ∧ R.ok ∧ 0 ≤ i ∧ i ≤ (R.most : Int) ∧ Q .non H
def spCheckMoment : Sp := fun vs H Q _ => ∃ (i : Int), vs = [.int i] ∧ 0 ≤ i ∧ i ≤ 1000000000 ∧ Q .non H
def spRoughly : Sp := fun vs H Q _ => ∃ (b m t n : Nat) (i1 i2 i3 i4 : Int), vs = [.int i1, .int i2, .int i3, .int i4] ∧ i1 = ((2 ^ b - 1 : Nat) : Int) ∧ i2 = (m : Int) ∧ i3 = (t : Int) ∧ i4 = ((t + n : Nat) : Int) ∧
  1 ≤ b ∧ b ≤ 3 ∧ m ≤ 2 ^ b - 1 ∧ t + n ≤ 1000000000 ∧ Q (.int (ag (.rgh b) m t n : Int)) H
def spAged : Sp := fun vs H Q _ => ∃ (p : Addr) (R : Ru) (m t n : Nat) (i1 i2 i3 : Int), vs = [.ref p, .int i1, .int i2, .int i3] ∧ i1 = (m : Int) ∧ i2 = (t : Int) ∧ i3 = ((t + n : Nat) : Int) ∧
  RuAt H p R ∧ R.ok ∧ m ≤ R.most ∧ t + n ≤ 1000000000 ∧ ∀ H', Same H H' → Q (.int (ag R m t n : Int)) H'
theorem pow_sub (k : Nat) : (2 : Int) ^ k - 1 = ((2 ^ k - 1 : Nat) : Int) := by
  have := Nat.two_pow_pos k
  have e : ((2 ^ k : Nat) : Int) = (2 : Int) ^ k := by rw [Int.natCast_pow]; rfl
  omega
theorem top_is {i : Int} {k : Nat} (h : i = (k : Int)) : (1 : Int) * 2 ^ i.toNat - 1 = ((2 ^ k - 1 : Nat) : Int) := by
  rw [h, Int.toNat_natCast, Int.one_mul, pow_sub]
theorem Ru.most_lt {R : Ru} (h : R.ok) : R.most < 2048 := by
  cases R with
  | cnt b s =>
    obtain ⟨h1, h2, h3, h4⟩ : 1 ≤ b ∧ b ≤ 6 ∧ 1 ≤ s ∧ s ≤ 20 := h
    have : 2 ^ b ≤ 2 ^ 6 := Nat.pow_le_pow_right (by decide) h2
    show 2 ^ b - 1 < 2048
    omega
  | shf b s =>
    obtain ⟨h1, h2, h3, h4⟩ : 1 ≤ b ∧ b ≤ 10 ∧ 1 ≤ s ∧ s ≤ 20 := h
    have : 2 ^ (b + 1) ≤ 2 ^ 11 := Nat.pow_le_pow_right (by decide) (by omega)
    show 2 ^ (b + 1) - 1 < 2048
    omega
  | rgh b =>
    obtain ⟨h1, h2⟩ : 1 ≤ b ∧ b ≤ 3 := h
    have : 2 ^ b ≤ 2 ^ 3 := Nat.pow_le_pow_right (by decide) h2
    show 2 ^ b - 1 < 2048
    omega
theorem next_cast (t m : Nat) : ((t : Int) / 2 ^ (m : Int).toNat + 1) * 2 ^ (m : Int).toNat = (((t / 2 ^ m + 1) * 2 ^ m : Nat) : Int) := by
  rw [Int.toNat_natCast, Int.natCast_mul, Int.natCast_add, Int.natCast_ediv, Int.natCast_pow]
  rfl
theorem kind_ne {R : Ru} {x : Str} (h : R.kind ≠ x) : decide (V.str R.kind = V.str x) = false := by rw [dec_str, decide_eq_false h]
section
variable {P : Program} {w : World} {K : PySem.W.Frag} {mg : Str → Option Value} {base : Heap}
theorem sc_check_rule : FnScope ["rule"] ["rule"] (defScope s_check_rule) := ⟨rfl, rfl, rfl, by decide +kernel, rfl, by decide +kernel, by decide +kernel⟩
theorem ok_check_rule (D : DefAt K mg "check_rule" s_check_rule ["rule"]) (C1 : Cl P w K mg base 1 "is_rule" ["rule"] spIsRule) : Cl P w K mg base 2 "check_rule" ["rule"] spCheckRule := by
  refine D.cl fun f fd F => ?_
  refine F.ok sc_check_rule (fun vs H Q E h => ?_) (fun cdv A outer s H vs Q E hr h => ?_)
  · obtain ⟨p, R, rfl, _⟩ := h
    rfl
  · obtain ⟨p, R, rfl, hp, ok, q⟩ := h
    refine ⟨_, pss_one (ps_if (pt_not (pt_val (pe_cl C1 hr (pa_cons (pv 0) pa_nil)))) (pss_one ps_never) pss_nil), ?_⟩
    exact ⟨_, rfl, p, R, rfl, hp, ok, fun H' sm => ⟨true, rfl, iteF (q H' sm)⟩⟩
theorem sc_top_mark : FnScope ["rule"] ["rule"] (defScope s_top_mark) := ⟨rfl, rfl, rfl, by decide +kernel, rfl, by decide +kernel, by decide +kernel⟩
theorem ok_top_mark (D : DefAt K mg "top_mark" s_top_mark ["rule"]) : Cl P w K mg base 1 "top_mark" ["rule"] spTopMark := by
  refine D.cl fun f fd F => ?_
  refine F.ok sc_top_mark (fun vs H Q E h => ?_) (fun cdv A outer s H vs Q E hr h => ?_)
  · obtain ⟨p, R, rfl, _⟩ := h
    rfl
  · obtain ⟨p, R, rfl, hp, ok, q⟩ := h
    have hb := R.bits_pos ok
    refine ⟨_, pss_cons (ps_if (pt_cmpR op_eq (pe_ix ix_tup (pv 0) pe_int (fun _ _ => rfl)) pe_str (nomark _)) (pss_one (ps_ret (pe_op op_sub (pe_op op_shl pe_int (pe_op op_add (pe_ix ix_tup (pv 0) pe_int (fun _ _ => rfl)) pe_int)) pe_int))) pss_nil)
      (pss_one (ps_ret (pe_op op_sub (pe_op op_shl pe_int (pe_ix ix_tup (pv 0) pe_int (fun _ _ => rfl))) pe_int))), ?_⟩
    refine ⟨_, rfl, p, _, _, _, rfl, rfl, SqT.of hp, R.at0, rfl, _, rfl, ?_⟩
    have low : ∀ _ : R.kind ≠ "shift", R.most = 2 ^ R.bits - 1 := by
      intro hk
      cases R with
      | cnt b s => rfl
      | shf b s => exact absurd rfl hk
      | rgh b => rfl
    by_cases hk : R.kind = "shift"
    · rw [dec_str, decide_eq_true hk]
      refine iteT ?_
      refine ⟨_, rfl, p, _, _, _, rfl, rfl, SqT.of hp, R.at1, _, _, rfl, rfl, _, _, rfl, rfl, ⟨by omega, by omega, by decide⟩, _, _, rfl, rfl, ?_⟩
      have e : (1 : Int) * 2 ^ ((R.bits : Int) + 1).toNat - 1 = (R.most : Int) := by
        rw [top_is (i := (R.bits : Int) + 1) (k := R.bits + 1) rfl]
        cases R with
        | cnt b s => exact absurd hk k_cs
        | shf b s => rfl
        | rgh b => exact absurd hk k_rs
      dsimp only
      rw [e]
      exact q
    · rw [dec_str, decide_eq_false hk]
      refine iteF ?_
      refine ⟨_, rfl, p, _, _, _, rfl, rfl, SqT.of hp, R.at1, _, _, rfl, rfl, ⟨by omega, by omega, by decide⟩, _, _, rfl, rfl, ?_⟩
      dsimp only
      rw [top_is (i := (R.bits : Int)) (k := R.bits) rfl, ← low hk]
      exact q
theorem sc_roughly : FnScope ["last", "mark", "begin", "end", "moment"] ["last", "mark", "begin", "end"] (defScope s_aged_roughly) := ⟨rfl, rfl, rfl, by decide +kernel, rfl, by decide +kernel, by decide +kernel⟩
theorem ok_roughly (D : DefAt K mg "_aged_roughly" s_aged_roughly ["last", "mark", "begin", "end"]) : Cl P w K mg base 1 "_aged_roughly" ["last", "mark", "begin", "end"] spRoughly := by
  refine D.cl fun f fd F => ?_
  refine F.ok sc_roughly (fun vs H Q E h => ?_) (fun cdv A outer s H vs Q E hr h => ?_)
  · obtain ⟨b, m, t, n, i1, i2, i3, i4, rfl, _⟩ := h
    rfl
  · obtain ⟨b, m, t, n, i1, i2, i3, i4, rfl, rfl, rfl, rfl, rfl, b1, b3, hm, ht, q⟩ := h
    refine ⟨_, pss_cons (ps_set (i := 4) sc_roughly.nd rfl (Or.inl rfl) (pv 2))
      (pss_cons (ps_while PassesOwn.never (pt_cmpR op_lt (pv 1) (pv 0) (nomark _))
        (pss_cons (ps_set (i := 4) sc_roughly.nd rfl (Or.inl rfl) (pe_op op_shl (pe_op op_add (pe_op op_shr (pv 4) (pv 1)) pe_int) (pv 1)))
        (pss_cons (ps_if (pt_cmpR op_gt (pv 4) (pv 3) (nomark _)) (pss_one ps_break) pss_nil)
        (pss_one (ps_aug (i := 1) sc_roughly.nd rfl (Or.inl rfl) pe_int ip_add)))))
      (pss_one (ps_ret (pv 1)))), ?_⟩
    refine ⟨_, rfl, ?_⟩
    refine while_by (fun σ H' => ∃ m' t' n' : Nat, σ = [some (.int ((2 ^ b - 1 : Nat) : Int)), some (.int (m' : Int)), some (.int (t : Int)), some (.int ((t + n : Nat) : Int)), some (.int (t' : Int))] ∧ H' = H ∧ t' + n' = t + n ∧ m' ≤ 2 ^ b - 1 ∧ ag (.rgh b) m t n = ag (.rgh b) m' t' n')
      (fun σ H' => match σ with | [_, some (.int i), _, _, _] => (((2 ^ b - 1 : Nat) : Int) - i).toNat | _ => 0) ⟨m, t, n, rfl, rfl, rfl, hm, rfl⟩ ?_ ?_
    · rintro σ H' ⟨m', t', n', rfl, rfl, e, hm', ea⟩
      have p3 : 2 ^ b ≤ 2 ^ 3 := Nat.pow_le_pow_right (by decide) b3
      refine ⟨_, rfl, _, rfl, _, _, rfl, rfl, _, rfl, ?_⟩
      by_cases c : m' < 2 ^ b - 1
      · rw [decide_eq_true (show (m' : Int) < ((2 ^ b - 1 : Nat) : Int) by omega)]
        refine iteT ?_
        have g1 := next_gt m' t'
        have g2 := next_le m' t'
        have p7 : 2 ^ m' ≤ 2 ^ 7 := Nat.pow_le_pow_right (by decide) (by omega)
        have hdiv : t' / 2 ^ m' ≤ t' := Nat.div_le_self _ _
        refine ⟨_, rfl, _, rfl, _, _, rfl, rfl, Int.natCast_nonneg _, _, _, rfl, rfl, _, rfl, _, _, rfl, rfl, ⟨Int.natCast_nonneg _, by omega, ?_⟩, ?_⟩
        · rw [Int.toNat_natCast]
          have e2 : ((t' : Int) / 2 ^ m' + 1) = ((t' / 2 ^ m' + 1 : Nat) : Int) := by
            rw [Int.natCast_add, Int.natCast_ediv, Int.natCast_pow]; rfl
          rw [e2]
          show t' / 2 ^ m' + 1 < 2 ^ 64
          have : t' ≤ 1000000000 := by omega
          have : (2 : Nat) ^ 64 = 18446744073709551616 := by decide
          omega
        · dsimp only
          rw [next_cast]
          refine ⟨_, rfl, _, rfl, _, _, rfl, rfl, _, rfl, ?_⟩
          by_cases c2 : t + n < (t' / 2 ^ m' + 1) * 2 ^ m'
          · rw [decide_eq_true (show ((t + n : Nat) : Int) < (((t' / 2 ^ m' + 1) * 2 ^ m' : Nat) : Int) by omega)]
            refine iteT ?_
            have es : ag (.rgh b) m t n = m' := by
              rw [ea]
              exact ag_rgh_still b m' t' n' (by omega)
            rw [es] at q
            exact ⟨_, rfl, q⟩
          · rw [decide_eq_false (show ¬ ((t + n : Nat) : Int) < (((t' / 2 ^ m' + 1) * 2 ^ m' : Nat) : Int) by omega)]
            refine iteF ?_
            refine ⟨_, rfl, _, _, rfl, rfl, ⟨m' + 1, (t' / 2 ^ m' + 1) * 2 ^ m', t + n - (t' / 2 ^ m' + 1) * 2 ^ m', rfl, rfl, by omega, by omega, ?_⟩, ?_⟩
            · obtain ⟨k, hk⟩ : ∃ k, n' = ((t' / 2 ^ m' + 1) * 2 ^ m' - t') + k := ⟨n' - ((t' / 2 ^ m' + 1) * 2 ^ m' - t'), by omega⟩
              rw [ea, hk, ag_add, ag_rgh_next b m' t' (by omega)]
              rw [show t' + ((t' / 2 ^ m' + 1) * 2 ^ m' - t') = (t' / 2 ^ m' + 1) * 2 ^ m' by omega]
              rw [show t + n - (t' / 2 ^ m' + 1) * 2 ^ m' = k by omega]
            · show (((2 ^ b - 1 : Nat) : Int) - ((m' : Int) + 1)).toNat < (((2 ^ b - 1 : Nat) : Int) - (m' : Int)).toNat
              omega
      · rw [decide_eq_false (show ¬ (m' : Int) < ((2 ^ b - 1 : Nat) : Int) by omega)]
        refine iteF ?_
        have es : ag (.rgh b) m t n = m' := by
          have : m' = 2 ^ b - 1 := by omega
          rw [ea, this]
          exact ag_rgh_fin b t' n'
        rw [es] at q
        exact ⟨_, rfl, q⟩
    · rintro σ H' Q1 Q2 i ⟨x, hx, y, hy, i', j', e1, e2, k, ek, qq⟩
      exact ⟨x, hx, y, hy, i', j', e1, e2, k, ek, i _ _ qq⟩
theorem sc_aged_on : FnScope ["rule", "mark", "begin", "end", "step", "times"] ["rule", "mark", "begin", "end"] (defScope s_aged_on) := ⟨rfl, rfl, rfl, by decide +kernel, rfl, by decide +kernel, by decide +kernel⟩
theorem Ru.at2 {R : Ru} (h : R.kind ≠ "rough") : atI R.tup 2 = some (.int (R.step : Int)) := by
  cases R with
  | cnt b s => exact atI_nat (j := 2) rfl
  | shf b s => exact atI_nat (j := 2) rfl
  | rgh b => exact absurd rfl h
theorem Ru.step_ok {R : Ru} (h : R.ok) : 1 ≤ R.step ∧ R.step ≤ 20 := by
  cases R with
  | cnt b s => obtain ⟨h1, h2, h3, h4⟩ : 1 ≤ b ∧ b ≤ 6 ∧ 1 ≤ s ∧ s ≤ 20 := h; exact ⟨h3, h4⟩
  | shf b s => obtain ⟨h1, h2, h3, h4⟩ : 1 ≤ b ∧ b ≤ 10 ∧ 1 ≤ s ∧ s ≤ 20 := h; exact ⟨h3, h4⟩
  | rgh b => exact ⟨Nat.le_refl 1, (by decide : 1 ≤ 20)⟩
theorem times_cast (t n s : Nat) : ((t + n : Nat) : Int) / (s : Int) - (t : Int) / (s : Int) = (((t + n) / s - t / s : Nat) : Int) := by
  have g := div_mono s (Nat.le_add_right t n)
  rw [← Int.natCast_ediv, ← Int.natCast_ediv]
  omega
theorem ok_aged_on (D : DefAt K mg "aged_on" s_aged_on ["rule", "mark", "begin", "end"]) (m_min : mg "min" = none) (C1 : Cl P w K mg base 1 "top_mark" ["rule"] spTopMark) (C2 : Cl P w K mg base 1 "_aged_roughly" ["last", "mark", "begin", "end"] spRoughly) :
    Cl P w K mg base 2 "aged_on" ["rule", "mark", "begin", "end"] spAged := by
  refine D.cl fun f fd F => ?_
  refine F.ok sc_aged_on (fun vs H Q E h => ?_) (fun cdv A outer s H vs Q E hr h => ?_)
  · obtain ⟨p, R, m, t, n, i1, i2, i3, rfl, _⟩ := h
    rfl
  · obtain ⟨p, R, m, t, n, i1, i2, i3, rfl, rfl, rfl, rfl, hp, ok, hm, ht, q⟩ := h
    have hs := R.step_ok ok
    refine ⟨_, pss_cons (ps_if (pt_cmpR op_eq (pe_ix ix_tup (pv 0) pe_int (fun _ _ => rfl)) pe_str (nomark _)) (pss_one (ps_ret (pe_cl C2 hr (pa_cons (pe_cl C1 hr (pa_cons (pv 0) pa_nil)) (pa_cons (pv 1) (pa_cons (pv 2) (pa_cons (pv 3) pa_nil))))))) pss_nil)
      (pss_cons (ps_set (i := 4) sc_aged_on.nd rfl (Or.inl rfl) (pe_ix ix_tup (pv 0) pe_int (fun _ _ => rfl)))
      (pss_cons (ps_set (i := 5) sc_aged_on.nd rfl (Or.inl rfl) (pe_op op_sub (pe_op op_fdiv (pv 3) (pv 4)) (pe_op op_fdiv (pv 2) (pv 4))))
      (pss_cons (ps_if (pt_cmpR op_eq (pe_ix ix_tup (pv 0) pe_int (fun _ _ => rfl)) pe_str (nomark _)) (pss_one (ps_ret (pe_op op_shr (pv 1) (pv 5)))) pss_nil)
      (pss_one (ps_ret (pe_callB (call_min2 rfl) (by rfl) m_min (by decide +kernel) (pa_cons (pe_op op_add (pv 1) (pv 5)) (pa_cons (pe_cl C1 hr (pa_cons (pv 0) pa_nil)) pa_nil)))))))), ?_⟩
    refine ⟨_, rfl, p, _, _, _, rfl, rfl, SqT.of hp, R.at0, rfl, _, rfl, ?_⟩
    by_cases hk : R.kind = "rough"
    · rw [dec_str, decide_eq_true hk]
      refine iteT ?_
      cases R with
      | cnt b s => exact absurd hk k_cr
      | shf b s => exact absurd hk k_sr
      | rgh b =>
        obtain ⟨b1, b3⟩ : 1 ≤ b ∧ b ≤ 3 := ok
        exact ⟨_, rfl, p, .rgh b, rfl, hp, ⟨b1, b3⟩, _, rfl, _, rfl, _, rfl, b, m, t, n, _, _, _, _, rfl, rfl, rfl, rfl, rfl, b1, b3, hm, ht, q H (Same.refl H)⟩
    · rw [dec_str, decide_eq_false hk]
      refine iteF ?_
      refine ⟨_, rfl, p, _, _, _, rfl, rfl, SqT.of hp, R.at2 hk, ?_⟩
      refine ⟨_, rfl, _, rfl, _, _, rfl, rfl, ⟨by omega, by omega⟩, _, rfl, _, rfl, _, _, rfl, rfl, ⟨by omega, by omega⟩, _, _, rfl, rfl, ?_⟩
      dsimp only
      rw [times_cast]
      refine ⟨_, rfl, p, _, _, _, rfl, rfl, SqT.of hp, R.at0, rfl, _, rfl, ?_⟩
      by_cases hk2 : R.kind = "shift"
      · rw [dec_str, decide_eq_true hk2]
        refine iteT ?_
        refine ⟨_, rfl, _, rfl, _, _, rfl, rfl, Int.natCast_nonneg _, ?_⟩
        have q' := q H (Same.refl H)
        cases R with
        | cnt b s => exact absurd hk2 k_cs
        | rgh b => exact absurd rfl hk
        | shf b s =>
          rw [ag_shf b s m t hs.1 n, Int.natCast_ediv, Int.natCast_pow] at q'
          dsimp only
          rw [Int.toNat_natCast]
          exact q'
      · rw [dec_str, decide_eq_false hk2]
        refine iteF ?_
        refine ⟨_, rfl, _, rfl, _, _, rfl, rfl, _, rfl, p, R, rfl, hp, ok, _, _, rfl, ?_⟩
        have q' := q H (Same.refl H)
        cases R with
        | shf b s => exact absurd rfl hk2
        | rgh b => exact absurd rfl hk
        | cnt b s =>
          rw [ag_cnt b s m t hs.1 hm n] at q'
          have e : (if ((Ru.cnt b s).most : Int) < (m : Int) + (((t + n) / (Ru.cnt b s).step - t / (Ru.cnt b s).step : Nat) : Int) then ((Ru.cnt b s).most : Int) else (m : Int) + (((t + n) / (Ru.cnt b s).step - t / (Ru.cnt b s).step : Nat) : Int)) =
              ((min (m + ((t + n) / s - t / s)) (2 ^ b - 1) : Nat) : Int) := by
            show (if ((2 ^ b - 1 : Nat) : Int) < (m : Int) + (((t + n) / s - t / s : Nat) : Int) then ((2 ^ b - 1 : Nat) : Int) else (m : Int) + (((t + n) / s - t / s : Nat) : Int)) = _
            split <;> omega
          rw [e]
          exact q'
end
/-! ### the program: what a mark tells -/
def oV : Option Nat → V
  | none => .non
  | some n => .int (n : Int)
/-- the mark of a thing that is seen -/
def seenM : Ru → Nat → Nat
  | .shf b _, m => if m < 2 ^ b then m + 2 ^ b else m
  | _, _ => 0
def spEndMark : Sp := fun vs H Q _ => ∃ (p : Addr) (R : Ru), vs = [.ref p] ∧ RuAt H p R ∧ R.ok ∧ Q (.int (R.fin : Int)) H
def spSeen : Sp := fun vs H Q _ => ∃ (p : Addr) (R : Ru) (m : Nat) (i : Int), vs = [.ref p, .int i] ∧ i = (m : Int) ∧ RuAt H p R ∧ R.ok ∧ Q (.int (seenM R m : Int)) H
def spAgings : Sp := fun vs H Q _ => ∃ (p : Addr) (R : Ru) (m : Nat) (i : Int), vs = [.ref p, .int i] ∧ i = (m : Int) ∧ RuAt H p R ∧ R.ok ∧ R.isRgh = false ∧ m ≤ R.most ∧ Q (.int (R.ags m : Int)) H
def spStepped : Sp := fun vs H Q _ => ∃ (p : Addr) (R : Ru) (now m : Nat) (i1 i2 : Int), vs = [.ref p, .int i1, .int i2] ∧ i1 = (now : Int) ∧ i2 = (m : Int) ∧ RuAt H p R ∧ R.ok ∧ R.isRgh = false ∧ m ≤ R.most ∧
  ∀ H' T x y, IsSpan R now m x y → H T = none → Same H H' → H' T = some (.tup [oV x, oV y]) → Q (.ref T) H'
def spRoughSpan : Sp := fun vs H Q _ => ∃ (p : Addr) (R : Ru) (now m : Nat) (i1 i2 : Int), vs = [.ref p, .int i1, .int i2] ∧ i1 = (now : Int) ∧ i2 = (m : Int) ∧ RuAt H p R ∧ R.ok ∧ R.isRgh = true ∧ m ≤ R.most ∧ now ≤ 1000000000 ∧
  ∀ H' T x y, IsSpan R now m x y → H T = none → Same H H' → H' T = some (.tup [oV x, oV y]) → Q (.ref T) H'
def spSpan : Sp := fun vs H Q _ => ∃ (p : Addr) (R : Ru) (now m : Nat) (i1 i2 : Int), vs = [.ref p, .int i1, .int i2] ∧ i1 = (now : Int) ∧ i2 = (m : Int) ∧ RuAt H p R ∧ R.ok ∧ m ≤ R.most ∧ now ≤ 1000000000 ∧
  ∀ H' T x y, IsSpan R now m x y → H T = none → Same H H' → H' T = some (.tup [oV x, oV y]) → Q (.ref T) H'
theorem bits_bl (n : Nat) : Builtin.Int.intBits (n : Int) = bl n := by
  unfold Builtin.Int.intBits bl
  by_cases h : n = 0
  · subst h; rfl
  · rw [if_neg h, if_neg (by simpa using h)]
    rfl
theorem bl_two (b : Nat) : bl (2 ^ b) = b + 1 := by
  have p := Nat.two_pow_pos b
  obtain ⟨h1, h2, h3⟩ := bl_pos (show 2 ^ b ≠ 0 by omega)
  have := pow_uniq h1 (show 2 ^ b < 2 ^ (bl (2 ^ b) - 1 + 1) by rw [show bl (2 ^ b) - 1 + 1 = bl (2 ^ b) by omega]; exact h2) (Nat.le_refl _) (show 2 ^ b < 2 ^ (b + 1) by rw [Nat.pow_succ]; omega)
  omega
theorem Ru.rough_iff (R : Ru) : (R.kind = "rough") ↔ R.isRgh = true := by
  cases R with
  | cnt b s => exact ⟨fun h => absurd h k_cr, fun h => nomatch h⟩
  | shf b s => exact ⟨fun h => absurd h k_sr, fun h => nomatch h⟩
  | rgh b => exact ⟨fun _ => rfl, fun _ => rfl⟩
theorem shl_is {i : Int} {k : Nat} (h : i = (k : Int)) : (1 : Int) * 2 ^ i.toNat = ((2 ^ k : Nat) : Int) := by
  rw [h, Int.toNat_natCast, Int.one_mul, Int.natCast_pow]
  rfl
section
variable {P : Program} {w : World} {K : PySem.W.Frag} {mg : Str → Option Value} {base : Heap}
theorem sc_end_mark : FnScope ["rule"] ["rule"] (defScope s_end_mark) := ⟨rfl, rfl, rfl, by decide +kernel, rfl, by decide +kernel, by decide +kernel⟩
theorem ok_end_mark (D : DefAt K mg "end_mark" s_end_mark ["rule"]) (C1 : Cl P w K mg base 1 "top_mark" ["rule"] spTopMark) : Cl P w K mg base 2 "end_mark" ["rule"] spEndMark := by
  refine D.cl fun f fd F => ?_
  refine F.ok sc_end_mark (fun vs H Q E h => ?_) (fun cdv A outer s H vs Q E hr h => ?_)
  · obtain ⟨p, R, rfl, _⟩ := h
    rfl
  · obtain ⟨p, R, rfl, hp, ok, q⟩ := h
    refine ⟨_, pss_cons (ps_if (pt_cmpR op_eq (pe_ix ix_tup (pv 0) pe_int (fun _ _ => rfl)) pe_str (nomark _)) (pss_one (ps_ret pe_int)) pss_nil) (pss_one (ps_ret (pe_cl C1 hr (pa_cons (pv 0) pa_nil)))), ?_⟩
    refine ⟨_, rfl, p, _, _, _, rfl, rfl, SqT.of hp, R.at0, rfl, _, rfl, ?_⟩
    rw [dec_str]
    by_cases hk : R.kind = "shift"
    · rw [decide_eq_true hk]
      refine iteT ?_
      cases R with
      | cnt b s => exact absurd hk k_cs
      | rgh b => exact absurd hk k_rs
      | shf b s => exact q
    · rw [decide_eq_false hk]
      refine iteF ⟨_, rfl, p, R, rfl, hp, ok, ?_⟩
      cases R with
      | cnt b s => exact q
      | rgh b => exact q
      | shf b s => exact absurd rfl hk
theorem sc_seen : FnScope ["rule", "mark", "highest_bit"] ["rule", "mark"] (defScope s_seen) := ⟨rfl, rfl, rfl, by decide +kernel, rfl, by decide +kernel, by decide +kernel⟩
theorem ok_seen (D : DefAt K mg "seen" s_seen ["rule", "mark"]) : Cl P w K mg base 1 "seen" ["rule", "mark"] spSeen := by
  refine D.cl fun f fd F => ?_
  refine F.ok sc_seen (fun vs H Q E h => ?_) (fun cdv A outer s H vs Q E hr h => ?_)
  · obtain ⟨p, R, m, i, rfl, _⟩ := h
    rfl
  · obtain ⟨p, R, m, i, rfl, rfl, hp, ok, q⟩ := h
    refine ⟨_, pss_cons (ps_if (pt_cmpR op_ne (pe_ix ix_tup (pv 0) pe_int (fun _ _ => rfl)) pe_str (nomark _)) (pss_one (ps_ret pe_int)) pss_nil)
      (pss_cons (ps_set (i := 2) sc_seen.nd rfl (Or.inl rfl) (pe_op op_shl pe_int (pe_ix ix_tup (pv 0) pe_int (fun _ _ => rfl))))
      (pss_cons (ps_if (pt_cmpR op_lt (pv 1) (pv 2) (nomark _)) (pss_one (ps_ret (pe_op op_add (pv 1) (pv 2)))) pss_nil)
      (pss_one (ps_ret (pv 1))))), ?_⟩
    refine ⟨_, rfl, p, _, _, _, rfl, rfl, SqT.of hp, R.at0, rfl, _, rfl, ?_⟩
    rw [dec_str]
    by_cases hk : R.kind = "shift"
    · rw [decide_eq_true hk]
      refine iteF ?_
      cases R with
      | cnt b s => exact absurd hk k_cs
      | rgh b => exact absurd hk k_rs
      | shf b s =>
        have hb : b ≤ 10 := ok.2.1
        refine ⟨_, rfl, p, _, _, _, rfl, rfl, SqT.of hp, Ru.at1 (.shf b s), _, _, rfl, rfl, ⟨Int.natCast_nonneg _, (by show (b : Int) ≤ 1000000; omega), by decide⟩, ?_⟩
        dsimp only
        rw [show (1 : Int) * 2 ^ (((Ru.shf b s).bits : Nat) : Int).toNat = ((2 ^ b : Nat) : Int) from shl_is (k := b) rfl]
        refine ⟨_, rfl, _, rfl, _, _, rfl, rfl, _, rfl, ?_⟩
        by_cases c : m < 2 ^ b
        · rw [decide_eq_true (show (m : Int) < ((2 ^ b : Nat) : Int) by omega)]
          refine iteT ⟨_, rfl, _, rfl, _, _, rfl, rfl, ?_⟩
          rw [show seenM (.shf b s) m = m + 2 ^ b from if_pos c] at q
          exact q
        · rw [decide_eq_false (show ¬ (m : Int) < ((2 ^ b : Nat) : Int) by omega)]
          refine iteF ⟨_, rfl, ?_⟩
          rw [show seenM (.shf b s) m = m from if_neg c] at q
          exact q
    · rw [decide_eq_false hk]
      refine iteT ?_
      cases R with
      | cnt b s => exact q
      | rgh b => exact q
      | shf b s => exact absurd rfl hk
theorem sc_agings : FnScope ["rule", "mark", "fresh"] ["rule", "mark"] (defScope s_agings) := ⟨rfl, rfl, rfl, by decide +kernel, rfl, by decide +kernel, by decide +kernel⟩
theorem ok_agings (D : DefAt K mg "_agings" s_agings ["rule", "mark"]) (C1 : Cl P w K mg base 1 "seen" ["rule", "mark"] spSeen) (C2 : Cl P w K mg base 2 "end_mark" ["rule"] spEndMark) : Cl P w K mg base 3 "_agings" ["rule", "mark"] spAgings := by
  refine D.cl fun f fd F => ?_
  refine F.ok sc_agings (fun vs H Q E h => ?_) (fun cdv A outer s H vs Q E hr h => ?_)
  · obtain ⟨p, R, m, i, rfl, _⟩ := h
    rfl
  · obtain ⟨p, R, m, i, rfl, rfl, hp, ok, nr, hm, q⟩ := h
    refine ⟨_, pss_cons (ps_set (i := 2) sc_agings.nd rfl (Or.inl rfl) (pe_cl C1 hr (pa_cons (pv 0) (pa_cons (pe_cl C2 hr (pa_cons (pv 0) pa_nil)) pa_nil))))
      (pss_cons (ps_if (pt_cmpR op_eq (pe_ix ix_tup (pv 0) pe_int (fun _ _ => rfl)) pe_str (nomark _)) (pss_one (ps_ret (pe_op op_sub (pe_bits (pv 2)) (pe_bits (pv 1))))) pss_nil)
      (pss_one (ps_ret (pe_op op_sub (pv 1) (pv 2))))), ?_⟩
    refine ⟨_, rfl, _, rfl, p, R, rfl, hp, ok, p, R, R.fin, _, rfl, rfl, hp, ok, ?_⟩
    refine ⟨_, rfl, p, _, _, _, rfl, rfl, SqT.of hp, R.at0, rfl, _, rfl, ?_⟩
    rw [dec_str]
    cases R with
    | rgh b => cases nr
    | cnt b s =>
      rw [decide_eq_false (show ¬ (Ru.cnt b s).kind = "shift" from k_cs)]
      refine iteF ⟨_, rfl, _, rfl, _, _, rfl, rfl, ?_⟩
      have e : (m : Int) - ((seenM (.cnt b s) (Ru.cnt b s).fin : Nat) : Int) = ((Ru.cnt b s).ags m : Int) := by
        show (m : Int) - ((0 : Nat) : Int) = (m : Int)
        omega
      dsimp only
      rw [e]
      exact q
    | shf b s =>
      rw [decide_eq_true (show (Ru.shf b s).kind = "shift" from rfl)]
      refine iteT ⟨_, rfl, _, rfl, _, rfl, _, rfl, _, _, rfl, rfl, ?_⟩
      have hm' : m ≤ 2 ^ (b + 1) - 1 := hm
      have pb := Nat.two_pow_pos (b + 1)
      have pb' := Nat.two_pow_pos b
      have e1 : seenM (.shf b s) (Ru.shf b s).fin = 2 ^ b := by
        exact (if_pos (show (Ru.shf b s).fin < 2 ^ b from pb')).trans (Nat.zero_add _)
      have l := bl_le (show m < 2 ^ (b + 1) by omega)
      have e : ((Builtin.Int.intBits ((seenM (.shf b s) (Ru.shf b s).fin : Nat) : Int) : Nat) : Int) - ((Builtin.Int.intBits (m : Int) : Nat) : Int) = ((Ru.shf b s).ags m : Int) := by
        rw [e1, bits_bl, bits_bl, bl_two]
        show ((b + 1 : Nat) : Int) - (bl m : Int) = ((b + 1 - bl m : Nat) : Int)
        omega
      dsimp only
      rw [e]
      exact q
theorem sc_rough : FnScope ["rule", "now", "mark", "end", "fresh", "found", "ago", "reached"] ["rule", "now", "mark"] (defScope s_rough_span) := ⟨rfl, rfl, rfl, by decide +kernel, rfl, by decide +kernel, by decide +kernel⟩
theorem ok_rough (D : DefAt K mg "_rough_span" s_rough_span ["rule", "now", "mark"]) (m_range : mg "range" = none) (C1 : Cl P w K mg base 2 "end_mark" ["rule"] spEndMark) (C2 : Cl P w K mg base 1 "seen" ["rule", "mark"] spSeen) (C3 : Cl P w K mg base 2 "aged_on" ["rule", "mark", "begin", "end"] spAged) :
    Cl P w K mg base 3 "_rough_span" ["rule", "now", "mark"] spRoughSpan := by
  refine D.cl fun f fd F => ?_
  refine F.ok sc_rough (fun vs H Q E h => ?_) (fun cdv A outer s H vs Q E hr h => ?_)
  · obtain ⟨p, R, now, m, i1, i2, rfl, _⟩ := h
    rfl
  · obtain ⟨p, R, now, m, i1, i2, rfl, rfl, rfl, hp, ok, ir, hm, hnow, q⟩ := h
    cases R with
    | cnt b s => cases ir
    | shf b s => cases ir
    | rgh b =>
    refine ⟨_, pss_cons (ps_set (i := 3) sc_rough.nd rfl (Or.inl rfl) (pe_cl C1 hr (pa_cons (pv 0) pa_nil)))
      (pss_cons (ps_set (i := 4) sc_rough.nd rfl (Or.inl rfl) (pe_cl C2 hr (pa_cons (pv 0) (pa_cons (pv 3) pa_nil))))
      (pss_cons (ps_set (i := 5) sc_rough.nd rfl (Or.inl rfl) (pe_lst pa_nil))
      (pss_cons (ps_for PassesOwn.never rfl (pi_range1 (by rfl) m_range (pa_cons (pe_op op_add (pv 1) pe_int) pa_nil)) (pg_name (i := 6) sc_rough.nd rfl (Or.inl rfl))
        (pss_cons (ps_set (i := 7) sc_rough.nd rfl (Or.inl rfl) (pe_cl C3 hr (pa_cons (pv 0) (pa_cons (pv 4) (pa_cons (pe_op op_sub (pv 1) (pv 6)) (pa_cons (pv 1) pa_nil))))))
        (pss_cons (ps_if (pt_cmpR op_eq (pv 7) (pv 2) (nomark _)) (pss_one (ps_expr (pe_bm PySem.F.plainAttrs_list PySem.F.slot_list_append PySem.F.type_list_append mt_append (pv 5) (pa_cons (pv 6) pa_nil)))) pss_nil)
        (pss_one (ps_if (pt_cmpR op_eq (pv 7) (pv 3) (nomark _)) (pss_one ps_break) pss_nil)))))
      (pss_cons (ps_if (pt_not (pt_truth (pv 5) (by intro _; rfl))) (pss_one (ps_ret (pe_tup (pa_cons pe_non (pa_cons pe_non pa_nil))))) pss_nil)
      (pss_cons (ps_if (pt_cmpR op_eq (pv 2) (pv 3) (nomark _)) (pss_one (ps_ret (pe_tup (pa_cons (pe_ix ix_list (pv 5) pe_int (fun _ _ => rfl)) (pa_cons pe_non pa_nil))))) pss_nil)
      (pss_one (ps_ret (pe_tup (pa_cons (pe_ix ix_list (pv 5) pe_int (fun _ _ => rfl)) (pa_cons (pe_ix ix_list (pv 5) (pe_un un_neg pe_int) (fun _ _ => rfl)) pa_nil)))))))))), ?_⟩
    refine ⟨_, rfl, p, .rgh b, rfl, hp, ok, ?_⟩
    refine ⟨_, rfl, _, rfl, p, .rgh b, (Ru.rgh b).fin, _, rfl, rfl, hp, ok, ?_⟩
    refine ⟨Nat.zero_le _, fun L nL => ?_⟩
    refine ⟨_, rfl, _, _, rfl, rfl, _, rfl, by omega, by omega, ?_⟩
    rw [show ((now : Int) + 1).toNat = now + 1 by omega]
    refine for_rangeB (lo := 0) (n := now + 1)
      (fun i σ H' => ∃ v6 v7 : Option V, σ = [some (.ref p), some (.int (now : Int)), some (.int (m : Int)), some (.int ((Ru.rgh b).fin : Int)), some (.int ((0 : Nat) : Int)), some (.ref L), v6, v7] ∧ Kp2 L L (upd H L (.lst [])) H' ∧
        H' L = some (.lst ((fl (.rgh b) now m i).map fun (a : Nat) => V.int (a : Int))) ∧ ∀ a, a < i → one (.rgh b) now a ≠ 2 ^ b - 1)
      (fun σ H' => ∃ (c : Nat) (v6 v7 : Option V), σ = [some (.ref p), some (.int (now : Int)), some (.int (m : Int)), some (.int ((Ru.rgh b).fin : Int)), some (.int ((0 : Nat) : Int)), some (.ref L), v6, v7] ∧ Kp2 L L (upd H L (.lst [])) H' ∧
        H' L = some (.lst ((fl (.rgh b) now m c).map fun (a : Nat) => V.int (a : Int))) ∧ Cov (.rgh b) now m c)
      ⟨none, none, rfl, Kp2.refl _ _ _, upd_same, fun a h => absurd h (Nat.not_lt_zero a)⟩ ?_ ?_ ?_
    · rintro bk hbk i σ H' hi ⟨v6, v7, rfl, kk, eL, nf⟩
      have hp' : H' p = some (.tup (Ru.rgh b).tup) := by
        have npL : p ≠ L := ne_of_none hp nL
        exact kk _ _ (by rw [upd_ne npL]; exact hp) npL npL
      have i127 : i ≤ 127 := by
        by_cases h : i ≤ 127
        · exact h
        · exact absurd (one_rgh_far ok.2 (Nat.le_refl 127)) (nf 127 (by omega))
      refine ⟨_, rfl, _, rfl, _, rfl, _, rfl, _, _, rfl, rfl, _, rfl, p, .rgh b, 0, now - i, i, _, _, _, rfl, rfl, by omega, by omega, hp', ok, Nat.zero_le _, by omega, fun H2 s2 => ?_⟩
      have eL2 := s2 _ _ eL
      have kk2 : Kp2 L L (upd H L (.lst [])) H2 := kk.trans (Same.kp2 s2)
      have oi : ag (.rgh b) 0 (now - i) i = one (.rgh b) now i := rfl
      rw [oi]
      refine ⟨_, rfl, _, rfl, rfl, _, rfl, ?_⟩
      rw [dec_int]
      -- the second test, for any list that then stands
      have fin : ∀ (H3 : Hp), Kp2 L L (upd H L (.lst [])) H3 → H3 L = some (.lst ((fl (.rgh b) now m (i + 1)).map fun (a : Nat) => V.int (a : Int))) →
          (if decide (V.int (one (.rgh b) now i : Int) = V.int ((Ru.rgh b).fin : Int)) = true then bk [some (.ref p), some (.int (now : Int)), some (.int (m : Int)), some (.int ((Ru.rgh b).fin : Int)), some (.int ((0 : Nat) : Int)), some (.ref L), some (.int (0 + (i : Int))), some (.int (one (.rgh b) now i : Int))] H3
            else ∃ v6 v7 : Option V, [some (.ref p), some (.int (now : Int)), some (.int (m : Int)), some (.int ((Ru.rgh b).fin : Int)), some (.int ((0 : Nat) : Int)), some (.ref L), some (V.int (0 + (i : Int))), some (V.int (one (.rgh b) now i : Int))] = [some (.ref p), some (.int (now : Int)), some (.int (m : Int)), some (.int ((Ru.rgh b).fin : Int)), some (.int ((0 : Nat) : Int)), some (.ref L), v6, v7] ∧ Kp2 L L (upd H L (.lst [])) H3 ∧
              H3 L = some (.lst ((fl (.rgh b) now m (i + 1)).map fun (a : Nat) => V.int (a : Int))) ∧ ∀ a, a < i + 1 → one (.rgh b) now a ≠ 2 ^ b - 1) := by
        intro H3 k3 e3
        rw [dec_int]
        by_cases z : one (.rgh b) now i = 2 ^ b - 1
        · rw [decide_eq_true (show (one (.rgh b) now i : Int) = ((Ru.rgh b).fin : Int) by rw [z]; rfl), if_pos rfl]
          exact hbk _ _ ⟨i + 1, _, _, rfl, k3, e3, cov_rgh z (by omega)⟩
        · rw [decide_eq_false (show ¬ (one (.rgh b) now i : Int) = ((Ru.rgh b).fin : Int) from fun y => z (Int.ofNat.inj y)), if_neg Bool.false_ne_true]
          refine ⟨_, _, rfl, k3, e3, fun a ha => ?_⟩
          by_cases ea : a = i
          · rw [ea]; exact z
          · exact nf a (by omega)
      by_cases c : one (.rgh b) now i = m
      · rw [decide_eq_true (show (one (.rgh b) now i : Int) = (m : Int) by omega)]
        refine iteT ⟨_, rfl, .inl ⟨rfl, _, SqL.of eL2⟩, _, rfl, L, _, _, rfl, rfl, eL2, ?_, ?_⟩
        · rw [List.length_map]
          exact small1000 (Nat.le_trans (fl_len _ _ _ _) (by omega))
        · have e3 : (upd H2 L (.lst ((fl (.rgh b) now m i).map (fun (a : Nat) => V.int (a : Int)) ++ [V.int (0 + (i : Int))]))) L = some (.lst ((fl (.rgh b) now m (i + 1)).map fun (a : Nat) => V.int (a : Int))) := by
            rw [upd_same, fl_succ, if_pos (by rw [poss_rgh, decide_eq_true c]), List.map_append, Int.zero_add]
            rfl
          exact ⟨_, rfl, _, rfl, rfl, _, rfl, fin _ (fun x o e n1 n2 => by rw [upd_ne n1]; exact kk2 x o e n1 n2) e3⟩
      · rw [decide_eq_false (show ¬ (one (.rgh b) now i : Int) = (m : Int) by omega)]
        refine iteF ?_
        refine ⟨_, rfl, _, rfl, rfl, _, rfl, fin _ kk2 ?_⟩
        rw [fl_succ, if_neg (by rw [poss_rgh, decide_eq_false c]; exact Bool.false_ne_true)]
        exact eL2
    · rintro σ H' ⟨v6, v7, rfl, kk, eL, nf⟩
      exact ⟨now + 1, v6, v7, rfl, kk, eL, cov_end _ _ _⟩
    · rintro σ H' ⟨c, v6, v7, rfl, kk, eL, cov⟩
      have sm : Same H H' := fun x o e => by
        have nx : x ≠ L := ne_of_none e nL
        exact kk x o (by rw [upd_ne nx]; exact e) nx nx
      refine ⟨_, rfl, _, .inl ⟨_, SqL.of eL, rfl⟩, ?_⟩
      cases ef : fl (.rgh b) now m c with
      | nil =>
        refine iteT ⟨(by show 2 ≤ sizeLine; decide), fun T nT => ?_⟩
        exact q _ T none none (span_nil cov ef) (sm.free nT) (sm.trans (same_upd nT)) upd_same
      | cons lo r =>
        rw [ef] at eL
        obtain ⟨f1, f2⟩ := fl_head ef
        have a0 : atI ((lo :: r).map fun (a : Nat) => V.int (a : Int)) 0 = some (.int (lo : Int)) := atI_nat (j := 0) rfl
        refine iteF ⟨_, rfl, _, rfl, rfl, _, rfl, ?_⟩
        rw [dec_int]
        by_cases e : m = 2 ^ b - 1
        · rw [decide_eq_true (show (m : Int) = ((Ru.rgh b).fin : Int) by rw [e]; rfl)]
          refine iteT ⟨_, rfl, L, _, _, _, rfl, rfl, SqL.of eL, a0, (by show 2 ≤ sizeLine; decide), fun T nT => ?_⟩
          exact q _ T (some lo) none (span_some cov f1 f2 (.inl ⟨e, rfl⟩)) (sm.free nT) (sm.trans (same_upd nT)) upd_same
        · rw [decide_eq_false (show ¬ (m : Int) = ((Ru.rgh b).fin : Int) from fun y => e (Int.ofNat.inj y))]
          have hl : lo :: r = (lo :: r).dropLast ++ [(lo :: r).getLast (List.cons_ne_nil _ _)] := (List.dropLast_concat_getLast _).symm
          generalize (lo :: r).dropLast = ini at hl
          generalize (lo :: r).getLast (List.cons_ne_nil _ _) = hi at hl
          have al : atI ((lo :: r).map fun (a : Nat) => V.int (a : Int)) (-1) = some (.int (hi : Int)) := by
            rw [hl, List.map_append]
            exact atI_last _ _
          have g := fl_last (ef.trans hl)
          refine iteF ⟨_, rfl, L, _, _, _, rfl, rfl, SqL.of eL, a0, _, rfl, 1, rfl, L, _, _, _, rfl, rfl, SqL.of eL, al, (by show 2 ≤ sizeLine; decide), fun T nT => ?_⟩
          exact q _ T (some lo) (some hi) (span_some cov f1 f2 (.inr ⟨e, hi, rfl, g.1, g.2⟩)) (sm.free nT) (sm.trans (same_upd nT)) upd_same
end
/-! ### the program: off and reach -/
def spMoments : Sp := fun vs H Q _ => ∃ (p : Addr) (b : Nat), vs = [.ref p] ∧ RuAt H p (.rgh b) ∧ (Ru.rgh b).ok ∧ ∀ H' q, H q = none → Same H H' → H' q = some (.lst (rgV ((2 * tT b : Nat) : Int) ((3 * tT b : Nat) : Int))) → Q (.ref q) H'
def WidthP (b now w n : Nat) : Prop := (∀ m lo hi, m < n → IsSpan (.rgh b) now m (some lo) (some hi) → hi - lo ≤ w) ∧ (w = 0 ∨ ∃ m lo hi, m < n ∧ IsSpan (.rgh b) now m (some lo) (some hi) ∧ w = hi - lo)
def spWidth : Sp := fun vs H Q _ => ∃ (p : Addr) (b now : Nat) (i : Int), vs = [.ref p, .int i] ∧ i = (now : Int) ∧ RuAt H p (.rgh b) ∧ (Ru.rgh b).ok ∧ now ≤ 1000000000 ∧ ∀ w H', WidthP b now w (2 ^ b - 1) → Same H H' → Q (.int (w : Int)) H'
def spOff : Sp := fun vs H Q _ => ∃ (p : Addr) (R : Ru), vs = [.ref p] ∧ RuAt H p R ∧ R.ok ∧ ∀ v H', IsOff R v → Same H H' → Q (.int (v : Int)) H'
def spReach : Sp := fun vs H Q _ => ∃ (p : Addr) (R : Ru), vs = [.ref p] ∧ RuAt H p R ∧ R.ok ∧ ∀ v H', IsReach R v → Same H H' → Q (.int (v : Int)) H'
theorem rg_get {lo hi j : Nat} {y : V} (h : (rgV (lo : Int) (hi : Int))[j]? = some y) : y = .int ((lo + j : Nat) : Int) ∧ j < hi - lo := by
  unfold rgV at h
  rw [List.getElem?_map] at h
  cases e : (List.range ((hi : Int) - (lo : Int)).toNat)[j]? with
  | none =>
    rw [e] at h
    cases h
  | some k =>
    rw [e] at h
    obtain ⟨l, ek⟩ := List.getElem?_eq_some_iff.mp e
    rw [List.getElem_range] at ek
    rw [List.length_range] at l
    subst ek
    exact ⟨(Option.some.inj h).symm, by omega⟩
theorem width_step {b now w i : Nat} {x y : Option Nat} (h : WidthP b now w i) (hi : i < 2 ^ b - 1) (s : IsSpan (.rgh b) now i x y) : (y = none → WidthP b now w (i + 1)) ∧ ∀ lo hi', x = some lo → y = some hi' → WidthP b now (max w (hi' - lo)) (i + 1) := by
  constructor
  · rintro rfl
    refine ⟨fun m lo hi' hm sp => ?_, ?_⟩
    · by_cases e : m = i
      · subst e
        have := (s.uniq sp).2
        cases this
      · exact h.1 m lo hi' (by omega) sp
    · rcases h.2 with h2 | ⟨m, lo, hi', hm, sp, e⟩
      · exact .inl h2
      · exact .inr ⟨m, lo, hi', by omega, sp, e⟩
  · rintro lo hi' rfl rfl
    refine ⟨fun m lo2 hi2 hm sp => ?_, ?_⟩
    · by_cases e : m = i
      · subst e
        obtain ⟨e1, e2⟩ := s.uniq sp
        cases e1
        cases e2
        omega
      · have := h.1 m lo2 hi2 (by omega) sp
        omega
    · by_cases c : hi' - lo ≤ w
      · rw [Nat.max_eq_left c]
        rcases h.2 with h2 | ⟨m, lo, hi', hm, sp, e⟩
        · exact .inl h2
        · exact .inr ⟨m, lo, hi', by omega, sp, e⟩
      · rw [Nat.max_eq_right (by omega)]
        exact .inr ⟨i, lo, hi', Nat.lt_succ_self i, s, rfl⟩
theorem get_mem {ws : List Nat} {j : Nat} {w : Nat} (h : ws[j]? = some w) : Int.ofNat w ∈ ws.map Int.ofNat := List.mem_map.mpr ⟨w, List.mem_of_getElem? h, rfl⟩
theorem len_app {ws : List Nat} {i : Nat} {P : Nat → Nat → Prop} (hl : ws.length = i) (h : ∀ j, j < i → ∃ w, ws[j]? = some w ∧ P j w) {w : Nat} (hw : P i w) : (ws ++ [w]).length = i + 1 ∧ ∀ j, j < i + 1 → ∃ w', (ws ++ [w])[j]? = some w' ∧ P j w' := by
  refine ⟨by rw [List.length_append, hl]; rfl, fun j hj => ?_⟩
  by_cases e : j = i
  · subst e
    exact ⟨w, by rw [← hl]; simp, hw⟩
  · obtain ⟨w', g, p⟩ := h j (by omega)
    exact ⟨w', by rw [List.getElem?_append_left (by omega)]; exact g, p⟩
section
variable {P : Program} {w : World} {K : PySem.W.Frag} {mg : Str → Option Value} {base : Heap}
theorem sc_moments : FnScope ["rule", "turn"] ["rule"] (defScope s_rough_moments) := ⟨rfl, rfl, rfl, by decide +kernel, rfl, by decide +kernel, by decide +kernel⟩
theorem ok_moments (D : DefAt K mg "_rough_moments" s_rough_moments ["rule"]) (m_list : mg "list" = none) (m_range : mg "range" = none) (C1 : Cl P w K mg base 2 "end_mark" ["rule"] spEndMark) : Cl P w K mg base 3 "_rough_moments" ["rule"] spMoments := by
  refine D.cl fun f fd F => ?_
  refine F.ok sc_moments (fun vs H Q E h => ?_) (fun cdv A outer s H vs Q E hr h => ?_)
  · obtain ⟨p, b, rfl, _⟩ := h
    rfl
  · obtain ⟨p, b, rfl, hp, ok, q⟩ := h
    obtain ⟨b1, b3⟩ : 1 ≤ b ∧ b ≤ 3 := ok
    have tl := T_le b3
    have p8 : 2 ^ b ≤ 2 ^ 3 := Nat.pow_le_pow_right (by decide) b3
    have p2 : 2 ^ 1 ≤ 2 ^ b := Nat.pow_le_pow_right (by decide) b1
    refine ⟨_, pss_cons (ps_set (i := 1) sc_moments.nd rfl (Or.inl rfl) (pe_op op_shl pe_int (pe_op op_sub (pe_cl C1 hr (pa_cons (pv 0) pa_nil)) pe_int)))
      (pss_one (ps_ret (pe_listRg rfl (by rfl) m_list (prg_2 (by rfl) m_range (pe_op op_mul pe_int (pv 1)) (pe_op op_mul pe_int (pv 1)))))), ?_⟩
    have ef : (((Ru.rgh b).fin : Nat) : Int) - 1 = ((2 ^ b - 2 : Nat) : Int) := by
      show ((2 ^ b - 1 : Nat) : Int) - 1 = _
      omega
    refine ⟨_, rfl, p, .rgh b, rfl, hp, ⟨b1, b3⟩, _, _, rfl, rfl, _, _, rfl, rfl, ⟨by rw [ef]; omega, by rw [ef]; omega, by decide⟩, ?_⟩
    dsimp only
    rw [show (1 : Int) * 2 ^ ((((Ru.rgh b).fin : Nat) : Int) - 1).toNat = ((tT b : Nat) : Int) from shl_is ef]
    refine ⟨_, rfl, _, _, rfl, rfl, .inl ⟨by decide, by decide⟩, _, rfl, _, _, rfl, rfl, .inl ⟨by decide, by decide⟩, _, _, rfl, rfl, RgOk.of_le (by omega) (by omega) (by omega) (by omega), fun q' nq => ?_⟩
    exact q _ q' nq (same_upd nq) upd_same
theorem sc_width : FnScope ["rule", "now", "widest", "mark", "least", "most"] ["rule", "now"] (defScope s_rough_width) := ⟨rfl, rfl, rfl, by decide +kernel, rfl, by decide +kernel, by decide +kernel⟩
theorem ok_width (D : DefAt K mg "_rough_width" s_rough_width ["rule", "now"]) (m_max : mg "max" = none) (m_range : mg "range" = none) (C1 : Cl P w K mg base 2 "end_mark" ["rule"] spEndMark) (C2 : Cl P w K mg base 3 "_rough_span" ["rule", "now", "mark"] spRoughSpan) :
    Cl P w K mg base 4 "_rough_width" ["rule", "now"] spWidth := by
  refine D.cl fun f fd F => ?_
  refine F.ok sc_width (fun vs H Q E h => ?_) (fun cdv A outer s H vs Q E hr h => ?_)
  · obtain ⟨p, b, now, i, rfl, _⟩ := h
    rfl
  · obtain ⟨p, b, now, i, rfl, rfl, hp, ok, hnow, q⟩ := h
    obtain ⟨b1, b3⟩ : 1 ≤ b ∧ b ≤ 3 := ok
    have p8 : 2 ^ b ≤ 2 ^ 3 := Nat.pow_le_pow_right (by decide) b3
    refine ⟨_, pss_cons (ps_set (i := 2) sc_width.nd rfl (Or.inl rfl) pe_int)
      (pss_cons (ps_for PassesOwn.never rfl (pi_range1 (by rfl) m_range (pa_cons (pe_cl C1 hr (pa_cons (pv 0) pa_nil)) pa_nil)) (pg_name (i := 3) sc_width.nd rfl (Or.inl rfl))
        (pss_cons (ps_asg (pe_cl C2 hr (pa_cons (pv 0) (pa_cons (pv 1) (pa_cons (pv 3) pa_nil)))) (pg_tup rfl (pgs_cons (pg_name (i := 4) sc_width.nd rfl (Or.inl rfl)) (pgs_cons (pg_name (i := 5) sc_width.nd rfl (Or.inl rfl)) pgs_nil))))
        (pss_one (ps_if (pt_cmp (pc_notN (pv 5)) rfl) (pss_one (ps_set (i := 2) sc_width.nd rfl (Or.inl rfl) (pe_callB (call_max2 rfl) (by rfl) m_max (by decide +kernel) (pa_cons (pv 2) (pa_cons (pe_op op_sub (pv 5) (pv 4)) pa_nil))))) pss_nil))))
      (pss_one (ps_ret (pv 2)))), ?_⟩
    refine ⟨_, rfl, p, .rgh b, rfl, hp, ⟨b1, b3⟩, _, rfl, by show -(2 ^ 62) ≤ ((2 ^ b - 1 : Nat) : Int); omega, by show ((2 ^ b - 1 : Nat) : Int) < 2 ^ 62; omega, ?_⟩
    rw [Int.toNat_natCast]
    refine for_range (lo := 0) (n := (Ru.rgh b).fin) (fun i σ H' => ∃ (wd : Nat) (v3 v4 v5 : Option V), σ = [some (.ref p), some (.int (now : Int)), some (.int (wd : Int)), v3, v4, v5] ∧ Same H H' ∧ WidthP b now wd i)
      ⟨0, none, none, none, rfl, Same.refl H, fun m _ _ hm => absurd hm (Nat.not_lt_zero m), .inl rfl⟩ ?_ ?_
    · rintro i σ H' hi ⟨wd, v3, v4, v5, rfl, sm, wp⟩
      have hi' : i < 2 ^ b - 1 := hi
      refine ⟨_, rfl, _, rfl, _, rfl, p, .rgh b, now, i, _, _, rfl, rfl, by omega, sm _ _ hp, ⟨b1, b3⟩, rfl, Nat.le_of_lt hi', hnow, fun H2 T x y sp nT s2 eT => ?_⟩
      have st := width_step wp hi' sp
      have sm2 := sm.trans s2
      refine ⟨T, [oV x, oV y], rfl, SqT.of eT, rfl, oV x, [oV y], rfl, oV y, [], rfl, rfl, ?_⟩
      refine ⟨_, rfl, _, rfl, ?_⟩
      cases y with
      | none =>
        rw [decide_eq_true (show oV none = V.non from rfl)]
        exact iteF ⟨wd, _, _, _, rfl, sm2, st.1 rfl⟩
      | some hi2 =>
        rw [decide_eq_false (show ¬ oV (some hi2) = V.non from fun z => nomatch z)]
        refine iteT ?_
        have nx : ∃ lo, x = some lo := by
          rcases sp with ⟨_, e, _⟩ | ⟨lo, e, _⟩
          · cases e
          · exact ⟨lo, e⟩
        obtain ⟨lo, rfl⟩ := nx
        have bo := sp.both
        refine ⟨_, rfl, _, rfl, _, rfl, _, _, rfl, rfl, _, _, rfl, max wd (hi2 - lo), some (.int (0 + (i : Int))), some (oV (some lo)), some (oV (some hi2)), ?_, sm2, st.2 lo hi2 rfl rfl⟩
        have e : (if (hi2 : Int) - (lo : Int) > (wd : Int) then (hi2 : Int) - (lo : Int) else (wd : Int)) = ((max wd (hi2 - lo) : Nat) : Int) := by split <;> omega
        rw [← e]
        rfl
    · rintro σ H' ⟨wd, v3, v4, v5, rfl, sm, wp⟩
      exact ⟨_, rfl, q wd H' wp sm⟩
theorem sc_off : FnScope ["rule", "now"] ["rule"] (defScope s_off) := ⟨rfl, rfl, rfl, by decide +kernel, rfl, by decide +kernel, by decide +kernel⟩
theorem ok_off (D : DefAt K mg "off" s_off ["rule"]) (m_max : mg "max" = none) (C1 : Cl P w K mg base 2 "check_rule" ["rule"] spCheckRule) (C2 : Cl P w K mg base 3 "_rough_moments" ["rule"] spMoments) (C3 : Cl P w K mg base 4 "_rough_width" ["rule", "now"] spWidth) :
    Cl P w K mg base 5 "off" ["rule"] spOff := by
  refine D.cl fun f fd F => ?_
  refine F.ok sc_off (fun vs H Q E h => ?_) (fun cdv A outer s H vs Q E hr h => ?_)
  · obtain ⟨p, R, rfl, _⟩ := h
    rfl
  · obtain ⟨p, R, rfl, hp, ok, q⟩ := h
    refine ⟨_, pss_cons (ps_expr (pe_cl C1 hr (pa_cons (pv 0) pa_nil)))
      (pss_cons (ps_if (pt_cmpR op_eq (pe_ix ix_tup (pv 0) pe_int (fun _ _ => rfl)) pe_str (nomark _)) (pss_one (ps_ret (pe_callB (cr_max rfl) (by rfl) m_max (by decide +kernel) (pa_cons
        (pe_lc (own := [("now", 1)]) (g := gName 1) (tt := tYes) rfl sc_off.nd (pi_list (pe_cl C2 hr (pa_cons (pv 0) pa_nil))) (blkOk_by (N := ["rule", "now"]) (sc := defScope s_off) (by decide +kernel)) (fun _ _ _ _ _ => by exact pg_name (i := 1) sc_off.nd rfl (Or.inl rfl)) (fun _ _ _ _ _ => by exact pts_nil)
          (fun _ _ _ _ _ => by exact pe_cl C3 hr (pa_cons (pv 0) (pa_cons (pv 1) pa_nil)))) pa_nil)))) pss_nil)
      (pss_one (ps_ret (pe_op op_sub (pe_ix ix_tup (pv 0) pe_int (fun _ _ => rfl)) pe_int)))), ?_⟩
    refine ⟨_, rfl, p, R, rfl, hp, ok, fun H1 s1 => ?_⟩
    have hp1 := s1 _ _ hp
    refine ⟨_, rfl, p, _, _, _, rfl, rfl, SqT.of hp1, R.at0, rfl, _, rfl, ?_⟩
    rw [dec_str]
    by_cases hk : R.kind = "rough"
    · rw [decide_eq_true hk]
      refine iteT ?_
      cases R with
      | cnt b s => exact absurd hk k_cr
      | shf b s => exact absurd hk k_sr
      | rgh b =>
      obtain ⟨b1, b3⟩ : 1 ≤ b ∧ b ≤ 3 := ok
      have tp := T_pos b
      have tl := T_le b3
      refine ⟨_, rfl, p, b, rfl, hp1, ⟨b1, b3⟩, fun H2 l nl s2 el => ?_⟩
      refine ⟨l, rfl, ⟨_, SqL.of el⟩, fun D nD => ?_⟩
      have rl : (rgV ((2 * tT b : Nat) : Int) ((3 * tT b : Nat) : Int)).length = tT b := by
        rw [rgV_length]
        omega
      refine lc_list (K := K) (a := l) (xs := rgV ((2 * tT b : Nat) : Int) ((3 * tT b : Nat) : Int)) (fun i H' => Same H2 H' ∧ ∃ ws : List Nat, ws.length = i ∧ H' D = some (.lst ((ws.map Int.ofNat).map V.int)) ∧ ∀ j, j < i → ∃ w', ws[j]? = some w' ∧ WidthP b (2 * tT b + j) w' (2 ^ b - 1))
        ⟨same_upd nD, [], rfl, upd_same, fun j hj => absurd hj (Nat.not_lt_zero j)⟩ (fun i H' _ h => SqL.of (h.1 _ _ el)) ?_ ?_
      · rintro i y H' hy ⟨sm, ws, lw, eD, hw⟩
        obtain ⟨rfl, hi⟩ := rg_get hy
        have hi' : i < tT b := by omega
        refine ⟨rfl, _, rfl, _, rfl, p, b, 2 * tT b + i, _, rfl, rfl, sm _ _ (s2 _ _ hp1), ⟨b1, b3⟩, by omega, fun w' H3 wp s3 => ?_⟩
        obtain ⟨a1, a2⟩ := len_app (P := fun j w' => WidthP b (2 * tT b + j) w' (2 ^ b - 1)) lw hw wp
        refine ⟨_, s3 _ _ eD, ?_, fun x o e => ?_, ws ++ [w'], a1, ?_, a2⟩
        · rw [List.length_map, List.length_map, lw]
          exact small1000 (by omega)
        · rw [upd_ne (ne_of_none e nD)]
          exact s3 _ _ (sm _ _ e)
        · rw [upd_same, List.map_append, List.map_append]
          rfl
      · rintro H' ⟨sm, ws, lw, eD, hw⟩
        rw [rl] at lw hw
        refine ⟨D, ws.map Int.ofNat, rfl, SqL.of eD, by rw [List.length_map, lw]; omega, fun m hm hmax => ?_⟩
        obtain ⟨v, hv, rfl⟩ := List.mem_map.mp hm
        refine q v H' (.inl ⟨rfl, fun d hd => ?_, ?_⟩) ((s1.trans s2).trans sm)
        · obtain ⟨now, mk, lo, hi, n1, n2, hmk, sp, rfl⟩ := hd
          obtain ⟨j, rfl⟩ : ∃ j, now = 2 * tT b + j := ⟨now - 2 * tT b, by have : 2 * tT b ≤ now := n1; omega⟩
          obtain ⟨w', gw, wp⟩ := hw j (by have : 2 * tT b + j < 3 * tT b := n2; omega)
          have h1 := wp.1 mk lo hi hmk sp
          have h2 : (w' : Int) ≤ (v : Int) := hmax _ (get_mem gw)
          omega
        · obtain ⟨j, hj⟩ := List.mem_iff_getElem?.mp hv
          have jl : j < tT b := by
            have := (List.getElem?_eq_some_iff.mp hj).1
            omega
          obtain ⟨w', gw, wp⟩ := hw j jl
          have : w' = v := Option.some.inj (gw.symm.trans hj)
          subst this
          rcases wp.2 with h0 | ⟨mk, lo, hi, hmk, sp, e⟩
          · exact .inl h0
          · exact .inr ⟨2 * tT b + j, mk, lo, hi, Nat.le_add_right _ _, by show 2 * tT b + j < 3 * tT b; omega, hmk, sp, e⟩
    · rw [decide_eq_false hk]
      have hs := R.step_ok ok
      refine iteF ⟨_, rfl, p, _, _, _, rfl, rfl, SqT.of hp1, R.at2 hk, _, _, rfl, rfl, ?_⟩
      dsimp only
      rw [show (R.step : Int) - 1 = ((R.step - 1 : Nat) : Int) by omega]
      refine q _ H1 (.inr ⟨?_, rfl⟩) s1
      cases e : R.isRgh with
      | false => rfl
      | true => exact absurd ((R.rough_iff).mpr e) hk
theorem sc_reach : FnScope ["rule", "end", "now"] ["rule"] (defScope s_reach) := ⟨rfl, rfl, rfl, by decide +kernel, rfl, by decide +kernel, by decide +kernel⟩
theorem ok_reach (D : DefAt K mg "reach" s_reach ["rule"]) (m_min : mg "min" = none) (C1 : Cl P w K mg base 2 "check_rule" ["rule"] spCheckRule) (C2 : Cl P w K mg base 3 "_rough_moments" ["rule"] spMoments) (C3 : Cl P w K mg base 3 "_rough_span" ["rule", "now", "mark"] spRoughSpan)
    (C4 : Cl P w K mg base 2 "end_mark" ["rule"] spEndMark) (C5 : Cl P w K mg base 3 "_agings" ["rule", "mark"] spAgings) : Cl P w K mg base 4 "reach" ["rule"] spReach := by
  refine D.cl fun f fd F => ?_
  refine F.ok sc_reach (fun vs H Q E h => ?_) (fun cdv A outer s H vs Q E hr h => ?_)
  · obtain ⟨p, R, rfl, _⟩ := h
    rfl
  · obtain ⟨p, R, rfl, hp, ok, q⟩ := h
    refine ⟨_, pss_cons (ps_expr (pe_cl C1 hr (pa_cons (pv 0) pa_nil)))
      (pss_cons (ps_set (i := 1) sc_reach.nd rfl (Or.inr rfl) (pe_cl C4 hr (pa_cons (pv 0) pa_nil)))
      (pss_cons (ps_if (pt_cmpR op_eq (pe_ix ix_tup (pv 0) pe_int (fun _ _ => rfl)) pe_str (nomark _)) (pss_one (ps_ret (pe_op op_sub (pe_callB (cr_min rfl) (by rfl) m_min (by decide +kernel) (pa_cons
        (pe_lc (own := [("now", 2)]) (g := gName 2) (tt := tYes) rfl sc_reach.nd (pi_list (pe_cl C2 hr (pa_cons (pv 0) pa_nil))) (blkOk_by (N := ["rule", "end", "now"]) (sc := defScope s_reach) (by decide +kernel)) (fun _ _ _ _ _ => by exact pg_name (i := 2) sc_reach.nd rfl (Or.inl rfl)) (fun _ _ _ _ _ => by exact pts_nil)
          (te := tOp (rIxT K) (tCall spRoughSpan [] E0 (tCons (tVar 0) (tCons (tVar 2) (tCons (tVar 1) tNil)))) (tC (.int 0)))
          (fun _ _ _ _ _ => by exact pe_ix ix_tup (pe_cl C3 hr (pa_cons (pv 0) (pa_cons (pv 2) (pa_cons (pv 1) pa_nil)))) pe_int (fun _ _ => rfl))) pa_nil)) pe_int))) pss_nil)
      (pss_one (ps_ret (pe_op op_mul (pe_op op_sub (pe_cl C5 hr (pa_cons (pv 0) (pa_cons (pv 1) pa_nil))) pe_int) (pe_ix ix_tup (pv 0) pe_int (fun _ _ => rfl))))))), ?_⟩
    refine ⟨_, rfl, p, R, rfl, hp, ok, fun H1 s1 => ?_⟩
    have hp1 := s1 _ _ hp
    refine ⟨_, rfl, p, R, rfl, hp1, ok, ?_⟩
    refine ⟨_, rfl, p, _, _, _, rfl, rfl, SqT.of hp1, R.at0, rfl, _, rfl, ?_⟩
    rw [dec_str]
    by_cases hk : R.kind = "rough"
    · rw [decide_eq_true hk]
      refine iteT ?_
      cases R with
      | cnt b s => exact absurd hk k_cr
      | shf b s => exact absurd hk k_sr
      | rgh b =>
      obtain ⟨b1, b3⟩ : 1 ≤ b ∧ b ≤ 3 := ok
      have tp := T_pos b
      have tl := T_le b3
      refine ⟨_, rfl, p, b, rfl, hp1, ⟨b1, b3⟩, fun H2 l nl s2 el => ?_⟩
      refine ⟨l, rfl, ⟨_, SqL.of el⟩, fun D nD => ?_⟩
      have rl : (rgV ((2 * tT b : Nat) : Int) ((3 * tT b : Nat) : Int)).length = tT b := by
        rw [rgV_length]
        omega
      refine lc_list (K := K) (a := l) (xs := rgV ((2 * tT b : Nat) : Int) ((3 * tT b : Nat) : Int)) (fun i H' => Same H2 H' ∧ ∃ ws : List Nat, ws.length = i ∧ H' D = some (.lst ((ws.map Int.ofNat).map V.int)) ∧ ∀ j, j < i → ∃ w', ws[j]? = some w' ∧ IsSpan (.rgh b) (2 * tT b + j) (2 ^ b - 1) (some w') none)
        ⟨same_upd nD, [], rfl, upd_same, fun j hj => absurd hj (Nat.not_lt_zero j)⟩ (fun i H' _ h => SqL.of (h.1 _ _ el)) ?_ ?_
      · rintro i y H' hy ⟨sm, ws, lw, eD, hw⟩
        obtain ⟨rfl, hi⟩ := rg_get hy
        have hi' : i < tT b := by omega
        refine ⟨rfl, _, rfl, _, rfl, _, rfl, p, .rgh b, 2 * tT b + i, 2 ^ b - 1, _, _, rfl, rfl, rfl, sm _ _ (s2 _ _ hp1), ⟨b1, b3⟩, rfl, Nat.le_refl _, by omega, fun H3 T x y sp nT s3 eT => ?_⟩
        have yn : y = none := sp.hi_none rfl
        subst yn
        have pe : poss (.rgh b) (2 * tT b + i) (2 ^ b - 1) (2 * tT b - 1) = true := by
          rw [poss_rgh, one_far2 b1 (Nat.le_refl _), decide_eq_true rfl]
        obtain ⟨w', rfl, _⟩ := sp.lo_le (show 2 * tT b - 1 ≤ 2 * tT b + i by omega) pe
        obtain ⟨a1, a2⟩ := len_app (P := fun j w' => IsSpan (.rgh b) (2 * tT b + j) (2 ^ b - 1) (some w') none) lw hw sp
        refine ⟨T, _, _, _, rfl, rfl, SqT.of eT, atI_nat (j := 0) rfl, _, s3 _ _ eD, ?_, fun x o e => ?_, ws ++ [w'], a1, ?_, a2⟩
        · rw [List.length_map, List.length_map, lw]
          exact small1000 (by omega)
        · rw [upd_ne (ne_of_none e nD)]
          exact s3 _ _ (sm _ _ e)
        · rw [upd_same, List.map_append, List.map_append]
          rfl
      · rintro H' ⟨sm, ws, lw, eD, hw⟩
        rw [rl] at lw hw
        refine ⟨D, ws.map Int.ofNat, rfl, SqL.of eD, by rw [List.length_map, lw]; omega, fun m hm hmin => ?_⟩
        obtain ⟨v, hv, rfl⟩ := List.mem_map.mp hm
        obtain ⟨j, hj⟩ := List.mem_iff_getElem?.mp hv
        have jl : j < tT b := by
          have := (List.getElem?_eq_some_iff.mp hj).1
          omega
        obtain ⟨w', gw, sp⟩ := hw j jl
        have : w' = v := Option.some.inj (gw.symm.trans hj)
        subst this
        have w1 : 1 ≤ w' := by
          rcases sp with ⟨e, _⟩ | ⟨lo, e, h1, h2, _⟩
          · cases e
          · cases e
            by_cases z : w' = 0
            · rw [z, poss_rgh] at h2
              have e2 : 0 = 2 ^ b - 1 := of_decide_eq_true h2
              have p2 : 2 ^ 1 ≤ 2 ^ b := Nat.pow_le_pow_right (by decide) b1
              omega
            · omega
        refine ⟨_, _, rfl, rfl, ?_⟩
        dsimp only
        rw [show Int.ofNat w' - 1 = ((w' - 1 : Nat) : Int) by show (w' : Int) - 1 = _; omega]
        refine q (w' - 1) H' (.inl ⟨rfl, fun l' hl' => ?_, ?_⟩) ((s1.trans s2).trans sm)
        · obtain ⟨now, n1, n2, sp'⟩ := hl'
          obtain ⟨j', rfl⟩ : ∃ j', now = 2 * tT b + j' := ⟨now - 2 * tT b, by have : 2 * tT b ≤ now := n1; omega⟩
          obtain ⟨w2, gw2, sp2⟩ := hw j' (by have : 2 * tT b + j' < 3 * tT b := n2; omega)
          have e2 := (sp2.uniq sp').1
          cases e2
          have h2 : (w' : Int) ≤ (l' : Int) := hmin _ (get_mem gw2)
          omega
        · rw [show w' - 1 + 1 = w' by omega]
          exact ⟨2 * tT b + j, Nat.le_add_right _ _, by show 2 * tT b + j < 3 * tT b; omega, sp⟩
    · rw [decide_eq_false hk]
      have hs := R.step_ok ok
      have nr : R.isRgh = false := by
        cases e : R.isRgh with
        | false => rfl
        | true => exact absurd ((R.rough_iff).mpr e) hk
      have a1 := ags_fin ok nr
      refine iteF ⟨_, rfl, _, rfl, p, R, R.fin, _, rfl, rfl, hp1, ok, nr, fin_most R, _, _, rfl, rfl, _, rfl, p, _, _, _, rfl, rfl, SqT.of hp1, R.at2 hk, _, _, rfl, rfl, .inr (le64 (by omega) (by omega)), ?_⟩
      dsimp only
      rw [show (R.ags R.fin : Int) - 1 = ((R.ags R.fin - 1 : Nat) : Int) by omega]
      exact q ((R.ags R.fin - 1) * R.step) H1 (.inr ⟨nr, rfl⟩) s1
end
/-! ### what stands behind a change; lists of marks -/
/-- all but some objects stands as it was -/
def KpL (L : List Addr) (H H' : Hp) : Prop := ∀ b o, H b = some o → ¬ b ∈ L → H' b = some o
theorem KpL.refl (L : List Addr) (H : Hp) : KpL L H H := fun _ _ e _ => e
theorem KpL.trans {L : List Addr} {H H1 H2 : Hp} (a : KpL L H H1) (b : KpL L H1 H2) : KpL L H H2 := fun x o e n => b x o (a x o e n) n
theorem KpL.mono {L L' : List Addr} {H H1 : Hp} (a : KpL L H H1) (h : ∀ x, x ∈ L → x ∈ L') : KpL L' H H1 := fun x o e n => a x o e fun z => n (h x z)
theorem Same.kpL {L : List Addr} {H H1 : Hp} (a : Same H H1) : KpL L H H1 := fun b o e _ => a b o e
theorem KpL.free {L : List Addr} {H H1 : Hp} (a : KpL L H H1) {x : Addr} (h : H1 x = none) (n : ¬ x ∈ L) : H x = none := by
  cases q : H x with
  | none => rfl
  | some o =>
    rw [a x o q n] at h
    cases h
def nvs (ms : List Nat) : List V := (ms.map Int.ofNat).map V.int
theorem rep_one (k : Nat) (v : V) : (List.replicate k [v]).flatten = List.replicate k v := by
  induction k with
  | zero => rfl
  | succ k ih => rw [List.replicate_succ, List.flatten_cons, ih, List.replicate_succ]; rfl
theorem nvs_len (ms : List Nat) : (nvs ms).length = ms.length := by
  unfold nvs
  rw [List.length_map, List.length_map]
theorem nvs_get {ms : List Nat} {j : Nat} (h : j < ms.length) : (nvs ms)[j]? = some (.int ((ms.getD j 0 : Nat) : Int)) := by
  unfold nvs
  rw [List.getElem?_map, List.getElem?_map, List.getElem?_eq_getElem h, List.getD_eq_getElem?_getD, List.getElem?_eq_getElem h]
  rfl
theorem nvs_set (ms : List Nat) (j x : Nat) : (nvs ms).set j (.int (x : Int)) = nvs (ms.set j x) := by
  unfold nvs
  rw [List.map_set, List.map_set]
  rfl
theorem getD_mem {ms : List Nat} {j : Nat} (h : j < ms.length) : ms.getD j 0 ∈ ms := by
  rw [List.getD_eq_getElem?_getD, List.getElem?_eq_getElem h]
  exact List.getElem_mem h
theorem Kp2.kpL {h c : Addr} {H H' : Hp} (k : Kp2 h c H H') : KpL [h, c] H H' := fun b o e n => k b o e (fun z => n (by rw [z]; simp)) (fun z => n (by rw [z]; simp))
theorem nin2 {x a b : Addr} (h1 : x ≠ a) (h2 : x ≠ b) : ¬ x ∈ [a, b] := by
  intro z
  rcases List.mem_cons.mp z with z | z
  · exact h1 z
  · exact h2 (List.mem_singleton.mp z)
/-! ### a seen mark is fresh -/
theorem seen_shf {b s m : Nat} : seenM (.shf b s) m = if m < 2 ^ b then m + 2 ^ b else m := rfl
theorem seen_fresh {R : Ru} {m : Nat} (hm : m ≤ R.most) : Fresh R (seenM R m) := by
  cases R with
  | cnt b s => exact (rfl : (0 : Nat) = 0)
  | rgh b => exact (rfl : (0 : Nat) = 0)
  | shf b s =>
    have hm' : m ≤ 2 ^ (b + 1) - 1 := hm
    have pb := Nat.two_pow_pos b
    rw [Nat.pow_succ] at hm'
    show 2 ^ b ≤ seenM (.shf b s) m ∧ seenM (.shf b s) m < 2 * 2 ^ b
    rw [seen_shf]
    split <;> omega
/-! ### methods and errors by their promises -/
/-- a method by its promise alone -/
def ClM (P : Program) (w : World) (K : PySem.W.Frag) (mg : Str → Option Value) (base : Heap) (CX : CXT) (k : Nat) (C : Addr) (m : Str) (ps : List Str) (sp : Sp) : Prop :=
  ∃ (f : Addr) (fd : FuncData), FnOk P w K mg base CX k f fd ps sp ∧ Meth K C m f ∧ Binds K fd ps []
theorem pe_cm {X : Cx} {CX : CXT} {E : XK} {j k : Nat} {C : Addr} {m : Str} {ps : List Str} {sp : Sp} {o e : Expr} {es : List Expr} {ta : TE} {t : TA} {apos pos : Pos} {pl : Sem Bool} (D : ClM X.prog X.w X.K X.mg X.base CX k C m ps sp) (c : Cls X.K C)
    (hx : Passes CX X E) (hr : Room j X.A) (he : PE X o ta) (ha : PA X (e :: es) t) (hk : k ≤ j := by decide)
    (hst : starEach (e :: es) X.env = (false, eval e X.env) :: starEach es X.env := by rfl) (hpl : (backTo pos (starEach es X.env)).any (·.1) = false := by rfl)
    (ht : eval (.Call (.Attribute o m apos) (e :: es) [] pos) X.env = (do
      let ov ← eval o X.env
      standAt apos.atName
      let (f, first) ← holding [ov] (getMethod ov m pl)
      callWith pos f first (backTo pos (starEach (e :: es) X.env)) (backToKw pos (keywordEach [] X.env))) := by rfl) :
    PE X (.Call (.Attribute o m apos) (e :: es) [] pos) (tMeth C m sp [] E ta t) := by
  obtain ⟨f, fd, G, M, b⟩ := D
  exact pe_meth he c M G (hr.mono hk) b .nil hx ha hst hpl ht
theorem pe_cm0 {X : Cx} {CX : CXT} {E : XK} {j k : Nat} {C : Addr} {m : Str} {ps : List Str} {sp : Sp} {o : Expr} {ta : TE} {apos pos : Pos} {pl : Sem Bool} (D : ClM X.prog X.w X.K X.mg X.base CX k C m ps sp) (c : Cls X.K C)
    (hx : Passes CX X E) (hr : Room j X.A) (he : PE X o ta) (hk : k ≤ j := by decide)
    (ht : eval (.Call (.Attribute o m apos) [] [] pos) X.env = (do
      let ov ← eval o X.env
      standAt apos.atName
      let (f, first) ← holding [ov] (getMethod ov m pl)
      callWith pos f first (backTo pos (starEach [] X.env)) (backToKw pos (keywordEach [] X.env))) := by rfl) :
    PE X (.Call (.Attribute o m apos) [] [] pos) (tMeth C m sp [] E ta tNil) := by
  obtain ⟨f, fd, G, M, b⟩ := D
  exact pe_meth0 he c M G (hr.mono hk) b .nil hx ht
/-- a method as the top has left it -/
def DefM (K : PySem.W.Frag) (C : Addr) (m q : Str) (st : Stmt) (ps : List Str) : Prop :=
  ∃ (f : Addr) (fd : FuncData), Fun K m q st f fd ∧ Meth K C m f ∧ Binds K fd ps []
theorem DefM.cl {P : Program} {w : World} {K : PySem.W.Frag} {mg : Str → Option Value} {base : Heap} {CX : CXT} {k : Nat} {C : Addr} {m q : Str} {st : Stmt} {ps : List Str} {sp : Sp} (D : DefM K C m q st ps)
    (h : ∀ f fd, Fun K m q st f fd → FnOk P w K mg base CX k f fd ps sp) : ClM P w K mg base CX k C m ps sp := by
  obtain ⟨f, fd, F, g, b⟩ := D
  exact ⟨f, fd, h f fd F, g, b⟩
theorem defM_mk {K : PySem.W.Frag} {C : Addr} {m q : Str} {st : Stmt} {ps : List Str} {f : Addr} {od an : Option Addr} {sl : Array (Option Value)} {oc kV dc pm cd ct : Value}
    (a : PySem.W.findIn K (.ref C) m = some (some (.ref f))) (i : PySem.W.isFn K (.ref f) = true) (l : K.lookup f = some ⟨oc, od, .func (PySem.W.fnOf m q (defArgs st) (defBody st) (defScope st) .none kV dc pm an cd ct), sl⟩) (c : PySem.W.codeIn K cd q = true) (k : PySem.W.keepIn K (.ref f) = true)
    (hb : ∀ (kV doc pm : Value) (an : Option Addr) (cdv ct : Value) (us : List Value), us.length = ps.length → bindArgs (PySem.W.fnOf m q (defArgs st) (defBody st) (defScope st) .none kV doc pm an cdv ct) ⟨us, []⟩ = pure (ps.zip us)) : DefM K C m q st ps := by
  have F := fun_mk (st := st) l c k
  exact ⟨f, _, F, ⟨a, i, k⟩, F.binds hb⟩
/-- an own error's class -/
structure ErrC (K : PySem.W.Frag) (mg : Str → Option Value) (x : Str) (c : Addr) : Prop where
  g : mg x = some (.ref c)
  x : PySem.W.excIn K c [.type "ValueError", .type "Exception", .type "BaseException", .type "object"] "ValueError.__new__" = true
  k : PySem.W.keepIn K (.ref c) = true
  b : PySem.W.subIn K (.ref c) (.type "BaseException") = some true
  t : PySem.W.typeIn K (.ref c) = some (.type "type")
theorem ps_err {X : Cx} {W : WX} {x m : Str} {c : Addr} {j : Nat} {p p2 pos pos2 : Pos} (hc : X.calm = true) (tk : Takes X W) (e : ErrC X.K X.mg x c) (hg : Gl X x) (hdb : (x == ("__debug__" : Str)) = false := by decide) :
    PS X (.Raise (some (.Call (.Name x p) [.Constant (.str m) j p2] [] pos)) none pos2) (fun _ σ H => W (.ref c) none σ H) :=
  ps_raise hc tk (pmk_own PySem.F.excBase_ValueError e.x e.g e.k (raises_own e.b e.t) hg hdb)
/-- a def that may raise, by its promise -/
def ClX (P : Program) (w : World) (K : PySem.W.Frag) (mg : Str → Option Value) (base : Heap) (k : Nat) (x : Str) (ps : List Str) (sp : Sp) : Prop :=
  ∃ (f : Addr) (fd : FuncData), FnOk P w K mg base (L2.CX P w) k f fd ps sp ∧ mg x = some (.ref f) ∧ PySem.W.keepIn K (.ref f) = true ∧ Binds K fd ps []
theorem pe_clx {X : Cx} {E : XK} {j k : Nat} {x : Str} {ps : List Str} {sp : Sp} {e : Expr} {es : List Expr} {t : TA} {p pos : Pos} (D : ClX X.prog X.w X.K X.mg X.base k x ps sp) (hx : Passes (L2.CX X.prog X.w) X E) (hr : Room j X.A) (ha : PA X (e :: es) t) (hk : k ≤ j := by decide) (hg : Gl X x := by rfl)
    (hdb : (x == ("__debug__" : Str)) = false := by decide) (he : starEach (e :: es) X.env = (false, eval e X.env) :: starEach es X.env := by rfl) (hpl : (backTo pos (starEach es X.env)).any (·.1) = false := by rfl) :
    PE X (.Call (.Name x p) (e :: es) [] pos) (tCall sp [] E t) := by
  obtain ⟨f, fd, G, g, kp, b⟩ := D
  exact pe_call G (hr.mono hk) hg g kp b .nil hx ha hdb he hpl
theorem DefAt.clx {P : Program} {w : World} {K : PySem.W.Frag} {mg : Str → Option Value} {base : Heap} {k : Nat} {x : Str} {st : Stmt} {ps : List Str} {sp : Sp} (D : DefAt K mg x st ps)
    (h : ∀ f fd, Fun K x x st f fd → FnOk P w K mg base (L2.CX P w) k f fd ps sp) : ClX P w K mg base k x ps sp := by
  obtain ⟨f, fd, F, g, b⟩ := D
  exact ⟨f, fd, h f fd F, g, F.kp, b⟩
/-! ### whether two things are alike: the same data on both sides -/
theorem Same.seqT {K : PySem.W.Frag} {H H' : Hp} {a : Addr} {xs : List V} (e : Same H H') (h : SqT K H a xs) : SqT K H' a xs := by
  rcases h with (h | ⟨o, h⟩) | h
  · exact .inl (.inl (e _ _ h))
  · exact .inl (.inr ⟨o, e _ _ h⟩)
  · exact .inr h
mutual
theorem Dp.same {K : PySem.W.Frag} {H H' : Hp} (e : Same H H') : ∀ (d : PyData) (v : V), Dp K H v d → Dp K H' v d
  | .none, _, h => by cases h; exact .non
  | .bool b, _, h => by cases h; exact .bl b
  | .int i, _, h => by cases h; exact .int i
  | .str x, _, h => by cases h; exact .str x
  | .list ds, _, h => by
    cases h with
    | lst hs ha => exact .lst (Same.seq e hs) (DpAll.same e ds _ ha)
  | .tuple ds, _, h => by
    cases h with
    | tup hs ha => exact .tup (Same.seqT e hs) (DpAll.same e ds _ ha)
  | .dict _, _, h => by cases h
theorem DpAll.same {K : PySem.W.Frag} {H H' : Hp} (e : Same H H') : ∀ (ds : List PyData) (vs : List V), DpAll K H vs ds → DpAll K H' vs ds
  | [], _, h => by cases h; exact .nil
  | d :: ds, _, h => by
    cases h with
    | cons h1 h2 => exact .cons (Dp.same e d _ h1) (DpAll.same e ds _ h2)
end
theorem dpAll_len {K : PySem.W.Frag} {H : Hp} : ∀ {ds : List PyData} {vs : List V}, DpAll K H vs ds → vs.length = ds.length
  | [], _, h => by cases h; rfl
  | d :: ds, _, h => by
    cases h with
    | cons h1 h2 => exact congrArg (· + 1) (dpAll_len h2)
theorem dpAll_get {K : PySem.W.Frag} {H : Hp} : ∀ {ds : List PyData} {vs : List V} {i : Nat}, DpAll K H vs ds → i < ds.length → ∃ v d, vs[i]? = some v ∧ ds[i]? = some d ∧ Dp K H v d
  | [], _, _, _, l => absurd l (Nat.not_lt_zero _)
  | d :: ds, _, 0, h, _ => by
    cases h with
    | cons h1 h2 => exact ⟨_, d, rfl, rfl, h1⟩
  | d :: ds, _, i + 1, h, l => by
    cases h with
    | cons h1 h2 =>
      obtain ⟨v, d', e1, e2, e3⟩ := dpAll_get h2 (Nat.lt_of_succ_lt_succ l)
      exact ⟨v, d', e1, e2, e3⟩
theorem depth_get : ∀ {ds : List PyData} {i : Nat} {d : PyData}, ds[i]? = some d → PyData.depth d ≤ PyData.depthAll ds
  | [], _, _, h => by simp at h
  | x :: ds, 0, d, h => by
    have e : x = d := Option.some.inj h
    subst e
    simp only [PyData.depthAll]
    omega
  | x :: ds, i + 1, d, h => by
    have ih := depth_get (ds := ds) (i := i) (d := d) h
    simp only [PyData.depthAll]
    omega
mutual
/-- lists of at most a thousand items -/
def szOk : PyData → Bool
  | .list xs => decide (xs.length ≤ 1000) && szAll xs
  | .tuple xs => decide (xs.length ≤ 1000) && szAll xs
  | _ => true
def szAll : List PyData → Bool
  | [] => true
  | x :: r => szOk x && szAll r
end
theorem szOk_lst {ds : List PyData} (h : szOk (.list ds) = true) : ds.length ≤ 1000 ∧ szAll ds = true := by
  simp only [szOk, Bool.and_eq_true, decide_eq_true_eq] at h
  exact h
theorem szOk_tup {ds : List PyData} (h : szOk (.tuple ds) = true) : ds.length ≤ 1000 ∧ szAll ds = true := by
  simp only [szOk, Bool.and_eq_true, decide_eq_true_eq] at h
  exact h
theorem sz_get : ∀ {ds : List PyData} {i : Nat} {d : PyData}, ds[i]? = some d → szAll ds = true → szOk d = true
  | [], _, _, h, _ => by simp at h
  | x :: ds, 0, d, h, a => by
    have e : x = d := Option.some.inj h
    subst e
    simp only [szAll, Bool.and_eq_true] at a
    exact a.1
  | x :: ds, i + 1, d, h, a => by
    simp only [szAll, Bool.and_eq_true] at a
    exact sz_get (ds := ds) (i := i) (d := d) h a.2
theorem ty_list {K : PySem.W.Frag} {H : Hp} {a : Addr} {xs : List V} (h : SqL K H a xs) : TyX K H (.ref a) (.type "list") := by
  rcases h with (h | ⟨o, h⟩) | ⟨o, its, n, hk, hc, _⟩
  · exact .base (.lst h)
  · exact .base (.frz h)
  · exact .kList hk hc
theorem ty_tup {K : PySem.W.Frag} {H : Hp} {a : Addr} {xs : List V} (h : SqT K H a xs) : TyX K H (.ref a) (.type "tuple") := by
  rcases h with (h | ⟨o, h⟩) | ⟨o, its, n, hk, hc, _⟩
  · exact .base (.tup h)
  · exact .fTuple h
  · exact .kTuple hk hc
/-- alike: the same data, of small lists -/
def spAlike (K : PySem.W.Frag) (n : Nat) : Sp := fun vs H Q _ => ∃ (x y : V) (d : PyData), vs = [x, y] ∧ Dp K H x d ∧ Dp K H y d ∧ PyData.depth d ≤ n ∧ szOk d = true ∧ ∀ H', Same H H' → Q (.bl true) H'
section
variable {P : Program} {w : World} {K : PySem.W.Frag} {mg : Str → Option Value} {base : Heap}
theorem sc_alike : FnScope ["_law_found", "_law_due", "_law_k"] ["_law_found", "_law_due"] (defScope s_L_alike) := ⟨rfl, rfl, rfl, by decide +kernel, rfl, by decide +kernel, by decide +kernel⟩
theorem ok_alike0 (D : DefAt K mg "_law_alike" s_L_alike ["_law_found", "_law_due"]) (m_isi : mg "isinstance" = none) (m_tuple : mg "tuple" = none) (m_list : mg "list" = none) (m_str : mg "str" = none) (m_bool : mg "bool" = none) (m_int : mg "int" = none) :
    Cl P w K mg base 1 "_law_alike" ["_law_found", "_law_due"] (spAlike K 0) := by
  refine D.cl fun f fd F => ?_
  refine F.ok sc_alike (fun vs H Q E h => ?_) (fun cdv A outer s H vs Q E hr h => ?_)
  · obtain ⟨x, y, d, rfl, _⟩ := h
    rfl
  · obtain ⟨x, y, d, rfl, hx, hy, hd, hz, q⟩ := h
    refine ⟨_, pss_cons (ps_if (pt_val (pe_callB call_isiT (by rfl) m_isi (by decide +kernel) (pa_cons (pv 1) (pa_cons (pe_tup (pa_cons (pe_bltn (v := .ty "tuple") (u := .type "tuple") (by rfl) m_tuple (by decide +kernel) rfl) (pa_cons (pe_bltn (v := .ty "list") (u := .type "list") (by rfl) m_list (by decide +kernel) rfl) pa_nil))) pa_nil)))) pss_never pss_nil)
      (pss_cons (ps_if (pt_cmp (pc_isN (pv 1)) rfl) (pss_one (ps_ret (pe_cmp (pc_isN (pv 0)) rfl))) pss_nil)
      (pss_cons (ps_if (pt_val (pe_callB call_isi (by rfl) m_isi (by decide +kernel) (pa_cons (pv 1) (pa_cons (pe_bltn (v := .ty "str") (u := .type "str") (by rfl) m_str (by decide +kernel) rfl) pa_nil)))) (pss_one (ps_ret (pe_and (pe_callB call_isi (by rfl) m_isi (by decide +kernel) (pa_cons (pv 0) (pa_cons (pe_bltn (v := .ty "str") (u := .type "str") (by rfl) m_str (by decide +kernel) rfl) pa_nil))) (pe_one (pe_cmpR op_eq (pv 0) (pv 1) (nomark _)))))) pss_nil)
      (pss_cons (ps_if (PW.pt (pw_or (pt_val (pe_callB call_isi (by rfl) m_isi (by decide +kernel) (pa_cons (pv 1) (pa_cons (pe_bltn (v := .ty "bool") (u := .type "bool") (by rfl) m_bool (by decide +kernel) rfl) pa_nil)))) (pw_or1 (pt_val (pe_callB call_isi (by rfl) m_isi (by decide +kernel) (pa_cons (pv 0) (pa_cons (pe_bltn (v := .ty "bool") (u := .type "bool") (by rfl) m_bool (by decide +kernel) rfl) pa_nil))))))) (pss_one (ps_ret (pe_and (pe_callB call_isi (by rfl) m_isi (by decide +kernel) (pa_cons (pv 1) (pa_cons (pe_bltn (v := .ty "bool") (u := .type "bool") (by rfl) m_bool (by decide +kernel) rfl) pa_nil))) (pe_and (pe_callB call_isi (by rfl) m_isi (by decide +kernel) (pa_cons (pv 0) (pa_cons (pe_bltn (v := .ty "bool") (u := .type "bool") (by rfl) m_bool (by decide +kernel) rfl) pa_nil))) (pe_one (pe_cmpR op_eq (pv 0) (pv 1) (nomark _))))))) pss_nil)
      (pss_one (ps_ret (pe_and (pe_callB call_isi (by rfl) m_isi (by decide +kernel) (pa_cons (pv 0) (pa_cons (pe_bltn (v := .ty "int") (u := .type "int") (by rfl) m_int (by decide +kernel) rfl) pa_nil))) (pe_one (pe_cmpR op_eq (pv 0) (pv 1) (nomark _))))))))), ?_⟩
    cases hx with
    | non =>
      cases hy
      refine ⟨_, rfl, (by show 2 ≤ sizeLine; decide), fun p np => ?_⟩
      refine ⟨.non, p, _, _, _, false, rfl, upd_same, .cons (.ty "tuple") (.cons (.ty "list") .nil), .base (.non), (kitAny_cons (b := false) (kit_ty (by decide +kernel)) (fun _ => kitAny_cons (b := false) (kit_ty (by decide +kernel)) (fun _ => kitAny_nil) (fun e => nomatch e)) (fun e => nomatch e)), _, rfl, iteF ?_⟩
      refine ⟨_, rfl, _, rfl, ?_⟩
      rw [decide_eq_true rfl]
      exact iteT ⟨_, rfl, q _ (same_upd np)⟩
    | bl b =>
      cases hy
      refine ⟨_, rfl, (by show 2 ≤ sizeLine; decide), fun p np => ?_⟩
      refine ⟨.bl b, p, _, _, _, false, rfl, upd_same, .cons (.ty "tuple") (.cons (.ty "list") .nil), .base (.bl b), (kitAny_cons (b := false) (kit_ty (by decide +kernel)) (fun _ => kitAny_cons (b := false) (kit_ty (by decide +kernel)) (fun _ => kitAny_nil) (fun e => nomatch e)) (fun e => nomatch e)), _, rfl, iteF ?_⟩
      refine ⟨_, rfl, _, rfl, ?_⟩
      rw [decide_eq_false (show ¬ V.bl b = .non from fun z => nomatch z)]
      refine iteF ?_
      refine ⟨_, rfl, .bl b, _, _, _, false, rfl, .ty "str", .base (.bl b), kit_ty (by decide +kernel), _, rfl, iteF ?_⟩
      refine ⟨_, rfl, .bl b, _, _, _, true, rfl, .ty "bool", .base (.bl b), kit_ty (by decide +kernel), _, rfl, iteT ?_⟩
      refine ⟨_, rfl, .bl b, _, _, _, true, rfl, .ty "bool", .base (.bl b), kit_ty (by decide +kernel), true, rfl, iteT ?_⟩
      refine ⟨_, rfl, .bl b, _, _, _, true, rfl, .ty "bool", .base (.bl b), kit_ty (by decide +kernel), true, rfl, iteT ⟨_, rfl, _, rfl, rfl, ?_⟩⟩
      rw [decide_eq_true rfl]
      exact q _ (same_upd np)
    | int i =>
      cases hy
      refine ⟨_, rfl, (by show 2 ≤ sizeLine; decide), fun p np => ?_⟩
      refine ⟨.int i, p, _, _, _, false, rfl, upd_same, .cons (.ty "tuple") (.cons (.ty "list") .nil), .base (.int i), (kitAny_cons (b := false) (kit_ty (by decide +kernel)) (fun _ => kitAny_cons (b := false) (kit_ty (by decide +kernel)) (fun _ => kitAny_nil) (fun e => nomatch e)) (fun e => nomatch e)), _, rfl, iteF ?_⟩
      refine ⟨_, rfl, _, rfl, ?_⟩
      rw [decide_eq_false (show ¬ V.int i = .non from fun z => nomatch z)]
      refine iteF ?_
      refine ⟨_, rfl, .int i, _, _, _, false, rfl, .ty "str", .base (.int i), kit_ty (by decide +kernel), _, rfl, iteF ?_⟩
      refine ⟨_, rfl, .int i, _, _, _, false, rfl, .ty "bool", .base (.int i), kit_ty (by decide +kernel), _, rfl, iteF ?_⟩
      refine ⟨_, rfl, .int i, _, _, _, false, rfl, .ty "bool", .base (.int i), kit_ty (by decide +kernel), _, rfl, iteF ?_⟩
      refine ⟨_, rfl, .int i, _, _, _, true, rfl, .ty "int", .base (.int i), kit_ty (by decide +kernel), true, rfl, iteT ⟨_, rfl, _, rfl, rfl, ?_⟩⟩
      rw [decide_eq_true rfl]
      exact q _ (same_upd np)
    | str s =>
      cases hy
      refine ⟨_, rfl, (by show 2 ≤ sizeLine; decide), fun p np => ?_⟩
      refine ⟨.str s, p, _, _, _, false, rfl, upd_same, .cons (.ty "tuple") (.cons (.ty "list") .nil), .base (.str s), (kitAny_cons (b := false) (kit_ty (by decide +kernel)) (fun _ => kitAny_cons (b := false) (kit_ty (by decide +kernel)) (fun _ => kitAny_nil) (fun e => nomatch e)) (fun e => nomatch e)), _, rfl, iteF ?_⟩
      refine ⟨_, rfl, _, rfl, ?_⟩
      rw [decide_eq_false (show ¬ V.str s = .non from fun z => nomatch z)]
      refine iteF ?_
      refine ⟨_, rfl, .str s, _, _, _, true, rfl, .ty "str", .base (.str s), kit_ty (by decide +kernel), _, rfl, iteT ?_⟩
      refine ⟨_, rfl, .str s, _, _, _, true, rfl, .ty "str", .base (.str s), kit_ty (by decide +kernel), true, rfl, iteT ⟨_, rfl, _, rfl, rfl, ?_⟩⟩
      rw [decide_eq_true rfl]
      exact q _ (same_upd np)
    | lst hs ha => exact absurd hd (Nat.not_succ_le_zero _)
    | tup hs ha => exact absurd hd (Nat.not_succ_le_zero _)
theorem ok_alikeS {n : Nat} (D : DefAt K mg "_law_alike" s_L_alike ["_law_found", "_law_due"]) (m_isi : mg "isinstance" = none) (m_tuple : mg "tuple" = none) (m_list : mg "list" = none) (m_str : mg "str" = none) (m_bool : mg "bool" = none) (m_int : mg "int" = none) (m_len : mg "len" = none) (m_range : mg "range" = none)
    (C1 : Cl P w K mg base (n + 1) "_law_alike" ["_law_found", "_law_due"] (spAlike K n)) : Cl P w K mg base (n + 2) "_law_alike" ["_law_found", "_law_due"] (spAlike K (n + 1)) := by
  refine D.cl fun f fd F => ?_
  refine F.ok sc_alike (fun vs H Q E h => ?_) (fun cdv A outer s H vs Q E hr h => ?_)
  · obtain ⟨x, y, d, rfl, _⟩ := h
    rfl
  · obtain ⟨x, y, d, rfl, hx, hy, hd, hz, q⟩ := h
    refine ⟨_, pss_cons (ps_if (pt_val (pe_callB call_isiT (by rfl) m_isi (by decide +kernel) (pa_cons (pv 1) (pa_cons (pe_tup (pa_cons (pe_bltn (v := .ty "tuple") (u := .type "tuple") (by rfl) m_tuple (by decide +kernel) rfl) (pa_cons (pe_bltn (v := .ty "list") (u := .type "list") (by rfl) m_list (by decide +kernel) rfl) pa_nil))) pa_nil))))
        (pss_cons (ps_if (PW.pt (pw_or (pt_not (pt_val (pe_callB call_isiT (by rfl) m_isi (by decide +kernel) (pa_cons (pv 0) (pa_cons (pe_tup (pa_cons (pe_bltn (v := .ty "tuple") (u := .type "tuple") (by rfl) m_tuple (by decide +kernel) rfl) (pa_cons (pe_bltn (v := .ty "list") (u := .type "list") (by rfl) m_list (by decide +kernel) rfl) pa_nil))) pa_nil))))) (pw_or1 (pt_cmpR op_ne (pe_callB call_isi (by rfl) m_isi (by decide +kernel) (pa_cons (pv 0) (pa_cons (pe_bltn (v := .ty "list") (u := .type "list") (by rfl) m_list (by decide +kernel) rfl) pa_nil))) (pe_callB call_isi (by rfl) m_isi (by decide +kernel) (pa_cons (pv 1) (pa_cons (pe_bltn (v := .ty "list") (u := .type "list") (by rfl) m_list (by decide +kernel) rfl) pa_nil))) (nomark _))))) pss_never pss_nil)
        (pss_cons (ps_if (pt_cmpR op_ne (pe_callB call_len_seq (by rfl) m_len PySem.boot_len (pa_cons (pv 0) pa_nil)) (pe_callB call_len_seq (by rfl) m_len PySem.boot_len (pa_cons (pv 1) pa_nil)) (nomark _)) pss_never pss_nil)
        (pss_one (ps_ret (pe_cmpR (op_eqD hr.units) (pe_lc (own := [("_law_k", 2)]) (g := gName 2) (tt := tNot (tB (tCall (spAlike K n) [] E0 (tCons (tOp (rIx K) (tVar 0) (tVar 2)) (tCons (tOp (rIx K) (tVar 1) (tVar 2)) tNil))))) rfl sc_alike.nd
          (pi_range1 (by rfl) m_range (pa_cons (pe_callB call_len_seq (by rfl) m_len PySem.boot_len (pa_cons (pv 1) pa_nil)) pa_nil)) (blkOk_by (N := ["_law_found", "_law_due", "_law_k"]) (sc := defScope s_L_alike) (by decide +kernel))
          (fun _ _ _ _ _ => by exact pg_name (i := 2) sc_alike.nd rfl (Or.inl rfl)) (fun _ _ _ _ _ => by exact pts_one (pt_not (pt_val (pe_cl C1 hr (pa_cons (pe_ix ix_seq (pv 0) (pv 2) (fun _ _ => rfl)) (pa_cons (pe_ix ix_seq (pv 1) (pv 2) (fun _ _ => rfl)) pa_nil)) (Nat.le_refl _)))))
          (fun _ _ _ _ _ => by exact pv 2)) (pe_lst pa_nil) (nomark _)))))) pss_nil)
      (pss_cons (ps_if (pt_cmp (pc_isN (pv 1)) rfl) (pss_one (ps_ret (pe_cmp (pc_isN (pv 0)) rfl))) pss_nil)
      (pss_cons (ps_if (pt_val (pe_callB call_isi (by rfl) m_isi (by decide +kernel) (pa_cons (pv 1) (pa_cons (pe_bltn (v := .ty "str") (u := .type "str") (by rfl) m_str (by decide +kernel) rfl) pa_nil)))) (pss_one (ps_ret (pe_and (pe_callB call_isi (by rfl) m_isi (by decide +kernel) (pa_cons (pv 0) (pa_cons (pe_bltn (v := .ty "str") (u := .type "str") (by rfl) m_str (by decide +kernel) rfl) pa_nil))) (pe_one (pe_cmpR op_eq (pv 0) (pv 1) (nomark _)))))) pss_nil)
      (pss_cons (ps_if (PW.pt (pw_or (pt_val (pe_callB call_isi (by rfl) m_isi (by decide +kernel) (pa_cons (pv 1) (pa_cons (pe_bltn (v := .ty "bool") (u := .type "bool") (by rfl) m_bool (by decide +kernel) rfl) pa_nil)))) (pw_or1 (pt_val (pe_callB call_isi (by rfl) m_isi (by decide +kernel) (pa_cons (pv 0) (pa_cons (pe_bltn (v := .ty "bool") (u := .type "bool") (by rfl) m_bool (by decide +kernel) rfl) pa_nil))))))) (pss_one (ps_ret (pe_and (pe_callB call_isi (by rfl) m_isi (by decide +kernel) (pa_cons (pv 1) (pa_cons (pe_bltn (v := .ty "bool") (u := .type "bool") (by rfl) m_bool (by decide +kernel) rfl) pa_nil))) (pe_and (pe_callB call_isi (by rfl) m_isi (by decide +kernel) (pa_cons (pv 0) (pa_cons (pe_bltn (v := .ty "bool") (u := .type "bool") (by rfl) m_bool (by decide +kernel) rfl) pa_nil))) (pe_one (pe_cmpR op_eq (pv 0) (pv 1) (nomark _))))))) pss_nil)
      (pss_one (ps_ret (pe_and (pe_callB call_isi (by rfl) m_isi (by decide +kernel) (pa_cons (pv 0) (pa_cons (pe_bltn (v := .ty "int") (u := .type "int") (by rfl) m_int (by decide +kernel) rfl) pa_nil))) (pe_one (pe_cmpR op_eq (pv 0) (pv 1) (nomark _))))))))), ?_⟩
    cases hx with
    | non =>
      cases hy
      refine ⟨_, rfl, (by show 2 ≤ sizeLine; decide), fun p np => ?_⟩
      refine ⟨.non, p, _, _, _, false, rfl, upd_same, .cons (.ty "tuple") (.cons (.ty "list") .nil), .base (.non), (kitAny_cons (b := false) (kit_ty (by decide +kernel)) (fun _ => kitAny_cons (b := false) (kit_ty (by decide +kernel)) (fun _ => kitAny_nil) (fun e => nomatch e)) (fun e => nomatch e)), _, rfl, iteF ?_⟩
      refine ⟨_, rfl, _, rfl, ?_⟩
      rw [decide_eq_true rfl]
      exact iteT ⟨_, rfl, q _ (same_upd np)⟩
    | bl b =>
      cases hy
      refine ⟨_, rfl, (by show 2 ≤ sizeLine; decide), fun p np => ?_⟩
      refine ⟨.bl b, p, _, _, _, false, rfl, upd_same, .cons (.ty "tuple") (.cons (.ty "list") .nil), .base (.bl b), (kitAny_cons (b := false) (kit_ty (by decide +kernel)) (fun _ => kitAny_cons (b := false) (kit_ty (by decide +kernel)) (fun _ => kitAny_nil) (fun e => nomatch e)) (fun e => nomatch e)), _, rfl, iteF ?_⟩
      refine ⟨_, rfl, _, rfl, ?_⟩
      rw [decide_eq_false (show ¬ V.bl b = .non from fun z => nomatch z)]
      refine iteF ?_
      refine ⟨_, rfl, .bl b, _, _, _, false, rfl, .ty "str", .base (.bl b), kit_ty (by decide +kernel), _, rfl, iteF ?_⟩
      refine ⟨_, rfl, .bl b, _, _, _, true, rfl, .ty "bool", .base (.bl b), kit_ty (by decide +kernel), _, rfl, iteT ?_⟩
      refine ⟨_, rfl, .bl b, _, _, _, true, rfl, .ty "bool", .base (.bl b), kit_ty (by decide +kernel), true, rfl, iteT ?_⟩
      refine ⟨_, rfl, .bl b, _, _, _, true, rfl, .ty "bool", .base (.bl b), kit_ty (by decide +kernel), true, rfl, iteT ⟨_, rfl, _, rfl, rfl, ?_⟩⟩
      rw [decide_eq_true rfl]
      exact q _ (same_upd np)
    | int i =>
      cases hy
      refine ⟨_, rfl, (by show 2 ≤ sizeLine; decide), fun p np => ?_⟩
      refine ⟨.int i, p, _, _, _, false, rfl, upd_same, .cons (.ty "tuple") (.cons (.ty "list") .nil), .base (.int i), (kitAny_cons (b := false) (kit_ty (by decide +kernel)) (fun _ => kitAny_cons (b := false) (kit_ty (by decide +kernel)) (fun _ => kitAny_nil) (fun e => nomatch e)) (fun e => nomatch e)), _, rfl, iteF ?_⟩
      refine ⟨_, rfl, _, rfl, ?_⟩
      rw [decide_eq_false (show ¬ V.int i = .non from fun z => nomatch z)]
      refine iteF ?_
      refine ⟨_, rfl, .int i, _, _, _, false, rfl, .ty "str", .base (.int i), kit_ty (by decide +kernel), _, rfl, iteF ?_⟩
      refine ⟨_, rfl, .int i, _, _, _, false, rfl, .ty "bool", .base (.int i), kit_ty (by decide +kernel), _, rfl, iteF ?_⟩
      refine ⟨_, rfl, .int i, _, _, _, false, rfl, .ty "bool", .base (.int i), kit_ty (by decide +kernel), _, rfl, iteF ?_⟩
      refine ⟨_, rfl, .int i, _, _, _, true, rfl, .ty "int", .base (.int i), kit_ty (by decide +kernel), true, rfl, iteT ⟨_, rfl, _, rfl, rfl, ?_⟩⟩
      rw [decide_eq_true rfl]
      exact q _ (same_upd np)
    | str s =>
      cases hy
      refine ⟨_, rfl, (by show 2 ≤ sizeLine; decide), fun p np => ?_⟩
      refine ⟨.str s, p, _, _, _, false, rfl, upd_same, .cons (.ty "tuple") (.cons (.ty "list") .nil), .base (.str s), (kitAny_cons (b := false) (kit_ty (by decide +kernel)) (fun _ => kitAny_cons (b := false) (kit_ty (by decide +kernel)) (fun _ => kitAny_nil) (fun e => nomatch e)) (fun e => nomatch e)), _, rfl, iteF ?_⟩
      refine ⟨_, rfl, _, rfl, ?_⟩
      rw [decide_eq_false (show ¬ V.str s = .non from fun z => nomatch z)]
      refine iteF ?_
      refine ⟨_, rfl, .str s, _, _, _, true, rfl, .ty "str", .base (.str s), kit_ty (by decide +kernel), _, rfl, iteT ?_⟩
      refine ⟨_, rfl, .str s, _, _, _, true, rfl, .ty "str", .base (.str s), kit_ty (by decide +kernel), true, rfl, iteT ⟨_, rfl, _, rfl, rfl, ?_⟩⟩
      rw [decide_eq_true rfl]
      exact q _ (same_upd np)
    | @lst a xs ds hs hal =>
      cases hy with
      | @lst a2 ys _ hs2 hal2 =>
      have lx := dpAll_len hal
      have ly := dpAll_len hal2
      obtain ⟨zl, za⟩ := szOk_lst hz
      have hdd : PyData.depthAll ds ≤ n := Nat.le_of_succ_le_succ hd
      refine ⟨_, rfl, (by show 2 ≤ sizeLine; decide), fun p np => ?_⟩
      have s1 := same_upd (o := .tup [V.ty "tuple", V.ty "list"]) np
      refine ⟨.ref a2, p, _, _, _, true, rfl, upd_same, .cons (.ty "tuple") (.cons (.ty "list") .nil), ty_list (Same.seq s1 hs2), (kitAny_cons (b := false) (kit_ty (by decide +kernel)) (fun _ => kitAny_cons (b := true) (r := true) (kit_ty (by decide +kernel)) (fun e => nomatch e) (fun _ => rfl)) (fun e => nomatch e)), _, rfl, iteT ?_⟩
      refine ⟨_, rfl, (by show 2 ≤ sizeLine; decide), fun p2 np2 => ?_⟩
      have s2 := s1.trans (same_upd (o := .tup [V.ty "tuple", V.ty "list"]) np2)
      refine ⟨.ref a, p2, _, _, _, true, rfl, upd_same, .cons (.ty "tuple") (.cons (.ty "list") .nil), ty_list (Same.seq s2 hs), (kitAny_cons (b := false) (kit_ty (by decide +kernel)) (fun _ => kitAny_cons (b := true) (r := true) (kit_ty (by decide +kernel)) (fun e => nomatch e) (fun _ => rfl)) (fun e => nomatch e)), _, rfl, iteF ?_⟩
      refine ⟨_, rfl, .ref a, _, _, _, true, rfl, .ty "list", ty_list (Same.seq s2 hs), kit_ty (by decide +kernel), ?_⟩
      refine ⟨_, rfl, .ref a2, _, _, _, true, rfl, .ty "list", ty_list (Same.seq s2 hs2), kit_ty (by decide +kernel), rfl, _, rfl, iteF ?_⟩
      refine ⟨_, rfl, a, xs, rfl, .inl (Same.seq s2 hs), _, rfl, a2, ys, rfl, .inl (Same.seq s2 hs2), rfl, _, rfl, ?_⟩
      rw [lx, ly]
      refine iteNS rfl ?_
      have sz : ds.length ≤ sizeLine := by
        exact Nat.le_trans zl (by decide)
      have szn : sizeLine < 2 ^ 62 := by decide
      refine ⟨_, rfl, a2, ys, rfl, .inl (Same.seq s2 hs2), _, rfl, by omega, by omega, fun D nD => ?_⟩
      rw [Int.toNat_natCast, ly]
      refine lc_range (lo := 0) (n := ds.length) (fun i H3 => Same (upd (upd H p (.tup [V.ty "tuple", V.ty "list"])) p2 (.tup [V.ty "tuple", V.ty "list"])) H3 ∧ H3 D = some (.lst [])) ⟨same_upd nD, upd_same⟩ ?_ ?_
      · rintro i H3 hi ⟨s3, eD⟩
        have s4 := s2.trans s3
        obtain ⟨v, d, gv, gd, hv⟩ := dpAll_get hal hi
        obtain ⟨v2, d2, gv2, gd2, hv2⟩ := dpAll_get hal2 hi
        have ed : d2 = d := Option.some.inj (gd2.symm.trans gd)
        subst ed
        refine ⟨rfl, _, rfl, _, rfl, .inl ⟨a, _, _, _, rfl, rfl, Same.seq s4 hs, at_of (j := i) (Int.zero_add _) gv, ?_⟩⟩
        refine ⟨_, rfl, _, rfl, .inl ⟨a2, _, _, _, rfl, rfl, Same.seq s4 hs2, at_of (j := i) (Int.zero_add _) gv2, ?_⟩⟩
        refine ⟨v, v2, d2, rfl, Dp.same s4 d2 _ hv, Dp.same s4 d2 _ hv2, Nat.le_trans (depth_get gd) hdd, sz_get gd za, fun H5 s5 => ⟨_, rfl, ?_⟩⟩
        exact ⟨s3.trans s5, s5 _ _ eD⟩
      · rintro H3 ⟨s3, eD⟩
        refine ⟨Nat.zero_le _, fun p3 np3 => ?_⟩
        refine ⟨.list [], .list [], Dp.lst (SqL.of (same_upd np3 _ _ eD)) .nil, Dp.lst (SqL.of upd_same) .nil, PySem.W.shaped_ints [], PySem.W.shaped_ints [], ?_⟩
        rw [show PyData.eqv (.list []) (.list []) = true from eqv_nil []]
        exact q _ ((s2.trans s3).trans (same_upd np3))
    | @tup a xs ds hs hal =>
      cases hy with
      | @tup a2 ys _ hs2 hal2 =>
      have lx := dpAll_len hal
      have ly := dpAll_len hal2
      obtain ⟨zl, za⟩ := szOk_tup hz
      have hdd : PyData.depthAll ds ≤ n := Nat.le_of_succ_le_succ hd
      refine ⟨_, rfl, (by show 2 ≤ sizeLine; decide), fun p np => ?_⟩
      have s1 := same_upd (o := .tup [V.ty "tuple", V.ty "list"]) np
      refine ⟨.ref a2, p, _, _, _, true, rfl, upd_same, .cons (.ty "tuple") (.cons (.ty "list") .nil), ty_tup (Same.seqT s1 hs2), (kitAny_cons (b := true) (r := true) (kit_ty (by decide +kernel)) (fun e => nomatch e) (fun _ => rfl)), _, rfl, iteT ?_⟩
      refine ⟨_, rfl, (by show 2 ≤ sizeLine; decide), fun p2 np2 => ?_⟩
      have s2 := s1.trans (same_upd (o := .tup [V.ty "tuple", V.ty "list"]) np2)
      refine ⟨.ref a, p2, _, _, _, true, rfl, upd_same, .cons (.ty "tuple") (.cons (.ty "list") .nil), ty_tup (Same.seqT s2 hs), (kitAny_cons (b := true) (r := true) (kit_ty (by decide +kernel)) (fun e => nomatch e) (fun _ => rfl)), _, rfl, iteF ?_⟩
      refine ⟨_, rfl, .ref a, _, _, _, false, rfl, .ty "list", ty_tup (Same.seqT s2 hs), kit_ty (by decide +kernel), ?_⟩
      refine ⟨_, rfl, .ref a2, _, _, _, false, rfl, .ty "list", ty_tup (Same.seqT s2 hs2), kit_ty (by decide +kernel), rfl, _, rfl, iteF ?_⟩
      refine ⟨_, rfl, a, xs, rfl, .inr (Same.seqT s2 hs), _, rfl, a2, ys, rfl, .inr (Same.seqT s2 hs2), rfl, _, rfl, ?_⟩
      rw [lx, ly]
      refine iteNS rfl ?_
      have sz : ds.length ≤ sizeLine := by
        exact Nat.le_trans zl (by decide)
      have szn : sizeLine < 2 ^ 62 := by decide
      refine ⟨_, rfl, a2, ys, rfl, .inr (Same.seqT s2 hs2), _, rfl, by omega, by omega, fun D nD => ?_⟩
      rw [Int.toNat_natCast, ly]
      refine lc_range (lo := 0) (n := ds.length) (fun i H3 => Same (upd (upd H p (.tup [V.ty "tuple", V.ty "list"])) p2 (.tup [V.ty "tuple", V.ty "list"])) H3 ∧ H3 D = some (.lst [])) ⟨same_upd nD, upd_same⟩ ?_ ?_
      · rintro i H3 hi ⟨s3, eD⟩
        have s4 := s2.trans s3
        obtain ⟨v, d, gv, gd, hv⟩ := dpAll_get hal hi
        obtain ⟨v2, d2, gv2, gd2, hv2⟩ := dpAll_get hal2 hi
        have ed : d2 = d := Option.some.inj (gd2.symm.trans gd)
        subst ed
        refine ⟨rfl, _, rfl, _, rfl, .inr (.inl ⟨a, _, _, _, rfl, rfl, Same.seqT s4 hs, at_of (j := i) (Int.zero_add _) gv, ?_⟩)⟩
        refine ⟨_, rfl, _, rfl, .inr (.inl ⟨a2, _, _, _, rfl, rfl, Same.seqT s4 hs2, at_of (j := i) (Int.zero_add _) gv2, ?_⟩)⟩
        refine ⟨v, v2, d2, rfl, Dp.same s4 d2 _ hv, Dp.same s4 d2 _ hv2, Nat.le_trans (depth_get gd) hdd, sz_get gd za, fun H5 s5 => ⟨_, rfl, ?_⟩⟩
        exact ⟨s3.trans s5, s5 _ _ eD⟩
      · rintro H3 ⟨s3, eD⟩
        refine ⟨Nat.zero_le _, fun p3 np3 => ?_⟩
        refine ⟨.list [], .list [], Dp.lst (SqL.of (same_upd np3 _ _ eD)) .nil, Dp.lst (SqL.of upd_same) .nil, PySem.W.shaped_ints [], PySem.W.shaped_ints [], ?_⟩
        rw [show PyData.eqv (.list []) (.list []) = true from eqv_nil []]
        exact q _ ((s2.trans s3).trans (same_upd np3))
end

/-! ### the law's own helpers -/
def spMix (K : PySem.W.Frag) : Sp := fun vs H Q _ => ∃ (a : Addr) (sd : Int) (ns : List Int), vs = [.ref a, .int sd] ∧ SqL K H a (ns.map V.int) ∧ ns.length ≤ 63 ∧ 0 ≤ sd ∧ sd < 2147483647 ∧ ∀ H' h c, HAt H' h c → H h = none → H c = none → Same H H' → Q (.ref h) H'
def spNext : Sp := fun vs H Q _ => ∃ (h c : Addr) (m : Int), vs = [.ref h, .int m] ∧ 1 ≤ m ∧ m < 1073741824 ∧ HAt H h c ∧ ∀ (r : Nat) H', (r : Int) < m → HAt H' h c → Kp2 h c H H' → Q (.int (r : Int)) H'
section
variable {P : Program} {w : World} {K : PySem.W.Frag} {mg : Str → Option Value} {base : Heap}
theorem sc_mix : FnScope ["_law_script", "_law_seed", "_law_mixed", "_law_cell"] ["_law_script", "_law_seed"] (defScope s_L_mix) := ⟨rfl, rfl, rfl, by decide +kernel, rfl, by decide +kernel, by decide +kernel⟩
theorem ok_mix (D : DefAt K mg "_law_mix" s_L_mix ["_law_script", "_law_seed"]) (m_list : mg "list" = none) : Cl P w K mg base 1 "_law_mix" ["_law_script", "_law_seed"] (spMix K) := by
  refine D.cl fun f fd F => ?_
  refine F.ok sc_mix (fun vs H Q E h => ?_) (fun cdv A outer s H vs Q E hr h => ?_)
  · obtain ⟨a, sd, ns, rfl, _⟩ := h
    rfl
  · obtain ⟨a, sd, ns, rfl, hS, hl, s0, s1, q⟩ := h
    refine ⟨_, pss_cons (ps_set (i := 2) sc_mix.nd rfl (Or.inl rfl) (pv 1))
      (pss_cons (ps_for PassesOwn.never rfl (pi_list (pv 0)) (pg_name (i := 3) sc_mix.nd rfl (Or.inl rfl))
        (pss_one (ps_set (i := 2) sc_mix.nd rfl (Or.inl rfl) (pe_op op_mod (pe_op op_add (pe_op op_add (pe_op op_mul (pv 2) pe_int) (pe_op op_mod (pv 3) pe_int)) pe_int) pe_int))))
      (pss_one (ps_ret (pe_lst (pa_cons (pv 2) (pa_cons (pe_callTy call_list_of (by rfl) m_list (by decide +kernel) (pa_cons (pv 0) pa_nil)) (pa_cons pe_int pa_nil))))))), ?_⟩
    refine ⟨_, rfl, ?_⟩
    refine ⟨_, rfl, a, rfl, ⟨_, hS⟩, for_list (K := K) (a := a) (xs := ns.map V.int) (fun i σ H' => ∃ (mx : Int) (v : Option V), σ = [some (.ref a), some (.int sd), some (.int mx), v] ∧ H' = H ∧ 0 ≤ mx ∧ mx < 2147483647)
      ⟨sd, none, rfl, rfl, s0, s1⟩ (fun i σ H' _ ⟨_, _, _, e, _⟩ => by rw [e]; exact hS) ?_ ?_⟩
    · rintro i y σ H' hi ⟨mx, v, rfl, rfl, m0, m1⟩
      obtain ⟨z, rfl⟩ : ∃ z, y = V.int z := by
        rw [List.getElem?_map] at hi
        cases e : ns[i]? with
        | none =>
          rw [e] at hi
          cases hi
        | some z =>
          rw [e] at hi
          exact ⟨z, (Option.some.inj hi).symm⟩
      refine ⟨_, rfl, _, _, rfl, rfl, .inl (le64 m0 (by omega)), _, rfl, _, _, rfl, rfl, (by show (0 : Int) < 2147483629; decide), _, _, rfl, rfl, _, _, rfl, rfl, _, _, rfl, rfl, (by show (0 : Int) < 2147483647; decide), ?_⟩
      exact ⟨_, some (.int z), rfl, rfl, Int.emod_nonneg _ (by decide), Int.emod_lt_of_pos _ (by decide)⟩
    · rintro σ H' ⟨mx, v, rfl, rfl, m0, m1⟩
      refine ⟨_, rfl, _, rfl, a, ns.map V.int, rfl, .inl hS, fun c nc => ?_⟩
      refine ⟨(by show 3 ≤ sizeLine; decide), fun h nh => ?_⟩
      have sc' : Same H' (upd H' c (.lst (ns.map V.int))) := same_upd nc
      have nch : c ≠ h := ne_of_none upd_same nh
      refine q _ h c ⟨⟨mx, 0, ns, upd_same, ?_, m0, m1, Int.le_refl 0, hl⟩, nch.symm⟩ (sc'.free nh) nc (sc'.trans (same_upd nh))
      rw [upd_ne nch, upd_same]
theorem sc_next : FnScope ["_law_h", "_law_many", "_law_at", "_law_cell"] ["_law_h", "_law_many"] (defScope s_L_next) := ⟨rfl, rfl, rfl, by decide +kernel, rfl, by decide +kernel, by decide +kernel⟩
theorem ok_next (D : DefAt K mg "_law_next" s_L_next ["_law_h", "_law_many"]) (m_max : mg "max" = none) (m_len : mg "len" = none) : Cl P w K mg base 1 "_law_next" ["_law_h", "_law_many"] spNext := by
  refine D.cl fun f fd F => ?_
  refine F.ok sc_next (fun vs H Q E h => ?_) (fun cdv A outer s H vs Q E hr h => ?_)
  · obtain ⟨h, c, m, rfl, _⟩ := h
    rfl
  · obtain ⟨h, c, m, rfl, h1, h2, ha, q⟩ := h
    obtain ⟨⟨mx, pl, ns, eh, ec, m0, m1, p0, hl⟩, nhc⟩ := ha
    refine ⟨_, pss_cons (ps_set (i := 2) sc_next.nd rfl (Or.inl rfl) (pe_op op_mod (pe_ix ix_list (pv 0) pe_int (fun _ _ => rfl)) (pe_callB (call_max2 rfl) (by rfl) m_max (by decide +kernel) (pa_cons pe_int (pa_cons (pe_callB call_len_seq (by rfl) m_len PySem.boot_len (pa_cons (pe_ix ix_list (pv 0) pe_int (fun _ _ => rfl)) pa_nil)) pa_nil)))))
      (pss_cons (ps_set (i := 3) sc_next.nd rfl (Or.inl rfl) (pe_ifExp (pt_cmpR (op_neD hr.units) (pe_ix ix_list (pv 0) pe_int (fun _ _ => rfl)) (pe_lst pa_nil) (nomark _)) (pe_ix ix_list (pe_ix ix_list (pv 0) pe_int (fun _ _ => rfl)) (pv 2) (fun _ _ => rfl)) pe_int))
      (pss_cons (ps_if (pt_cmpR op_ge (pv 3) (pe_op op_pow pe_int pe_int) (nomark _))
        (pss_cons (ps_asg (pe_op op_fdiv (pv 3) (pv 1)) (pg_sub (pe_ix ix_list (pv 0) pe_int (fun _ _ => rfl)) (pv 2) set_list)) (pss_one (ps_ret (pe_op op_mod (pv 3) (pv 1))))) pss_nil)
      (pss_cons (ps_asg (pe_op op_mod (pe_op op_add (pe_op op_add (pe_op op_mul (pe_ix ix_list (pv 0) pe_int (fun _ _ => rfl)) pe_int) (pe_op op_mul (pv 3) pe_int)) pe_int) pe_int) (pg_sub (pv 0) pe_int set_list))
      (pss_cons (ps_asg (pe_op op_add (pe_ix ix_list (pv 0) pe_int (fun _ _ => rfl)) pe_int) (pg_sub (pv 0) pe_int set_list))
      (pss_one (ps_ret (pe_op op_mod (pe_op op_fdiv (pe_ix ix_list (pv 0) pe_int (fun _ _ => rfl)) pe_int) (pv 1)))))))), ?_⟩
    have a1 : atI [V.int mx, V.ref c, V.int pl] 1 = some (.ref c) := atI_nat (j := 1) rfl
    have a0 : atI [V.int mx, V.ref c, V.int pl] 0 = some (.int mx) := atI_nat (j := 0) rfl
    have a2 : atI [V.int mx, V.ref c, V.int pl] 2 = some (.int pl) := atI_nat (j := 2) rfl
    have hz : ((ns.map V.int).length : Int) = (ns.length : Int) := by rw [List.length_map]
    obtain ⟨M, hM, hM1, hM2⟩ : ∃ M : Int, (if ((ns.map V.int).length : Int) > 1 then ((ns.map V.int).length : Int) else 1) = M ∧ 1 ≤ M ∧ (ns ≠ [] → M = ns.length) := by
      refine ⟨_, rfl, ?_, ?_⟩
      · split <;> omega
      · intro hn
        have : 1 ≤ ns.length := List.length_pos_iff.mpr hn
        rw [hz]
        split <;> omega
    -- _law_at
    refine ⟨_, rfl, h, _, _, _, rfl, rfl, SqL.of eh, a2, _, rfl, h, _, _, _, rfl, rfl, SqL.of eh, a1, c, _, rfl, .inl (SqL.of ec), _, _, rfl, ?_⟩
    dsimp only
    rw [hM]
    refine ⟨_, _, rfl, rfl, (by show 0 < M; omega), ?_⟩
    have at0 : 0 ≤ pl % M := Int.emod_nonneg _ (by omega)
    have at1 : pl % M < M := Int.emod_lt_of_pos _ (by omega)
    -- _law_cell
    refine ⟨_, rfl, h, _, _, _, rfl, rfl, SqL.of eh, a1, (by show 0 ≤ sizeLine; decide), fun p np => ?_⟩
    have sp : Same H (upd H p (.lst [])) := same_upd np
    have eh1 := sp _ _ eh
    have ec1 := sp _ _ ec
    refine ⟨.list (ns.map PyData.int), .list [], Dp.lst (SqL.of ec1) (dpAll_ints ns), Dp.lst (SqL.of upd_same) .nil, PySem.W.shaped_ints ns, PySem.W.shaped_ints [], _, rfl, ?_⟩
    rw [eqv_nil]
    refine join_if (fun v H' => ∃ z : Int, v = .int z ∧ H' = upd H p (.lst []) ∧ (1000000000000000000 ≤ z → ns ≠ [])) ?_ ?_ ?_
    · rintro v H' ⟨z, rfl, rfl, hzn⟩
      refine ⟨_, rfl, _, _, rfl, rfl, ⟨by decide, by decide, by decide⟩, _, _, rfl, rfl, _, rfl, ?_⟩
      have e18 : (10 : Int) ^ (18 : Int).toNat = 1000000000000000000 := by decide
      dsimp only
      rw [e18]
      by_cases big : 1000000000000000000 ≤ z
      · rw [decide_eq_true big]
        refine iteT ?_
        have hn := hzn big
        have hj : (pl % M).toNat < ns.length := by
          have := hM2 hn
          omega
        refine ⟨_, rfl, _, rfl, _, _, rfl, rfl, ⟨by omega, by omega⟩, _, rfl, h, _, _, _, rfl, rfl, SqL.of eh1, a1, _, rfl, c, _, _, (pl % M).toNat, rfl, rfl, ec1, ?_, ?_⟩
        · rw [List.length_map]
          exact ixN_nn at0 (by omega)
        · refine ⟨_, rfl, _, rfl, _, _, rfl, rfl, (by show 0 < m; omega), ?_⟩
          dsimp only
          have e : z % m = ((z % m).toNat : Int) := (Int.toNat_of_nonneg (Int.emod_nonneg _ (by omega))).symm
          have lt := Int.emod_lt_of_pos z (show 0 < m by omega)
          rw [e]
          refine q _ _ (by omega) ⟨⟨mx, pl, ns.set (pl % M).toNat (z / m), ?_, ?_, m0, m1, p0, by rw [List.length_set]; exact hl⟩, nhc⟩ fun b o eb n1 n2 => ?_
          · rw [upd_ne nhc]
            exact eh1
          · rw [upd_same, List.map_set]
          · rw [upd_ne n2]
            exact sp _ _ eb
      · rw [decide_eq_false big]
        refine iteF ?_
        refine ⟨_, rfl, h, _, _, _, rfl, rfl, SqL.of eh1, a0, _, _, rfl, rfl, .inl (le64 m0 (by omega)), _, rfl, _, _, rfl, rfl, .inr ⟨by decide, by decide⟩, _, _, rfl, rfl, _, _, rfl, rfl, _, _, rfl, rfl, (by show (0 : Int) < 2147483647; decide),
          _, rfl, h, _, _, 0, rfl, rfl, eh1, rfl, ?_⟩
        refine ⟨_, rfl, h, _, _, _, rfl, rfl, SqL.of upd_same, atI_nat (j := 2) rfl, _, _, rfl, rfl, _, rfl, h, _, _, 2, rfl, rfl, upd_same, rfl, ?_⟩
        refine ⟨_, rfl, h, _, _, _, rfl, rfl, SqL.of upd_same, atI_nat (j := 0) rfl, _, _, rfl, rfl, ⟨by decide, by decide⟩, _, rfl, _, _, rfl, rfl, (by show 0 < m; omega), ?_⟩
        dsimp only
        have n0 := Int.emod_nonneg (mx * 48271 + z * 69621 + 11) (show (2147483647 : Int) ≠ 0 by decide)
        have n1 := Int.emod_lt_of_pos (mx * 48271 + z * 69621 + 11) (show (0 : Int) < 2147483647 by decide)
        generalize (mx * 48271 + z * 69621 + 11) % 2147483647 = y at n0 n1 ⊢
        have e : y / 7 % m = ((y / 7 % m).toNat : Int) := (Int.toNat_of_nonneg (Int.emod_nonneg _ (by omega))).symm
        have lt := Int.emod_lt_of_pos (y / 7) (show 0 < m by omega)
        rw [e]
        refine q _ _ (by omega) ⟨⟨y, pl + 1, ns, ?_, ?_, n0, n1, by omega, hl⟩, nhc⟩ fun b o eb n1 n2 => ?_
        · rw [upd_same]
          rfl
        · rw [upd_ne nhc.symm, upd_ne nhc.symm]
          exact ec1
        · rw [upd_ne n1, upd_ne n1]
          exact sp _ _ eb
    · intro e
      have hn : ns ≠ [] := by
        intro z
        subst z
        cases e
      have hj : (pl % M).toNat < ns.length := by
        have := hM2 hn
        omega
      exact ⟨.int ns[(pl % M).toNat], _, fun Q q => ⟨_, rfl, h, _, _, _, rfl, rfl, SqL.of eh1, a1, _, rfl, c, _, _, _, rfl, rfl, SqL.of ec1, at_of (j := (pl % M).toNat) (by omega) (by rw [List.getElem?_map, List.getElem?_eq_getElem hj]; rfl), q⟩, _, rfl, rfl, fun _ => hn⟩
    · intro e
      exact ⟨.int 0, _, fun Q q => q, 0, rfl, rfl, fun h => absurd h (by decide)⟩
end
/-! ### three comparisons in one chain, as a test -/
def tCh3 (r r' r'' : R2) (ta tb tc td : TE) : TT := fun σ H Q => ta σ H fun x H1 => tb σ H1 fun y H2 => r x y H2 fun z H3 => ∃ k, z = .bl k ∧
  (if k = true then tc σ H3 fun u H4 => r' y u H4 fun z2 H5 => ∃ k2, z2 = .bl k2 ∧ (if k2 = true then td σ H5 fun v H6 => r'' u v H6 fun z3 H7 => ∃ k3, z3 = .bl k3 ∧ Q k3 H7 else Q false H5) else Q false H3)
theorem pt_ch3 {X : Cx} {a b c d : Expr} {pos : Pos} {op op' op'' : CmpOp} {r r' r'' : R2} {ta tb tc td : TE} (ho : OpR X (compareOp op) r) (ho' : OpR X (compareOp op') r') (ho'' : OpR X (compareOp op'') r'') (ha : PE X a ta) (hb : PE X b tb) (hc : PE X c tc) (hd : PE X d td)
    (hm : lastMarks [op, op', op''] [b, c, d] = false := by with_unfolding_all rfl) : PT X (.Compare a [op, op', op''] [b, c, d] pos) (tCh3 r r' r'' ta tb tc td) := by
  refine ⟨fun pins s σ H Q I h => ?_⟩
  refine isTrue_chain (thn (ha.run pins s σ H _ I h) fun v s1 ⟨x, H1, I1, r1, q1⟩ => test_link (thn (hb.run pins s1 σ H1 _ I1 q1) fun u s2 ⟨y, H2, I2, r2, q2⟩ =>
    thn (ho pins s2 σ H2 x y v u _ I2 r1 r2 q2) fun d s3 ⟨z, H3, I3, r3, k, e, q3⟩ => ?_)) hm
  subst e
  cases r3
  refine wpAny_truthy_bool ?_
  cases k with
  | false => exact ite_ff ⟨H3, I3, q3⟩
  | true =>
    refine ite_tt (test_link (thn (hc.run pins s3 σ H3 _ I3 q3) fun w' s4 ⟨z', H4, I4, r4, q4⟩ => thn (ho' pins s4 σ H4 y z' u w' _ I4 r2 r4 q4) fun d' s5 ⟨z2, H5, I5, r5, k2, e2, q5⟩ => ?_))
    subst e2
    cases r5
    refine wpAny_truthy_bool ?_
    cases k2 with
    | false => exact ite_ff ⟨H5, I5, q5⟩
    | true =>
      refine ite_tt (test_last (thn (hd.run pins s5 σ H5 _ I5 q5) fun w2 s6 ⟨z3, H6, I6, r6, q6⟩ => thn (ho'' pins s6 σ H6 z' z3 w' w2 _ I6 r4 r6 q6) fun d2 s7 ⟨z4, H7, I7, r7, k3, e3, q7⟩ => ?_))
      subst e3
      cases r7
      exact wpAny_truthy_bool ⟨H7, I7, q7⟩
/-! ### the law's own end and reach over any such tuple (k06) -/
def kdOf (sh : Bool) : Str := if sh = true then "shift" else "count"
def RawAt (H : Hp) (p : Addr) (sh : Bool) (b st : Nat) : Prop := H p = some (.tup [.str (kdOf sh), .int (b : Int), .int (st : Int)])
def fin6 (sh : Bool) (b : Nat) : Nat := if sh = true then 0 else 2 ^ b - 1
def reach6 (sh : Bool) (b st : Nat) : Nat := st * (if sh = true then b else 2 ^ b - 1 - 1)
def spEnd6 : Sp := fun vs H Q _ => ∃ (p : Addr) (sh : Bool) (b st : Nat), vs = [.ref p] ∧ RawAt H p sh b st ∧ 1 ≤ b ∧ (sh = false → b ≤ 6) ∧ ∀ H', Same H H' → Q (.int (fin6 sh b : Int)) H'
def spReach6 : Sp := fun vs H Q _ => ∃ (p : Addr) (sh : Bool) (b st : Nat), vs = [.ref p] ∧ RawAt H p sh b st ∧ st ≤ 1000 ∧ 1 ≤ b ∧ (sh = false → b ≤ 6) ∧ ∀ H', Same H H' → Q (.int (reach6 sh b st : Int)) H'
theorem fin_at6 {b : Nat} (h1 : 1 ≤ b) (h : b ≤ 6) : atI [V.int 1, .int 3, .int 7, .int 15, .int 31, .int 63] ((b : Int) - 1) = some (.int ((2 ^ b - 1 : Nat) : Int)) := by
  have : b = 1 ∨ b = 2 ∨ b = 3 ∨ b = 4 ∨ b = 5 ∨ b = 6 := by omega
  rcases this with rfl | rfl | rfl | rfl | rfl | rfl
  · exact atI_nat (j := 0) rfl
  · exact atI_nat (j := 1) rfl
  · exact atI_nat (j := 2) rfl
  · exact atI_nat (j := 3) rfl
  · exact atI_nat (j := 4) rfl
  · exact atI_nat (j := 5) rfl
theorem k6_cs : ¬ (("count" : Str) = "shift") := by decide +kernel
section
variable {P : Program} {w : World} {K : PySem.W.Frag} {mg : Str → Option Value} {base : Heap}
theorem sc_end6 : FnScope ["_law_rule"] ["_law_rule"] (defScope s_L_end) := ⟨rfl, rfl, rfl, by decide +kernel, rfl, by decide +kernel, by decide +kernel⟩
theorem ok_end6 (D : DefAt K mg "_law_end" s_L_end ["_law_rule"]) : Cl P w K mg base 1 "_law_end" ["_law_rule"] spEnd6 := by
  refine D.cl fun f fd F => ?_
  refine F.ok sc_end6 (fun vs H Q E h => ?_) (fun cdv A outer s H vs Q E hr h => ?_)
  · obtain ⟨p, sh, b, st, rfl, _⟩ := h
    rfl
  · obtain ⟨p, sh, b, st, rfl, hp, b1, b6, q⟩ := h
    refine ⟨_, pss_one (ps_ret (pe_ifExp (pt_cmpR op_ne (pe_ix ix_tup (pv 0) pe_int (fun _ _ => rfl)) pe_str (nomark _)) (pe_ix ix_list (pe_lst (pa_cons pe_int (pa_cons pe_int (pa_cons pe_int (pa_cons pe_int (pa_cons pe_int (pa_cons pe_int pa_nil))))))) (pe_op op_sub (pe_ix ix_tup (pv 0) pe_int (fun _ _ => rfl)) pe_int) (fun _ _ => rfl)) pe_int)), ?_⟩
    refine ⟨_, rfl, p, _, _, _, rfl, rfl, SqT.of hp, atI_nat (j := 0) rfl, rfl, _, rfl, ?_⟩
    rw [dec_str]
    cases sh with
    | true =>
      rw [decide_eq_true (show kdOf true = "shift" from rfl)]
      exact iteF (q H (Same.refl H))
    | false =>
      rw [decide_eq_false (show ¬ kdOf false = "shift" from k6_cs)]
      refine iteT ⟨(by show 6 ≤ sizeLine; decide), fun l nl => ?_⟩
      have sl : Same H (upd H l (.lst [.int 1, .int 3, .int 7, .int 15, .int 31, .int 63])) := same_upd nl
      refine ⟨_, rfl, p, _, _, _, rfl, rfl, SqT.of (sl _ _ hp), atI_nat (j := 1) rfl, _, _, rfl, rfl, l, _, _, _, rfl, rfl, SqL.of upd_same, fin_at6 b1 (b6 rfl), ?_⟩
      exact q _ sl
theorem sc_reach6 : FnScope ["_law_rule"] ["_law_rule"] (defScope s_L_reach) := ⟨rfl, rfl, rfl, by decide +kernel, rfl, by decide +kernel, by decide +kernel⟩
theorem ok_reach6 (D : DefAt K mg "_law_reach" s_L_reach ["_law_rule"]) (C1 : Cl P w K mg base 1 "_law_end" ["_law_rule"] spEnd6) : Cl P w K mg base 2 "_law_reach" ["_law_rule"] spReach6 := by
  refine D.cl fun f fd F => ?_
  refine F.ok sc_reach6 (fun vs H Q E h => ?_) (fun cdv A outer s H vs Q E hr h => ?_)
  · obtain ⟨p, sh, b, st, rfl, _⟩ := h
    rfl
  · obtain ⟨p, sh, b, st, rfl, hp, st1, b1, b6, q⟩ := h
    refine ⟨_, pss_one (ps_ret (pe_op op_mul (pe_ix ix_tup (pv 0) pe_int (fun _ _ => rfl)) (pe_ifExp (pt_cmpR op_eq (pe_ix ix_tup (pv 0) pe_int (fun _ _ => rfl)) pe_str (nomark _)) (pe_ix ix_tup (pv 0) pe_int (fun _ _ => rfl)) (pe_op op_sub (pe_cl C1 hr (pa_cons (pv 0) pa_nil)) pe_int)))), ?_⟩
    refine ⟨_, rfl, p, _, _, _, rfl, rfl, SqT.of hp, atI_nat (j := 2) rfl, ?_⟩
    refine ⟨_, rfl, p, _, _, _, rfl, rfl, SqT.of hp, atI_nat (j := 0) rfl, rfl, _, rfl, ?_⟩
    rw [dec_str]
    cases sh with
    | true =>
      rw [decide_eq_true (show kdOf true = "shift" from rfl)]
      exact iteT ⟨_, rfl, p, _, _, _, rfl, rfl, SqT.of hp, atI_nat (j := 1) rfl, _, _, rfl, rfl, .inl (le64 (by omega) (by omega)), q H (Same.refl H)⟩
    | false =>
      rw [decide_eq_false (show ¬ kdOf false = "shift" from k6_cs)]
      refine iteF ⟨_, rfl, p, false, b, st, rfl, hp, b1, b6, fun H1 s1 => ?_⟩
      have p2 : 1 ≤ 2 ^ b - 1 := by
        have := Nat.pow_le_pow_right (show 0 < 2 by decide) b1
        omega
      have e : (st : Int) * (((2 ^ b - 1 : Nat) : Int) - 1) = (reach6 false b st : Int) := by
        show _ = ((st * (2 ^ b - 1 - 1) : Nat) : Int)
        rw [Int.natCast_mul, Int.ofNat_sub p2]
        rfl
      have q' := q H1 s1
      rw [← e] at q'
      exact ⟨_, _, rfl, rfl, _, _, rfl, rfl, .inl (le64 (by omega) (by omega)), q'⟩
end
def tab6 : List V := [.int 1024, .int 512, .int 256, .int 128, .int 64, .int 32, .int 16, .int 8, .int 4, .int 2, .int 1, .int 0]
theorem tab6_at {b m : Nat} (h1 : 1 ≤ b) (h2 : b ≤ 10) (h3 : m ≤ b + 1) : atI (cutV tab6 (some ((10 : Int) - (b : Int))) none ++ [V.int 0]) (m : Int) = some (.int ((2 ^ b / 2 ^ m : Nat) : Int)) := by
  have hb : b = 1 ∨ b = 2 ∨ b = 3 ∨ b = 4 ∨ b = 5 ∨ b = 6 ∨ b = 7 ∨ b = 8 ∨ b = 9 ∨ b = 10 := by omega
  have hm : m = 0 ∨ m = 1 ∨ m = 2 ∨ m = 3 ∨ m = 4 ∨ m = 5 ∨ m = 6 ∨ m = 7 ∨ m = 8 ∨ m = 9 ∨ m = 10 ∨ m = 11 := by omega
  rcases hb with rfl | rfl | rfl | rfl | rfl | rfl | rfl | rfl | rfl | rfl <;> rcases hm with rfl | rfl | rfl | rfl | rfl | rfl | rfl | rfl | rfl | rfl | rfl | rfl <;> first | (exfalso; omega) | exact atI_nat rfl
def mark6 (sh : Bool) (b t : Nat) : Nat := if sh = true then 2 ^ b / 2 ^ (min t (b + 1)) else min t (2 ^ b - 1)
def spMark6 : Sp := fun vs H Q _ => ∃ (p : Addr) (sh : Bool) (b st : Nat) (i j : Int), vs = [.ref p, .int i, .int j] ∧ RawAt H p sh b st ∧ 1 ≤ st ∧ st ≤ 1000 ∧ 1 ≤ b ∧ b ≤ 10 ∧ (sh = false → b ≤ 6) ∧
  (¬ (0 ≤ i ∧ i ≤ j ∧ j ≤ 1000000) → Q .non H) ∧ ∀ n k : Nat, i = (n : Int) → j = (k : Int) → n ≤ k → k ≤ 1000000 → ∀ H', Same H H' → Q (.int (mark6 sh b (k / st - n / st) : Int)) H'
theorem k6_sc : ¬ (("shift" : Str) = "count") := by decide +kernel
section
variable {P : Program} {w : World} {K : PySem.W.Frag} {mg : Str → Option Value} {base : Heap}
theorem sc_mark6 : FnScope ["_law_rule", "_law_one", "_law_moment", "_law_turns"] ["_law_rule", "_law_one", "_law_moment"] (defScope s_L_mark) := ⟨rfl, rfl, rfl, by decide +kernel, rfl, by decide +kernel, by decide +kernel⟩
theorem ok_mark6 (D : DefAt K mg "_law_mark" s_L_mark ["_law_rule", "_law_one", "_law_moment"]) (m_min : mg "min" = none) (C1 : Cl P w K mg base 1 "_law_end" ["_law_rule"] spEnd6) : Cl P w K mg base 2 "_law_mark" ["_law_rule", "_law_one", "_law_moment"] spMark6 := by
  refine D.cl fun f fd F => ?_
  refine F.ok sc_mark6 (fun vs H Q E h => ?_) (fun cdv A outer s H vs Q E hr h => ?_)
  · obtain ⟨p, sh, b, st, i, j, rfl, _⟩ := h
    rfl
  · obtain ⟨p, sh, b, st, i, j, rfl, hp, s1, s2, b1, b10, b6, qn, q⟩ := h
    refine ⟨_, pss_cons (ps_if (pt_not (pt_ch3 op_le op_le op_le pe_int (pv 1) (pv 2) (pe_op op_pow pe_int pe_int))) (pss_one (ps_ret pe_non)) pss_nil)
      (pss_cons (ps_set (i := 3) sc_mark6.nd rfl (Or.inl rfl) (pe_op op_sub (pe_op op_fdiv (pv 2) (pe_ix ix_tup (pv 0) pe_int (fun _ _ => rfl))) (pe_op op_fdiv (pv 1) (pe_ix ix_tup (pv 0) pe_int (fun _ _ => rfl)))))
      (pss_cons (ps_if (pt_cmpR op_eq (pe_ix ix_tup (pv 0) pe_int (fun _ _ => rfl)) pe_str (nomark _)) (pss_one (ps_ret (pe_callB (call_min2 rfl) (by rfl) m_min (by decide +kernel) (pa_cons (pv 3) (pa_cons (pe_cl C1 hr (pa_cons (pv 0) pa_nil)) pa_nil))))) pss_nil)
      (pss_one (ps_ret (pe_ix ix_list (pe_op op_cat (pe_slice sl_list (pe_lst (pa_cons pe_int (pa_cons pe_int (pa_cons pe_int (pa_cons pe_int (pa_cons pe_int (pa_cons pe_int (pa_cons pe_int (pa_cons pe_int (pa_cons pe_int (pa_cons pe_int (pa_cons pe_int (pa_cons pe_int pa_nil))))))))))))) (po_some (pe_op op_sub pe_int (pe_ix ix_tup (pv 0) pe_int (fun _ _ => rfl)))) po_none) (pe_lst (pa_cons pe_int pa_nil)))
        (pe_callB (call_min2 rfl) (by rfl) m_min (by decide +kernel) (pa_cons (pv 3) (pa_cons (pe_op op_add (pe_ix ix_tup (pv 0) pe_int (fun _ _ => rfl)) pe_int) pa_nil))) (fun _ _ => rfl)))))), ?_⟩
    refine ⟨_, rfl, _, _, rfl, rfl, _, rfl, ?_⟩
    have e6 : (10 : Int) ^ (6 : Int).toNat = 1000000 := by decide
    by_cases c1 : (0 : Int) ≤ i
    case neg =>
      rw [decide_eq_false c1]
      exact iteF (iteT (qn fun z => c1 z.1))
    rw [decide_eq_true c1]
    refine iteT ⟨_, rfl, _, _, rfl, rfl, _, rfl, ?_⟩
    by_cases c2 : i ≤ j
    case neg =>
      rw [decide_eq_false c2]
      exact iteF (iteT (qn fun z => c2 z.2.1))
    rw [decide_eq_true c2]
    refine iteT ⟨_, _, rfl, rfl, ⟨by decide, by decide, by decide⟩, _, _, rfl, rfl, _, rfl, ?_⟩
    rw [e6]
    by_cases c3 : j ≤ 1000000
    case neg =>
      rw [decide_eq_false c3]
      exact iteT (qn fun z => c3 z.2.2)
    rw [decide_eq_true c3]
    refine iteF ?_
    obtain ⟨n, rfl⟩ : ∃ n : Nat, i = (n : Int) := ⟨i.toNat, by omega⟩
    obtain ⟨k, rfl⟩ : ∃ k : Nat, j = (k : Int) := ⟨j.toNat, by omega⟩
    have qq := q n k rfl rfl (by omega) (by omega)
    refine ⟨_, rfl, _, rfl, p, _, _, _, rfl, rfl, SqT.of hp, atI_nat (j := 2) rfl, _, _, rfl, rfl, ⟨by omega, by omega⟩, _, rfl, _, rfl, p, _, _, _, rfl, rfl, SqT.of hp, atI_nat (j := 2) rfl, _, _, rfl, rfl, ⟨by omega, by omega⟩, _, _, rfl, rfl, ?_⟩
    have dn : n / st ≤ k / st := Nat.div_le_div_right (by omega)
    have et : (k : Int) / (st : Int) - (n : Int) / (st : Int) = ((k / st - n / st : Nat) : Int) := by
      rw [Int.ofNat_sub dn]
      rfl
    dsimp only
    rw [et]
    refine ⟨_, rfl, p, _, _, _, rfl, rfl, SqT.of hp, atI_nat (j := 0) rfl, rfl, _, rfl, ?_⟩
    rw [dec_str]
    cases sh with
    | false =>
      rw [decide_eq_true (show kdOf false = "count" from rfl)]
      refine iteT ⟨_, rfl, _, rfl, p, false, b, st, rfl, hp, b1, b6, fun H1 k1 => ⟨_, _, rfl, ?_⟩⟩
      have e : (if ((fin6 false b : Nat) : Int) < ((k / st - n / st : Nat) : Int) then ((fin6 false b : Nat) : Int) else ((k / st - n / st : Nat) : Int)) = ((mark6 false b (k / st - n / st) : Nat) : Int) := by
        show _ = ((min (k / st - n / st) (fin6 false b) : Nat) : Int)
        split <;> omega
      rw [e]
      exact qq H1 k1
    | true =>
      rw [decide_eq_false (show ¬ kdOf true = "count" from k6_sc)]
      refine iteF ⟨(by show 12 ≤ sizeLine; decide), fun l nl => ?_⟩
      have k1 := same_upd (o := .lst tab6) nl
      refine ⟨_, rfl, p, _, _, _, rfl, rfl, SqT.of (k1 _ _ hp), atI_nat (j := 1) rfl, _, _, rfl, rfl, _, rfl, l, _, rfl, SqL.of upd_same, fun c nc => ?_⟩
      have k2 := same_upd (o := .lst (cutV tab6 (some ((10 : Int) - (b : Int))) none)) nc
      refine ⟨(by show 1 ≤ sizeLine; decide), fun z nz => ?_⟩
      have k3 := same_upd (o := .lst [V.int 0]) nz
      refine ⟨c, z, _, _, rfl, rfl, k3 _ _ upd_same, upd_same, ?_, fun d nd => ?_⟩
      · exact Nat.le_trans (Nat.add_le_add_right (cutV_length _ _ _) 1) (by show 13 ≤ sizeLine; decide)
      have k4 := same_upd (o := .lst (cutV tab6 (some ((10 : Int) - (b : Int))) none ++ [V.int 0])) nd
      have kk := ((k1.trans k2).trans k3).trans k4
      have e : (if (b : Int) + 1 < ((k / st - n / st : Nat) : Int) then (b : Int) + 1 else ((k / st - n / st : Nat) : Int)) = ((min (k / st - n / st) (b + 1) : Nat) : Int) := by
        split <;> omega
      refine ⟨_, rfl, _, rfl, p, _, _, _, rfl, rfl, SqT.of (kk _ _ hp), atI_nat (j := 1) rfl, _, _, rfl, rfl, _, _, rfl, ?_⟩
      rw [e]
      exact ⟨d, _, _, _, rfl, rfl, SqL.of upd_same, tab6_at b1 b10 (Nat.min_le_right _ _), qq _ kk⟩
end
/-! ### bs.count(True), a list of truth values -/
def eqT (v : Value) : Bool := match v with
  | .bool b => b
  | _ => false
theorem countT (bs : List Bool) : (bs.map Value.bool).countP eqT = bs.count true := by
  induction bs with
  | nil => rfl
  | cons b r ih =>
    rw [List.map_cons, List.countP_cons, List.count_cons, ih]
    cases b <;> rfl
section
variable {X : Cx}
def rCntB (K : PySem.W.Frag) : V → List V → Hp → VK → Prop := fun x xs H Q => ∃ (p : Addr) (bs : List Bool), x = .ref p ∧ xs = [.bl true] ∧ SqL K H p (bs.map V.bl) ∧ Q (.int ((bs.count true : Nat) : Int)) H
theorem mt_countB : MtR X "list.count" (rCntB X.K) := by
  intro pins s σ H x xs v us Q I rx rxs h
  obtain ⟨p, bs, rfl, rfl, hs, q⟩ := h
  cases rx
  obtain ⟨u, rfl, ru⟩ := rxs.one
  obtain rfl : u = Value.bool true := ru
  obtain ⟨its, rv, ⟨⟨cls, dd, data, sl⟩, n, ho, hc, hdn, hd⟩, hlen⟩ := I.list hs
  simp only at hc hd
  subst hc hd
  have hb := rv.bls
  refine call_meets PySem.F.slot_list_count ⟨_, ho, rfl⟩ PySem.F.entry_list_count (PySem.F.args_list_count_2 _ _) (SeqAt.list_countAt p its.toArray n dd sl (.bool true) eqT) ⟨ho, fun y hy => ?_, ?_⟩
  · have hy' : y ∈ bs.map Value.bool := by
      rw [← hb]
      simpa using hy
    obtain ⟨b, _, rfl⟩ := List.mem_map.mp hy'
    have e := SeqAt.EqAt.bool_bool (A := X.A.in1) (s := s) b true
    have eb : (b == true) = eqT (.bool b) := by cases b <;> rfl
    rw [eb] at e
    first
      | exact e
      | exact SeqAt.EqAt.bool_bool b true
  · refine ⟨.int ((bs.count true : Nat) : Int), H, I.tok _, ⟨s.toks, ?_⟩, q⟩
    show Value.int ((its.toArray.toList.countP eqT : Nat) : Int) s.toks = Value.int ((bs.count true : Nat) : Int) s.toks
    rw [List.toList_toArray, hb, countT]
end
/-! ### with which class a thing is refused -/
def kwords : List Str := ["BadRule", "BadMark", "BadMoment", "BadBounds", "NoRule", "BadThings", "NoThing", "BadText"]
structure ErrG (mg : Str → Option Value) (cS c0 c1 c2 c3 c4 c5 c6 c7 : Addr) : Prop where
  gS : mg "SeenError" = some (.ref cS)
  g0 : mg "BadRule" = some (.ref c0)
  g1 : mg "BadMark" = some (.ref c1)
  g2 : mg "BadMoment" = some (.ref c2)
  g3 : mg "BadBounds" = some (.ref c3)
  g4 : mg "NoRule" = some (.ref c4)
  g5 : mg "BadThings" = some (.ref c5)
  g6 : mg "NoThing" = some (.ref c6)
  g7 : mg "BadText" = some (.ref c7)
/-- the class at D is the j-th of the words, and none of the others -/
structure ErrIs (K : PySem.W.Frag) (cS c0 c1 c2 c3 c4 c5 c6 c7 D : Addr) (j : Nat) : Prop where
  ex : ExcC K D
  em : PySem.W.exmOne K (.ref D) (.ref cS) = some true
  k0 : PySem.W.kitOne K (.ref D) (.ref c0) = some (decide (j = 0))
  k1 : PySem.W.kitOne K (.ref D) (.ref c1) = some (decide (j = 1))
  k2 : PySem.W.kitOne K (.ref D) (.ref c2) = some (decide (j = 2))
  k3 : PySem.W.kitOne K (.ref D) (.ref c3) = some (decide (j = 3))
  k4 : PySem.W.kitOne K (.ref D) (.ref c4) = some (decide (j = 4))
  k5 : PySem.W.kitOne K (.ref D) (.ref c5) = some (decide (j = 5))
  k6 : PySem.W.kitOne K (.ref D) (.ref c6) = some (decide (j = 6))
  k7 : PySem.W.kitOne K (.ref D) (.ref c7) = some (decide (j = 7))
  kv : PySem.W.kitOne K (.ref D) (.type "ValueError") = some true
  lt : j < 8
def hot (j : Nat) : List Bool := [decide (j = 0), decide (j = 1), decide (j = 2), decide (j = 3), decide (j = 4), decide (j = 5), decide (j = 6), decide (j = 7)]
theorem hot_count {j : Nat} (h : j < 8) : (hot j).count true = 1 := by
  have : j = 0 ∨ j = 1 ∨ j = 2 ∨ j = 3 ∨ j = 4 ∨ j = 5 ∨ j = 6 ∨ j = 7 := by omega
  rcases this with rfl | rfl | rfl | rfl | rfl | rfl | rfl | rfl <;> rfl
theorem hot_at {j : Nat} (h : j < 8) : ((hot j).map V.bl)[j]? = some (.bl true) := by
  have : j = 0 ∨ j = 1 ∨ j = 2 ∨ j = 3 ∨ j = 4 ∨ j = 5 ∨ j = 6 ∨ j = 7 := by omega
  rcases this with rfl | rfl | rfl | rfl | rfl | rfl | rfl | rfl <;> rfl
theorem hot_get {j m : Nat} {z : V} (h : ((hot j).map V.bl)[m]? = some z) : z = .bl (decide (j = m)) := by
  match m, h with
  | 0, h => exact (Option.some.inj h).symm
  | 1, h => exact (Option.some.inj h).symm
  | 2, h => exact (Option.some.inj h).symm
  | 3, h => exact (Option.some.inj h).symm
  | 4, h => exact (Option.some.inj h).symm
  | 5, h => exact (Option.some.inj h).symm
  | 6, h => exact (Option.some.inj h).symm
  | 7, h => exact (Option.some.inj h).symm
  | m + 8, h => simp [hot] at h
theorem hot_flat (j : Nat) : ((hot j).map V.bl).all flatV = true := rfl
/-- what the def makes of the reading of what it calls -/
def TKind (K : PySem.W.Frag) (cS c0 c1 c2 c3 c4 c5 c6 c7 : Addr) : (XK → Hp → VK → Prop) → Hp → VK → Prop := fun tl H Q =>
  tl (fun cls d H' => ∃ D j wd, cls = .ref D ∧ d = none ∧ ErrIs K cS c0 c1 c2 c3 c4 c5 c6 c7 D j ∧ kwords[j]? = some wd ∧ ∀ H'', Same H' H'' → Q (.str wd) H'') H (fun _ H' => Q (.str "") H')
section
theorem sc_kind : FnScope ["_law_work", "e", "_law_kinds", "_law_words"] ["_law_work"] (defScope s_L_kind) := ⟨rfl, rfl, rfl, by decide +kernel, rfl, by decide +kernel, by decide +kernel⟩
theorem kind_gives {X : Cx} {g : Addr} {cdg : Value} {q : Str} {cS c0 c1 c2 c3 c4 c5 c6 c7 : Addr} (G : ErrG X.mg cS c0 c1 c2 c3 c4 c5 c6 c7) (m_isi : X.mg "isinstance" = none) (m_ve : X.mg "ValueError" = none) (hu : X.A.units + 300 < cLine) :
    LamX.GivesTo X ["_law_work", "e", "_law_kinds", "_law_words"] "_law_kind" (defScope s_L_kind) g cdg (defBody s_L_kind) "_law_work" q (TKind X.K cS c0 c1 c2 c3 c4 c5 c6 c7) := by
  intro f c' s H Q tl act hc h
  refine ⟨_, pss_cons (ps_try_as (X := (cxOf C8.CX0 X.prog X.w X.K X.mg X.base ["_law_work", "e", "_law_kinds", "_law_words"] "_law_kind" (defScope s_L_kind) g cdg X.A X.stack s H C8.E0).nox) (i := 1) (c := .ref cS)
      (tb := fun W D σ H => ∃ Ech : XK, (∀ cls d σ' H', Ech cls d H' → W cls d σ' H') ∧ σ[0]? = some (some (.ref f)) ∧ H c' = some (LamX.CodeO c' q) ∧ tl Ech H (fun _ H' => D.nx σ H'))
      (ts := fun a cls d D σ H => ∃ Dc j wd, cls = .ref Dc ∧ d = none ∧ ErrIs X.K cS c0 c1 c2 c3 c4 c5 c6 c7 Dc j ∧ kwords[j]? = some wd ∧ (∃ σ0 : L2.St, σ = σ0.set 1 (some (.ref a))) ∧ ∀ H', Same H H' → D.rt (.str wd) H')
      rfl rfl sc_kind.nd rfl rfl ⟨rfl, by decide, .inl G.gS⟩ takes0 (fun W pn xe tk _ => ?_) (fun a oe cls d pn hz hf => ?_)) (pss_one (ps_ret pe_str)), ?_⟩
  · refine ⟨fun pins s' σ H' D I h' => ?_⟩
    obtain ⟨Ech, hW, h1, h2, h3⟩ := h'
    exact (pss_one (ps_expr (act W pn xe Ech _ _ tk hW))).run pins s' σ H' D I ⟨h1, h2, h3⟩
  · refine ⟨fun pins s' σ H' D I h' => ?_⟩
    obtain ⟨Dc, j, wd, rfl, rfl, er, hwd, ⟨σ0, rfl⟩, hq⟩ := h'
    have ln := I.len
    rw [List.length_set] at ln
    obtain ⟨y0, y1, y2, y3, rfl⟩ : ∃ y0 y1 y2 y3, σ0 = [y0, y1, y2, y3] := by
      match σ0, ln with
      | [y0, y1, y2, y3], _ => exact ⟨_, _, _, _, rfl⟩
    have isE := call_isE (X := (cxOf C8.CX0 X.prog X.w X.K X.mg X.base ["_law_work", "e", "_law_kinds", "_law_words"] "_law_kind" (defScope s_L_kind) g cdg X.A X.stack s H C8.E0).nox) (a := a) (pn := pn) er.ex hz hf
    refine' PSs.run (X := ((cxOf C8.CX0 X.prog X.w X.K X.mg X.base ["_law_work", "e", "_law_kinds", "_law_words"] "_law_kind" (defScope s_L_kind) g cdg X.A X.stack s H C8.E0).nox).suite a ((a, oe) :: pn)) (t := _) ?hh pins s' _ H' D I ?rr
    case hh =>
      refine' pss_cons (ps_set (i := 2) sc_kind.nd rfl (Or.inl rfl) (pe_lst (pa_cons (pe_callB isE (by rfl) m_isi (by decide +kernel) (pa_cons (pv 1) (pa_cons (pe_glob (v := .ref c0) (by rfl) G.g0 rfl) pa_nil)))
        (pa_cons (pe_callB isE (by rfl) m_isi (by decide +kernel) (pa_cons (pv 1) (pa_cons (pe_glob (v := .ref c1) (by rfl) G.g1 rfl) pa_nil)))
        (pa_cons (pe_callB isE (by rfl) m_isi (by decide +kernel) (pa_cons (pv 1) (pa_cons (pe_glob (v := .ref c2) (by rfl) G.g2 rfl) pa_nil)))
        (pa_cons (pe_callB isE (by rfl) m_isi (by decide +kernel) (pa_cons (pv 1) (pa_cons (pe_glob (v := .ref c3) (by rfl) G.g3 rfl) pa_nil))) pa_nil)))))) ?n0
      case n0 =>
        refine' pss_cons (ps_set (i := 2) sc_kind.nd rfl (Or.inl rfl) (pe_op op_cat (pv 2) (pe_lst (pa_cons (pe_callB isE (by rfl) m_isi (by decide +kernel) (pa_cons (pv 1) (pa_cons (pe_glob (v := .ref c4) (by rfl) G.g4 rfl) pa_nil)))
        (pa_cons (pe_callB isE (by rfl) m_isi (by decide +kernel) (pa_cons (pv 1) (pa_cons (pe_glob (v := .ref c5) (by rfl) G.g5 rfl) pa_nil)))
        (pa_cons (pe_callB isE (by rfl) m_isi (by decide +kernel) (pa_cons (pv 1) (pa_cons (pe_glob (v := .ref c6) (by rfl) G.g6 rfl) pa_nil))) pa_nil)))))) ?n1
        case n1 =>
          refine' pss_cons (ps_expr (pe_bm PySem.F.plainAttrs_list PySem.F.slot_list_append PySem.F.type_list_append mt_append (pv 2) (pa_cons (pe_callB isE (by rfl) m_isi (by decide +kernel) (pa_cons (pv 1) (pa_cons (pe_glob (v := .ref c7) (by rfl) G.g7 rfl) pa_nil))) pa_nil))) ?n2
          case n2 =>
            refine' pss_cons (ps_set (i := 3) sc_kind.nd rfl (Or.inl rfl) (pe_lst (pa_cons pe_str (pa_cons pe_str (pa_cons pe_str (pa_cons pe_str (pa_cons pe_str (pa_cons pe_str (pa_cons pe_str (pa_cons pe_str pa_nil)))))))))) ?n3
            case n3 =>
              refine' pss_cons (ps_if (PW.pt (pw_or (pt_cmpR op_ne (pe_bm PySem.F.plainAttrs_list PySem.F.slot_list_count PySem.F.type_list_count mt_countB (pv 2) (pa_cons pe_bl pa_nil)) pe_int (nomark _)) (pw_or1 (pt_not (pt_val (pe_callB isE (by rfl) m_isi (by decide +kernel) (pa_cons (pv 1) (pa_cons (pe_bltn (v := .ty "ValueError") (u := .type "ValueError") (by rfl) m_ve (by decide +kernel) rfl) pa_nil)))))))) pss_never pss_nil) ?n4
              case n4 =>
                exact pss_one (ps_ret (pe_ix ix_list (pv 3) (pe_bm PySem.F.plainAttrs_list PySem.F.slot_list_index PySem.F.type_list_index mt_index (pv 2) (pa_cons pe_bl pa_nil)) (fun _ _ => rfl)))
    case rr =>
      refine ⟨_, rfl, .ref c0, .ref c0, _, rfl, fun u r => r, er.k0, _, rfl, .ref c1, .ref c1, _, rfl, fun u r => r, er.k1, _, rfl, .ref c2, .ref c2, _, rfl, fun u r => r, er.k2, _, rfl, .ref c3, .ref c3, _, rfl, fun u r => r, er.k3, (by show 4 ≤ sizeLine; decide), fun l1 n1 => ?_⟩
      have s1 := same_upd (o := .lst [V.bl (decide (j = 0)), V.bl (decide (j = 1)), V.bl (decide (j = 2)), V.bl (decide (j = 3))]) n1
      refine ⟨_, rfl, _, rfl, .ref c4, .ref c4, _, rfl, fun u r => r, er.k4, _, rfl, .ref c5, .ref c5, _, rfl, fun u r => r, er.k5, _, rfl, .ref c6, .ref c6, _, rfl, fun u r => r, er.k6, (by show 3 ≤ sizeLine; decide), fun l2 n2 => ?_⟩
      have s2 := same_upd (o := .lst [V.bl (decide (j = 4)), V.bl (decide (j = 5)), V.bl (decide (j = 6))]) n2
      refine ⟨l1, l2, _, _, rfl, rfl, s2 _ _ upd_same, upd_same, (by show 4 + 3 ≤ sizeLine; decide), fun l3 n3 => ?_⟩
      have s3 := same_upd (o := .lst ([V.bl (decide (j = 0)), V.bl (decide (j = 1)), V.bl (decide (j = 2)), V.bl (decide (j = 3))] ++ [V.bl (decide (j = 4)), V.bl (decide (j = 5)), V.bl (decide (j = 6))])) n3
      refine ⟨_, rfl, .inl ⟨rfl, _, SqL.of upd_same⟩, _, rfl, .ref c7, .ref c7, _, rfl, fun u r => r, er.k7, l3, _, _, rfl, rfl, upd_same, (by show 7 < sizeLine; decide), ?_⟩
      rw [upd_upd]
      have sa : Same H' (upd (upd (upd H' l1 (.lst [V.bl (decide (j = 0)), V.bl (decide (j = 1)), V.bl (decide (j = 2)), V.bl (decide (j = 3))])) l2 (.lst [V.bl (decide (j = 4)), V.bl (decide (j = 5)), V.bl (decide (j = 6))])) l3 (.lst ((hot j).map V.bl))) := (s1.trans s2).trans (same_upd n3)
      refine ⟨(by show 8 ≤ sizeLine; decide), fun l4 n4 => ?_⟩
      have s4 := same_upd (o := .lst (kwords.map V.str)) n4
      have e3 := s4 _ _ (show (upd (upd (upd H' l1 (HO.lst [V.bl (decide (j = 0)), V.bl (decide (j = 1)), V.bl (decide (j = 2)), V.bl (decide (j = 3))])) l2 (.lst [V.bl (decide (j = 4)), V.bl (decide (j = 5)), V.bl (decide (j = 6))])) l3 (.lst ((hot j).map V.bl))) l3 = some (.lst ((hot j).map V.bl)) from upd_same)
      refine ⟨_, rfl, .inl ⟨rfl, _, SqL.of e3⟩, l3, hot j, rfl, rfl, SqL.of e3, rfl, _, rfl, ?_⟩
      rw [hot_count er.lt]
      refine iteNS rfl ?_
      refine ⟨_, rfl, .ty "ValueError", .type "ValueError", _, rfl, fun u r => r, er.kv, _, rfl, iteF ?_⟩
      refine ⟨_, rfl, _, rfl, .inl ⟨rfl, _, SqL.of e3⟩, l3, (hot j).map V.bl, .bl true, j, .bl true, rfl, rfl, SqL.of e3, rfl, hot_flat j, hot_at er.lt, rfl, fun m z' hm hz' => ?_, ?_⟩
      · rw [hot_get hz', decide_eq_false (show ¬ j = m by omega)]
        rfl
      · refine ⟨l4, kwords.map V.str, _, _, rfl, rfl, SqL.of upd_same, atI_nat (j := j) (by rw [List.getElem?_map, hwd]; rfl), hq _ (sa.trans s4)⟩
  · exact ⟨fun cls d H' => ∃ D j wd, cls = .ref D ∧ d = none ∧ ErrIs X.K cS c0 c1 c2 c3 c4 c5 c6 c7 D j ∧ kwords[j]? = some wd ∧ ∀ H'', Same H' H'' → Q (.str wd) H'', fun cls d σ' H' ⟨D, j, wd, e1, e2, er, hwd, hq⟩ => by
      subst e1 e2
      exact ⟨true, er.em, fun _ a _ => ⟨D, j, wd, rfl, rfl, er, hwd, ⟨σ', rfl⟩, hq⟩, fun e => nomatch e⟩, rfl, hc, h⟩
end
/-! ### lambdas are made: all but the tables of code stands (short) -/
theorem HAt.ext {H H' : Hp} {h c : Addr} (a : HAt H h c) (e : LamX.ExtN H H') : HAt H' h c := by
  obtain ⟨⟨mx, pl, ns, e1, e2, rest⟩, hne⟩ := a
  exact ⟨⟨mx, pl, ns, e _ _ e1 (fun _ z => nomatch z), e _ _ e2 (fun _ z => nomatch z), rest⟩, hne⟩
abbrev plainO (o : HO) : Prop := (∀ ps, o ≠ .tbl ps) ∧ ∀ F, o ≠ .ext F
theorem TabS_kpL {H H' : Hp} {P : Addr} {q : Str} {L : List Addr} (t : LamX.TabS H P q) (k : KpL L H H') (n : ∀ x, x ∈ L → ∃ o, H x = some o ∧ plainO o) : LamX.TabS H' P q := by
  obtain ⟨ps, h1, h2, h3⟩ := t
  refine ⟨ps, k _ _ h1 (fun z => ?_), h2, fun pos cv hc => ?_⟩
  · obtain ⟨o, e, n1, _⟩ := n _ z
    rw [h1] at e
    exact n1 ps (Option.some.inj e).symm
  · obtain ⟨c, e1, e2⟩ := h3 pos cv hc
    refine ⟨c, e1, k _ _ e2 fun z => ?_⟩
    obtain ⟨o, e, _, n2⟩ := n _ z
    rw [e2] at e
    exact n2 _ (Option.some.inj e).symm
theorem HAt.plain {H : Hp} {h c x : Addr} (a : HAt H h c) (hx : x ∈ [h, c]) : ∃ o, H x = some o ∧ plainO o := by
  obtain ⟨⟨mx, pl, ns, e1, e2, _⟩, _⟩ := a
  rcases List.mem_cons.mp hx with rfl | hx
  · exact ⟨_, e1, ⟨(fun _ z => nomatch z), (fun _ z => nomatch z)⟩⟩
  · rw [List.mem_singleton.mp hx]
    exact ⟨_, e2, ⟨(fun _ z => nomatch z), (fun _ z => nomatch z)⟩⟩
abbrev qL : Str := ("law" : Str) ++ ".<locals>." ++ "<lambda>"
/-! ### which of the words a class is, as one test -/
def errIsB (K : PySem.W.Frag) (cS c0 c1 c2 c3 c4 c5 c6 c7 D : Addr) (j : Nat) : Bool :=
  (decide (PySem.W.findIn K (.ref D) "__getattribute__" = some (some (.builtin "BaseException.__getattribute__"))) && decide (PySem.W.findIn K (.ref D) "__getattr__" = some none) && decide (PySem.W.subIn K (.ref D) (.type "BaseException") = some true) && PySem.W.hasDictIn K D &&
    decide (PySem.W.findIn K (.ref D) "__class__" = some (some (.builtin "object.__class__"))) && decide (PySem.W.specialIn K (.builtin "object.__class__") "__get__" = some (some (.builtin "getset_descriptor.__get__"))) && decide (PySem.W.takesIn K (.builtin "object.__class__") = some true) && decide (PySem.W.mroIn K D (.type "object") = some true)) &&
  (decide (PySem.W.exmOne K (.ref D) (.ref cS) = some true) && decide (PySem.W.kitOne K (.ref D) (.ref c0) = some (decide (j = 0))) && decide (PySem.W.kitOne K (.ref D) (.ref c1) = some (decide (j = 1))) && decide (PySem.W.kitOne K (.ref D) (.ref c2) = some (decide (j = 2))) && decide (PySem.W.kitOne K (.ref D) (.ref c3) = some (decide (j = 3))) &&
    decide (PySem.W.kitOne K (.ref D) (.ref c4) = some (decide (j = 4))) && decide (PySem.W.kitOne K (.ref D) (.ref c5) = some (decide (j = 5))) && decide (PySem.W.kitOne K (.ref D) (.ref c6) = some (decide (j = 6))) && decide (PySem.W.kitOne K (.ref D) (.ref c7) = some (decide (j = 7))) && decide (PySem.W.kitOne K (.ref D) (.type "ValueError") = some true) && decide (j < 8))
theorem errIs_of {K : PySem.W.Frag} {cS c0 c1 c2 c3 c4 c5 c6 c7 D : Addr} {j : Nat} (h : errIsB K cS c0 c1 c2 c3 c4 c5 c6 c7 D j = true) : ErrIs K cS c0 c1 c2 c3 c4 c5 c6 c7 D j := by
  unfold errIsB at h
  simp only [Bool.and_eq_true, decide_eq_true_eq] at h
  obtain ⟨⟨⟨⟨⟨⟨⟨⟨h1, h2⟩, h3⟩, h4⟩, h5⟩, h6⟩, h7⟩, h8⟩, ⟨⟨⟨⟨⟨⟨⟨⟨⟨⟨g0, g1⟩, g2⟩, g3⟩, g4⟩, g5⟩, g6⟩, g7⟩, g8⟩, g9⟩, g10⟩⟩ := h
  exact ⟨⟨h1, h2, h3, h4, h5, h6, h7, h8⟩, g0, g1, g2, g3, g4, g5, g6, g7, g8, g9, g10⟩
/-! ### the program: the fewest bits -/
def mb6 (sh : Bool) : Nat := if sh = true then 10 else 6
def ru6 (sh : Bool) (b st : Nat) : Ru := if sh = true then .shf b st else .cnt b st
theorem raw_ru {H : Hp} {p : Addr} {sh : Bool} {b st : Nat} (h : RawAt H p sh b st) : RuAt H p (ru6 sh b st) := by cases sh <;> exact h
theorem ru6_ok {sh : Bool} {b st : Nat} (b1 : 1 ≤ b) (bm : b ≤ mb6 sh) (s1 : 1 ≤ st) (s2 : st ≤ 20) : (ru6 sh b st).ok := by
  cases sh with
  | true => exact ⟨b1, bm, s1, s2⟩
  | false => exact ⟨b1, bm, s1, s2⟩
theorem ru6_off {sh : Bool} {b st v : Nat} (h : IsOff (ru6 sh b st) v) : v = st - 1 := by
  rcases h with ⟨h, _⟩ | ⟨_, h⟩
  · cases sh <;> cases h
  · cases sh <;> exact h
theorem ru6_reach {sh : Bool} {b st v : Nat} (h : IsReach (ru6 sh b st) v) : v = reach6 sh b st := by
  rcases h with ⟨h, _⟩ | ⟨_, h⟩
  · cases sh <;> cases h
  · cases sh with
    | true =>
      have e : v = (b + 1 - bl 0 - 1) * st := h
      rw [e, show bl 0 = 0 by decide, Nat.mul_comm]
      rfl
    | false =>
      have e : v = (2 ^ b - 1 - 1) * st := h
      rw [e, Nat.mul_comm]
      rfl
/-- the bits are the fewest that reach so far -/
def Least6 (sh : Bool) (n st b : Nat) : Prop := 1 ≤ b ∧ b ≤ mb6 sh ∧ n ≤ reach6 sh b st ∧ ∀ b', 1 ≤ b' → b' < b → reach6 sh b' st < n
theorem mb6_le (sh : Bool) : mb6 sh ≤ 10 := by cases sh <;> decide
theorem reach6_le {sh : Bool} {b st : Nat} (bm : b ≤ mb6 sh) (s2 : st ≤ 20) : reach6 sh b st ≤ 1240 := by
  have h : (if sh = true then b else 2 ^ b - 1 - 1) ≤ 62 := by
    cases sh with
    | true =>
      show b ≤ 62
      have : b ≤ 10 := bm
      omega
    | false =>
      show 2 ^ b - 1 - 1 ≤ 62
      have : b ≤ 6 := bm
      have := Nat.pow_le_pow_right (show 0 < 2 by decide) this
      omega
  calc reach6 sh b st ≤ 20 * 62 := Nat.mul_le_mul s2 h
    _ = 1240 := rfl
structure PapAt (H : Hp) (L : Addr) (sh : Bool) (b st : Nat) : Prop where
  ex : ∃ T2 p2, RawAt H p2 sh b (st + 1) ∧ H T2 = some (.tup [.ref p2, .int (st : Int), .int 0, .int (st : Int)]) ∧
    ((b = 1 ∧ H L = some (.lst [.ref T2])) ∨ (1 < b ∧ ∃ T1 p1, RawAt H p1 sh (b - 1) st ∧ H T1 = some (.tup [.ref p1, .int ((st - 1 : Nat) : Int), .non, .int ((st - 1 + reach6 sh (b - 1) st + 1 : Nat) : Int)]) ∧ H L = some (.lst [.ref T1, .ref T2])))
theorem PapAt.same {H H' : Hp} {L : Addr} {sh : Bool} {b st : Nat} (a : PapAt H L sh b st) (k : Same H H') : PapAt H' L sh b st := by
  obtain ⟨T2, p2, h1, h2, h3⟩ := a.ex
  refine ⟨T2, p2, k _ _ h1, k _ _ h2, ?_⟩
  rcases h3 with ⟨e, h⟩ | ⟨l, T1, p1, g1, g2, g3⟩
  · exact .inl ⟨e, k _ _ h⟩
  · exact .inr ⟨l, T1, p1, k _ _ g1, k _ _ g2, k _ _ g3⟩
def spSoon : Sp := fun vs H Q _ => ∃ (p : Addr) (sh : Bool) (b st : Nat), vs = [.ref p] ∧ RawAt H p sh b st ∧ 1 ≤ b ∧ b ≤ mb6 sh ∧ 1 ≤ st ∧ st ≤ 20 ∧
  ∀ H' T, H T = none → Same H H' → H' T = some (.tup [.ref p, .int ((st - 1 : Nat) : Int), .non, .int ((st - 1 + reach6 sh b st + 1 : Nat) : Int)]) → Q (.ref T) H'
def spAlk : Sp := fun vs H Q _ => ∃ (p : Addr) (sh : Bool) (b st : Nat), vs = [.ref p] ∧ RawAt H p sh b st ∧ 1 ≤ st ∧
  ∀ H' T, H T = none → Same H H' → H' T = some (.tup [.ref p, .int ((st - 1 : Nat) : Int), .int 0, .int ((st - 1 : Nat) : Int)]) → Q (.ref T) H'
def spPapers : Sp := fun vs H Q _ => ∃ (p : Addr) (sh : Bool) (b st : Nat), vs = [.ref p] ∧ RawAt H p sh b st ∧ 1 ≤ b ∧ b ≤ mb6 sh ∧ 1 ≤ st ∧ st ≤ 20 ∧
  ∀ H' L, H L = none → Same H H' → PapAt H' L sh b st → Q (.ref L) H'
def spRuleFor (cNR : Addr) : Sp := fun vs H Q E => ∃ (sh : Bool) (n st : Nat) (i j : Int), vs = [.str (kdOf sh), .int i, .int j] ∧ i = (n : Int) ∧ j = (st : Int) ∧ 1 ≤ st ∧ st ≤ 20 ∧
  (∀ b, Least6 sh n st b → ∀ H' p, H p = none → Same H H' → RawAt H' p sh b st → Q (.ref p) H') ∧ ((∀ b, 1 ≤ b → b ≤ mb6 sh → reach6 sh b st < n) → ∀ H', Same H H' → E (.ref cNR) none H')
def spFewest (cBR cBB cNR : Addr) : Sp := fun vs H Q E => ∃ (kd : Str) (far near : Int), vs = [.str kd, .int far, .int near] ∧
  (¬ (kd = "count" ∨ kd = "shift") → E (.ref cBR) none H) ∧
  (∀ sh, kd = kdOf sh → ¬ ((1 ≤ far ∧ far ≤ 1000) ∧ 0 ≤ near ∧ near ≤ 19) → E (.ref cBB) none H) ∧
  (∀ (sh : Bool) (n m : Nat), kd = kdOf sh → far = (n : Int) → near = (m : Int) → 1 ≤ n → n ≤ 1000 → m ≤ 19 →
    (∀ b, Least6 sh n (m + 1) b → ∀ H' T p L, H L = none → Same H H' → H' T = some (.tup [.ref p, .ref L]) → RawAt H' p sh b (m + 1) → PapAt H' L sh b (m + 1) → Q (.ref T) H') ∧
    ((∀ b, 1 ≤ b → b ≤ mb6 sh → reach6 sh b (m + 1) < n) → ∀ H', Same H H' → E (.ref cNR) none H'))
section
variable {P : Program} {w : World} {K : PySem.W.Frag} {mg : Str → Option Value} {base : Heap}
theorem sc_soon : FnScope ["rule", "one"] ["rule"] (defScope s_ended_too_soon) := ⟨rfl, rfl, rfl, by decide +kernel, rfl, by decide +kernel, by decide +kernel⟩
theorem ok_soon (D : DefAt K mg "_ended_too_soon" s_ended_too_soon ["rule"]) (C1 : Cl P w K mg base 4 "reach" ["rule"] spReach) : Cl P w K mg base 5 "_ended_too_soon" ["rule"] spSoon := by
  refine D.cl fun f fd F => ?_
  refine F.ok sc_soon (fun vs H Q E h => ?_) (fun cdv A outer s H vs Q E hr h => ?_)
  · obtain ⟨p, sh, b, st, rfl, _⟩ := h
    rfl
  · obtain ⟨p, sh, b, st, rfl, hp, b1, bm, s1, s2, q⟩ := h
    refine ⟨_, pss_cons (ps_set (i := 1) sc_soon.nd rfl (Or.inl rfl) (pe_op op_sub (pe_ix ix_tup (pv 0) pe_int (fun _ _ => rfl)) pe_int))
      (pss_one (ps_ret (pe_tup (pa_cons (pv 0) (pa_cons (pv 1) (pa_cons pe_non (pa_cons (pe_op op_add (pe_op op_add (pv 1) (pe_cl C1 hr (pa_cons (pv 0) pa_nil))) pe_int) pa_nil))))))), ?_⟩
    refine ⟨_, rfl, p, _, _, _, rfl, rfl, SqT.of hp, atI_nat (j := 2) rfl, _, _, rfl, rfl, ?_⟩
    refine ⟨_, rfl, _, rfl, _, rfl, _, rfl, p, _, rfl, raw_ru hp, ru6_ok b1 bm s1 s2, fun v H1 hv s1' => ⟨_, _, rfl, rfl, _, _, rfl, rfl, (by show 4 ≤ sizeLine; decide), fun T nT => ?_⟩⟩
    have ev := ru6_reach hv
    subst ev
    refine q _ T (s1'.free nT) (s1'.trans (same_upd nT)) ?_
    have e1 : (st : Int) - 1 = ((st - 1 : Nat) : Int) := by omega
    have e2 : (st : Int) - 1 + (reach6 sh b st : Int) + 1 = ((st - 1 + reach6 sh b st + 1 : Nat) : Int) := by omega
    rw [upd_same, ← e1, ← e2]
theorem sc_alk : FnScope ["rule", "one"] ["rule"] (defScope s_alike) := ⟨rfl, rfl, rfl, by decide +kernel, rfl, by decide +kernel, by decide +kernel⟩
theorem ok_alk (D : DefAt K mg "_alike" s_alike ["rule"]) : Cl P w K mg base 1 "_alike" ["rule"] spAlk := by
  refine D.cl fun f fd F => ?_
  refine F.ok sc_alk (fun vs H Q E h => ?_) (fun cdv A outer s H vs Q E hr h => ?_)
  · obtain ⟨p, sh, b, st, rfl, _⟩ := h
    rfl
  · obtain ⟨p, sh, b, st, rfl, hp, s1, q⟩ := h
    refine ⟨_, pss_cons (ps_set (i := 1) sc_alk.nd rfl (Or.inl rfl) (pe_op op_sub (pe_ix ix_tup (pv 0) pe_int (fun _ _ => rfl)) pe_int))
      (pss_one (ps_ret (pe_tup (pa_cons (pv 0) (pa_cons (pv 1) (pa_cons pe_int (pa_cons (pv 1) pa_nil))))))), ?_⟩
    refine ⟨_, rfl, p, _, _, _, rfl, rfl, SqT.of hp, atI_nat (j := 2) rfl, _, _, rfl, rfl, ?_⟩
    refine ⟨_, rfl, _, rfl, _, rfl, (by show 4 ≤ sizeLine; decide), fun T nT => ?_⟩
    refine q _ T nT (same_upd nT) ?_
    have e1 : (st : Int) - 1 = ((st - 1 : Nat) : Int) := by omega
    rw [upd_same, ← e1]
theorem sc_papers : FnScope ["rule", "kind", "bits", "step", "papers"] ["rule"] (defScope s_papers) := ⟨rfl, rfl, rfl, by decide +kernel, rfl, by decide +kernel, by decide +kernel⟩
theorem ok_papers (D : DefAt K mg "_papers" s_papers ["rule"]) (C1 : Cl P w K mg base 5 "_ended_too_soon" ["rule"] spSoon) (C2 : Cl P w K mg base 1 "_alike" ["rule"] spAlk) : Cl P w K mg base 6 "_papers" ["rule"] spPapers := by
  refine D.cl fun f fd F => ?_
  refine F.ok sc_papers (fun vs H Q E h => ?_) (fun cdv A outer s H vs Q E hr h => ?_)
  · obtain ⟨p, sh, b, st, rfl, _⟩ := h
    rfl
  · obtain ⟨p, sh, b, st, rfl, hp, b1, bm, s1, s2, q⟩ := h
    refine ⟨_, pss_cons (ps_asg (pv 0) (pg_tup rfl (pgs_cons (pg_name (i := 1) sc_papers.nd rfl (Or.inl rfl)) (pgs_cons (pg_name (i := 2) sc_papers.nd rfl (Or.inl rfl)) (pgs_cons (pg_name (i := 3) sc_papers.nd rfl (Or.inl rfl)) pgs_nil)))))
      (pss_cons (ps_set (i := 4) sc_papers.nd rfl (Or.inl rfl) (pe_lst pa_nil))
      (pss_cons (ps_if (pt_cmpR op_gt (pv 2) pe_int (nomark _)) (pss_one (ps_expr (pe_bm PySem.F.plainAttrs_list PySem.F.slot_list_append PySem.F.type_list_append mt_append (pv 4) (pa_cons (pe_cl C1 hr (pa_cons (pe_tup (pa_cons (pv 1) (pa_cons (pe_op op_sub (pv 2) pe_int) (pa_cons (pv 3) pa_nil)))) pa_nil)) pa_nil)))) pss_nil)
      (pss_cons (ps_expr (pe_bm PySem.F.plainAttrs_list PySem.F.slot_list_append PySem.F.type_list_append mt_append (pv 4) (pa_cons (pe_cl C2 hr (pa_cons (pe_tup (pa_cons (pv 1) (pa_cons (pv 2) (pa_cons (pe_op op_add (pv 3) pe_int) pa_nil)))) pa_nil)) pa_nil)))
      (pss_one (ps_ret (pv 4)))))), ?_⟩
    refine ⟨_, rfl, p, _, rfl, SqT.of hp, rfl, _, _, rfl, _, _, rfl, _, _, rfl, rfl, ?_⟩
    refine ⟨(by show 0 ≤ sizeLine; decide), fun L nL => ?_⟩
    have sL := same_upd (o := .lst []) nL
    dsimp only [gName, tSeq]
    refine abs_nx (t := tIfS _ _ _) (fun σ' H' => σ' = [some (.ref p), some (.str (kdOf sh)), some (.int (b : Int)), some (.int (st : Int)), some (.ref L)] ∧ Same H H' ∧
      ((b = 1 ∧ H' L = some (.lst [])) ∨ (1 < b ∧ ∃ T1 p1, RawAt H' p1 sh (b - 1) st ∧ H' T1 = some (.tup [.ref p1, .int ((st - 1 : Nat) : Int), .non, .int ((st - 1 + reach6 sh (b - 1) st + 1 : Nat) : Int)]) ∧ H' L = some (.lst [.ref T1])))) (fun nx' hnx => ?_) ?_
    · refine ⟨_, rfl, _, _, rfl, rfl, _, rfl, ?_⟩
      by_cases z : (1 : Int) < (b : Int)
      · rw [decide_eq_true z]
        refine iteT ⟨_, rfl, .inl ⟨rfl, _, SqL.of upd_same⟩, _, rfl, _, rfl, _, _, rfl, rfl, _, rfl, (by show 3 ≤ sizeLine; decide), fun p1 np1 => ?_⟩
        have sp1 := same_upd (o := .tup [.str (kdOf sh), .int ((b : Int) - 1), .int (st : Int)]) np1
        have e1 : (b : Int) - 1 = ((b - 1 : Nat) : Int) := by omega
        refine ⟨p1, sh, b - 1, st, rfl, ?_, by omega, by omega, s1, s2, fun H1 T1 nT1 k1 eT1 => ?_⟩
        · show (upd _ p1 _) p1 = _
          rw [upd_same, ← e1]
        have eL := k1 _ _ (sp1 _ _ (show (upd H L (.lst [])) L = some (.lst []) from upd_same))
        have ep1 := k1 _ _ (show (upd (upd H L (.lst [])) p1 (.tup [.str (kdOf sh), .int ((b : Int) - 1), .int (st : Int)])) p1 = some (.tup [.str (kdOf sh), .int ((b : Int) - 1), .int (st : Int)]) from upd_same)
        refine ⟨L, _, _, rfl, rfl, eL, (by show 0 < sizeLine; decide), hnx _ _ ⟨rfl, fun x o e => ?_, .inr ⟨by omega, T1, p1, ?_, ?_, upd_same⟩⟩⟩
        · rw [upd_ne (ne_of_none e nL)]
          exact k1 _ _ (sp1 _ _ (sL _ _ e))
        · show (upd H1 L _) p1 = _
          rw [upd_ne (ne_of ep1 eL (fun z => nomatch z)), ep1, ← e1]
        · rw [upd_ne (ne_of eT1 eL (fun z => nomatch z))]
          exact eT1
      · rw [decide_eq_false z]
        exact iteF (hnx _ _ ⟨rfl, sL, .inl ⟨by omega, upd_same⟩⟩)
    · rintro σ' H1 ⟨rfl, k1, g⟩
      obtain ⟨xs, exs, lx, fin⟩ : ∃ xs : List V, H1 L = some (.lst xs) ∧ xs.length ≤ 1 ∧ ∀ (H' : Hp) (T2 p2 : Addr), (∀ x ys, H1 x = some (.tup ys) → H' x = some (.tup ys)) → RawAt H' p2 sh b (st + 1) → H' T2 = some (.tup [.ref p2, .int (st : Int), .int 0, .int (st : Int)]) → H' L = some (.lst (xs ++ [.ref T2])) → PapAt H' L sh b st := by
        rcases g with ⟨e, h⟩ | ⟨l, T1, p1, g1, g2, g3⟩
        · exact ⟨[], h, by simp, fun H' T2 p2 k a1 a2 a3 => ⟨T2, p2, a1, a2, .inl ⟨e, a3⟩⟩⟩
        · exact ⟨[.ref T1], g3, by simp, fun H' T2 p2 k a1 a2 a3 => ⟨T2, p2, a1, a2, .inr ⟨l, T1, p1, k _ _ g1, k _ _ g2, a3⟩⟩⟩
      refine ⟨_, rfl, .inl ⟨rfl, _, SqL.of exs⟩, _, rfl, _, rfl, _, rfl, _, _, rfl, rfl, (by show 3 ≤ sizeLine; decide), fun p2 np2 => ?_⟩
      have sp2 := same_upd (o := .tup [.str (kdOf sh), .int (b : Int), .int ((st : Int) + 1)]) np2
      refine ⟨p2, sh, b, st + 1, rfl, upd_same, by omega, fun H2 T2 nT2 k2 eT2 => ?_⟩
      have eL2 := k2 _ _ (sp2 _ _ exs)
      have ep2 := k2 _ _ (show (upd H1 p2 (.tup [.str (kdOf sh), .int (b : Int), .int ((st : Int) + 1)])) p2 = some (.tup [.str (kdOf sh), .int (b : Int), .int ((st : Int) + 1)]) from upd_same)
      refine ⟨L, _, _, rfl, rfl, eL2, Nat.lt_of_le_of_lt lx (by decide), ?_⟩
      refine ⟨_, rfl, q _ L nL (fun x o e => ?_) (fin _ T2 p2 (fun x ys e => ?_) ?_ ?_ upd_same)⟩
      · rw [upd_ne (ne_of_none e nL)]
        exact k2 _ _ (sp2 _ _ (k1 _ _ e))
      · rw [upd_ne (ne_of e exs (fun z => nomatch z))]
        exact k2 _ _ (sp2 _ _ e)
      · show (upd H2 L _) p2 = _
        rw [upd_ne (ne_of ep2 eL2 (fun z => nomatch z))]
        exact ep2
      · rw [upd_ne (ne_of eT2 eL2 (fun z => nomatch z))]
        exact eT2
theorem sc_rfor : FnScope ["kind", "far", "step", "most_bits", "bits", "rule"] ["kind", "far", "step"] (defScope s_rule_for) := ⟨rfl, rfl, rfl, by decide +kernel, rfl, by decide +kernel, by decide +kernel⟩
theorem ok_rfor {cNR : Addr} (D : DefAt K mg "_rule_for" s_rule_for ["kind", "far", "step"]) (LI : Lims K w mg) (m_range : mg "range" = none) (eNR : ErrC K mg "NoRule" cNR) (C1 : Cl P w K mg base 4 "reach" ["rule"] spReach) : ClX P w K mg base 5 "_rule_for" ["kind", "far", "step"] (spRuleFor cNR) := by
  refine D.clx fun f fd F => ?_
  obtain ⟨d, es, n, gL, kd, lt⟩ := LI.ex
  refine F.okX sc_rfor (fun vs H Q E h => ?_) (fun cdv A outer s H vs Q E hr h => ?_)
  · obtain ⟨sh, n, st, i, j, rfl, _⟩ := h
    rfl
  · obtain ⟨sh, m, st, i, j, rfl, rfl, rfl, s1, s2, q, qe⟩ := h
    obtain ⟨t, ht, wt⟩ := lt (ru6 sh 1 1)
    have hk : (ru6 sh 1 1).kind = kdOf sh := by cases sh <;> rfl
    have hl : atI ((ru6 sh 1 1).lim.map V.int) 0 = some (.int ((mb6 sh : Nat) : Int)) := by cases sh <;> exact atI_nat (j := 0) rfl
    rw [hk] at ht
    refine ⟨_, pss_cons (ps_set (i := 3) sc_rfor.nd rfl (Or.inl rfl) (pe_ix ix_tup (pe_ix ix_kdict (pe_glob (v := .ref d) (by rfl) gL rfl) (pv 0) (fun _ _ => rfl)) pe_int (fun _ _ => rfl)))
      (pss_cons (ps_for (passes_of rfl) rfl (pi_range2 (by rfl) m_range (pa_cons pe_int (pa_cons (pe_op op_add (pv 3) pe_int) pa_nil))) (pg_name (i := 4) sc_rfor.nd rfl (Or.inl rfl))
        (pss_cons (ps_set (i := 5) sc_rfor.nd rfl (Or.inl rfl) (pe_tup (pa_cons (pv 0) (pa_cons (pv 4) (pa_cons (pv 2) pa_nil)))))
        (pss_one (ps_if (pt_cmpR op_ge (pe_cl C1 hr (pa_cons (pv 5) pa_nil)) (pv 1) (nomark _)) (pss_one (ps_ret (pv 5))) pss_nil))))
      (pss_one (ps_err rfl (takes_of rfl rfl rfl rfl) eNR rfl))), ?_⟩
    have m10 := mb6_le sh
    refine ⟨_, rfl, d, kdOf sh, .ref t, rfl, rfl, ⟨es, n, _, kd.at_, kd.lit, ht, rfl⟩, t, _, _, _, rfl, rfl, .inr wt, hl, ?_⟩
    refine ⟨_, rfl, _, _, rfl, rfl, _, _, rfl, ⟨by omega, by omega, by omega, by omega⟩, ?_⟩
    rw [show ((mb6 sh : Int) + 1 - 1).toNat = mb6 sh by omega]
    refine for_range (lo := 1) (n := mb6 sh) (fun k σ H' => ∃ v4 v5 : Option V, σ = [some (.str (kdOf sh)), some (.int (m : Int)), some (.int (st : Int)), some (.int (mb6 sh : Int)), v4, v5] ∧ Same H H' ∧ ∀ b, 1 ≤ b → b ≤ k → reach6 sh b st < m) ⟨none, none, rfl, Same.refl H, fun b h1 h2 => absurd h1 (by omega)⟩ ?_ ?_
    · rintro k σ H1 hk' ⟨v4, v5, rfl, k1, lo⟩
      refine ⟨_, rfl, _, rfl, _, rfl, (by show 3 ≤ sizeLine; decide), fun p np => ?_⟩
      have sp := same_upd (o := .tup [.str (kdOf sh), .int (1 + (k : Int)), .int (st : Int)]) np
      have ek : (1 : Int) + (k : Int) = ((k + 1 : Nat) : Int) := by omega
      have hp : RawAt (upd H1 p (.tup [.str (kdOf sh), .int (1 + (k : Int)), .int (st : Int)])) p sh (k + 1) st := by
        show (upd H1 p _) p = _
        rw [upd_same, ek]
      refine ⟨_, rfl, p, _, rfl, raw_ru hp, ru6_ok (by omega) (by omega) s1 s2, fun v H2 hv k2 => ⟨_, rfl, _, _, rfl, rfl, _, rfl, ?_⟩⟩
      have ev := ru6_reach hv
      subst ev
      by_cases z : (m : Int) ≤ (reach6 sh (k + 1) st : Int)
      · rw [decide_eq_true z]
        refine iteT ⟨_, rfl, q (k + 1) ⟨by omega, by omega, by omega, fun b' h1 h2 => lo b' h1 (by omega)⟩ _ p (k1.free np) ((k1.trans sp).trans k2) (k2 _ _ hp)⟩
      · rw [decide_eq_false z]
        refine iteF ⟨_, _, rfl, (k1.trans sp).trans k2, fun b h1 h2 => ?_⟩
        by_cases e : b = k + 1
        · subst e
          omega
        · exact lo b h1 (by omega)
    · rintro σ H1 ⟨v4, v5, rfl, k1, lo⟩
      exact qe lo H1 k1
theorem k6_kd {kd : Str} (h : kd = "count" ∨ kd = "shift") : ∃ sh, kd = kdOf sh := by
  rcases h with h | h
  · exact ⟨false, h⟩
  · exact ⟨true, h⟩
def kindsV : List V := [.str "count", .str "shift"]
theorem kinds_in (kd : Str) : inV (.str kd) kindsV = decide (kd = "count" ∨ kd = "shift") := by
  by_cases c : kd = "count"
  · subst c
    decide +kernel
  · by_cases c2 : kd = "shift"
    · subst c2
      decide +kernel
    · rw [decide_eq_false (fun z => z.elim c c2)]
      have a1 : eqV (.str "count") (.str kd) = false := by
        simp [eqV, Ne.symm c]
      have a2 : eqV (.str "shift") (.str kd) = false := by
        simp [eqV, Ne.symm c2]
      show (eqV (.str "count") (.str kd) || (eqV (.str "shift") (.str kd) || false)) = false
      rw [a1, a2]
      rfl
structure KindsAt (K : PySem.W.Frag) (mg : Str → Option Value) : Prop where
  ex : ∃ d, mg "KINDS" = some (.ref d) ∧ ∀ H, SqT K H d kindsV
theorem sc_fewest : FnScope ["kind", "far", "near", "rule"] ["kind", "far", "near"] (defScope s_fewest) := ⟨rfl, rfl, rfl, by decide +kernel, rfl, by decide +kernel, by decide +kernel⟩
theorem ok_fewest {cBR cBB cNR : Addr} {t1 t2 : Tok} (D : DefAt K mg "fewest" s_fewest ["kind", "far", "near"]) (W : KindsAt K mg) (gF : mg "FARTHEST" = some (.int 1000 t1)) (gN : mg "MOST_NEAR" = some (.int 19 t2)) (eBR : ErrC K mg "BadRule" cBR) (eBB : ErrC K mg "BadBounds" cBB)
    (C1 : ClX P w K mg base 5 "_rule_for" ["kind", "far", "step"] (spRuleFor cNR)) (C2 : Cl P w K mg base 6 "_papers" ["rule"] spPapers) : ClX P w K mg base 7 "fewest" ["kind", "far", "near"] (spFewest cBR cBB cNR) := by
  refine D.clx fun f fd F => ?_
  obtain ⟨d, gW, sW⟩ := W.ex
  refine F.okX sc_fewest (fun vs H Q E h => ?_) (fun cdv A outer s H vs Q E hr h => ?_)
  · obtain ⟨kd, far, near, rfl, _⟩ := h
    rfl
  · obtain ⟨kd, far, near, rfl, q1, q2, q3⟩ := h
    refine ⟨_, pss_cons (ps_if (pt_cmpR op_notIn_seq (pv 0) (pe_glob (v := .ref d) (by rfl) gW rfl) (by rfl)) (pss_one (ps_err rfl (takes_of rfl rfl rfl rfl) eBR rfl)) pss_nil)
      (pss_cons (ps_if (PW.pt (pw_or (pt_cmpR op_lt (pv 1) pe_int (nomark _)) (pw_or1 (pt_cmpR op_gt (pv 1) (pe_glob (v := .int 1000) (by rfl) gF ⟨_, rfl⟩) (nomark _))))) (pss_one (ps_err rfl (takes_of rfl rfl rfl rfl) eBB rfl)) pss_nil)
      (pss_cons (ps_if (PW.pt (pw_or (pt_cmpR op_lt (pv 2) pe_int (nomark _)) (pw_or1 (pt_cmpR op_gt (pv 2) (pe_glob (v := .int 19) (by rfl) gN ⟨_, rfl⟩) (nomark _))))) (pss_one (ps_err rfl (takes_of rfl rfl rfl rfl) eBB rfl)) pss_nil)
      (pss_cons (ps_set (i := 3) sc_fewest.nd rfl (Or.inl rfl) (pe_clx (E := E) C1 (passes_call (takes_of rfl rfl rfl rfl) (fun _ _ _ _ h => h)) hr (pa_cons (pv 0) (pa_cons (pv 1) (pa_cons (pe_op op_add (pv 2) pe_int) pa_nil)))))
      (pss_one (ps_ret (pe_tup (pa_cons (pv 3) (pa_cons (pe_cl C2 hr (pa_cons (pv 3) pa_nil)) pa_nil)))))))), ?_⟩
    have ek := kinds_in kd
    refine ⟨_, rfl, d, kindsV, rfl, .inr (sW _), rfl, rfl, _, rfl, ?_⟩
    rw [ek]
    by_cases c : kd = "count" ∨ kd = "shift"
    case neg =>
      rw [decide_eq_false c]
      exact iteT (q1 c)
    rw [decide_eq_true c]
    refine iteF ?_
    obtain ⟨sh, rfl⟩ := k6_kd c
    refine ⟨_, rfl, _, _, rfl, rfl, _, rfl, ?_⟩
    by_cases c1 : far < 1
    · rw [decide_eq_true c1]
      exact iteT (q2 sh rfl fun z => by omega)
    rw [decide_eq_false c1]
    refine iteF ⟨_, rfl, _, _, rfl, rfl, _, rfl, ?_⟩
    by_cases c2 : (1000 : Int) < far
    · rw [decide_eq_true c2]
      exact iteT (q2 sh rfl fun z => by omega)
    rw [decide_eq_false c2]
    refine iteF ⟨_, rfl, _, _, rfl, rfl, _, rfl, ?_⟩
    by_cases c3 : near < 0
    · rw [decide_eq_true c3]
      exact iteT (q2 sh rfl fun z => by omega)
    rw [decide_eq_false c3]
    refine iteF ⟨_, rfl, _, _, rfl, rfl, _, rfl, ?_⟩
    by_cases c4 : (19 : Int) < near
    · rw [decide_eq_true c4]
      exact iteT (q2 sh rfl fun z => by omega)
    rw [decide_eq_false c4]
    refine iteF ?_
    obtain ⟨n, rfl⟩ : ∃ n : Nat, far = (n : Int) := ⟨far.toNat, by omega⟩
    obtain ⟨m, rfl⟩ : ∃ m : Nat, near = (m : Int) := ⟨near.toNat, by omega⟩
    obtain ⟨qa, qb⟩ := q3 sh n m rfl rfl rfl (by omega) (by omega) (by omega)
    refine ⟨_, rfl, _, rfl, _, rfl, _, _, rfl, rfl, sh, n, m + 1, _, _, rfl, rfl, rfl, by omega, by omega, fun b lb H1 p np k1 hp => ?_, fun h H' k => qb h H' k⟩
    refine ⟨_, rfl, _, rfl, p, sh, b, m + 1, rfl, hp, lb.1, lb.2.1, by omega, by omega, fun H2 L nL k2 pa => ⟨(by show 2 ≤ sizeLine; decide), fun T nT => ?_⟩⟩
    have sT := same_upd (o := .tup [.ref p, .ref L]) nT
    exact qa b lb _ T p L (k1.free nL) ((k1.trans k2).trans sT) upd_same (sT _ _ (k2 _ _ hp)) (pa.same sT)
end
/-! ### the law's own look at papers -/
theorem soon_mark {sh : Bool} {b st : Nat} (b1 : 1 ≤ b) (s1 : 1 ≤ st) : mark6 sh b ((st - 1 + reach6 sh b st + 1) / st - (st - 1) / st) = fin6 sh b := by
  have h0 : (st - 1) / st = 0 := Nat.div_eq_of_lt (by omega)
  have p2 : 2 ≤ 2 ^ b := by
    have := Nat.pow_le_pow_right (show 0 < 2 by decide) b1
    omega
  cases sh with
  | true =>
    have e : st - 1 + reach6 true b st + 1 = st * (b + 1) := by
      show st - 1 + st * b + 1 = st * (b + 1)
      rw [Nat.mul_add]
      omega
    rw [e, Nat.mul_div_cancel_left _ (by omega), h0]
    show 2 ^ b / 2 ^ (min (b + 1 - 0) (b + 1)) = 0
    rw [Nat.sub_zero, Nat.min_self]
    exact Nat.div_eq_of_lt (Nat.pow_lt_pow_right (by decide) (by omega))
  | false =>
    have e : st - 1 + reach6 false b st + 1 = st * (2 ^ b - 1) := by
      show st - 1 + st * (2 ^ b - 1 - 1) + 1 = st * (2 ^ b - 1)
      obtain ⟨c, hc⟩ : ∃ c, 2 ^ b - 1 = c + 1 := ⟨2 ^ b - 2, by omega⟩
      rw [hc, Nat.add_sub_cancel, Nat.mul_add]
      omega
    rw [e, Nat.mul_div_cancel_left _ (by omega), h0]
    show min (2 ^ b - 1 - 0) (2 ^ b - 1) = 2 ^ b - 1
    omega
theorem alk_mark {sh : Bool} {b : Nat} (b1 : 1 ≤ b) : mark6 sh b 0 ≠ fin6 sh b := by
  have p2 : 2 ≤ 2 ^ b := by
    have := Nat.pow_le_pow_right (show 0 < 2 by decide) b1
    omega
  cases sh with
  | true =>
    show 2 ^ b / 2 ^ (min 0 (b + 1)) ≠ 0
    rw [Nat.zero_min, Nat.pow_zero, Nat.div_one]
    omega
  | false =>
    show min 0 (2 ^ b - 1) ≠ 2 ^ b - 1
    omega
def pd6 (sh : Bool) (b st : Nat) : PyData := .tuple [.str (kdOf sh), .int (b : Int), .int (st : Int)]
theorem dp6 {K : PySem.W.Frag} {H : Hp} {p : Addr} {sh : Bool} {b st : Nat} (h : RawAt H p sh b st) : Dp K H (.ref p) (pd6 sh b st) := .tup (SqT.of h) (.cons (.str _) (.cons (.int _) (.cons (.int _) .nil)))
def pdR6 (sh : Bool) (b st : Nat) : List PyData := if b = 1 then [pd6 sh b (st + 1)] else [pd6 sh (b - 1) st, pd6 sh b (st + 1)]
theorem pdR6_d (sh : Bool) (b st : Nat) : PyData.depth (.list (pdR6 sh b st)) ≤ 2 := by
  unfold pdR6 pd6
  split <;> simp only [PyData.depth, PyData.depthAll] <;> decide
theorem pdR6_s (sh : Bool) (b st : Nat) : szOk (.list (pdR6 sh b st)) = true := by
  unfold pdR6 pd6
  split <;> rfl
def spPap6 : Sp := fun vs H Q _ => ∃ (p L : Addr) (sh : Bool) (b n m : Nat) (i j : Int), vs = [.ref p, .int i, .int j, .ref L] ∧ i = (n : Int) ∧ j = (m : Int) ∧ RawAt H p sh b (m + 1) ∧ PapAt H L sh b (m + 1) ∧ Least6 sh n (m + 1) b ∧ m ≤ 19 ∧ ∀ H', Same H H' → Q (.bl true) H'
section
variable {P : Program} {w : World} {K : PySem.W.Frag} {mg : Str → Option Value} {base : Heap}
abbrev Npap : List Str := ["_law_rule", "_law_far", "_law_near", "_law_papers", "_law_kind_here", "_law_bits", "_law_step", "_law_due", "_law_small", "_law_one", "_law_other", "_law_moment", "_law_wide", "_law_marks", "_law_paper"]
theorem sc_pap : FnScope Npap ["_law_rule", "_law_far", "_law_near", "_law_papers"] (defScope s_L_are_papers) := ⟨rfl, rfl, rfl, by decide +kernel, rfl, by decide +kernel, by decide +kernel⟩
theorem ok_pap (D : DefAt K mg "_law_are_papers" s_L_are_papers ["_law_rule", "_law_far", "_law_near", "_law_papers"]) (m_int : mg "int" = none) (m_isi : mg "isinstance" = none) (m_list : mg "list" = none)
    (C_al : Cl P w K mg base 3 "_law_alike" ["_law_found", "_law_due"] (spAlike K 2)) (C_mk : Cl P w K mg base 2 "_law_mark" ["_law_rule", "_law_one", "_law_moment"] spMark6) (C_end : Cl P w K mg base 1 "_law_end" ["_law_rule"] spEnd6) :
    Cl P w K mg base 4 "_law_are_papers" ["_law_rule", "_law_far", "_law_near", "_law_papers"] spPap6 := by
  refine D.cl fun f fd F => ?_
  refine F.ok sc_pap (fun vs H Q E h => ?_) (fun cdv A outer s H vs Q E hr h => ?_)
  · obtain ⟨p, L, sh, b, n, m, i, j, rfl, _⟩ := h
    rfl
  · obtain ⟨p, L, sh, b, n, m, i, j, rfl, rfl, rfl, hp, pa, ⟨b1, bm, _, lst⟩, m19, q⟩ := h
    have hu := hu_of hr
    refine ⟨_, pss_cons (ps_asg (pv 0) (pg_tup rfl (pgs_cons (pg_name (i := 4) sc_pap.nd rfl (Or.inl rfl)) (pgs_cons (pg_name (i := 5) sc_pap.nd rfl (Or.inl rfl)) (pgs_cons (pg_name (i := 6) sc_pap.nd rfl (Or.inl rfl)) pgs_nil)))))
      (pss_cons (ps_set (i := 7) sc_pap.nd rfl (Or.inl rfl) (pe_op op_cat (pe_op op_rep (pe_lst (pa_cons (pe_tup (pa_cons (pv 4) (pa_cons (pe_op op_sub (pv 5) pe_int) (pa_cons (pv 6) pa_nil)))) pa_nil)) (pe_callTy call_int1 (by rfl) m_int (by decide +kernel) (pa_cons (pe_cmpR op_gt (pv 5) pe_int (nomark _)) pa_nil)))
        (pe_lst (pa_cons (pe_tup (pa_cons (pv 4) (pa_cons (pv 5) (pa_cons (pe_op op_add (pv 6) pe_int) pa_nil)))) pa_nil))))
      (pss_cons (ps_if (PW.pt (pw_or (pt_not (pt_val (pe_callB call_isi (by rfl) m_isi (by decide +kernel) (pa_cons (pv 3) (pa_cons (pe_bltn (v := .ty "list") (u := .type "list") (by rfl) m_list (by decide +kernel) rfl) pa_nil)))))
          (pw_or1 (pt_not (pt_val (pe_cl C_al hr (pa_cons (pe_lc (own := [("_law_paper", 14)]) (g := gName 14) (tt := tYes) (te := tOp (rIxT K) (tVar 14) (tC (.int 0))) rfl sc_pap.nd (pi_list (pv 3)) (blkOk_by (N := Npap) (sc := defScope s_L_are_papers) (by decide +kernel))
            (fun _ _ _ _ _ => by exact pg_name (i := 14) sc_pap.nd rfl (Or.inl rfl)) (fun _ _ _ _ _ => by exact pts_nil) (fun _ _ _ _ _ => by exact pe_ix ix_tup (pv 14) pe_int (fun _ _ => rfl))) (pa_cons (pv 7) pa_nil)))))))) pss_never pss_nil)
      (pss_cons (ps_asg (pe_ix ix_list (pv 3) pe_int (fun _ _ => rfl)) (pg_tup rfl (pgs_cons (pg_name (i := 8) sc_pap.nd rfl (Or.inl rfl)) (pgs_cons (pg_name (i := 9) sc_pap.nd rfl (Or.inl rfl)) (pgs_cons (pg_name (i := 10) sc_pap.nd rfl (Or.inl rfl)) (pgs_cons (pg_name (i := 11) sc_pap.nd rfl (Or.inl rfl)) pgs_nil))))))
      (pss_cons (ps_if (PW.pt (pw_and (pt_cmpR op_gt (pv 5) pe_int (nomark _)) (pw_and1 (PW.pt (pw_or (pt_cmp (pc_notN (pv 10)) rfl) (pw_or1 (pt_cmpR op_gt (pe_op op_sub (pv 11) (pv 9)) (pv 1) (nomark _)))))))) pss_never pss_nil)
      (pss_cons (ps_if (PW.pt (pw_and (pt_cmpR op_gt (pv 5) pe_int (nomark _)) (pw_and1 (pt_cmpR op_ne (pe_cl C_mk hr (pa_cons (pv 8) (pa_cons (pv 9) (pa_cons (pv 11) pa_nil)))) (pe_cl C_end hr (pa_cons (pv 8) pa_nil)) (nomark _))))) pss_never pss_nil)
      (pss_cons (ps_asg (pe_ix ix_list (pv 3) (pe_un un_neg pe_int) (fun _ _ => rfl)) (pg_tup rfl (pgs_cons (pg_name (i := 12) sc_pap.nd rfl (Or.inl rfl)) (pgs_cons (pg_name (i := 9) sc_pap.nd rfl (Or.inl rfl)) (pgs_cons (pg_name (i := 10) sc_pap.nd rfl (Or.inl rfl)) (pgs_cons (pg_name (i := 11) sc_pap.nd rfl (Or.inl rfl)) pgs_nil))))))
      (pss_cons (ps_set (i := 13) sc_pap.nd rfl (Or.inl rfl) (pe_lst (pa_cons (pe_cl C_mk hr (pa_cons (pv 12) (pa_cons (pv 9) (pa_cons (pv 11) pa_nil)))) (pa_cons (pe_cl C_mk hr (pa_cons (pv 12) (pa_cons (pv 10) (pa_cons (pv 11) pa_nil)))) pa_nil))))
      (pss_one (ps_ret (pe_and (pe_cmp (pc_notN (pe_ix ix_list (pv 13) pe_int (fun _ _ => rfl))) rfl) (pe_and (pe_chain op_eq op_ne (pe_ix ix_list (pv 13) pe_int (fun _ _ => rfl)) (pe_ix ix_list (pv 13) pe_int (fun _ _ => rfl)) (pe_cl C_end hr (pa_cons (pv 12) pa_nil))) (pe_one (pe_cmpR op_gt (pe_op op_sub (pv 9) (pv 10)) (pv 2) (nomark _)))))))))))))), ?_⟩
    have m10 := mb6_le sh
    have b6 : sh = false → b ≤ 6 := fun z => by subst z; exact bm
    refine ⟨_, rfl, p, _, rfl, SqT.of hp, rfl, _, _, rfl, _, _, rfl, _, _, rfl, rfl, ?_⟩
    dsimp only [gName, tSeq]
    refine abs_nx (t := tAsg _ _) (fun σ' H' => ∃ Du, σ' = [some (.ref p), some (.int (n : Int)), some (.int (m : Int)), some (.ref L), some (.str (kdOf sh)), some (.int (b : Int)), some (.int ((m + 1 : Nat) : Int)), some (.ref Du), none, none, none, none, none, none, none] ∧ Same H H' ∧ Dp K H' (.ref Du) (.list (pdR6 sh b (m + 1)))) (fun nx' hnx => ?_) ?_
    · refine ⟨_, rfl, _, rfl, _, _, rfl, rfl, _, rfl, (by show 3 ≤ sizeLine; decide), fun t1 nt1 => ⟨(by show 1 ≤ sizeLine; decide), fun l1 nl1 => ?_⟩⟩
      have st1 := same_upd (o := .tup [.str (kdOf sh), .int ((b : Int) - 1), .int ((m + 1 : Nat) : Int)]) nt1
      have sl1 := same_upd (o := .lst [V.ref t1]) nl1
      have fin : ∀ (Hd : Hp) (d : Addr) (xs : List V), Same H Hd → Hd d = some (.lst xs) → xs.length ≤ 1 → (∀ (H' : Hp) (t2 : Addr), Same Hd H' → RawAt H' t2 sh b (m + 1 + 1) → ∀ Du, H' Du = some (.lst (xs ++ [V.ref t2])) → Dp K H' (.ref Du) (.list (pdR6 sh b (m + 1)))) →
          ∀ (l2 t2 : Addr), Hd t2 = none → (upd Hd t2 (.tup [.str (kdOf sh), .int (b : Int), .int (((m + 1 : Nat) : Int) + 1)])) l2 = none → rCat (.ref d) (.ref l2) (upd (upd Hd t2 (.tup [.str (kdOf sh), .int (b : Int), .int (((m + 1 : Nat) : Int) + 1)])) l2 (.lst [V.ref t2]))
            (fun v H' => nx' ([some (.ref p), some (.int (n : Int)), some (.int (m : Int)), some (.ref L), some (.str (kdOf sh)), some (.int (b : Int)), some (.int ((m + 1 : Nat) : Int)), some v, none, none, none, none, none, none, none]) H') := fun Hd d xs kd ed ld mk l2 t2 nt2 nl2 => by
        have st2 := same_upd (o := .tup [.str (kdOf sh), .int (b : Int), .int (((m + 1 : Nat) : Int) + 1)]) nt2
        have sl2 := same_upd (o := .lst [V.ref t2]) nl2
        refine ⟨d, l2, _, _, rfl, rfl, sl2 _ _ (st2 _ _ ed), upd_same, Nat.le_trans (show xs.length + 1 ≤ 2 by omega) (by decide), fun Du nDu => ?_⟩
        have sDu := same_upd (o := .lst (xs ++ [V.ref t2])) nDu
        exact hnx _ _ ⟨Du, rfl, (kd.trans (st2.trans sl2)).trans sDu, mk _ t2 ((st2.trans sl2).trans sDu) (sDu _ _ (sl2 _ _ upd_same)) Du upd_same⟩
      by_cases z : (1 : Int) < (b : Int)
      · refine ⟨_, rfl, _, _, rfl, rfl, .inr ⟨true, congrArg (fun c => [V.bl c]) (decide_eq_true z), l1, 1, [V.ref t1], rfl, rfl, upd_same, by decide, by decide, (by show 1 ≤ sizeLine; decide), fun d nd => ?_⟩⟩
        have sd := same_upd (o := .lst [V.ref t1]) nd
        refine ⟨_, rfl, _, rfl, _, rfl, _, _, rfl, rfl, (by show 3 ≤ sizeLine; decide), fun t2 nt2 => ⟨(by show 1 ≤ sizeLine; decide), fun l2 nl2 => ?_⟩⟩
        refine fin _ d [V.ref t1] ((st1.trans sl1).trans sd) upd_same (by simp) (fun H' t2 k' r2 Du eDu => ?_) l2 t2 nt2 nl2
        have e1 : (b : Int) - 1 = ((b - 1 : Nat) : Int) := by omega
        have r1 : RawAt H' t1 sh (b - 1) (m + 1) := by
          have := k' _ _ (sd _ _ (sl1 _ _ (show (upd H t1 (.tup [.str (kdOf sh), .int ((b : Int) - 1), .int ((m + 1 : Nat) : Int)])) t1 = _ from upd_same)))
          rw [e1] at this
          exact this
        rw [show pdR6 sh b (m + 1) = [pd6 sh (b - 1) (m + 1), pd6 sh b (m + 1 + 1)] from if_neg (by omega)]
        exact .lst (SqL.of eDu) (.cons (dp6 r1) (.cons (dp6 r2) .nil))
      · refine ⟨_, rfl, _, _, rfl, rfl, .inr ⟨false, congrArg (fun c => [V.bl c]) (decide_eq_false z), l1, 0, [V.ref t1], rfl, rfl, upd_same, by decide, by decide, (by show 0 ≤ sizeLine; decide), fun d nd => ?_⟩⟩
        have sd := same_upd (o := .lst []) nd
        refine ⟨_, rfl, _, rfl, _, rfl, _, _, rfl, rfl, (by show 3 ≤ sizeLine; decide), fun t2 nt2 => ⟨(by show 1 ≤ sizeLine; decide), fun l2 nl2 => ?_⟩⟩
        refine fin _ d [] ((st1.trans sl1).trans sd) upd_same (by simp) (fun H' t2 k' r2 Du eDu => ?_) l2 t2 nt2 nl2
        rw [show pdR6 sh b (m + 1) = [pd6 sh b (m + 1 + 1)] from if_pos (by omega)]
        exact .lst (SqL.of eDu) (.cons (dp6 r2) .nil)
    · rintro σ1 H1 ⟨Du, rfl, k1, dDu⟩
      dsimp only
      refine abs_nx (t := tIfS _ _ _) (fun σ' H' => σ' = [some (.ref p), some (.int (n : Int)), some (.int (m : Int)), some (.ref L), some (.str (kdOf sh)), some (.int (b : Int)), some (.int ((m + 1 : Nat) : Int)), some (.ref Du), none, none, none, none, none, none, none] ∧ Same H H') (fun nx' hnx => ?_) ?_
      · obtain ⟨Ts, ps, eL, ln, l2, at_, dps⟩ : ∃ (Ts ps : List Addr), H1 L = some (.lst (Ts.map V.ref)) ∧ Ts.length = ps.length ∧ Ts.length ≤ 2 ∧ (∀ (i : Nat) (T : Addr), Ts[i]? = some T → ∃ q ys, ps[i]? = some q ∧ H1 T = some (.tup (V.ref q :: ys))) ∧ ∀ H', Same H1 H' → DpAll K H' (ps.map V.ref) (pdR6 sh b (m + 1)) := by
          obtain ⟨T2, p2, h1, h2, h3⟩ := (pa.same k1).ex
          rcases h3 with ⟨e, h⟩ | ⟨l, T1, p1, g1, g2, g3⟩
          · refine ⟨[T2], [p2], h, rfl, (by show 1 ≤ 2; decide), fun i T hi => ?_, fun H' k => ?_⟩
            · cases i with
              | zero =>
                rw [← Option.some.inj hi]
                exact ⟨p2, _, rfl, h2⟩
              | succ i => simp at hi
            · rw [show pdR6 sh b (m + 1) = [pd6 sh b (m + 1 + 1)] from if_pos e]
              exact .cons (dp6 (k _ _ h1)) .nil
          · refine ⟨[T1, T2], [p1, p2], g3, rfl, (by show 2 ≤ 2; decide), fun i T hi => ?_, fun H' k => ?_⟩
            · cases i with
              | zero =>
                rw [← Option.some.inj hi]
                exact ⟨p1, _, rfl, g2⟩
              | succ i =>
                cases i with
                | zero =>
                  rw [← Option.some.inj hi]
                  exact ⟨p2, _, rfl, h2⟩
                | succ i => simp at hi
            · rw [show pdR6 sh b (m + 1) = [pd6 sh (b - 1) (m + 1), pd6 sh b (m + 1 + 1)] from if_neg (by omega)]
              exact .cons (dp6 (k _ _ g1)) (.cons (dp6 (k _ _ h1)) .nil)
        refine ⟨_, rfl, .ref L, _, _, _, true, rfl, .ty "list", ty_list (SqL.of eL), kit_ty (by decide +kernel), _, rfl, iteF ?_⟩
        refine ⟨_, rfl, L, rfl, ⟨_, SqL.of eL⟩, fun D nD => ?_⟩
        refine lc_list (K := K) (a := L) (xs := Ts.map V.ref) (fun i H' => Same H1 H' ∧ H' D = some (.lst ((ps.take i).map V.ref))) ⟨same_upd nD, upd_same⟩ (fun i H' _ h => SqL.of (h.1 _ _ eL)) ?_ ?_
        · rintro i y H' hy ⟨sk, eD⟩
          have il : i < Ts.length := by
            have := (List.getElem?_eq_some_iff.mp hy).1
            rw [List.length_map] at this
            exact this
          have hT := List.getElem?_eq_getElem il
          have ey : y = .ref Ts[i] := by
            rw [List.getElem?_map, hT] at hy
            exact (Option.some.inj hy).symm
          subst ey
          obtain ⟨q', ys, hq, eT⟩ := at_ i _ hT
          refine ⟨rfl, _, rfl, Ts[i], _, _, _, rfl, rfl, SqT.of (sk _ _ eT), atI_nat (j := 0) rfl, _, eD, ?_, fun x o e => ?_, ?_⟩
          · rw [List.length_map, List.length_take]
            exact Nat.lt_of_le_of_lt (show _ ≤ 2 by omega) (by decide)
          · rw [upd_ne (ne_of_none e nD)]
            exact sk _ _ e
          · rw [upd_same, List.take_add_one, hq, List.map_append]
            rfl
        · rintro H3 ⟨sk, eD⟩
          rw [List.length_map, ln, List.take_length] at eD
          refine ⟨_, rfl, _, _, .list (pdR6 sh b (m + 1)), rfl, .lst (SqL.of eD) (dps H3 sk), Dp.same sk _ _ dDu, pdR6_d _ _ _, pdR6_s _ _ _, fun H4 s4 => ⟨_, rfl, iteF ?_⟩⟩
          exact hnx _ _ ⟨rfl, (k1.trans sk).trans s4⟩
      · rintro σ2 H2 ⟨rfl, k2⟩
        dsimp only
        obtain ⟨T2, p2, h1, h2, h3⟩ := (pa.same k2).ex
        refine abs_nx (t := tAsg _ _) (fun σ' H' => ∃ w8 w9 w10 w11 : Option V, σ' = [some (.ref p), some (.int (n : Int)), some (.int (m : Int)), some (.ref L), some (.str (kdOf sh)), some (.int (b : Int)), some (.int ((m + 1 : Nat) : Int)), some (.ref Du), w8, w9, w10, w11, none, none, none] ∧ H' = H2 ∧
            (b = 1 ∨ (1 < b ∧ ∃ p1, RawAt H2 p1 sh (b - 1) (m + 1) ∧ w8 = some (.ref p1) ∧ w9 = some (.int ((m : Nat) : Int)) ∧ w10 = some .non ∧ w11 = some (.int ((m + reach6 sh (b - 1) (m + 1) + 1 : Nat) : Int))))) (fun nx' hnx => ?_) ?_
        · rcases h3 with ⟨e, h⟩ | ⟨l, T1, p1, g1, g2, g3⟩
          · refine ⟨_, rfl, L, _, _, _, rfl, rfl, SqL.of h, atI_nat (j := 0) rfl, T2, _, rfl, SqT.of h2, rfl, _, _, rfl, _, _, rfl, _, _, rfl, _, _, rfl, rfl, ?_⟩
            exact hnx _ _ ⟨_, _, _, _, rfl, rfl, .inl e⟩
          · refine ⟨_, rfl, L, _, _, _, rfl, rfl, SqL.of g3, atI_nat (j := 0) rfl, T1, _, rfl, SqT.of g2, rfl, _, _, rfl, _, _, rfl, _, _, rfl, _, _, rfl, rfl, ?_⟩
            exact hnx _ _ ⟨_, _, _, _, rfl, rfl, .inr ⟨l, p1, g1, rfl, rfl, rfl, rfl⟩⟩
        · rintro σ3 H3 ⟨w8, w9, w10, w11, rfl, rfl, g⟩
          dsimp only
          refine abs_nx (t := tIfS _ _ _) (fun σ' H' => σ' = [some (.ref p), some (.int (n : Int)), some (.int (m : Int)), some (.ref L), some (.str (kdOf sh)), some (.int (b : Int)), some (.int ((m + 1 : Nat) : Int)), some (.ref Du), w8, w9, w10, w11, none, none, none] ∧ H' = H3) (fun nx' hnx => ?_) ?_
          · refine ⟨_, rfl, _, _, rfl, rfl, _, rfl, ?_⟩
            rcases g with e | ⟨l, p1, g1, rfl, rfl, rfl, rfl⟩
            · rw [decide_eq_false (show ¬ (1 : Int) < (b : Int) by omega)]
              exact iteF (iteF (hnx _ _ ⟨rfl, rfl⟩))
            · rw [decide_eq_true (show (1 : Int) < (b : Int) by omega)]
              refine iteT ⟨_, rfl, _, rfl, ?_⟩
              rw [decide_eq_true rfl]
              refine iteF ⟨_, rfl, _, rfl, _, _, rfl, rfl, _, rfl, _, _, rfl, rfl, _, rfl, ?_⟩
              have lt := lst (b - 1) (by omega) (by omega)
              dsimp only
              rw [decide_eq_false (show ¬ (n : Int) < ((m + reach6 sh (b - 1) (m + 1) + 1 : Nat) : Int) - ((m : Nat) : Int) by omega)]
              exact iteF (hnx _ _ ⟨rfl, rfl⟩)
          · rintro σ4 H4 ⟨rfl, rfl⟩
            dsimp only
            refine abs_nx (t := tIfS _ _ _) (fun σ' H' => σ' = [some (.ref p), some (.int (n : Int)), some (.int (m : Int)), some (.ref L), some (.str (kdOf sh)), some (.int (b : Int)), some (.int ((m + 1 : Nat) : Int)), some (.ref Du), w8, w9, w10, w11, none, none, none] ∧ Same H4 H') (fun nx' hnx => ?_) ?_
            · refine ⟨_, rfl, _, _, rfl, rfl, _, rfl, ?_⟩
              rcases g with e | ⟨l, p1, g1, rfl, rfl, rfl, rfl⟩
              · rw [decide_eq_false (show ¬ (1 : Int) < (b : Int) by omega)]
                exact iteF (iteF (hnx _ _ ⟨rfl, Same.refl _⟩))
              · rw [decide_eq_true (show (1 : Int) < (b : Int) by omega)]
                have rb := reach6_le (sh := sh) (b := b - 1) (st := m + 1) (by omega) (by omega)
                refine iteT ⟨_, rfl, _, rfl, _, rfl, p1, sh, b - 1, m + 1, _, _, rfl, g1, by omega, by omega, by omega, by omega, fun z => by have := b6 z; omega, fun z => absurd (by omega) z, fun n1 k1 e1 e2 l1 l2 H5 s5 => ?_⟩
                obtain rfl : n1 = m := by omega
                obtain rfl : k1 = n1 + reach6 sh (b - 1) (n1 + 1) + 1 := by omega
                refine ⟨_, rfl, p1, sh, b - 1, n1 + 1, rfl, s5 _ _ g1, by omega, fun z => by have := b6 z; omega, fun H6 s6 => ⟨rfl, _, rfl, ?_⟩⟩
                have em := soon_mark (sh := sh) (b := b - 1) (st := n1 + 1) (by omega) (by omega)
                rw [Nat.add_sub_cancel] at em
                rw [em, decide_eq_true rfl]
                exact iteF (hnx _ _ ⟨rfl, s5.trans s6⟩)
            · rintro σ5 H5 ⟨rfl, k5⟩
              dsimp only
              have h1' := k5 _ _ h1
              have h2' := k5 _ _ h2
              obtain ⟨xs, exs, ax⟩ : ∃ xs : List V, H5 L = some (.lst xs) ∧ atI xs (-1) = some (.ref T2) := by
                rcases h3 with ⟨_, h⟩ | ⟨_, T1, p1, _, _, g3⟩
                · exact ⟨_, k5 _ _ h, rfl⟩
                · exact ⟨_, k5 _ _ g3, rfl⟩
              have e0 : (m + 1) / (m + 1 + 1) = 0 := Nat.div_eq_of_lt (by omega)
              refine ⟨_, rfl, _, rfl, L, _, _, _, rfl, rfl, SqL.of exs, ax, T2, _, rfl, SqT.of h2', rfl, _, _, rfl, _, _, rfl, _, _, rfl, _, _, rfl, rfl, ?_⟩
              refine ⟨_, rfl, _, rfl, _, rfl, p2, sh, b, m + 1 + 1, _, _, rfl, h1', by omega, by omega, b1, by omega, b6, fun z => absurd (by omega) z, fun n1 j1 e1 e2 l1 l2 H6 s6 => ?_⟩
              obtain rfl : n1 = m + 1 := by omega
              obtain rfl : j1 = m + 1 := by omega
              refine ⟨_, rfl, _, rfl, _, rfl, p2, sh, b, m + 1 + 1, _, _, rfl, s6 _ _ h1', by omega, by omega, b1, by omega, b6, fun z => absurd (by omega) z, fun n2 j2 e3 e4 l3 l4 H7 s7 => ⟨(by show 2 ≤ sizeLine; decide), fun l nl => ?_⟩⟩
              obtain rfl : n2 = 0 := by omega
              obtain rfl : j2 = m + 1 := by omega
              rw [e0, Nat.zero_div, Nat.sub_self]
              have sl := same_upd (o := .lst [V.int (mark6 sh b 0 : Int), V.int (mark6 sh b 0 : Int)]) nl
              refine ⟨_, rfl, l, _, _, _, rfl, rfl, SqL.of upd_same, atI_nat (j := 0) rfl, _, rfl, ?_⟩
              rw [decide_eq_false (show ¬ V.int (mark6 sh b 0 : Int) = .non from fun z => nomatch z)]
              refine iteT ⟨_, rfl, l, _, _, _, rfl, rfl, SqL.of upd_same, atI_nat (j := 0) rfl, _, rfl, l, _, _, _, rfl, rfl, SqL.of upd_same, atI_nat (j := 1) rfl, rfl, _, rfl, ?_⟩
              rw [decide_eq_true rfl]
              refine iteT ⟨_, rfl, p2, sh, b, m + 1 + 1, rfl, sl _ _ (s7 _ _ (s6 _ _ h1')), b1, b6, fun H8 s8 => ⟨rfl, _, rfl, ?_⟩⟩
              rw [decide_eq_false (show ¬ V.int (mark6 sh b 0 : Int) = V.int (fin6 sh b : Int) from fun z => alk_mark b1 (Int.ofNat.inj (V.int.inj z)))]
              refine iteT ⟨_, rfl, _, rfl, _, _, rfl, rfl, _, rfl, _, _, rfl, rfl, ?_⟩
              dsimp only
              rw [decide_eq_true (show (m : Int) < ((m + 1 : Nat) : Int) - 0 by omega)]
              exact q _ ((k2.trans k5).trans ((s6.trans s7).trans (sl.trans s8)))
end
/-! ### shapes of data (short) -/
theorem canLayAll_of : ∀ {ds : List PyData}, (∀ d, d ∈ ds → PyData.canLay0 d = true) → PyData.canLayAll0 ds = true
  | [], _ => by simp only [PyData.canLayAll0]
  | d :: r, h => by
    have h1 := h d List.mem_cons_self
    have h2 := canLayAll_of (ds := r) fun x hx => h x (List.mem_cons_of_mem _ hx)
    simp only [PyData.canLayAll0, h1, h2, Bool.and_self]
theorem shaped_of {d : PyData} (h : PyData.canLay0 d = true) (h2 : PyData.depth d ≤ 64) : SeqAt.shaped d = true := by
  unfold SeqAt.shaped
  rw [h, decide_eq_true h2]
  rfl
theorem eqv_nilL (ds : List PyData) : PyData.eqv (.list ds) (.list []) = ds.isEmpty := by
  cases ds with
  | nil => simp [PyData.eqv, PyData.eqvAll]
  | cons n r => simp [PyData.eqv, PyData.eqvAll]
theorem shaped_nil : SeqAt.shaped (.list []) = true := PySem.W.shaped_ints []
theorem eqv_same {d : PyData} (h : SeqAt.shaped d = true) : PyData.eqv d d = true := by
  first
    | exact PySem.Calls.eqv_refl d (SeqAt.canLay_of_shaped h)
    | exact PyData.eqv_refl d (SeqAt.canLay_of_shaped h)
    | exact SeqAt.eqv_refl d (SeqAt.canLay_of_shaped h)
    | exact eqv_refl d (SeqAt.canLay_of_shaped h)

/-! ### the law -/
def spLaw (K : PySem.W.Frag) (PL : Addr) : Sp := fun vs H Q _ => ∃ (a : Addr) (ns : List Int), vs = [.ref a] ∧ SqL K H a (ns.map V.int) ∧ ns.length ≤ 63 ∧ H PL = some (.tbl #[]) ∧ ∀ H', Q (.bl true) H'
structure HT (H : Hp) (h c PL : Addr) : Prop where
  ha : HAt H h c
  tb : LamX.TabS H PL qL
theorem HT.same {H H' : Hp} {h c PL : Addr} (a : HT H h c PL) (k : Same H H') : HT H' h c PL := ⟨a.ha.same k, a.tb.ext k⟩
theorem HT.drawn {H H' : Hp} {h c PL : Addr} (a : HT H h c PL) (ha : HAt H' h c) (k : Kp2 h c H H') : HT H' h c PL := ⟨ha, TabS_kpL a.tb (Kp2.kpL k) fun _ hx => a.ha.plain hx⟩
theorem HT.lam {H H' : Hp} {h c PL : Addr} (a : HT H h c PL) (e : LamX.ExtN H H') (t : LamX.Tabs [(PL, qL)] H') : HT H' h c PL := ⟨a.ha.ext e, t _ (List.mem_singleton.mpr rfl)⟩
theorem HT.tabs {H : Hp} {h c PL : Addr} (a : HT H h c PL) : LamX.Tabs [(PL, qL)] H := fun q hq => by rw [List.mem_singleton.mp hq]; exact a.tb
theorem HT.put {H : Hp} {h c PL lw : Addr} {xs : List V} {o : HO} (a : HT H h c PL) (e : H lw = some (.lst xs)) (n : lw ≠ h ∧ lw ≠ c) : HT (upd H lw o) h c PL := by
  obtain ⟨⟨⟨mx, pl, ns, e1, e2, rest⟩, hne⟩, tb⟩ := a
  refine ⟨⟨⟨mx, pl, ns, by rw [upd_ne n.1.symm]; exact e1, by rw [upd_ne n.2.symm]; exact e2, rest⟩, hne⟩, TabS_kpL (L := [lw]) tb (fun x o e' nn => ?_) fun x hx => ?_⟩
  · rw [upd_ne (fun z => nn (by rw [z]; simp))]
    exact e'
  · rw [List.mem_singleton.mp hx]
    exact ⟨_, e, (fun _ z => nomatch z), (fun _ z => nomatch z)⟩
theorem HAt.fresh {H : Hp} {h c l : Addr} (a : HAt H h c) (n : H l = none) : l ≠ h ∧ l ≠ c := by
  obtain ⟨⟨mx, pl, ns, e1, e2, _⟩, _⟩ := a
  exact ⟨(ne_of_none e1 n).symm, (ne_of_none e2 n).symm⟩
theorem inr_ne {a b : Str} (h : ¬ a = b) : ¬ (Sum.inr a : Key) = Sum.inr b := fun z => h (Sum.inr.inj z)
theorem dg {H : Hp} {a : Addr} {kvs : List (Key × V)} {k : Str} {v : V} (e : H a = some (.dK kvs)) (h : valV kvs (.inr k) = some v) : DGet H a (.str k) (some v) := .inl ⟨kvs, .inr k, .inl e, rfl, h.symm⟩
theorem kd_ok (sh : Bool) : kdOf sh = "count" ∨ kdOf sh = "shift" := by cases sh <;> first | exact .inl rfl | exact .inr rfl
theorem kdOf_inj {a b : Bool} (h : kdOf a = kdOf b) : a = b := by
  cases a <;> cases b <;> first | rfl | exact absurd h (by decide +kernel)
theorem ks6 : ¬ (("count" : Str) = "shift") := by decide +kernel
def kvs6 : List (Key × V) := [(.inr "count", .int 6), (.inr "shift", .int 10)]
theorem kvs6_merge : mergeK [] kvs6 = kvs6 := by kernel_rfl
theorem kvs6_at (sh : Bool) : valV kvs6 (.inr (kdOf sh)) = some (.int (mb6 sh : Int)) := by
  cases sh
  · exact valV_pos rfl
  · show valV kvs6 (Sum.inr ("shift" : Str)) = _
    unfold kvs6
    rw [valV_neg (inr_ne (fun z => ks6 z))]
    exact valV_pos rfl
def goodB (sh : Bool) (n st i : Nat) : List Nat := (List.range' 1 i).filter fun b => decide (n ≤ reach6 sh b st)
theorem goodB_succ (sh : Bool) (n st i : Nat) : goodB sh n st (i + 1) = goodB sh n st i ++ (if n ≤ reach6 sh (i + 1) st then [i + 1] else []) := by
  unfold goodB
  rw [List.range'_1_concat, List.filter_append]
  congr 1
  by_cases c : n ≤ reach6 sh (1 + i) st
  · rw [if_pos (by rw [Nat.add_comm]; exact c), List.filter_cons_of_pos (p := fun b => decide (n ≤ reach6 sh b st)) (decide_eq_true c), Nat.add_comm]
    rfl
  · rw [if_neg (by rw [Nat.add_comm]; exact c), List.filter_cons_of_neg (p := fun b => decide (n ≤ reach6 sh b st)) (by rw [decide_eq_false c]; exact Bool.false_ne_true)]
    rfl
theorem goodB_head (sh : Bool) (n st : Nat) : ∀ i, (goodB sh n st i = [] → ∀ b, 1 ≤ b → b ≤ i → reach6 sh b st < n) ∧ ∀ b r, goodB sh n st i = b :: r → 1 ≤ b ∧ b ≤ i ∧ n ≤ reach6 sh b st ∧ ∀ b', 1 ≤ b' → b' < b → reach6 sh b' st < n
  | 0 => ⟨fun _ b h1 h2 => absurd h1 (by omega), fun b r h => by simp [goodB] at h⟩
  | i + 1 => by
    obtain ⟨h1, h2⟩ := goodB_head sh n st i
    rw [goodB_succ]
    by_cases c : n ≤ reach6 sh (i + 1) st
    · rw [if_pos c]
      refine ⟨fun z => by simp at z, fun b r e => ?_⟩
      cases eg : goodB sh n st i with
      | nil =>
        rw [eg] at e
        have e1 : i + 1 = b := (List.cons.inj e).1
        subst e1
        exact ⟨by omega, Nat.le_refl _, c, fun b' a1 a2 => h1 eg b' a1 (by omega)⟩
      | cons x y =>
        rw [eg] at e
        have e1 : x = b := (List.cons.inj e).1
        subst e1
        obtain ⟨g1, g2, g3, g4⟩ := h2 _ _ eg
        exact ⟨g1, by omega, g3, g4⟩
    · rw [if_neg c, List.append_nil]
      refine ⟨fun z b a1 a2 => ?_, fun b r e => ?_⟩
      · by_cases eb : b = i + 1
        · subst eb
          omega
        · exact h1 z b a1 (by omega)
      · obtain ⟨g1, g2, g3, g4⟩ := h2 _ _ e
        exact ⟨g1, by omega, g3, g4⟩
theorem goodB_len (sh : Bool) (n st i : Nat) : (goodB sh n st i).length ≤ i := by
  have := List.length_filter_le (fun b => decide (n ≤ reach6 sh b st)) (List.range' 1 i)
  rw [List.length_range'] at this
  exact this
theorem least_uniq {sh : Bool} {n st b b' : Nat} (h : Least6 sh n st b) (h' : Least6 sh n st b') : b = b' := by
  obtain ⟨h1, h2, h3, h4⟩ := h
  obtain ⟨g1, g2, g3, g4⟩ := h'
  rcases Nat.lt_trichotomy b b' with c | c | c
  · have := g4 b h1 c
    omega
  · exact c
  · have := h4 b' g1 c
    omega
theorem reach6_mono {sh : Bool} {b s t : Nat} (h : s ≤ t) : reach6 sh b s ≤ reach6 sh b t := Nat.mul_le_mul_right _ h
/-- rules by their bits -/
structure RawsAt (H : Hp) (gs : List Addr) (sh : Bool) (st : Nat) (bs : List Nat) : Prop where
  len : gs.length = bs.length
  at_ : ∀ (j : Nat) (g : Addr) (b : Nat), gs[j]? = some g → bs[j]? = some b → RawAt H g sh b st
theorem RawsAt.nil (H : Hp) (sh : Bool) (st : Nat) : RawsAt H [] sh st [] := ⟨rfl, fun j g b h _ => by simp at h⟩
theorem RawsAt.k {H H' : Hp} {gs : List Addr} {sh : Bool} {st : Nat} {bs : List Nat} (a : RawsAt H gs sh st bs) (k : ∀ x xs, H x = some (.tup xs) → H' x = some (.tup xs)) : RawsAt H' gs sh st bs := ⟨a.len, fun j g b h1 h2 => k _ _ (a.at_ j g b h1 h2)⟩
theorem RawsAt.snoc {H : Hp} {gs : List Addr} {sh : Bool} {st : Nat} {bs : List Nat} {g : Addr} {b : Nat} (a : RawsAt H gs sh st bs) (e : RawAt H g sh b st) : RawsAt H (gs ++ [g]) sh st (bs ++ [b]) := by
  refine ⟨by rw [List.length_append, List.length_append, a.len]; rfl, fun j T x h1 h2 => ?_⟩
  by_cases jl : j < gs.length
  · rw [List.getElem?_append_left jl] at h1
    rw [List.getElem?_append_left (by rw [← a.len]; exact jl)] at h2
    exact a.at_ j T x h1 h2
  · have jn := (List.getElem?_eq_some_iff.mp h1).1
    rw [List.length_append] at jn
    have je : j = gs.length := by
      have : j < gs.length + 1 := jn
      omega
    subst je
    rw [List.getElem?_append_right (Nat.le_refl _), Nat.sub_self] at h1
    rw [a.len, List.getElem?_append_right (Nat.le_refl _), Nat.sub_self] at h2
    cases h1
    cases h2
    exact e
theorem dpRaws {K : PySem.W.Frag} {H : Hp} {sh : Bool} {st : Nat} : ∀ {gs : List Addr} {bs : List Nat}, RawsAt H gs sh st bs → DpAll K H (gs.map V.ref) (bs.map fun b => pd6 sh b st)
  | [], [], _ => .nil
  | [], b :: r, h => absurd h.len (fun z => nomatch z)
  | g :: r, [], h => absurd h.len (fun z => nomatch z)
  | g :: r, b :: q, h => .cons (dp6 (h.at_ 0 g b rfl rfl)) (dpRaws (gs := r) (bs := q) ⟨Nat.succ.inj h.len, fun j v t h1 h2 => h.at_ (j + 1) v t h1 h2⟩)
theorem pd6_l (sh : Bool) (b st : Nat) : PyData.canLay0 (pd6 sh b st) = true := by
  have h : PyData.canLay0 (.str (kdOf sh)) = true := by cases sh <;> decide +kernel
  unfold pd6
  simp only [PyData.canLay0, PyData.canLayAll0, Bool.and_true]
  exact h
theorem pd6_d (sh : Bool) (b st : Nat) : PyData.depth (pd6 sh b st) ≤ 1 := by
  unfold pd6
  simp only [PyData.depth, PyData.depthAll]
  decide
theorem depthAll_le6 : ∀ {ds : List PyData} {n : Nat}, (∀ d, d ∈ ds → PyData.depth d ≤ n) → PyData.depthAll ds ≤ n
  | [], _, _ => Nat.zero_le _
  | d :: r, n, h => by
    have h1 := h d List.mem_cons_self
    have h2 := depthAll_le6 (ds := r) fun x hx => h x (List.mem_cons_of_mem _ hx)
    simp only [PyData.depthAll]
    omega
theorem pdRaws_shaped (sh : Bool) (st : Nat) (bs : List Nat) : SeqAt.shaped (.list (bs.map fun b => pd6 sh b st)) = true := by
  refine shaped_of ?_ (Nat.le_trans (Nat.succ_le_succ (depthAll_le6 (n := 1) fun d hd => ?_)) (by decide))
  · simp only [PyData.canLay0]
    refine canLayAll_of fun d hd => ?_
    obtain ⟨x, _, rfl⟩ := List.mem_map.mp hd
    exact pd6_l _ _ _
  · obtain ⟨x, _, rfl⟩ := List.mem_map.mp hd
    exact pd6_d _ _ _
section
variable {P : Program} {w : World} {K : PySem.W.Frag} {mg : Str → Option Value} {base : Heap}
abbrev Nlaw : List Str := ["_law_script", "_law_h", "_law_turn", "_law_kind_here", "_law_near", "_law_bits", "_law_far", "_law_every", "_law_good", "_law_again", "_law_rule", "_law_papers", "_law_step", "_law_other", "_law_out", "_law_odd", "_law_words", "_law_some"]
theorem sc_law : FnScope Nlaw ["_law_script"] (defScope s_law) := ⟨rfl, rfl, rfl, by decide +kernel, rfl, by decide +kernel, by decide +kernel⟩
theorem ok_law {f cL PL cS c0 c1 c2 c3 c4 c5 c6 c7 : Addr} {kV doc pm ct oc : Value} {an od : Option Addr} {osl : Array (Option Value)}
    (lk : K.lookup f = some ⟨oc, od, .func (PySem.W.fnOf "law" "law" (defArgs s_law) (defBody s_law) (defScope s_law) .none kV doc pm an (.ref cL) ct), osl⟩) (hcd : PySem.W.codeIn K (.ref cL) "law" = true) (TB : LamX.TabB base mg cL PL)
    (DK : DefAt K mg "_law_kind" s_L_kind ["_law_work"]) (G : ErrG mg cS c0 c1 c2 c3 c4 c5 c6 c7) (eR : ErrIs K cS c0 c1 c2 c3 c4 c5 c6 c7 c0 0) (eB : ErrIs K cS c0 c1 c2 c3 c4 c5 c6 c7 c3 3) (eN : ErrIs K cS c0 c1 c2 c3 c4 c5 c6 c7 c4 4)
    (m_isi : mg "isinstance" = none) (m_ve : mg "ValueError" = none) (m_range : mg "range" = none) (m_max : mg "max" = none) (m_min : mg "min" = none) (m_int : mg "int" = none)
    (C_mix : Cl P w K mg base 1 "_law_mix" ["_law_script", "_law_seed"] (spMix K)) (C_next : Cl P w K mg base 1 "_law_next" ["_law_h", "_law_many"] spNext) (C_reach : Cl P w K mg base 2 "_law_reach" ["_law_rule"] spReach6)
    (C_al : Cl P w K mg base 3 "_law_alike" ["_law_found", "_law_due"] (spAlike K 2)) (C_pap : Cl P w K mg base 4 "_law_are_papers" ["_law_rule", "_law_far", "_law_near", "_law_papers"] spPap6)
    (C_few : ClX P w K mg base 7 "fewest" ["kind", "far", "near"] (spFewest c0 c3 c4)) (C_off : Cl P w K mg base 5 "off" ["rule"] spOff) (C_rch : Cl P w K mg base 4 "reach" ["rule"] spReach) :
    FnOk P w K mg base CX0 10 f (PySem.W.fnOf "law" "law" (defArgs s_law) (defBody s_law) (defScope s_law) .none kV doc pm an (.ref cL) ct) ["_law_script"] (spLaw K PL) := by
  obtain ⟨fk, fdk, ⟨⟨ock, odk, kVk, dock, pmk, ank, cdk, ctk, oslk, rfl, lkk, hck⟩, kpk⟩, gk, bk⟩ := DK
  refine fn_of lk hcd sc_law (fun vs H Q E h => ?_) (fun A outer s H vs Q E hr h => ?_)
  · obtain ⟨a, ns, rfl, _⟩ := h
    rfl
  · obtain ⟨a, ns, rfl, hS, hl, hT, q⟩ := h
    have hu := hu_of hr
    have hu300 : (A.deeper (envOfC "law" (defScope s_law) s.heap.objs.size f (Value.ref cL))).units + 300 < cLine := by
      have := hr.un
      omega
    have mT : (PL, qL) ∈ [(PL, qL)] := List.mem_singleton.mpr rfl
    have tT : ∀ p ∈ [(PL, qL)], p.1 = PL → p.2 = qL := fun p hp _ => by rw [List.mem_singleton.mp hp]
    refine ⟨_, PSs.nox (pss_cons (ps_set (i := 1) sc_law.nd rfl (Or.inl rfl) (pe_cl C_mix hr (pa_cons (pv 0) (pa_cons pe_int pa_nil))))
      (pss_cons (ps_for PassesOwn.never rfl (pi_range1 (by rfl) m_range (pa_cons pe_int pa_nil)) (pg_name (i := 2) sc_law.nd rfl (Or.inl rfl))
        (pss_cons (ps_set (i := 3) sc_law.nd rfl (Or.inr rfl) (pe_ix ix_list (pe_lst (pa_cons pe_str (pa_cons pe_str pa_nil))) (pe_cl C_next hr (pa_cons (pv 1) (pa_cons pe_int pa_nil))) (fun _ _ => rfl)))
        (pss_cons (ps_set (i := 4) sc_law.nd rfl (Or.inr rfl) (pe_cl C_next hr (pa_cons (pv 1) (pa_cons pe_int pa_nil))))
        (pss_cons (ps_set (i := 5) sc_law.nd rfl (Or.inl rfl) (pe_op op_add pe_int (pe_cl C_next hr (pa_cons (pv 1) (pa_cons (pe_dget hu (pe_disp (pps_cons pe_str pe_int (pps_cons pe_str pe_int pps_nil)) (by rfl) (by rfl) (fun z => by cases z) (by decide)) (pv 3) (fun _ _ => rfl)) pa_nil)))))
        (pss_cons (ps_set (i := 6) sc_law.nd rfl (Or.inr rfl) (pe_ix ix_list (pe_lst (pa_cons (pe_op op_add pe_int (pe_cl C_next hr (pa_cons (pv 1) (pa_cons pe_int pa_nil)))) (pa_cons (pe_callB (call_max2 rfl) (by rfl) m_max (by decide +kernel) (pa_cons pe_int (pa_cons (pe_op op_add (pe_cl C_reach hr (pa_cons (pe_tup (pa_cons (pv 3) (pa_cons (pv 5) (pa_cons (pe_op op_add (pv 4) pe_int) pa_nil)))) pa_nil))
            (pe_cl C_next hr (pa_cons (pv 1) (pa_cons pe_int pa_nil)))) pa_nil))) pa_nil))) (pe_cl C_next hr (pa_cons (pv 1) (pa_cons pe_int pa_nil))) (fun _ _ => rfl)))
        (pss_cons (ps_set (i := 6) sc_law.nd rfl (Or.inr rfl) (pe_callB (call_min2 rfl) (by rfl) m_min (by decide +kernel) (pa_cons (pv 6) (pa_cons pe_int pa_nil))))
        (pss_cons (ps_setLc (i := 7) (own := [("_law_some", 17)]) (g := gName 17) (tt := tYes) (te := tTup (tCons (tVar 3) (tCons (tVar 17) (tCons (tOp (rI0 fun i j => .int (i + j)) (tVar 4) (tC (.int 1))) tNil)))) rfl sc_law.nd rfl rfl (sw_true rfl rfl rfl (by decide +kernel)) (pi_range2 (by rfl) m_range (pa_cons pe_int (pa_cons (pe_op op_add pe_int (pe_op op_mul pe_int (pe_callTy call_int1 (by rfl) m_int (by decide +kernel) (pa_cons (pe_cmpR op_eq (pv 3) pe_str (nomark _)) pa_nil)))) pa_nil)))
            (blkOk_by (N := Nlaw) (sc := defScope s_law) (by decide +kernel)) (fun _ _ _ _ _ => by exact pg_name (i := 17) sc_law.nd rfl (Or.inl rfl)) (fun _ _ _ _ _ => by exact pts_nil)
            (fun _ _ _ _ _ => by exact pe_tup (pa_cons (pv 3) (pa_cons (pv 17) (pa_cons (pe_op op_add (pv 4) pe_int) pa_nil)))))
        (pss_cons (ps_setLc (i := 8) (own := [("_law_rule", 10)]) (g := gName 10) (tt := tTest (tOp (rI0 fun i j => .bl (decide (j ≤ i))) (tCall spReach6 [] E0 (tCons (tVar 10) tNil)) (tVar 6))) (te := tVar 10) rfl sc_law.nd rfl rfl (sw_true rfl rfl rfl (by decide +kernel)) (pi_list (pv 7))
            (blkOk_by (N := Nlaw) (sc := defScope s_law) (by decide +kernel)) (fun _ _ _ _ _ => by exact pg_name (i := 10) sc_law.nd rfl (Or.inl rfl)) (fun _ _ _ _ _ => by exact pts_one (pt_cmpR op_ge (pe_cl C_reach hr (pa_cons (pv 10) pa_nil)) (pv 6) (nomark _)))
            (fun _ _ _ _ _ => by exact pv 10))
        (pss_cons (ps_if (pt_cmpR (op_eqD hr.units) (pv 8) (pe_lst pa_nil) (nomark _))
          (pss_one (ps_if (pt_cmpR op_ne (LamX.pe_lamcall (t := fun E => tCall (spFewest c0 c3 c4) [] E (tCons (tVar 3) (tCons (tVar 6) (tCons (tVar 4) tNil)))) (k := 7) (c := cL) (P := PL) (T := [(PL, qL)]) (by rfl) gk kpk lkk hck bk sc_kind rfl (Or.inl rfl) (kind_gives G m_isi m_ve ?hu0) TB rfl mT tT (hr.mono (by decide)) (LamX.lamS_by (show LamX.lamSB (defScope s_law) _ = true by decide +kernel)) (by rfl) (fun _ _ _ _ _ => by rfl)
              (fun A outer s H E f c' hr2 => by exact pe_clx (E := E) C_few (passes_call (takes_of rfl rfl rfl rfl) (fun _ _ _ _ h => h)) hr2 (pa_cons (pv 3) (pa_cons (pv 6) (pa_cons (pv 4) pa_nil))))) pe_str (nomark _)) pss_never pss_nil))
          (pss_cons (ps_for PassesOwn.never rfl (pi_range1 (by rfl) m_range (pa_cons pe_int pa_nil)) (pg_name (i := 9) sc_law.nd rfl (Or.inl rfl))
            (pss_cons (ps_asg (pe_clx (E := E0) C_few passL hr (pa_cons (pv 3) (pa_cons (pv 6) (pa_cons (pv 4) pa_nil)))) (pg_tup rfl (pgs_cons (pg_name (i := 10) sc_law.nd rfl (Or.inl rfl)) (pgs_cons (pg_name (i := 11) sc_law.nd rfl (Or.inl rfl)) pgs_nil))))
            (pss_cons (ps_if (PW.pt (pw_or (pt_not (pt_val (pe_cl C_al hr (pa_cons (pv 10) (pa_cons (pe_ix ix_list (pv 8) pe_int (fun _ _ => rfl)) pa_nil))))) (pw_or1 (pt_not (pt_val (pe_cl C_pap hr (pa_cons (pv 10) (pa_cons (pv 6) (pa_cons (pv 4) (pa_cons (pv 11) pa_nil)))))))))) pss_never pss_nil)
            (pss_one (ps_expr (pe_bm0 PySem.F.plainAttrs_list PySem.F.slot_list_clear PySem.F.type_list_clear mt_clear (pv 11)))))))
          (pss_one (ps_for PassesOwn.never rfl (pi_range2 (by rfl) m_range (pa_cons pe_int (pa_cons pe_int pa_nil))) (pg_name (i := 12) sc_law.nd rfl (Or.inl rfl))
            (pss_cons (ps_set (i := 13) sc_law.nd rfl (Or.inl rfl) (pe_tup (pa_cons (pv 3) (pa_cons (pe_op op_sub (pe_ix ix_tup (pv 10) pe_int (fun _ _ => rfl)) pe_int) (pa_cons (pv 12) pa_nil)))))
            (pss_one (ps_if (PW.pt (pw_and (pt_cmpR op_gt (pe_ix ix_tup (pv 10) pe_int (fun _ _ => rfl)) pe_int (nomark _)) (pw_and (pt_cmpR op_le (pe_cl C_off hr (pa_cons (pv 13) pa_nil)) (pv 4) (nomark _)) (pw_and1 (pt_cmpR op_ge (pe_cl C_rch hr (pa_cons (pv 13) pa_nil)) (pv 6) (nomark _)))))) pss_never pss_nil)))))))
        (pss_cons (ps_set (i := 14) sc_law.nd rfl (Or.inr rfl) (pe_cl C_next hr (pa_cons (pv 1) (pa_cons (pe_op op_pow pe_int pe_int) pa_nil))))
        (pss_cons (ps_set (i := 15) sc_law.nd rfl (Or.inr rfl) (pe_ix ix_list (pe_lst (pa_cons pe_str (pa_cons pe_str (pa_cons pe_str (pa_cons pe_str pa_nil))))) (pe_cl C_next hr (pa_cons (pv 1) (pa_cons pe_int pa_nil))) (fun _ _ => rfl)))
        (pss_cons (ps_set (i := 16) sc_law.nd rfl (Or.inl rfl) (pe_lst (pa_cons (LamX.pe_lamcall (t := fun E => tCall (spFewest c0 c3 c4) [] E (tCons (tVar 15) (tCons (tC (.int 0)) (tCons (tUn (rU fun i => .int (-i)) (tC (.int 1))) tNil)))) (k := 7) (c := cL) (P := PL) (T := [(PL, qL)]) (by rfl) gk kpk lkk hck bk sc_kind rfl (Or.inl rfl) (kind_gives G m_isi m_ve ?hu1) TB rfl mT tT (hr.mono (by decide)) (LamX.lamS_by (show LamX.lamSB (defScope s_law) _ = true by decide +kernel)) (by rfl) (fun _ _ _ _ _ => by rfl)
              (fun A outer s H E f c' hr2 => by exact pe_clx (E := E) C_few (passes_call (takes_of rfl rfl rfl rfl) (fun _ _ _ _ h => h)) hr2 (pa_cons (pv 15) (pa_cons pe_int (pa_cons (pe_un un_neg pe_int) pa_nil))))) pa_nil)))
        (pss_cons (ps_expr (pe_bm PySem.F.plainAttrs_list PySem.F.slot_list_append PySem.F.type_list_append mt_append (pv 16) (pa_cons (LamX.pe_lamcall (t := fun E => tCall (spFewest c0 c3 c4) [] E (tCons (tVar 3) (tCons (tOp (rIxL K) (tLst (tCons (tC (.int 0)) (tCons (tOp (rI0 fun i j => .int (i + j)) (tC (.int 1001)) (tVar 14)) tNil))) (tOp (rI (fun _ j => 0 < j) fun i j => .int (i % j)) (tVar 14) (tC (.int 2)))) (tCons (tVar 4) tNil)))) (k := 7) (c := cL) (P := PL) (T := [(PL, qL)]) (by rfl) gk kpk lkk hck bk sc_kind rfl (Or.inl rfl) (kind_gives G m_isi m_ve ?hu2) TB rfl mT tT (hr.mono (by decide)) (LamX.lamS_by (show LamX.lamSB (defScope s_law) _ = true by decide +kernel)) (by rfl) (fun _ _ _ _ _ => by rfl)
              (fun A outer s H E f c' hr2 => by exact pe_clx (E := E) C_few (passes_call (takes_of rfl rfl rfl rfl) (fun _ _ _ _ h => h)) hr2 (pa_cons (pv 3) (pa_cons (pe_ix ix_list (pe_lst (pa_cons pe_int (pa_cons (pe_op op_add pe_int (pv 14)) pa_nil))) (pe_op op_mod (pv 14) pe_int) (fun _ _ => rfl)) (pa_cons (pv 4) pa_nil))))) pa_nil)))
        (pss_cons (ps_expr (pe_bm PySem.F.plainAttrs_list PySem.F.slot_list_append PySem.F.type_list_append mt_append (pv 16) (pa_cons (LamX.pe_lamcall (t := fun E => tCall (spFewest c0 c3 c4) [] E (tCons (tVar 3) (tCons (tVar 6) (tCons (tOp (rIxL K) (tLst (tCons (tOp (rI0 fun i j => .int (i + j)) (tC (.int 20)) (tVar 14)) (tCons (tOp (rI0 fun i j => .int (i - j)) (tUn (rU fun i => .int (-i)) (tC (.int 1))) (tVar 14)) tNil))) (tOp (rI (fun _ j => 0 < j) fun i j => .int (i % j)) (tVar 14) (tC (.int 2)))) tNil)))) (k := 7) (c := cL) (P := PL) (T := [(PL, qL)]) (by rfl) gk kpk lkk hck bk sc_kind rfl (Or.inl rfl) (kind_gives G m_isi m_ve ?hu3) TB rfl mT tT (hr.mono (by decide)) (LamX.lamS_by (show LamX.lamSB (defScope s_law) _ = true by decide +kernel)) (by rfl) (fun _ _ _ _ _ => by rfl)
              (fun A outer s H E f c' hr2 => by exact pe_clx (E := E) C_few (passes_call (takes_of rfl rfl rfl rfl) (fun _ _ _ _ h => h)) hr2 (pa_cons (pv 3) (pa_cons (pv 6) (pa_cons (pe_ix ix_list (pe_lst (pa_cons (pe_op op_add pe_int (pv 14)) (pa_cons (pe_op op_sub (pe_un un_neg pe_int) (pv 14)) pa_nil))) (pe_op op_mod (pv 14) pe_int) (fun _ _ => rfl)) pa_nil))))) pa_nil)))
        (pss_one (ps_if (pt_cmpR (op_neD hr.units) (pv 16) (pe_lst (pa_cons pe_str (pa_cons pe_str (pa_cons pe_str pa_nil)))) (nomark _)) pss_never pss_nil))))))))))))))))
      (pss_one (ps_ret pe_bl)))), ?_⟩
    case hu0 => exact hu300
    case hu1 => exact hu300
    case hu2 => exact hu300
    case hu3 => exact hu300
    refine ⟨_, rfl, a, 17, ns, rfl, hS, hl, by decide, by decide, fun H0 h c ha0 _ _ s0 => ?_⟩
    have ht0 : HT H0 h c PL := ⟨ha0, LamX.TabS.nil (s0 _ _ hT)⟩
    refine ⟨8, rfl, by decide, by decide, for_range (lo := 0) (n := 8) (fun i σ H' => ∃ v2 v3 v4 v5 v6 v7 v8 v9 v10 v11 v12 v13 v14 v15 v16 v17 : Option V, σ = [some (.ref a), some (.ref h), v2, v3, v4, v5, v6, v7, v8, v9, v10, v11, v12, v13, v14, v15, v16, v17] ∧ HT H' h c PL)
      ⟨none, none, none, none, none, none, none, none, none, none, none, none, none, none, none, none, rfl, ht0⟩ ?_ ?_⟩
    · rintro i σ H1 hi ⟨v2, v3, v4, v5, v6, v7, v8, v9, v10, v11, v12, v13, v14, v15, v16, v17, rfl, ht1⟩
      -- the kind
      refine ⟨(by show 2 ≤ sizeLine; decide), fun l0 nl0 => ?_⟩
      have ht2 := ht1.same (same_upd (o := .lst [V.str "count", V.str "shift"]) nl0)
      refine ⟨_, rfl, h, c, 2, rfl, by decide, by decide, ht2.ha, fun r Ha rl haa ka => ?_⟩
      have ht3 := ht2.drawn haa ka
      have f0 := ht1.ha.fresh nl0
      obtain ⟨sh, ash⟩ : ∃ sh, atI [V.str "count", V.str "shift"] (r : Int) = some (.str (kdOf sh)) := by
        have : r = 0 ∨ r = 1 := by omega
        rcases this with rfl | rfl
        · exact ⟨false, atI_nat (j := 0) rfl⟩
        · exact ⟨true, atI_nat (j := 1) rfl⟩
      refine ⟨l0, _, _, _, rfl, rfl, SqL.of (ka _ _ upd_same f0.1 f0.2), ash, ?_⟩
      -- near
      refine ⟨_, rfl, h, c, 20, rfl, by decide, by decide, ht3.ha, fun m Hb ml hab kb => ?_⟩
      have ht4 := ht3.drawn hab kb
      have m20 : (m : Int) < 20 := ml
      -- bits
      refine ⟨_, rfl, fun dd ndd => ?_⟩
      have sdd := same_upd (o := .dK []) ndd
      refine ⟨upd_same, kvs6, rfl, (by show 2 ≤ 15; decide), ?_⟩
      rw [kvs6_merge, upd_upd]
      have ht5 := ht4.same (same_upd (o := .dK kvs6) ndd)
      refine ⟨_, rfl, dd, _, rfl, dg upd_same (kvs6_at sh), h, c, _, rfl, ?_, ?_, ht5.ha, fun b0 Hc bl hac kc => ⟨_, _, rfl, rfl, ?_⟩⟩
      · cases sh <;> decide
      · cases sh <;> decide
      have ht6 := ht5.drawn hac kc
      have bl' : b0 < mb6 sh := by
        have : (b0 : Int) < (mb6 sh : Int) := bl
        omega
      have m10 := mb6_le sh
      have b6 : sh = false → 1 + b0 ≤ 6 := fun z => by subst z; exact (by have : b0 < 6 := bl'; omega)
      -- far
      dsimp only [gName, tSeq]
      refine abs_nx (t := tAsg _ _) (fun σ' H' => ∃ f0 : Nat, σ' = [some (.ref a), some (.ref h), some (.int (0 + (i : Int))), some (.str (kdOf sh)), some (.int (m : Int)), some (.int (1 + (b0 : Int))), some (.int (f0 : Int)), v7, v8, v9, v10, v11, v12, v13, v14, v15, v16, v17] ∧ HT H' h c PL ∧ 1 ≤ f0) (fun nx' hnx => ?_) ?_
      · refine ⟨_, rfl, h, c, 1000, rfl, by decide, by decide, ht6.ha, fun f1 Hd f1l had kd' => ⟨_, _, rfl, rfl, ?_⟩⟩
        have ht7 := ht6.drawn had kd'
        refine ⟨_, rfl, _, rfl, _, rfl, _, _, rfl, rfl, (by show 3 ≤ sizeLine; decide), fun p0 np0 => ?_⟩
        have ht8 := ht7.same (same_upd (o := .tup [.str (kdOf sh), .int (1 + (b0 : Int)), .int ((m : Int) + 1)]) np0)
        refine ⟨p0, sh, 1 + b0, m + 1, rfl, upd_same, by omega, by omega, b6, fun He ke => ?_⟩
        have ht9 := ht8.same ke
        refine ⟨_, rfl, h, c, 2, rfl, by decide, by decide, ht9.ha, fun r2 Hf r2l haf kf => ⟨_, _, rfl, rfl, _, _, rfl, (by show 2 ≤ sizeLine; decide), fun l1 nl1 => ?_⟩⟩
        have ht10 := ht9.drawn haf kf
        have f2 := ht10.ha.fresh nl1
        have ht11 := ht10.same (same_upd (o := .lst [V.int (1 + (f1 : Int)), V.int (if (reach6 sh (1 + b0) (m + 1) : Int) + (r2 : Int) > 1 then (reach6 sh (1 + b0) (m + 1) : Int) + (r2 : Int) else 1)]) nl1)
        refine ⟨_, rfl, h, c, 2, rfl, by decide, by decide, ht11.ha, fun r3 Hg r3l hag kg => ?_⟩
        have ht12 := ht11.drawn hag kg
        obtain ⟨f0, hf, f01⟩ : ∃ f0 : Nat, atI [V.int (1 + (f1 : Int)), V.int (if (reach6 sh (1 + b0) (m + 1) : Int) + (r2 : Int) > 1 then (reach6 sh (1 + b0) (m + 1) : Int) + (r2 : Int) else 1)] (r3 : Int) = some (.int (f0 : Int)) ∧ 1 ≤ f0 := by
          have : r3 = 0 ∨ r3 = 1 := by omega
          rcases this with rfl | rfl
          · exact ⟨1 + f1, atI_nat (j := 0) rfl, by omega⟩
          · by_cases z : (reach6 sh (1 + b0) (m + 1) : Int) + (r2 : Int) > 1
            · rw [if_pos z]
              exact ⟨reach6 sh (1 + b0) (m + 1) + r2, atI_nat (j := 1) rfl, by omega⟩
            · rw [if_neg z]
              exact ⟨1, atI_nat (j := 1) rfl, by omega⟩
        exact ⟨l1, _, _, _, rfl, rfl, SqL.of (kg _ _ upd_same f2.1 f2.2), hf, hnx _ _ ⟨f0, rfl, ht12, f01⟩⟩
      · rintro σ' Hd ⟨f0, rfl, ht7, f1⟩
        dsimp only
        refine ⟨_, rfl, _, _, rfl, ?_⟩
        obtain ⟨n, en, n1, n2⟩ : ∃ n : Nat, (if (1000 : Int) < (f0 : Int) then (1000 : Int) else (f0 : Int)) = (n : Int) ∧ 1 ≤ n ∧ n ≤ 1000 := by
          by_cases z : (1000 : Int) < (f0 : Int)
          · rw [if_pos z]
            exact ⟨1000, rfl, by omega, by omega⟩
          · rw [if_neg z]
            exact ⟨f0, rfl, f1, by omega⟩
        rw [en]
        -- every rule
        refine ⟨_, rfl, rfl, .inr ⟨sh, by rw [dec_str]; cases sh <;> first | rw [decide_eq_true (show kdOf true = "shift" from rfl)] | rw [decide_eq_false (show ¬ kdOf false = "shift" from k6_cs)], _, _, rfl, rfl, .inl (le64 (by decide) (by decide)), _, _, rfl, rfl, 1, (mb6 sh : Int) + 1, by cases sh <;> rfl, ⟨by omega, by omega, by omega, by omega⟩, fun D nD => ?_⟩⟩
        rw [show ((mb6 sh : Int) + 1 - 1).toNat = mb6 sh by omega]
        refine lc_range (lo := 1) (n := mb6 sh) (fun k H' => Same Hd H' ∧ ∃ rs : List Addr, H' D = some (.lst (rs.map V.ref)) ∧ RawsAt H' rs sh (m + 1) (List.range' 1 k)) ⟨same_upd nD, [], upd_same, RawsAt.nil _ _ _⟩ ?_ ?_
        · rintro k H' hk ⟨sk, rs, eD, ra⟩
          refine ⟨rfl, _, rfl, _, rfl, _, rfl, _, _, rfl, rfl, (by show 3 ≤ sizeLine; decide), fun p np => ?_⟩
          have sp := same_upd (o := .tup [.str (kdOf sh), .int (1 + (k : Int)), .int ((m : Int) + 1)]) np
          have nDp : D ≠ p := ne_of_none eD np
          refine ⟨_, sp _ _ eD, ?_, fun x o e => ?_, rs ++ [p], ?_, ?_⟩
          · rw [List.length_map, ra.len, List.length_range']
            exact small1000 (by omega)
          · rw [upd_ne (ne_of_none e nD)]
            exact sp _ _ (sk _ _ e)
          · rw [upd_same, List.map_append]
            rfl
          · rw [List.range'_1_concat]
            refine (ra.k fun x xs e => ?_).snoc ?_
            · rw [upd_ne (ne_of e eD (fun z => nomatch z))]
              exact sp _ _ e
            · show (upd (upd H' p _) D _) p = _
              rw [upd_ne nDp.symm, upd_same]
              rfl
        · rintro He ⟨sk, rs, eD, ra⟩
          have hte := ht7.same sk
          -- the good ones
          refine ⟨_, rfl, D, rfl, ⟨_, SqL.of eD⟩, fun D2 nD2 => ?_⟩
          refine lc_list (K := K) (a := D) (xs := rs.map V.ref) (fun k H' => Same He H' ∧ ∃ gs : List Addr, H' D2 = some (.lst (gs.map V.ref)) ∧ RawsAt H' gs sh (m + 1) (goodB sh n (m + 1) k)) ⟨same_upd nD2, [], upd_same, RawsAt.nil _ _ _⟩ (fun k H' _ h => SqL.of (h.1 _ _ eD)) ?_ ?_
          · rintro k y H' hy ⟨sk2, gs, eD2, rg⟩
            have kl : k < rs.length := by
              have := (List.getElem?_eq_some_iff.mp hy).1
              rw [List.length_map] at this
              exact this
            have hg := List.getElem?_eq_getElem kl
            have ey : y = .ref rs[k] := by
              rw [List.getElem?_map, hg] at hy
              exact (Option.some.inj hy).symm
            subst ey
            have kl2 : k < mb6 sh := by
              have := ra.len
              rw [List.length_range'] at this
              omega
            have hp : RawAt He rs[k] sh (k + 1) (m + 1) := ra.at_ k _ _ hg (by rw [List.getElem?_range' kl2, Nat.one_mul, Nat.add_comm])
            refine ⟨rfl, _, rfl, rs[k], sh, k + 1, m + 1, rfl, sk2 _ _ hp, by omega, by omega, fun z => by subst z; exact kl2, fun Hf kf => ⟨_, rfl, _, _, rfl, rfl, _, rfl, ?_⟩⟩
            by_cases z : (n : Int) ≤ (reach6 sh (k + 1) (m + 1) : Int)
            · rw [decide_eq_true z]
              have e2 := kf _ _ eD2
              refine iteT ⟨_, rfl, _, e2, ?_, fun x o e => ?_, gs ++ [rs[k]], ?_, ?_⟩
              · rw [List.length_map, rg.len]
                have := goodB_len sh n (m + 1) k
                exact small1000 (by omega)
              · rw [upd_ne (ne_of_none e nD2)]
                exact kf _ _ (sk2 _ _ e)
              · rw [upd_same, List.map_append]
                rfl
              · rw [goodB_succ, if_pos (by omega)]
                have keep : ∀ x xs, H' x = some (.tup xs) → (upd Hf D2 (.lst (gs.map V.ref ++ [.ref rs[k]]))) x = some (.tup xs) := fun x xs e => by
                  rw [upd_ne (ne_of e eD2 (fun z => nomatch z))]
                  exact kf _ _ e
                exact (rg.k keep).snoc (keep _ _ (sk2 _ _ hp))
            · rw [decide_eq_false z]
              refine iteF ⟨sk2.trans kf, gs, kf _ _ eD2, ?_⟩
              rw [goodB_succ, if_neg (by omega), List.append_nil]
              exact rg.k fun x xs e => kf _ _ e
          · rintro Hf ⟨sk2, gs, eD2, rg⟩
            have lr : (rs.map V.ref).length = mb6 sh := by
              rw [List.length_map, ra.len, List.length_range']
            rw [lr] at rg
            have htf := hte.same sk2
            obtain ⟨hnil, hcons⟩ := goodB_head sh n (m + 1) (mb6 sh)
            dsimp only [gName, tSeq]
            refine abs_nx (t := tIfS _ _ _) (fun σ' H' => ∃ w9 w10 w11 w12 w13 : Option V, σ' = [some (.ref a), some (.ref h), some (.int (0 + (i : Int))), some (.str (kdOf sh)), some (.int (m : Int)), some (.int (1 + (b0 : Int))), some (.int (n : Int)), some (.ref D), some (.ref D2), w9, w10, w11, w12, w13, v14, v15, v16, v17] ∧ HT H' h c PL) (fun nx' hnx => ?_) ?_
            · refine ⟨_, rfl, (by show 0 ≤ sizeLine; decide), fun ln nln => ?_⟩
              have sln := same_upd (o := .lst []) nln
              refine ⟨.list ((goodB sh n (m + 1) (mb6 sh)).map fun b => pd6 sh b (m + 1)), .list [], .lst (SqL.of (sln _ _ eD2)) (dpRaws (rg.k fun x xs e => sln _ _ e)), .lst (SqL.of upd_same) .nil, pdRaws_shaped _ _ _, shaped_nil, _, rfl, ?_⟩
              have htg := htf.same sln
              rw [eqv_nilL]
              cases eg : goodB sh n (m + 1) (mb6 sh) with
              | nil =>
                have few := hnil eg
                refine iteT ⟨htg.tabs, fun Hg eg' tg => ⟨_, rfl, _, rfl, _, rfl, kdOf sh, _, _, rfl, fun z => absurd (kd_ok sh) z, fun sh' e z => absurd ⟨⟨by omega, by omega⟩, by omega, by omega⟩ z, ?q3⟩⟩
                case q3 =>
                  intro sh' n' m' e1 e2 e3 l1 l2 l3
                  obtain rfl := kdOf_inj e1
                  obtain rfl : n = n' := by omega
                  obtain rfl : m = m' := by omega
                  refine ⟨fun b lb => absurd (few b lb.1 lb.2.1) (by have := lb.2.2.1; omega), fun _ H' s' => ⟨c4, 4, "NoRule", rfl, rfl, eN, rfl, fun H'' s'' => ⟨rfl, _, rfl, ?_⟩⟩⟩
                  rw [decide_eq_true rfl]
                  exact iteF (hnx _ _ ⟨_, _, _, _, _, rfl, ((htg.lam eg' tg).same s').same s''⟩)
              | cons bb br =>
                obtain ⟨g1, g2, g3, g4⟩ := hcons _ _ eg
                have lb : Least6 sh n (m + 1) bb := ⟨g1, g2, g3, g4⟩
                refine iteF ?_
                obtain ⟨g0, gr, rfl⟩ : ∃ g0 gr, gs = g0 :: gr := by
                  cases gs with
                  | nil =>
                    have := rg.len
                    rw [eg] at this
                    cases this
                  | cons g0 gr => exact ⟨g0, gr, rfl⟩
                have hg0 : RawAt Hf g0 sh bb (m + 1) := rg.at_ 0 _ _ rfl (by rw [eg]; rfl)
                refine ⟨2, rfl, by decide, by decide, for_range (lo := 0) (n := 2) (fun k σ H' => ∃ w9 w10 w11 : Option V, σ = [some (.ref a), some (.ref h), some (.int (0 + (i : Int))), some (.str (kdOf sh)), some (.int (m : Int)), some (.int (1 + (b0 : Int))), some (.int (n : Int)), some (.ref D), some (.ref D2), w9, w10, w11, v12, v13, v14, v15, v16, v17] ∧ HT H' h c PL ∧ Same Hf H' ∧ (1 ≤ k → ∃ p, w10 = some (.ref p) ∧ RawAt H' p sh bb (m + 1))) ⟨v9, v10, v11, rfl, htg, sln, fun z => absurd z (by omega)⟩ ?_ ?_⟩
                · rintro k σ Hg hk ⟨w9, w10, w11, rfl, hth, sg, _⟩
                  refine ⟨_, rfl, _, rfl, _, rfl, kdOf sh, _, _, rfl, fun z => absurd (kd_ok sh) z, fun sh' e z => absurd ⟨⟨by omega, by omega⟩, by omega, by omega⟩ z, ?q3⟩
                  case q3 =>
                    intro sh' n' m' e1 e2 e3 l1 l2 l3
                    obtain rfl := kdOf_inj e1
                    obtain rfl : n = n' := by omega
                    obtain rfl : m = m' := by omega
                    refine ⟨fun b lb' Hh T p L nL sh1 eT hp pa => ?_, fun hh => absurd (hh bb g1 g2) (by omega)⟩
                    obtain rfl := least_uniq lb lb'
                    refine ⟨T, [.ref p, .ref L], rfl, SqT.of eT, rfl, _, _, rfl, _, _, rfl, rfl, ?_⟩
                    have eD2h := sh1 _ _ (sg _ _ eD2)
                    refine ⟨_, rfl, _, rfl, D2, _, _, _, rfl, rfl, SqL.of eD2h, atI_nat (j := 0) rfl, _, _, pd6 sh bb (m + 1), rfl, dp6 hp, dp6 (sh1 _ _ (sg _ _ hg0)), Nat.le_trans (pd6_d _ _ _) (by decide), rfl, fun Hi si => ⟨_, rfl, iteF ?_⟩⟩
                    refine ⟨_, rfl, _, rfl, _, rfl, _, rfl, p, L, sh, bb, n, m, _, _, rfl, rfl, rfl, si _ _ hp, pa.same si, lb, by omega, fun Hj sj => ⟨_, rfl, iteF ?_⟩⟩
                    obtain ⟨xs, exs⟩ : ∃ xs, Hj L = some (.lst xs) := by
                      obtain ⟨T2, p2, _, _, h3⟩ := ((pa.same si).same sj).ex
                      rcases h3 with ⟨_, h⟩ | ⟨_, _, _, _, _, h⟩
                      · exact ⟨_, h⟩
                      · exact ⟨_, h⟩
                    have sfin : Same Hg (upd Hj L (.lst [])) := fun x o e => by
                      rw [upd_ne (ne_of_none e nL)]
                      exact sj _ _ (si _ _ (sh1 _ _ e))
                    refine ⟨_, rfl, .inl ⟨rfl, _, SqL.of exs⟩, L, _, rfl, rfl, exs, _, _, _, rfl, hth.same sfin, sg.trans sfin, fun _ => ⟨p, rfl, ?_⟩⟩
                    show (upd Hj L _) p = _
                    rw [upd_ne (ne_of (sj _ _ (si _ _ hp)) exs (fun z => nomatch z))]
                    exact sj _ _ (si _ _ hp)
                · rintro σ Hg ⟨w9, w10, w11, rfl, hth, sg, hk⟩
                  obtain ⟨p, rfl, hp⟩ := hk (by decide)
                  refine ⟨_, _, rfl, ⟨by decide, by decide, by decide, by decide⟩, for_range (lo := 1) (n := 20) (fun k σ H' => ∃ w12 w13 : Option V, σ = [some (.ref a), some (.ref h), some (.int (0 + (i : Int))), some (.str (kdOf sh)), some (.int (m : Int)), some (.int (1 + (b0 : Int))), some (.int (n : Int)), some (.ref D), some (.ref D2), w9, some (.ref p), w11, w12, w13, v14, v15, v16, v17] ∧ Same Hg H') ⟨v12, v13, rfl, Same.refl _⟩ ?_ ?_⟩
                  · rintro k σ Hh hk' ⟨w12, w13, rfl, sh1⟩
                    have hp1 := sh1 _ _ hp
                    refine ⟨_, rfl, _, rfl, p, _, _, _, rfl, rfl, SqT.of hp1, atI_nat (j := 1) rfl, _, _, rfl, rfl, _, rfl, (by show 3 ≤ sizeLine; decide), fun po npo => ?_⟩
                    have spo := same_upd (o := .tup [.str (kdOf sh), .int ((bb : Int) - 1), .int (1 + (k : Int))]) npo
                    refine ⟨_, rfl, p, _, _, _, rfl, rfl, SqT.of (spo _ _ hp1), atI_nat (j := 1) rfl, _, _, rfl, rfl, _, rfl, ?_⟩
                    by_cases z : (1 : Int) < (bb : Int)
                    · rw [decide_eq_true z]
                      have e1 : (bb : Int) - 1 = ((bb - 1 : Nat) : Int) := by omega
                      have e2 : (1 : Int) + (k : Int) = ((k + 1 : Nat) : Int) := by omega
                      have hpo : RawAt (upd Hh po (.tup [.str (kdOf sh), .int ((bb : Int) - 1), .int (1 + (k : Int))])) po sh (bb - 1) (k + 1) := by
                        show (upd Hh po _) po = _
                        rw [upd_same, e1, e2]
                      have lbb := lb.2.1
                      refine iteT ⟨_, rfl, po, _, rfl, raw_ru hpo, ru6_ok (by omega) (by omega) (by omega) (by omega), fun v Hi hv si => ⟨_, rfl, _, _, rfl, rfl, _, rfl, ?_⟩⟩
                      have ev := ru6_off hv
                      rw [Nat.add_sub_cancel] at ev
                      by_cases z2 : (v : Int) ≤ (m : Int)
                      · rw [decide_eq_true z2]
                        refine iteT ⟨_, rfl, po, _, rfl, raw_ru (si _ _ hpo), ru6_ok (by omega) (by omega) (by omega) (by omega), fun v Hj hv sj => ⟨_, rfl, _, _, rfl, rfl, _, rfl, ?_⟩⟩
                        have ev := ru6_reach hv
                        subst ev
                        have mono := reach6_mono (sh := sh) (b := bb - 1) (s := k + 1) (t := m + 1) (by omega)
                        have less := lb.2.2.2 (bb - 1) (by omega) (by omega)
                        rw [decide_eq_false (show ¬ (n : Int) ≤ (reach6 sh (bb - 1) (k + 1) : Int) by omega)]
                        exact iteF ⟨_, _, rfl, ((sh1.trans spo).trans si).trans sj⟩
                      · rw [decide_eq_false z2]
                        exact iteF (iteF ⟨_, _, rfl, (sh1.trans spo).trans si⟩)
                    · rw [decide_eq_false z]
                      exact iteF (iteF ⟨_, _, rfl, sh1.trans spo⟩)
                  · rintro σ Hh ⟨w12, w13, rfl, sh1⟩
                    exact hnx _ _ ⟨_, _, _, _, _, rfl, hth.same sh1⟩
            · rintro σ2 Hg ⟨w9, w10, w11, w12, w13, rfl, htg⟩
              dsimp only
              refine ⟨_, rfl, _, _, rfl, rfl, ⟨by decide, by decide, by decide⟩, h, c, _, rfl, by decide, by decide, htg.ha, fun out Hh outl hah kh => ?_⟩
              have hth := htg.drawn hah kh
              have om : ((out : Int) % 2 = 0) ∨ ((out : Int) % 2 = 1) := by omega
              refine ⟨(by show 4 ≤ sizeLine; decide), fun lo nlo => ?_⟩
              have fo := hth.ha.fresh nlo
              have hti := hth.same (same_upd (o := .lst [V.str "rough", V.str "Count", V.str "", V.str "shifts"]) nlo)
              refine ⟨_, rfl, h, c, 4, rfl, by decide, by decide, hti.ha, fun r Hj rl haj kj => ?_⟩
              have htj := hti.drawn haj kj
              obtain ⟨od, hod, nod⟩ : ∃ od : Str, atI [V.str "rough", V.str "Count", V.str "", V.str "shifts"] (r : Int) = some (.str od) ∧ ¬ (od = "count" ∨ od = "shift") := by
                have : r = 0 ∨ r = 1 ∨ r = 2 ∨ r = 3 := by omega
                rcases this with rfl | rfl | rfl | rfl
                · exact ⟨_, atI_nat (j := 0) rfl, by decide +kernel⟩
                · exact ⟨_, atI_nat (j := 1) rfl, by decide +kernel⟩
                · exact ⟨_, atI_nat (j := 2) rfl, by decide +kernel⟩
                · exact ⟨_, atI_nat (j := 3) rfl, by decide +kernel⟩
              refine ⟨lo, _, _, _, rfl, rfl, SqL.of (kj _ _ upd_same fo.1 fo.2), hod, ?_⟩
              -- another kind
              refine ⟨htj.tabs, fun Hk ek tk => ⟨_, rfl, _, rfl, od, _, _, rfl, (fun z => ⟨c0, 0, "BadRule", rfl, rfl, eR, rfl, fun H2 s2 => ?_⟩), (fun sh' e z => absurd (by rw [e]; exact kd_ok sh') nod), (fun sh' n' m' e => absurd (by rw [e]; exact kd_ok sh') nod)⟩⟩
              have htk := (htj.lam ek tk).same s2
              refine ⟨(by show 1 ≤ sizeLine; decide), fun lw nlw => ?_⟩
              have fw := htk.ha.fresh nlw
              have htl := htk.same (same_upd (o := .lst [V.str "BadRule"]) nlw)
              -- far beyond
              refine ⟨_, rfl, .inl ⟨rfl, _, SqL.of upd_same⟩, htl.tabs, fun Hm em tm => ?_⟩
              have htm := htl.lam em tm
              have elw : Hm lw = some (.lst [V.str "BadRule"]) := em _ _ upd_same (fun _ z => nomatch z)
              refine ⟨_, rfl, _, rfl, _, _, rfl, rfl, (by show 2 ≤ sizeLine; decide), fun l4 nl4 => ?_⟩
              have s4 := same_upd (o := .lst [V.int 0, V.int (1001 + (out : Int))]) nl4
              obtain ⟨x, hx, xo⟩ : ∃ x : Int, atI [V.int 0, V.int (1001 + (out : Int))] ((out : Int) % 2) = some (.int x) ∧ ¬ (1 ≤ x ∧ x ≤ 1000) := by
                rcases om with z | z
                · rw [z]
                  exact ⟨_, atI_nat (j := 0) rfl, by omega⟩
                · rw [z]
                  exact ⟨_, atI_nat (j := 1) rfl, by omega⟩
              refine ⟨_, rfl, _, _, rfl, rfl, (by show (0 : Int) < 2; decide), l4, _, _, _, rfl, rfl, SqL.of upd_same, hx, _, rfl, kdOf sh, _, _, rfl, (fun z => absurd (kd_ok sh) z), (fun sh' e z => ⟨c3, 3, "BadBounds", rfl, rfl, eB, rfl, fun H3 s3 => ?_⟩), (fun sh' n' m' e1 e2 e3 l1 l2 l3 => absurd (show 1 ≤ x ∧ x ≤ 1000 by omega) xo)⟩
              have elw3 := s3 _ _ (s4 _ _ elw)
              refine ⟨lw, _, _, rfl, rfl, elw3, (by show 1 < sizeLine; decide), ?_⟩
              have ht5 := ((htm.same s4).same s3).put (o := .lst ([V.str "BadRule"] ++ [V.str "BadBounds"])) elw3 fw
              -- near beyond
              refine ⟨_, rfl, .inl ⟨rfl, _, SqL.of upd_same⟩, ht5.tabs, fun Hp ep tp => ?_⟩
              have ht6 := ht5.lam ep tp
              have elw4 : Hp lw = some (.lst ([V.str "BadRule"] ++ [V.str "BadBounds"])) := ep _ _ upd_same (fun _ z => nomatch z)
              refine ⟨_, rfl, _, rfl, _, rfl, _, _, rfl, rfl, _, rfl, _, rfl, _, _, rfl, rfl, (by show 2 ≤ sizeLine; decide), fun l6 nl6 => ?_⟩
              have s6 := same_upd (o := .lst [V.int (20 + (out : Int)), V.int (-1 - (out : Int))]) nl6
              obtain ⟨y, hy, yo⟩ : ∃ y : Int, atI [V.int (20 + (out : Int)), V.int (-1 - (out : Int))] ((out : Int) % 2) = some (.int y) ∧ ¬ (0 ≤ y ∧ y ≤ 19) := by
                rcases om with z | z
                · rw [z]
                  exact ⟨_, atI_nat (j := 0) rfl, by omega⟩
                · rw [z]
                  exact ⟨_, atI_nat (j := 1) rfl, by omega⟩
              refine ⟨_, rfl, _, _, rfl, rfl, (by show (0 : Int) < 2; decide), l6, _, _, _, rfl, rfl, SqL.of upd_same, hy, kdOf sh, _, _, rfl, (fun z => absurd (kd_ok sh) z), (fun sh' e z => ⟨c3, 3, "BadBounds", rfl, rfl, eB, rfl, fun H5 s5 => ?_⟩), (fun sh' n' m' e1 e2 e3 l1 l2 l3 => absurd (show 0 ≤ y ∧ y ≤ 19 by omega) yo)⟩
              have elw5 := s5 _ _ (s6 _ _ elw4)
              refine ⟨lw, _, _, rfl, rfl, elw5, (by show 2 < sizeLine; decide), ?_⟩
              have ht7 := ((ht6.same s6).same s5).put (o := .lst ([V.str "BadRule"] ++ [V.str "BadBounds"] ++ [V.str "BadBounds"])) elw5 fw
              refine ⟨_, rfl, (by show 3 ≤ sizeLine; decide), fun l7 nl7 => ?_⟩
              have s7 := same_upd (o := .lst [V.str "BadRule", V.str "BadBounds", V.str "BadBounds"]) nl7
              refine ⟨.list [.str "BadRule", .str "BadBounds", .str "BadBounds"], .list [.str "BadRule", .str "BadBounds", .str "BadBounds"], .lst (SqL.of (s7 _ _ upd_same)) (.cons (.str _) (.cons (.str _) (.cons (.str _) .nil))), .lst (SqL.of upd_same) (.cons (.str _) (.cons (.str _) (.cons (.str _) .nil))), by decide +kernel, by decide +kernel, _, rfl, ?_⟩
              rw [show PyData.eqv (.list [.str "BadRule", .str "BadBounds", .str "BadBounds"]) (.list [.str "BadRule", .str "BadBounds", .str "BadBounds"]) = true by decide +kernel]
              exact iteF ⟨_, _, _, _, _, _, _, _, _, _, _, _, _, _, _, _, rfl, ht7.same s7⟩
    · rintro σ Ha _
      exact q Ha
end
theorem lims_mk {K : PySem.W.Frag} {w : World} {h : Heap} {mg : Str → Option Value} {d d1 d2 d3 : Addr} {es : Array DictEntry} {n n1 n2 n3 : Nat} {od1 od2 od3 : Option Addr} {sl1 sl2 sl3 : Array (Option Value)} {x1 x2 x3 x4 x5 : Tok} (X : K.In h) (G : h.Ns mainGlobals mg)
    (aL : PySem.W.nsIn K mainGlobals "LIMITS" = some (some (.ref d))) (lL : K.lookup d = some ⟨.type "dict", none, .dict es n, #[]⟩) (kL : PySem.W.KeysLit w.params es.toList) (sL : (d == sysModules) = false)
    (e1 : PySem.W.nsIn K d "count" = some (some (.ref d1))) (t1 : K.lookup d1 = some ⟨.type "tuple", od1, .seq #[.int 6 x1, .int 20 x2] n1, sl1⟩)
    (e2 : PySem.W.nsIn K d "shift" = some (some (.ref d2))) (t2 : K.lookup d2 = some ⟨.type "tuple", od2, .seq #[.int 10 x3, .int 20 x4] n2, sl2⟩)
    (e3 : PySem.W.nsIn K d "rough" = some (some (.ref d3))) (t3 : K.lookup d3 = some ⟨.type "tuple", od3, .seq #[.int 3 x5] n3, sl3⟩) : Lims K w mg := by
  refine ⟨d, es, n, PySem.W.mg_of X G aL, ⟨lL, kL, sL⟩, fun R => ?_⟩
  cases R with
  | cnt b s => exact ⟨d1, e1, _, _, _, t1, rfl, rfl, (by show 2 ≤ sizeLine; decide), .cons ⟨_, rfl⟩ (.cons ⟨_, rfl⟩ .nil)⟩
  | shf b s => exact ⟨d2, e2, _, _, _, t2, rfl, rfl, (by show 2 ≤ sizeLine; decide), .cons ⟨_, rfl⟩ (.cons ⟨_, rfl⟩ .nil)⟩
  | rgh b => exact ⟨d3, e3, _, _, _, t3, rfl, rfl, (by show 1 ≤ sizeLine; decide), .cons ⟨_, rfl⟩ .nil⟩
theorem all_mk {l : PySem.W.OpenLaw} {w : World} {K : PySem.W.Frag} {h : Heap} {mg : Str → Option Value} {fa : Addr} (X : K.In h) (G : h.Ns mainGlobals mg) (hfa : mg "law" = some (.ref fa))
    {f_0 c_0 P_0 : Addr}
    {oc_0 kV_0 doc_0 pm_0 ct_0 : Value} {an_0 od_0 : Option Addr} {osl_0 : Array (Option Value)}
    {d dd1 dd2 dd3 : Addr} {es : Array DictEntry} {n n1 n2 n3 : Nat} {od1 od2 od3 : Option Addr} {sl1 sl2 sl3 : Array (Option Value)} {x1 x2 x3 x4 x5 : Tok}
    {tk_FARTHEST : Tok}
    {tk_MOST_NEAR : Tok}
    {cSeenError cBadRule cBadMark cBadMoment cBadBounds cNoRule cBadThings cNoThing cBadText : Addr}
    {dK : Addr} {odK : Option Addr} {nK : Nat} {slK : Array (Option Value)} {y1 y2 : Tok}
    (d_is_rule : DefAt K mg "is_rule" s_is_rule ["rule"])
    (d_check_rule : DefAt K mg "check_rule" s_check_rule ["rule"])
    (d_top_mark : DefAt K mg "top_mark" s_top_mark ["rule"])
    (d_end_mark : DefAt K mg "end_mark" s_end_mark ["rule"])
    (d_seen : DefAt K mg "seen" s_seen ["rule", "mark"])
    (d_aged_on : DefAt K mg "aged_on" s_aged_on ["rule", "mark", "begin", "end"])
    (d_aged_roughly : DefAt K mg "_aged_roughly" s_aged_roughly ["last", "mark", "begin", "end"])
    (d_off : DefAt K mg "off" s_off ["rule"])
    (d_reach : DefAt K mg "reach" s_reach ["rule"])
    (d_agings : DefAt K mg "_agings" s_agings ["rule", "mark"])
    (d_rough_span : DefAt K mg "_rough_span" s_rough_span ["rule", "now", "mark"])
    (d_rough_moments : DefAt K mg "_rough_moments" s_rough_moments ["rule"])
    (d_rough_width : DefAt K mg "_rough_width" s_rough_width ["rule", "now"])
    (d_fewest : DefAt K mg "fewest" s_fewest ["kind", "far", "near"])
    (d_rule_for : DefAt K mg "_rule_for" s_rule_for ["kind", "far", "step"])
    (d_papers : DefAt K mg "_papers" s_papers ["rule"])
    (d_ended_too_soon : DefAt K mg "_ended_too_soon" s_ended_too_soon ["rule"])
    (d_alike : DefAt K mg "_alike" s_alike ["rule"])
    (d_L_mix : DefAt K mg "_law_mix" s_L_mix ["_law_script", "_law_seed"])
    (d_L_next : DefAt K mg "_law_next" s_L_next ["_law_h", "_law_many"])
    (d_L_alike : DefAt K mg "_law_alike" s_L_alike ["_law_found", "_law_due"])
    (d_L_end : DefAt K mg "_law_end" s_L_end ["_law_rule"])
    (d_L_kind : DefAt K mg "_law_kind" s_L_kind ["_law_work"])
    (d_L_reach : DefAt K mg "_law_reach" s_L_reach ["_law_rule"])
    (d_L_mark : DefAt K mg "_law_mark" s_L_mark ["_law_rule", "_law_one", "_law_moment"])
    (d_L_are_papers : DefAt K mg "_law_are_papers" s_L_are_papers ["_law_rule", "_law_far", "_law_near", "_law_papers"])
    (hTab : ∀ P ∈ [P_0], h.get? P = some (PySem.W.tabObj #[]))
    (gM0 : PySem.W.nsIn K mainGlobals "law" = some (some (.ref f_0)))
    (lM0 : K.lookup f_0 = some ⟨oc_0, od_0, .func (PySem.W.fnOf "law" "law" (defArgs s_law) (defBody s_law) (defScope s_law) .none kV_0 doc_0 pm_0 an_0 (.ref c_0) ct_0), osl_0⟩)
    (cM0 : PySem.W.codeIn K (.ref c_0) "law" = true)
    (kM0 : PySem.W.keepIn K (.ref f_0) = true)
    (nP0 : K.lookup P_0 = none)
    (hP0 : PySem.W.codeHdIn K c_0 P_0 = true)
    (m_len : mg "len" = none)
    (m_all : mg "all" = none)
    (m_zip : mg "zip" = none)
    (m_min : mg "min" = none)
    (m_max : mg "max" = none)
    (m_list : mg "list" = none)
    (m_range : mg "range" = none)
    (m_int : mg "int" = none)
    (m_isi : mg "isinstance" = none)
    (m_tuple : mg "tuple" = none)
    (m_str : mg "str" = none)
    (m_bool : mg "bool" = none)
    (m_ve : mg "ValueError" = none)
    (aL : PySem.W.nsIn K mainGlobals "LIMITS" = some (some (.ref d)))
    (lL : K.lookup d = some ⟨.type "dict", none, .dict es n, #[]⟩)
    (kL : PySem.W.KeysLit w.params es.toList)
    (sL : (d == sysModules) = false)
    (e1 : PySem.W.nsIn K d "count" = some (some (.ref dd1)))
    (t1 : K.lookup dd1 = some ⟨.type "tuple", od1, .seq #[.int 6 x1, .int 20 x2] n1, sl1⟩)
    (e2 : PySem.W.nsIn K d "shift" = some (some (.ref dd2)))
    (t2 : K.lookup dd2 = some ⟨.type "tuple", od2, .seq #[.int 10 x3, .int 20 x4] n2, sl2⟩)
    (e3 : PySem.W.nsIn K d "rough" = some (some (.ref dd3)))
    (t3 : K.lookup dd3 = some ⟨.type "tuple", od3, .seq #[.int 3 x5] n3, sl3⟩)
    (c_FARTHEST : PySem.W.nsIn K mainGlobals "FARTHEST" = some (some (.int 1000 tk_FARTHEST)))
    (c_MOST_NEAR : PySem.W.nsIn K mainGlobals "MOST_NEAR" = some (some (.int 19 tk_MOST_NEAR)))
    (aSeenError : PySem.W.nsIn K mainGlobals "SeenError" = some (some (.ref cSeenError)))
    (aBadRule : PySem.W.nsIn K mainGlobals "BadRule" = some (some (.ref cBadRule)))
    (aBadMark : PySem.W.nsIn K mainGlobals "BadMark" = some (some (.ref cBadMark)))
    (aBadMoment : PySem.W.nsIn K mainGlobals "BadMoment" = some (some (.ref cBadMoment)))
    (aBadBounds : PySem.W.nsIn K mainGlobals "BadBounds" = some (some (.ref cBadBounds)))
    (aNoRule : PySem.W.nsIn K mainGlobals "NoRule" = some (some (.ref cNoRule)))
    (aBadThings : PySem.W.nsIn K mainGlobals "BadThings" = some (some (.ref cBadThings)))
    (aNoThing : PySem.W.nsIn K mainGlobals "NoThing" = some (some (.ref cNoThing)))
    (aBadText : PySem.W.nsIn K mainGlobals "BadText" = some (some (.ref cBadText)))
    (xBadRule : PySem.W.excIn K cBadRule [.type "ValueError", .type "Exception", .type "BaseException", .type "object"] "ValueError.__new__" = true)
    (kBadRule : PySem.W.keepIn K (.ref cBadRule) = true)
    (bBadRule : PySem.W.subIn K (.ref cBadRule) (.type "BaseException") = some true)
    (tBadRule : PySem.W.typeIn K (.ref cBadRule) = some (.type "type"))
    (xBadBounds : PySem.W.excIn K cBadBounds [.type "ValueError", .type "Exception", .type "BaseException", .type "object"] "ValueError.__new__" = true)
    (kBadBounds : PySem.W.keepIn K (.ref cBadBounds) = true)
    (bBadBounds : PySem.W.subIn K (.ref cBadBounds) (.type "BaseException") = some true)
    (tBadBounds : PySem.W.typeIn K (.ref cBadBounds) = some (.type "type"))
    (xNoRule : PySem.W.excIn K cNoRule [.type "ValueError", .type "Exception", .type "BaseException", .type "object"] "ValueError.__new__" = true)
    (kNoRule : PySem.W.keepIn K (.ref cNoRule) = true)
    (bNoRule : PySem.W.subIn K (.ref cNoRule) (.type "BaseException") = some true)
    (tNoRule : PySem.W.typeIn K (.ref cNoRule) = some (.type "type"))
    (iBadRule : errIsB K cSeenError cBadRule cBadMark cBadMoment cBadBounds cNoRule cBadThings cNoThing cBadText cBadRule 0 = true)
    (iBadBounds : errIsB K cSeenError cBadRule cBadMark cBadMoment cBadBounds cNoRule cBadThings cNoThing cBadText cBadBounds 3 = true)
    (iNoRule : errIsB K cSeenError cBadRule cBadMark cBadMoment cBadBounds cNoRule cBadThings cNoThing cBadText cNoRule 4 = true)
    (aK : PySem.W.nsIn K mainGlobals "KINDS" = some (some (.ref dK)))
    (tK : K.lookup dK = some ⟨.type "tuple", odK, .seq #[.str "count" y1, .str "shift" y2] nK, slK⟩)
    : LamX.LawAtS l w K L2.CX0 10 63 "_law_script" mg fa h := by
  have e := hfa.symm.trans (PySem.W.mg_of X G gM0)
  cases e
  refine ⟨PySem.W.fnOf "law" "law" (defArgs s_law) (defBody s_law) (defScope s_law) .none kV_0 doc_0 pm_0 an_0 (.ref c_0) ct_0, [(c_0, P_0)], spLaw K P_0, ?t1, ?t2, ?t3, fun s v => .of_eq rfl, ?t4, fun base hKb hNb TBs => ?t5⟩
  case t1 =>
    intro p hp
    simp only [List.mem_cons, List.not_mem_nil, or_false] at hp
    subst hp
    exact hTab _ (by simp)
  case t2 =>
    intro p hp
    simp only [List.mem_cons, List.not_mem_nil, or_false] at hp
    subst hp
    exact nP0
  case t3 =>
    intro p hp
    simp only [List.mem_cons, List.not_mem_nil, or_false] at hp
    subst hp
    exact PySem.W.codeHd_of_K X hP0
  case t4 =>
    intro H a ns hl _ hTs hS
    exact ⟨a, ns, rfl, hS, hl, hTs (c_0, P_0) (by simp), fun _ => rfl⟩
  case t5 =>
    have TB0 : LamX.TabB base mg c_0 P_0 := TBs (c_0, P_0) (by simp)
    have LI : Lims K w mg := lims_mk X G aL lL kL sL e1 t1 e2 t2 e3 t3
    have E_BadRule : ErrC K mg "BadRule" cBadRule := ⟨PySem.W.mg_of X G aBadRule, xBadRule, kBadRule, bBadRule, tBadRule⟩
    have E_BadBounds : ErrC K mg "BadBounds" cBadBounds := ⟨PySem.W.mg_of X G aBadBounds, xBadBounds, kBadBounds, bBadBounds, tBadBounds⟩
    have E_NoRule : ErrC K mg "NoRule" cNoRule := ⟨PySem.W.mg_of X G aNoRule, xNoRule, kNoRule, bNoRule, tNoRule⟩
    have EG : ErrG mg cSeenError cBadRule cBadMark cBadMoment cBadBounds cNoRule cBadThings cNoThing cBadText := ⟨PySem.W.mg_of X G aSeenError, PySem.W.mg_of X G aBadRule, PySem.W.mg_of X G aBadMark, PySem.W.mg_of X G aBadMoment, PySem.W.mg_of X G aBadBounds, PySem.W.mg_of X G aNoRule, PySem.W.mg_of X G aBadThings, PySem.W.mg_of X G aNoThing, PySem.W.mg_of X G aBadText⟩
    have I_BadRule := errIs_of iBadRule
    have I_BadBounds := errIs_of iBadBounds
    have I_NoRule := errIs_of iNoRule
    have C_is : Cl l.prog w K mg base 1 "is_rule" ["rule"] spIsRule := ok_is_rule d_is_rule LI m_len m_all m_zip
    have C_cr := ok_check_rule d_check_rule C_is
    have C_tm : Cl l.prog w K mg base 1 "top_mark" ["rule"] spTopMark := ok_top_mark d_top_mark
    have C_ro : Cl l.prog w K mg base 1 "_aged_roughly" ["last", "mark", "begin", "end"] spRoughly := ok_roughly d_aged_roughly
    have C_ao := ok_aged_on d_aged_on m_min C_tm C_ro
    have C_em := ok_end_mark d_end_mark C_tm
    have C_se : Cl l.prog w K mg base 1 "seen" ["rule", "mark"] spSeen := ok_seen d_seen
    have C_gs := ok_agings d_agings C_se C_em
    have C_rs := ok_rough d_rough_span m_range C_em C_se C_ao
    have C_ms := ok_moments d_rough_moments m_list m_range C_em
    have C_wd := ok_width d_rough_width m_max m_range C_em C_rs
    have C_off := ok_off d_off m_max C_cr C_ms C_wd
    have C_re := ok_reach d_reach m_min C_cr C_ms C_rs C_em C_gs
    have W : KindsAt K mg := ⟨dK, PySem.W.mg_of X G aK, fun H => .inr ⟨_, _, _, tK, rfl, rfl, (by show 2 ≤ sizeLine; decide), .cons ⟨_, rfl⟩ (.cons ⟨_, rfl⟩ .nil)⟩⟩
    have C_so := ok_soon d_ended_too_soon C_re
    have C_ak : Cl l.prog w K mg base 1 "_alike" ["rule"] spAlk := ok_alk d_alike
    have C_pp := ok_papers d_papers C_so C_ak
    have C_rf := ok_rfor d_rule_for LI m_range E_NoRule C_re
    have C_fw := ok_fewest d_fewest W (PySem.W.mg_of X G c_FARTHEST) (PySem.W.mg_of X G c_MOST_NEAR) E_BadRule E_BadBounds C_rf C_pp
    have C_mix : Cl l.prog w K mg base 1 "_law_mix" ["_law_script", "_law_seed"] (spMix K) := ok_mix d_L_mix m_list
    have C_next : Cl l.prog w K mg base 1 "_law_next" ["_law_h", "_law_many"] spNext := ok_next d_L_next m_max m_len
    have C_al0 : Cl l.prog w K mg base 1 "_law_alike" ["_law_found", "_law_due"] (spAlike K 0) := ok_alike0 d_L_alike m_isi m_tuple m_list m_str m_bool m_int
    have C_al1 := ok_alikeS d_L_alike m_isi m_tuple m_list m_str m_bool m_int m_len m_range C_al0
    have C_al2 := ok_alikeS d_L_alike m_isi m_tuple m_list m_str m_bool m_int m_len m_range C_al1
    have C_end : Cl l.prog w K mg base 1 "_law_end" ["_law_rule"] spEnd6 := ok_end6 d_L_end
    have C_rch := ok_reach6 d_L_reach C_end
    have C_mk := ok_mark6 d_L_mark m_min C_end
    have C_pap := ok_pap d_L_are_papers m_int m_isi m_list C_al2 C_mk C_end
    exact ok_law lM0 cM0 TB0 d_L_kind EG I_BadRule I_BadBounds I_NoRule m_isi m_ve m_range m_max m_min m_int C_mix C_next C_rch C_al2 C_pap C_fw C_off C_re
end LS
open PySem PySem.W PyProof.Rows
set_option maxHeartbeats 0 in
theorem PySem.Challenge.cw_lastseen_k06_whole_the_fewest_bits_holds : PySem.Challenge.rw_lastseen_k06_whole_the_fewest_bits.Holds := by
  w_on; o_law; k_head; (case hw => w_witness2)
  k_fill
  refine LamX.walk_ofTs (l := PySem.Challenge.rw_lastseen_k06_whole_the_fewest_bits) (n := 63) (k := 10) (x := "_law_script") (CX := fun _ => L2.CX0) rfl (by decide) rfl ⟨rfl, by decide, by decide⟩ (fun w h Y => PySem.W.km_in_of Y) ?F (fun _ _ _ _ _ h => h)
  case F =>
    intro w mg fa h Y KX G hmg
    have hT := PySem.W.km_tabs_of Y
    refine' LS.all_mk KX G hmg (LS.defAt_mk (st := LS.s_is_rule) (ps := ["rule"]) KX G ?a0 ?l0 ?c0 ?k0 (fun _ _ _ _ _ _ us hl => match us, hl with | [_], _ => rfl)) (LS.defAt_mk (st := LS.s_check_rule) (ps := ["rule"]) KX G ?a1 ?l1 ?c1 ?k1 (fun _ _ _ _ _ _ us hl => match us, hl with | [_], _ => rfl)) (LS.defAt_mk (st := LS.s_top_mark) (ps := ["rule"]) KX G ?a2 ?l2 ?c2 ?k2 (fun _ _ _ _ _ _ us hl => match us, hl with | [_], _ => rfl)) (LS.defAt_mk (st := LS.s_end_mark) (ps := ["rule"]) KX G ?a3 ?l3 ?c3 ?k3 (fun _ _ _ _ _ _ us hl => match us, hl with | [_], _ => rfl)) (LS.defAt_mk (st := LS.s_seen) (ps := ["rule", "mark"]) KX G ?a4 ?l4 ?c4 ?k4 (fun _ _ _ _ _ _ us hl => match us, hl with | [_, _], _ => rfl)) (LS.defAt_mk (st := LS.s_aged_on) (ps := ["rule", "mark", "begin", "end"]) KX G ?a5 ?l5 ?c5 ?k5 (fun _ _ _ _ _ _ us hl => match us, hl with | [_, _, _, _], _ => rfl)) (LS.defAt_mk (st := LS.s_aged_roughly) (ps := ["last", "mark", "begin", "end"]) KX G ?a6 ?l6 ?c6 ?k6 (fun _ _ _ _ _ _ us hl => match us, hl with | [_, _, _, _], _ => rfl)) (LS.defAt_mk (st := LS.s_off) (ps := ["rule"]) KX G ?a7 ?l7 ?c7 ?k7 (fun _ _ _ _ _ _ us hl => match us, hl with | [_], _ => rfl)) (LS.defAt_mk (st := LS.s_reach) (ps := ["rule"]) KX G ?a8 ?l8 ?c8 ?k8 (fun _ _ _ _ _ _ us hl => match us, hl with | [_], _ => rfl)) (LS.defAt_mk (st := LS.s_agings) (ps := ["rule", "mark"]) KX G ?a9 ?l9 ?c9 ?k9 (fun _ _ _ _ _ _ us hl => match us, hl with | [_, _], _ => rfl)) (LS.defAt_mk (st := LS.s_rough_span) (ps := ["rule", "now", "mark"]) KX G ?a10 ?l10 ?c10 ?k10 (fun _ _ _ _ _ _ us hl => match us, hl with | [_, _, _], _ => rfl)) (LS.defAt_mk (st := LS.s_rough_moments) (ps := ["rule"]) KX G ?a11 ?l11 ?c11 ?k11 (fun _ _ _ _ _ _ us hl => match us, hl with | [_], _ => rfl)) (LS.defAt_mk (st := LS.s_rough_width) (ps := ["rule", "now"]) KX G ?a12 ?l12 ?c12 ?k12 (fun _ _ _ _ _ _ us hl => match us, hl with | [_, _], _ => rfl)) (LS.defAt_mk (st := LS.s_fewest) (ps := ["kind", "far", "near"]) KX G ?a13 ?l13 ?c13 ?k13 (fun _ _ _ _ _ _ us hl => match us, hl with | [_, _, _], _ => rfl)) (LS.defAt_mk (st := LS.s_rule_for) (ps := ["kind", "far", "step"]) KX G ?a14 ?l14 ?c14 ?k14 (fun _ _ _ _ _ _ us hl => match us, hl with | [_, _, _], _ => rfl)) (LS.defAt_mk (st := LS.s_papers) (ps := ["rule"]) KX G ?a15 ?l15 ?c15 ?k15 (fun _ _ _ _ _ _ us hl => match us, hl with | [_], _ => rfl)) (LS.defAt_mk (st := LS.s_ended_too_soon) (ps := ["rule"]) KX G ?a16 ?l16 ?c16 ?k16 (fun _ _ _ _ _ _ us hl => match us, hl with | [_], _ => rfl)) (LS.defAt_mk (st := LS.s_alike) (ps := ["rule"]) KX G ?a17 ?l17 ?c17 ?k17 (fun _ _ _ _ _ _ us hl => match us, hl with | [_], _ => rfl)) (LS.defAt_mk (st := LS.s_L_mix) (ps := ["_law_script", "_law_seed"]) KX G ?a18 ?l18 ?c18 ?k18 (fun _ _ _ _ _ _ us hl => match us, hl with | [_, _], _ => rfl)) (LS.defAt_mk (st := LS.s_L_next) (ps := ["_law_h", "_law_many"]) KX G ?a19 ?l19 ?c19 ?k19 (fun _ _ _ _ _ _ us hl => match us, hl with | [_, _], _ => rfl)) (LS.defAt_mk (st := LS.s_L_alike) (ps := ["_law_found", "_law_due"]) KX G ?a20 ?l20 ?c20 ?k20 (fun _ _ _ _ _ _ us hl => match us, hl with | [_, _], _ => rfl)) (LS.defAt_mk (st := LS.s_L_end) (ps := ["_law_rule"]) KX G ?a21 ?l21 ?c21 ?k21 (fun _ _ _ _ _ _ us hl => match us, hl with | [_], _ => rfl)) (LS.defAt_mk (st := LS.s_L_kind) (ps := ["_law_work"]) KX G ?a22 ?l22 ?c22 ?k22 (fun _ _ _ _ _ _ us hl => match us, hl with | [_], _ => rfl)) (LS.defAt_mk (st := LS.s_L_reach) (ps := ["_law_rule"]) KX G ?a23 ?l23 ?c23 ?k23 (fun _ _ _ _ _ _ us hl => match us, hl with | [_], _ => rfl)) (LS.defAt_mk (st := LS.s_L_mark) (ps := ["_law_rule", "_law_one", "_law_moment"]) KX G ?a24 ?l24 ?c24 ?k24 (fun _ _ _ _ _ _ us hl => match us, hl with | [_, _, _], _ => rfl)) (LS.defAt_mk (st := LS.s_L_are_papers) (ps := ["_law_rule", "_law_far", "_law_near", "_law_papers"]) KX G ?a25 ?l25 ?c25 ?k25 (fun _ _ _ _ _ _ us hl => match us, hl with | [_, _, _, _], _ => rfl)) ?hTab ?gM0 ?lM0 ?cM0 ?kM0 ?nP0 ?hP0 (PySem.W.mg_none_of KX G ?zlen) (PySem.W.mg_none_of KX G ?zall) (PySem.W.mg_none_of KX G ?zzip) (PySem.W.mg_none_of KX G ?zmin) (PySem.W.mg_none_of KX G ?zmax) (PySem.W.mg_none_of KX G ?zlist) (PySem.W.mg_none_of KX G ?zrange) (PySem.W.mg_none_of KX G ?zint) (PySem.W.mg_none_of KX G ?zisi) (PySem.W.mg_none_of KX G ?ztuple) (PySem.W.mg_none_of KX G ?zstr) (PySem.W.mg_none_of KX G ?zbool) (PySem.W.mg_none_of KX G ?zve) ?aL ?lL ?kL ?sL ?e1 ?t1 ?e2 ?t2 ?e3 ?t3 ?c_FARTHEST ?c_MOST_NEAR ?aSeenError ?aBadRule ?aBadMark ?aBadMoment ?aBadBounds ?aNoRule ?aBadThings ?aNoThing ?aBadText ?xBadRule ?kBadRule ?bBadRule ?tBadRule ?xBadBounds ?kBadBounds ?bBadBounds ?tBadBounds ?xNoRule ?kNoRule ?bNoRule ?tNoRule ?iBadRule ?iBadBounds ?iNoRule ?aK ?tK
    (case a0 => k_is)
    (case l0 => k_is)
    (case c0 => k_is)
    (case k0 => k_is)
    (case a1 => k_is)
    (case l1 => k_is)
    (case c1 => k_is)
    (case k1 => k_is)
    (case a2 => k_is)
    (case l2 => k_is)
    (case c2 => k_is)
    (case k2 => k_is)
    (case a3 => k_is)
    (case l3 => k_is)
    (case c3 => k_is)
    (case k3 => k_is)
    (case a4 => k_is)
    (case l4 => k_is)
    (case c4 => k_is)
    (case k4 => k_is)
    (case a5 => k_is)
    (case l5 => k_is)
    (case c5 => k_is)
    (case k5 => k_is)
    (case a6 => k_is)
    (case l6 => k_is)
    (case c6 => k_is)
    (case k6 => k_is)
    (case a7 => k_is)
    (case l7 => k_is)
    (case c7 => k_is)
    (case k7 => k_is)
    (case a8 => k_is)
    (case l8 => k_is)
    (case c8 => k_is)
    (case k8 => k_is)
    (case a9 => k_is)
    (case l9 => k_is)
    (case c9 => k_is)
    (case k9 => k_is)
    (case a10 => k_is)
    (case l10 => k_is)
    (case c10 => k_is)
    (case k10 => k_is)
    (case a11 => k_is)
    (case l11 => k_is)
    (case c11 => k_is)
    (case k11 => k_is)
    (case a12 => k_is)
    (case l12 => k_is)
    (case c12 => k_is)
    (case k12 => k_is)
    (case a13 => k_is)
    (case l13 => k_is)
    (case c13 => k_is)
    (case k13 => k_is)
    (case a14 => k_is)
    (case l14 => k_is)
    (case c14 => k_is)
    (case k14 => k_is)
    (case a15 => k_is)
    (case l15 => k_is)
    (case c15 => k_is)
    (case k15 => k_is)
    (case a16 => k_is)
    (case l16 => k_is)
    (case c16 => k_is)
    (case k16 => k_is)
    (case a17 => k_is)
    (case l17 => k_is)
    (case c17 => k_is)
    (case k17 => k_is)
    (case a18 => k_is)
    (case l18 => k_is)
    (case c18 => k_is)
    (case k18 => k_is)
    (case a19 => k_is)
    (case l19 => k_is)
    (case c19 => k_is)
    (case k19 => k_is)
    (case a20 => k_is)
    (case l20 => k_is)
    (case c20 => k_is)
    (case k20 => k_is)
    (case a21 => k_is)
    (case l21 => k_is)
    (case c21 => k_is)
    (case k21 => k_is)
    (case a22 => k_is)
    (case l22 => k_is)
    (case c22 => k_is)
    (case k22 => k_is)
    (case a23 => k_is)
    (case l23 => k_is)
    (case c23 => k_is)
    (case k23 => k_is)
    (case a24 => k_is)
    (case l24 => k_is)
    (case c24 => k_is)
    (case k24 => k_is)
    (case a25 => k_is)
    (case l25 => k_is)
    (case c25 => k_is)
    (case k25 => k_is)
    (case hTab => exact hT)
    (case gM0 => k_is)
    (case lM0 => k_is)
    (case cM0 => k_is)
    (case kM0 => k_is)
    (case nP0 => kernel_rfl)
    (case hP0 => kernel_rfl)
    (case zlen => k_is)
    (case zall => k_is)
    (case zzip => k_is)
    (case zmin => k_is)
    (case zmax => k_is)
    (case zlist => k_is)
    (case zrange => k_is)
    (case zint => k_is)
    (case zisi => k_is)
    (case ztuple => k_is)
    (case zstr => k_is)
    (case zbool => k_is)
    (case zve => k_is)
    (case aL => k_is)
    (case lL => k_is)
    (case kL => k_keys)
    (case sL => decide)
    (case e1 => k_is)
    (case t1 => k_is)
    (case e2 => k_is)
    (case t2 => k_is)
    (case e3 => k_is)
    (case t3 => k_is)
    (case c_FARTHEST => k_is)
    (case c_MOST_NEAR => k_is)
    (case aSeenError => k_is)
    (case aBadRule => k_is)
    (case aBadMark => k_is)
    (case aBadMoment => k_is)
    (case aBadBounds => k_is)
    (case aNoRule => k_is)
    (case aBadThings => k_is)
    (case aNoThing => k_is)
    (case aBadText => k_is)
    (case xBadRule => k_exc)
    (case kBadRule => k_is)
    (case bBadRule => k_is)
    (case tBadRule => k_is)
    (case xBadBounds => k_exc)
    (case kBadBounds => k_is)
    (case bBadBounds => k_is)
    (case tBadBounds => k_is)
    (case xNoRule => k_exc)
    (case kNoRule => k_is)
    (case bNoRule => k_is)
    (case tNoRule => k_is)
    (case iBadRule => kernel_rfl)
    (case iBadBounds => kernel_rfl)
    (case iNoRule => kernel_rfl)
    (case aK => k_is)
    (case tK => k_is)
