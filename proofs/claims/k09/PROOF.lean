import PyProof.Rows.All
import Wide.All
import OpenK.AllK
import Wide.FinOn
import HandS.ForMost
import HandS.IsInst
import HandS.Zip
import HandS.More
import HandS.WideBits
import HandS.Conv
import HandS.SetFor
import HandS.ExcIs
import HandS.Lambda
import HandS.ForExc
import HandS.EndTab
import HandS.TryMany
import PyProof.DictMoreH
import PySem.Challenge.RW_lastseen_k09_played
set_option Elab.async false
set_option linter.all false
set_option maxRecDepth 100000
set_option maxHeartbeats 4000000
namespace LS
/-- a rule: its kind, bits, step -/
inductive Ru where
  | cnt (b s : Nat)
  | shf (b s : Nat)
  | rgh (b : Nat)
def Ru.ok : Ru → Prop
  | .cnt b s => 1 ≤ b ∧ b ≤ 6 ∧ 1 ≤ s ∧ s ≤ 20
  | .shf b s => 1 ≤ b ∧ b ≤ 10 ∧ 1 ≤ s ∧ s ≤ 20
  | .rgh b => 1 ≤ b ∧ b ≤ 3
def Ru.bits : Ru → Nat
  | .cnt b _ => b
  | .shf b _ => b
  | .rgh b => b
/-- the greatest mark -/
def Ru.most : Ru → Nat
  | .cnt b _ => 2 ^ b - 1
  | .shf b _ => 2 ^ (b + 1) - 1
  | .rgh b => 2 ^ b - 1
/-- the mark that ageing leaves -/
def Ru.fin : Ru → Nat
  | .cnt b _ => 2 ^ b - 1
  | .shf _ _ => 0
  | .rgh b => 2 ^ b - 1
/-- the mark of a thing that was just seen for the first time -/
def Ru.top : Ru → Nat
  | .shf b _ => 2 ^ b
  | _ => 0
/-- the beginning of a moment -/
def tick : Ru → Nat → Nat → Nat
  | .cnt b s, m, t => if t % s = 0 then min (m + 1) (2 ^ b - 1) else m
  | .shf _ s, m, t => if t % s = 0 then m / 2 else m
  | .rgh b, m, t => if m ≠ 2 ^ b - 1 ∧ t % 2 ^ m = 0 then m + 1 else m
/-- n moments behind moment t -/
def ag (R : Ru) (m t : Nat) : Nat → Nat
  | 0 => m
  | n + 1 => tick R (ag R m t n) (t + n + 1)
theorem ag_add (R : Ru) (m t n : Nat) : ∀ k, ag R m t (n + k) = ag R (ag R m t n) (t + n) k
  | 0 => rfl
  | k + 1 => by
    show tick R (ag R m t (n + k)) (t + (n + k) + 1) = tick R (ag R (ag R m t n) (t + n) k) (t + n + k + 1)
    rw [ag_add R m t n k, Nat.add_assoc t n k]
theorem succ_div (k s : Nat) (hs : 0 < s) : (k + 1) / s = k / s + (if (k + 1) % s = 0 then 1 else 0) := by
  have e := Nat.div_add_mod k s
  have hr : k % s < s := Nat.mod_lt k hs
  by_cases h : k % s + 1 < s
  · have e1 : k + 1 = s * (k / s) + (k % s + 1) := by omega
    have d : (k + 1) / s = k / s := by
      have := congrArg (· / s) e1
      simp only [Nat.mul_add_div hs, Nat.div_eq_of_lt h, Nat.add_zero] at this
      exact this
    have m : (k + 1) % s = k % s + 1 := by
      have := congrArg (· % s) e1
      simp only [Nat.mul_add_mod] at this
      rw [this, Nat.mod_eq_of_lt h]
    rw [d, if_neg (by omega), Nat.add_zero]
  · have e2 : k % s + 1 = s := by omega
    have e1 : k + 1 = s * (k / s + 1) := by rw [Nat.mul_add, Nat.mul_one]; omega
    have d : (k + 1) / s = k / s + 1 := by
      have := congrArg (· / s) e1
      simp only [Nat.mul_div_cancel_left _ hs] at this
      exact this
    have m : (k + 1) % s = 0 := by
      have := congrArg (· % s) e1
      simp only [Nat.mul_mod_right] at this
      exact this
    rw [d, if_pos m]
theorem div_mono {a b : Nat} (s : Nat) (h : a ≤ b) : a / s ≤ b / s := Nat.div_le_div_right h
theorem ag_cnt (b s m t : Nat) (hs : 0 < s) (hm : m ≤ 2 ^ b - 1) : ∀ n, ag (.cnt b s) m t n = min (m + ((t + n) / s - t / s)) (2 ^ b - 1)
  | 0 => by
    show m = _
    rw [Nat.add_zero, Nat.sub_self, Nat.add_zero, Nat.min_eq_left hm]
  | n + 1 => by
    show (if (t + n + 1) % s = 0 then min (ag (.cnt b s) m t n + 1) (2 ^ b - 1) else ag (.cnt b s) m t n) = _
    rw [ag_cnt b s m t hs hm n]
    have e := succ_div (t + n) s hs
    have g := div_mono s (Nat.le_add_right t n)
    rw [show t + (n + 1) = t + n + 1 from rfl, e]
    by_cases h : (t + n + 1) % s = 0
    · rw [if_pos h, if_pos h]; omega
    · rw [if_neg h, if_neg h, Nat.add_zero]
theorem ag_shf (b s m t : Nat) (hs : 0 < s) : ∀ n, ag (.shf b s) m t n = m / 2 ^ ((t + n) / s - t / s)
  | 0 => by
    show m = _
    rw [Nat.add_zero, Nat.sub_self, Nat.pow_zero, Nat.div_one]
  | n + 1 => by
    show (if (t + n + 1) % s = 0 then ag (.shf b s) m t n / 2 else ag (.shf b s) m t n) = _
    rw [ag_shf b s m t hs n]
    have e := succ_div (t + n) s hs
    have g := div_mono s (Nat.le_add_right t n)
    rw [show t + (n + 1) = t + n + 1 from rfl, e]
    by_cases h : (t + n + 1) % s = 0
    · rw [if_pos h, if_pos h, Nat.div_div_eq_div_mul, ← Nat.pow_succ]
      congr 2; omega
    · rw [if_neg h, if_neg h, Nat.add_zero]
/-- where rough stands still -/
theorem ag_rgh_fin (b t : Nat) : ∀ n, ag (.rgh b) (2 ^ b - 1) t n = 2 ^ b - 1
  | 0 => rfl
  | n + 1 => by
    show (if ag (.rgh b) (2 ^ b - 1) t n ≠ 2 ^ b - 1 ∧ _ then _ else _) = _
    rw [ag_rgh_fin b t n, if_neg (fun h => h.1 rfl)]
theorem ag_rgh_still (b m t : Nat) : ∀ n, n < (t / 2 ^ m + 1) * 2 ^ m - t → ag (.rgh b) m t n = m
  | 0, _ => rfl
  | n + 1, h => by
    show (if ag (.rgh b) m t n ≠ 2 ^ b - 1 ∧ (t + n + 1) % 2 ^ ag (.rgh b) m t n = 0 then ag (.rgh b) m t n + 1 else ag (.rgh b) m t n) = _
    rw [ag_rgh_still b m t n (by omega)]
    refine if_neg fun ⟨_, h2⟩ => ?_
    have hp : 0 < 2 ^ m := Nat.two_pow_pos m
    have e := Nat.div_add_mod t (2 ^ m)
    have e2 := Nat.div_add_mod (t + n + 1) (2 ^ m)
    have h3 : t + n + 1 < (t / 2 ^ m + 1) * 2 ^ m := by omega
    have h4 : (t + n + 1) / 2 ^ m < t / 2 ^ m + 1 := (Nat.div_lt_iff_lt_mul hp).mpr h3
    have h5 := div_mono (2 ^ m) (show t ≤ t + n + 1 by omega)
    have h6 : (t + n + 1) / 2 ^ m = t / 2 ^ m := by omega
    rw [h6, h2] at e2
    have h7 : 2 ^ m * (t / 2 ^ m) ≤ t := by omega
    omega
theorem next_gt (m t : Nat) : t < (t / 2 ^ m + 1) * 2 ^ m := by
  have hp : 0 < 2 ^ m := Nat.two_pow_pos m
  have e := Nat.div_add_mod t (2 ^ m)
  have := Nat.mod_lt t hp
  rw [Nat.add_mul, Nat.one_mul, Nat.mul_comm]
  omega
theorem next_le (m t : Nat) : (t / 2 ^ m + 1) * 2 ^ m ≤ t + 2 ^ m := by
  have e := Nat.div_add_mod t (2 ^ m)
  rw [Nat.add_mul, Nat.one_mul, Nat.mul_comm]
  omega
theorem ag_rgh_next (b m t : Nat) (hm : m ≠ 2 ^ b - 1) : ag (.rgh b) m t ((t / 2 ^ m + 1) * 2 ^ m - t) = m + 1 := by
  have g := next_gt m t
  obtain ⟨n, hn⟩ : ∃ n, (t / 2 ^ m + 1) * 2 ^ m - t = n + 1 := ⟨(t / 2 ^ m + 1) * 2 ^ m - t - 1, by omega⟩
  rw [hn]
  show (if ag (.rgh b) m t n ≠ 2 ^ b - 1 ∧ (t + n + 1) % 2 ^ ag (.rgh b) m t n = 0 then ag (.rgh b) m t n + 1 else ag (.rgh b) m t n) = _
  have e3 : (t + n + 1) % 2 ^ m = 0 := by
    rw [show t + n + 1 = (t / 2 ^ m + 1) * 2 ^ m by omega]
    exact Nat.mul_mod_left _ _
  rw [ag_rgh_still b m t n (by omega), if_pos ⟨hm, e3⟩]
theorem tick_le (R : Ru) (m t : Nat) (h : m ≤ R.most) : tick R m t ≤ R.most := by
  cases R with
  | cnt b s =>
    show (if t % s = 0 then min (m + 1) (2 ^ b - 1) else m) ≤ 2 ^ b - 1
    have h' : m ≤ 2 ^ b - 1 := h
    split <;> omega
  | shf b s =>
    show (if t % s = 0 then m / 2 else m) ≤ 2 ^ (b + 1) - 1
    have h' : m ≤ 2 ^ (b + 1) - 1 := h
    split <;> omega
  | rgh b =>
    show (if m ≠ 2 ^ b - 1 ∧ t % 2 ^ m = 0 then m + 1 else m) ≤ 2 ^ b - 1
    have h' : m ≤ 2 ^ b - 1 := h
    split
    · rename_i c
      have := c.1
      omega
    · exact h'
theorem ag_le (R : Ru) (m t : Nat) (h : m ≤ R.most) : ∀ n, ag R m t n ≤ R.most
  | 0 => h
  | n + 1 => tick_le R _ _ (ag_le R m t h n)
/-- the length of a round -/
def Ru.round : Ru → Nat
  | .cnt _ s => s
  | .shf _ s => s
  | .rgh _ => 64
theorem pow_div64 {m : Nat} (h : m ≤ 6) (t k : Nat) : (t + 64 * k) % 2 ^ m = t % 2 ^ m := by
  have : m = 0 ∨ m = 1 ∨ m = 2 ∨ m = 3 ∨ m = 4 ∨ m = 5 ∨ m = 6 := by omega
  rcases this with rfl | rfl | rfl | rfl | rfl | rfl | rfl <;> simp only [Nat.reducePow] <;> omega
theorem tick_round (R : Ru) (hR : R.ok) (m t k : Nat) (h : m ≤ R.most) : tick R m (t + R.round * k) = tick R m t := by
  cases R with
  | cnt b s =>
    show (if (t + s * k) % s = 0 then min (m + 1) (2 ^ b - 1) else m) = if t % s = 0 then min (m + 1) (2 ^ b - 1) else m
    rw [Nat.add_mul_mod_self_left]
  | shf b s =>
    show (if (t + s * k) % s = 0 then m / 2 else m) = if t % s = 0 then m / 2 else m
    rw [Nat.add_mul_mod_self_left]
  | rgh b =>
    show (if m ≠ 2 ^ b - 1 ∧ (t + 64 * k) % 2 ^ m = 0 then m + 1 else m) = if m ≠ 2 ^ b - 1 ∧ t % 2 ^ m = 0 then m + 1 else m
    by_cases e : m = 2 ^ b - 1
    · rw [if_neg (fun h => h.1 e), if_neg (fun h => h.1 e)]
    · have h' : m ≤ 2 ^ b - 1 := h
      obtain ⟨h1, h2⟩ : 1 ≤ b ∧ b ≤ 3 := hR
      have hb : b = 1 ∨ b = 2 ∨ b = 3 := by omega
      have h6 : m ≤ 6 := by
        rcases hb with rfl | rfl | rfl <;> simp only [Nat.reducePow] at h' e <;> omega
      rw [pow_div64 h6]
theorem ag_round (R : Ru) (hR : R.ok) (m t k : Nat) (h : m ≤ R.most) : ∀ n, ag R m (t + R.round * k) n = ag R m t n
  | 0 => rfl
  | n + 1 => by
    show tick R (ag R m (t + R.round * k) n) (t + R.round * k + n + 1) = tick R (ag R m t n) (t + n + 1)
    rw [ag_round R hR m t k h n, show t + R.round * k + n + 1 = (t + n + 1) + R.round * k by omega]
    exact tick_round R hR _ _ k (ag_le R m t h n)
theorem ag_rgh_mono1 (b m t n : Nat) : ag (.rgh b) m t n ≤ ag (.rgh b) m t (n + 1) := by
  show ag (.rgh b) m t n ≤ (if ag (.rgh b) m t n ≠ 2 ^ b - 1 ∧ (t + n + 1) % 2 ^ ag (.rgh b) m t n = 0 then ag (.rgh b) m t n + 1 else ag (.rgh b) m t n)
  split <;> omega
theorem ag_rgh_mono (b m t n : Nat) : ∀ k, ag (.rgh b) m t n ≤ ag (.rgh b) m t (n + k)
  | 0 => Nat.le_refl _
  | k + 1 => Nat.le_trans (ag_rgh_mono b m t n k) (ag_rgh_mono1 b m t (n + k))
theorem rgh_reach (b m t : Nat) : ∀ e, e ≤ 2 ^ b - 1 → e ≤ ag (.rgh b) m t (2 ^ e - 1)
  | 0, _ => Nat.zero_le _
  | e + 1, he => by
    have ih := rgh_reach b m t e (by omega)
    have hp := Nat.two_pow_pos e
    have e2 : 2 ^ (e + 1) - 1 = (2 ^ e - 1) + 2 ^ e := by rw [Nat.pow_succ]; omega
    rw [e2]
    by_cases c : e + 1 ≤ ag (.rgh b) m t (2 ^ e - 1)
    · exact Nat.le_trans c (ag_rgh_mono b m t _ _)
    · have ee : ag (.rgh b) m t (2 ^ e - 1) = e := by omega
      rw [ag_add, ee]
      have nx := next_le e (t + (2 ^ e - 1))
      have gx := next_gt e (t + (2 ^ e - 1))
      have r := ag_rgh_next b e (t + (2 ^ e - 1)) (by omega)
      obtain ⟨k, hk⟩ : ∃ k, 2 ^ e = ((t + (2 ^ e - 1)) / 2 ^ e + 1) * 2 ^ e - (t + (2 ^ e - 1)) + k :=
        ⟨2 ^ e - (((t + (2 ^ e - 1)) / 2 ^ e + 1) * 2 ^ e - (t + (2 ^ e - 1))), by omega⟩
      have mo := ag_rgh_mono b e (t + (2 ^ e - 1)) (((t + (2 ^ e - 1)) / 2 ^ e + 1) * 2 ^ e - (t + (2 ^ e - 1))) k
      rw [r, ← hk] at mo
      exact mo
theorem div_add_ge (t n s : Nat) (hs : 0 < s) : n / s ≤ (t + n) / s - t / s := by
  have h1 := Nat.div_mul_le_self t s
  have h2 := Nat.div_mul_le_self n s
  have : t / s + n / s ≤ (t + n) / s := (Nat.le_div_iff_mul_le hs).mpr (by rw [Nat.add_mul]; omega)
  omega
/-- far behind: the end -/
theorem ag_far (R : Ru) (hR : R.ok) (m t n : Nat) (h : m ≤ R.most) (hn : 1300 ≤ n) : ag R m t n = R.fin := by
  cases R with
  | cnt b s =>
    obtain ⟨h1, h2, h3, h4⟩ : 1 ≤ b ∧ b ≤ 6 ∧ 1 ≤ s ∧ s ≤ 20 := hR
    have h' : m ≤ 2 ^ b - 1 := h
    rw [ag_cnt b s m t h3 h' n]
    show _ = 2 ^ b - 1
    have g := div_add_ge t n s h3
    have : 65 ≤ n / s := (Nat.le_div_iff_mul_le h3).mpr (Nat.le_trans (Nat.mul_le_mul_left 65 h4) hn)
    have : 2 ^ b ≤ 2 ^ 6 := Nat.pow_le_pow_right (by decide) h2
    omega
  | shf b s =>
    obtain ⟨h1, h2, h3, h4⟩ : 1 ≤ b ∧ b ≤ 10 ∧ 1 ≤ s ∧ s ≤ 20 := hR
    have h' : m ≤ 2 ^ (b + 1) - 1 := h
    rw [ag_shf b s m t h3 n]
    show _ = 0
    have g := div_add_ge t n s h3
    have : 65 ≤ n / s := (Nat.le_div_iff_mul_le h3).mpr (Nat.le_trans (Nat.mul_le_mul_left 65 h4) hn)
    have : 2 ^ (b + 1) ≤ 2 ^ ((t + n) / s - t / s) := Nat.pow_le_pow_right (by decide) (by omega)
    have := Nat.two_pow_pos (b + 1)
    exact Nat.div_eq_of_lt (by omega)
  | rgh b =>
    obtain ⟨h1, h2⟩ : 1 ≤ b ∧ b ≤ 3 := hR
    have le := ag_le (.rgh b) m t h n
    have r := rgh_reach b m t (2 ^ b - 1) (Nat.le_refl _)
    have hb : b = 1 ∨ b = 2 ∨ b = 3 := by omega
    have h7 : 2 ^ (2 ^ b - 1) - 1 ≤ 127 := by rcases hb with rfl | rfl | rfl <;> decide
    obtain ⟨k, hk⟩ : ∃ k, n = 2 ^ (2 ^ b - 1) - 1 + k := ⟨n - (2 ^ (2 ^ b - 1) - 1), by omega⟩
    have mo := ag_rgh_mono b m t (2 ^ (2 ^ b - 1) - 1) k
    rw [← hk] at mo
    show _ = 2 ^ b - 1
    have le' : ag (.rgh b) m t n ≤ 2 ^ b - 1 := le
    omega
end LS
namespace LS
def Ru.isShf : Ru → Bool
  | .shf _ _ => true
  | _ => false
def Ru.isRgh : Ru → Bool
  | .rgh _ => true
  | _ => false
/-- what the mark of a thing that was seen so many moments ago comes to -/
def one (R : Ru) (now a : Nat) : Nat := ag R R.top (now - a) a
/-- it may have such a mark -/
def poss (R : Ru) (now mark a : Nat) : Bool :=
  if R.isShf && decide (0 < one R now a) then decide (one R now a ≤ mark) && decide (mark < 2 * one R now a) else decide (one R now a = mark)
def IsSpan (R : Ru) (now mark : Nat) (x y : Option Nat) : Prop :=
  (x = none ∧ y = none ∧ ∀ a, a ≤ now → poss R now mark a = false) ∨
  (∃ lo, x = some lo ∧ lo ≤ now ∧ poss R now mark lo = true ∧ (∀ a, a ≤ now → poss R now mark a = true → lo ≤ a) ∧
    ((mark = R.fin ∧ y = none) ∨ (mark ≠ R.fin ∧ ∃ hi, y = some hi ∧ hi ≤ now ∧ poss R now mark hi = true ∧ ∀ a, a ≤ now → poss R now mark a = true → a ≤ hi)))
theorem IsSpan.uniq {R : Ru} {now mark : Nat} {x y x' y' : Option Nat} (h : IsSpan R now mark x y) (h' : IsSpan R now mark x' y') : x = x' ∧ y = y' := by
  rcases h with ⟨rfl, rfl, h⟩ | ⟨lo, rfl, h1, h2, h3, h4⟩
  · rcases h' with ⟨rfl, rfl, _⟩ | ⟨lo', rfl, k1, k2, _⟩
    · exact ⟨rfl, rfl⟩
    · rw [h lo' k1] at k2
      cases k2
  · rcases h' with ⟨rfl, rfl, h'⟩ | ⟨lo', rfl, k1, k2, k3, k4⟩
    · rw [h' lo h1] at h2
      cases h2
    · have e : lo = lo' := Nat.le_antisymm (h3 _ k1 k2) (k3 _ h1 h2)
      refine ⟨by rw [e], ?_⟩
      rcases h4 with ⟨e1, rfl⟩ | ⟨e1, hi, rfl, a1, a2, a3⟩
      · rcases k4 with ⟨_, rfl⟩ | ⟨n1, _⟩
        · rfl
        · exact absurd e1 n1
      · rcases k4 with ⟨n1, rfl⟩ | ⟨_, hi', rfl, b1, b2, b3⟩
        · exact absurd n1 e1
        · rw [Nat.le_antisymm (b3 _ a1 a2) (a3 _ b1 b2)]
/-! ### the lists that are found -/
def fl (R : Ru) (now mark n : Nat) : List Nat := (List.range n).filter (poss R now mark)
theorem fl_succ (R : Ru) (now mark n : Nat) : fl R now mark (n + 1) = if poss R now mark n = true then fl R now mark n ++ [n] else fl R now mark n := by
  unfold fl
  rw [List.range_succ, List.filter_append]
  by_cases h : poss R now mark n = true
  · rw [if_pos h, List.filter_cons_of_pos h]
    rfl
  · rw [if_neg h, List.filter_cons_of_neg h, List.filter_nil, List.append_nil]
theorem mem_fl {R : Ru} {now mark n a : Nat} : a ∈ fl R now mark n ↔ a < n ∧ poss R now mark a = true := by
  unfold fl
  rw [List.mem_filter, List.mem_range]
theorem fl_len (R : Ru) (now mark n : Nat) : (fl R now mark n).length ≤ n := by
  unfold fl
  exact Nat.le_trans (List.length_filter_le _ _) (by rw [List.length_range]; exact Nat.le_refl n)
/-- the tried ones do -/
def Cov (R : Ru) (now mark cnt : Nat) : Prop := cnt ≤ now + 1 ∧ ∀ a, cnt ≤ a → a ≤ now → poss R now mark a = true → mark = R.fin ∧ ∃ a', a' < cnt ∧ poss R now mark a' = true
theorem span_nil {R : Ru} {now mark cnt : Nat} (c : Cov R now mark cnt) (h : fl R now mark cnt = []) : IsSpan R now mark none none := by
  have no : ∀ a, a < cnt → poss R now mark a = false := fun a ha => by
    cases e : poss R now mark a with
    | false => rfl
    | true =>
      have : a ∈ fl R now mark cnt := mem_fl.mpr ⟨ha, e⟩
      rw [h] at this
      cases this
  refine .inl ⟨rfl, rfl, fun a ha => ?_⟩
  by_cases hc : a < cnt
  · exact no a hc
  · cases e : poss R now mark a with
    | false => rfl
    | true =>
      obtain ⟨_, a', l, p⟩ := c.2 a (by omega) ha e
      rw [no a' l] at p
      cases p
theorem span_some {R : Ru} {now mark cnt lo : Nat} {y : Option Nat} (c : Cov R now mark cnt) (h1 : lo ∈ fl R now mark cnt) (h2 : ∀ a, a ∈ fl R now mark cnt → lo ≤ a)
    (h3 : (mark = R.fin ∧ y = none) ∨ (mark ≠ R.fin ∧ ∃ hi, y = some hi ∧ hi ∈ fl R now mark cnt ∧ ∀ a, a ∈ fl R now mark cnt → a ≤ hi)) : IsSpan R now mark (some lo) y := by
  obtain ⟨l1, l2⟩ := mem_fl.mp h1
  have c1 := c.1
  refine .inr ⟨lo, rfl, by omega, l2, fun a ha hp => ?_, ?_⟩
  · by_cases hc : a < cnt
    · exact h2 a (mem_fl.mpr ⟨hc, hp⟩)
    · omega
  · rcases h3 with h3 | ⟨n1, hi, rfl, m1, m2⟩
    · exact .inl h3
    · obtain ⟨q1, q2⟩ := mem_fl.mp m1
      refine .inr ⟨n1, hi, rfl, by omega, q2, fun a ha hp => ?_⟩
      by_cases hc : a < cnt
      · exact m2 a (mem_fl.mpr ⟨hc, hp⟩)
      · exact absurd (c.2 a (by omega) ha hp).1 n1
theorem fl_pair (R : Ru) (now mark n : Nat) : (fl R now mark n).Pairwise (· < ·) := List.Pairwise.filter _ List.pairwise_lt_range
theorem fl_head {R : Ru} {now mark n lo : Nat} {r : List Nat} (e : fl R now mark n = lo :: r) : lo ∈ fl R now mark n ∧ ∀ a, a ∈ fl R now mark n → lo ≤ a := by
  have p := fl_pair R now mark n
  rw [e] at p ⊢
  refine ⟨List.mem_cons_self, fun a ha => ?_⟩
  rcases List.mem_cons.mp ha with rfl | ha
  · exact Nat.le_refl _
  · exact Nat.le_of_lt ((List.pairwise_cons.mp p).1 a ha)
theorem fl_last {R : Ru} {now mark n hi : Nat} {r : List Nat} (e : fl R now mark n = r ++ [hi]) : hi ∈ fl R now mark n ∧ ∀ a, a ∈ fl R now mark n → a ≤ hi := by
  have p := fl_pair R now mark n
  rw [e] at p ⊢
  refine ⟨List.mem_append_right _ List.mem_cons_self, fun a ha => ?_⟩
  rcases List.mem_append.mp ha with ha | ha
  · exact Nat.le_of_lt ((List.pairwise_append.mp p).2.2 a ha hi List.mem_cons_self)
  · rcases List.mem_cons.mp ha with rfl | ha
    · exact Nat.le_refl _
    · cases ha
/-! ### rough: later is less -/
theorem tick_rgh_mono (b t : Nat) {m m' : Nat} (h : m ≤ m') : tick (.rgh b) m t ≤ tick (.rgh b) m' t := by
  by_cases e : m = m'
  · rw [e]; exact Nat.le_refl _
  · have h1 : tick (.rgh b) m t ≤ m + 1 := by
      show (if m ≠ 2 ^ b - 1 ∧ t % 2 ^ m = 0 then m + 1 else m) ≤ m + 1
      split <;> omega
    have h2 : m' ≤ tick (.rgh b) m' t := by
      show m' ≤ (if m' ≠ 2 ^ b - 1 ∧ t % 2 ^ m' = 0 then m' + 1 else m')
      split <;> omega
    omega
theorem ag_rgh_mark (b t : Nat) {m m' : Nat} (h : m ≤ m') : ∀ n, ag (.rgh b) m t n ≤ ag (.rgh b) m' t n
  | 0 => h
  | n + 1 => tick_rgh_mono b _ (ag_rgh_mark b t h n)
theorem one_rgh_step (b now a : Nat) (h : a + 1 ≤ now) : one (.rgh b) now a ≤ one (.rgh b) now (a + 1) := by
  show ag (.rgh b) 0 (now - a) a ≤ ag (.rgh b) 0 (now - (a + 1)) (a + 1)
  rw [Nat.add_comm a 1, ag_add]
  rw [show now - (1 + a) + 1 = now - a by omega]
  exact ag_rgh_mark b _ (Nat.zero_le _) a
theorem one_rgh_mono (b now a : Nat) : ∀ k, a + k ≤ now → one (.rgh b) now a ≤ one (.rgh b) now (a + k)
  | 0, _ => Nat.le_refl _
  | k + 1, h => Nat.le_trans (one_rgh_mono b now a k (by omega)) (one_rgh_step b now (a + k) (by omega))
theorem one_le (R : Ru) (now a : Nat) (h : R.top ≤ R.most) : one R now a ≤ R.most := ag_le R _ _ h a
theorem top_le (R : Ru) : R.top ≤ R.most := by
  cases R with
  | cnt b s => exact Nat.zero_le _
  | rgh b => exact Nat.zero_le _
  | shf b s =>
    show 2 ^ b ≤ 2 ^ (b + 1) - 1
    have := Nat.two_pow_pos b
    rw [Nat.pow_succ]
    omega
/-- the end is kept -/
theorem one_rgh_fin {b now a a' : Nat} (h : one (.rgh b) now a = 2 ^ b - 1) (h1 : a ≤ a') (h2 : a' ≤ now) : one (.rgh b) now a' = 2 ^ b - 1 := by
  obtain ⟨k, rfl⟩ : ∃ k, a' = a + k := ⟨a' - a, by omega⟩
  have m := one_rgh_mono b now a k h2
  have l : one (.rgh b) now (a + k) ≤ 2 ^ b - 1 := one_le (.rgh b) now (a + k) (top_le _)
  omega
theorem one_rgh_far {b now a : Nat} (hb : b ≤ 3) (ha : 127 ≤ a) : one (.rgh b) now a = 2 ^ b - 1 := by
  have p3 : 2 ^ b ≤ 2 ^ 3 := Nat.pow_le_pow_right (by decide) hb
  have h7 : 2 ^ (2 ^ b - 1) ≤ 2 ^ 7 := Nat.pow_le_pow_right (by decide) (by omega)
  have r := rgh_reach b 0 (now - a) (2 ^ b - 1) (Nat.le_refl _)
  obtain ⟨k, hk⟩ : ∃ k, a = (2 ^ (2 ^ b - 1) - 1) + k := ⟨a - (2 ^ (2 ^ b - 1) - 1), by omega⟩
  have mo := ag_rgh_mono b 0 (now - a) (2 ^ (2 ^ b - 1) - 1) k
  rw [← hk] at mo
  have l : one (.rgh b) now a ≤ 2 ^ b - 1 := one_le (.rgh b) now a (top_le _)
  have l2 : 2 ^ b - 1 ≤ one (.rgh b) now a := Nat.le_trans r mo
  omega
theorem poss_rgh (b now mark a : Nat) : poss (.rgh b) now mark a = decide (one (.rgh b) now a = mark) := rfl
theorem poss_cnt (b s now mark a : Nat) : poss (.cnt b s) now mark a = decide (one (.cnt b s) now a = mark) := rfl
theorem cov_end (R : Ru) (now mark : Nat) : Cov R now mark (now + 1) := ⟨Nat.le_refl _, fun a h1 h2 _ => by omega⟩
theorem cov_rgh {b now mark c : Nat} (h : one (.rgh b) now c = 2 ^ b - 1) (hc : c ≤ now) : Cov (.rgh b) now mark (c + 1) := by
  refine ⟨by omega, fun a h1 h2 h3 => ?_⟩
  have e := one_rgh_fin h (show c ≤ a by omega) h2
  rw [poss_rgh, e] at h3
  have e2 : 2 ^ b - 1 = mark := of_decide_eq_true h3
  exact ⟨e2.symm, c, by omega, by rw [poss_rgh, h, decide_eq_true e2]⟩
/-! ### count and shift: by how often a thing was aged -/
def bl (n : Nat) : Nat := if n = 0 then 0 else n.log2 + 1
theorem bl_pos {n : Nat} (h : n ≠ 0) : 2 ^ (bl n - 1) ≤ n ∧ n < 2 ^ bl n ∧ 1 ≤ bl n := by
  unfold bl
  rw [if_neg h]
  exact ⟨Nat.log2_self_le h, Nat.lt_log2_self, by omega⟩
theorem pow_uniq {i j n : Nat} (h1 : 2 ^ i ≤ n) (h2 : n < 2 ^ (i + 1)) (h3 : 2 ^ j ≤ n) (h4 : n < 2 ^ (j + 1)) : i = j := by
  have a : i < j + 1 := (Nat.pow_lt_pow_iff_right (by decide : 1 < 2)).mp (Nat.lt_of_le_of_lt h1 h4)
  have b : j < i + 1 := (Nat.pow_lt_pow_iff_right (by decide : 1 < 2)).mp (Nat.lt_of_le_of_lt h3 h2)
  omega
theorem bl_le {n b : Nat} (h : n < 2 ^ b) : bl n ≤ b := by
  by_cases e : n = 0
  · unfold bl; rw [if_pos e]; exact Nat.zero_le _
  · obtain ⟨h1, h2, h3⟩ := bl_pos e
    have : bl n - 1 < b := (Nat.pow_lt_pow_iff_right (by decide : 1 < 2)).mp (Nat.lt_of_le_of_lt h1 h)
    omega
/-- how often it was aged, for the end at the least -/
def Ru.ags : Ru → Nat → Nat
  | .cnt _ _, m => m
  | .shf b _, m => b + 1 - bl m
  | .rgh _, _ => 0
def Ru.step : Ru → Nat
  | .cnt _ s => s
  | .shf _ s => s
  | .rgh _ => 1
def dd (s now a : Nat) : Nat := now / s - (now - a) / s
theorem one_cnt (b s now a : Nat) (hs : 0 < s) (h : a ≤ now) : one (.cnt b s) now a = min (dd s now a) (2 ^ b - 1) := by
  show ag (.cnt b s) 0 (now - a) a = _
  rw [ag_cnt b s 0 (now - a) hs (Nat.zero_le _) a, Nat.zero_add, show now - a + a = now by omega]
  rfl
theorem one_shf (b s now a : Nat) (hs : 0 < s) (h : a ≤ now) : one (.shf b s) now a = 2 ^ b / 2 ^ dd s now a := by
  show ag (.shf b s) (2 ^ b) (now - a) a = _
  rw [ag_shf b s (2 ^ b) (now - a) hs a, show now - a + a = now by omega]
  rfl
theorem two_div {b d : Nat} (h : d ≤ b) : 2 ^ b / 2 ^ d = 2 ^ (b - d) := Nat.pow_div h (by decide)
theorem two_div0 {b d : Nat} (h : b < d) : 2 ^ b / 2 ^ d = 0 := Nat.div_eq_of_lt (Nat.pow_lt_pow_right (by decide) h)
theorem poss_stp {R : Ru} (hR : R.isRgh = false) (hs : 0 < R.step) {now mark a : Nat} (hm : mark ≤ R.most) (h : a ≤ now) : poss R now mark a = true ↔ (if mark = R.fin then R.ags mark ≤ dd R.step now a else dd R.step now a = R.ags mark) := by
  cases R with
  | rgh b => cases hR
  | cnt b s =>
    have hm' : mark ≤ 2 ^ b - 1 := hm
    rw [poss_cnt, one_cnt b s now a hs h, decide_eq_true_iff]
    show _ ↔ (if mark = 2 ^ b - 1 then mark ≤ dd s now a else dd s now a = mark)
    split <;> omega
  | shf b s =>
    have hm' : mark ≤ 2 ^ (b + 1) - 1 := hm
    have pb := Nat.two_pow_pos (b + 1)
    show (if (true && decide (0 < one (.shf b s) now a)) = true then decide (one (.shf b s) now a ≤ mark) && decide (mark < 2 * one (.shf b s) now a) else decide (one (.shf b s) now a = mark)) = true ↔ (if mark = 0 then b + 1 - bl mark ≤ dd s now a else dd s now a = b + 1 - bl mark)
    rw [one_shf b s now a hs h, Bool.true_and]
    by_cases hd : dd s now a ≤ b
    · rw [two_div hd]
      have p := Nat.two_pow_pos (b - dd s now a)
      rw [decide_eq_true p, if_pos rfl, Bool.and_eq_true, decide_eq_true_iff, decide_eq_true_iff, Nat.mul_comm, ← Nat.pow_succ]
      by_cases e : mark = 0
      · rw [if_pos e, e, show bl 0 = 0 from rfl]
        omega
      · rw [if_neg e]
        obtain ⟨h1, h2, h3⟩ := bl_pos e
        have h4 : bl mark ≤ b + 1 := bl_le (by omega)
        constructor
        · rintro ⟨q1, q2⟩
          have := pow_uniq q1 q2 h1 (by rw [show bl mark - 1 + 1 = bl mark by omega]; exact h2)
          omega
        · intro q
          have : b - dd s now a = bl mark - 1 := by omega
          rw [this, show (bl mark - 1).succ = bl mark by omega]
          exact ⟨h1, h2⟩
    · rw [two_div0 (by omega), if_neg (by decide)]
      rw [decide_eq_true_iff]
      by_cases e : mark = 0
      · rw [if_pos e, e]
        constructor
        · intro _
          rw [show bl 0 = 0 from rfl]
          omega
        · intro _
          rfl
      · rw [if_neg e]
        obtain ⟨h1, h2, h3⟩ := bl_pos e
        constructor
        · intro q
          exact absurd q.symm e
        · intro q
          omega
theorem span_stp_none {R : Ru} (hR : R.isRgh = false) (hs : 0 < R.step) {now mark : Nat} (hm : mark ≤ R.most) (h : now / R.step < R.ags mark) : IsSpan R now mark none none := by
  refine .inl ⟨rfl, rfl, fun a ha => ?_⟩
  cases e : poss R now mark a with
  | false => rfl
  | true =>
    have p := (poss_stp hR hs hm ha).mp e
    have : dd R.step now a ≤ now / R.step := Nat.sub_le _ _
    split at p <;> omega
theorem span_stp_some {R : Ru} (hR : R.isRgh = false) (hs : 0 < R.step) {now mark run first latest : Nat} (hm : mark ≤ R.most) (h : now / R.step = R.ags mark + run) (hf : first = run * R.step) (hl : latest = min now (first + R.step - 1)) :
    IsSpan R now mark (some (now - latest)) (if mark = R.fin then none else some (now - first)) ∧ first ≤ now := by
  have f1 : first ≤ now := by
    rw [hf]
    have := Nat.div_mul_le_self now R.step
    exact Nat.le_trans (Nat.mul_le_mul_right _ (by omega)) this
  have l1 : first ≤ latest := by omega
  have l2 : latest ≤ first + R.step - 1 := by omega
  have l3 : latest ≤ now := by omega
  have dl : latest / R.step = run := by
    refine Nat.div_eq_of_lt_le (by rw [← hf]; exact l1) ?_
    rw [Nat.add_mul, Nat.one_mul, ← hf]
    omega
  have df : first / R.step = run := by rw [hf]; exact Nat.mul_div_cancel _ hs
  refine ⟨.inr ⟨now - latest, rfl, by omega, ?_, fun a ha hp => ?_, ?_⟩, f1⟩
  · refine (poss_stp hR hs hm (by omega)).mpr ?_
    have : dd R.step now (now - latest) = R.ags mark := by
      unfold dd
      rw [show now - (now - latest) = latest by omega, dl]
      omega
    rw [this]
    split
    · exact Nat.le_refl _
    · rfl
  · have p := (poss_stp hR hs hm ha).mp hp
    have q : R.ags mark ≤ dd R.step now a := by split at p <;> omega
    have dm := div_mono R.step (show now - a ≤ now by omega)
    have q2 : (now - a) / R.step ≤ run := by
      unfold dd at q
      omega
    have q3 : now - a < (run + 1) * R.step := (Nat.div_lt_iff_lt_mul hs).mp (by omega)
    rw [Nat.add_mul, Nat.one_mul, ← hf] at q3
    omega
  · by_cases e : mark = R.fin
    · exact .inl ⟨e, if_pos e⟩
    · refine .inr ⟨e, now - first, if_neg e, by omega, ?_, fun a ha hp => ?_⟩
      · refine (poss_stp hR hs hm (by omega)).mpr ?_
        rw [if_neg e]
        unfold dd
        rw [show now - (now - first) = first by omega, df]
        omega
      · have p := (poss_stp hR hs hm ha).mp hp
        rw [if_neg e] at p
        have dm := div_mono R.step (show now - a ≤ now by omega)
        have q2 : (now - a) / R.step = run := by
          unfold dd at p
          omega
        have := Nat.div_mul_le_self (now - a) R.step
        rw [q2, ← hf] at this
        omega
/-- as far back as the law tries -/
def Ru.far : Ru → Nat
  | .cnt b s => s * (2 + max b (2 ^ b - 1))
  | .shf b s => s * (2 + max b 0)
  | .rgh _ => 140
theorem cov_far {R : Ru} (hR : R.ok) {now mark : Nat} (hm : mark ≤ R.most) : Cov R now mark (min now R.far + 1) := by
  by_cases hn : now ≤ R.far
  · rw [Nat.min_eq_left hn]
    exact cov_end R now mark
  · rw [Nat.min_eq_right (by omega)]
    cases R with
    | rgh b => exact cov_rgh (one_rgh_far hR.2 (show 127 ≤ 140 by decide)) (by omega)
    | cnt b s =>
      obtain ⟨h1, h2, h3, h4⟩ : 1 ≤ b ∧ b ≤ 6 ∧ 1 ≤ s ∧ s ≤ 20 := hR
      have hn' : s * (2 + max b (2 ^ b - 1)) ≤ now := by
        have : ¬ now ≤ s * (2 + max b (2 ^ b - 1)) := hn
        omega
      have big : ∀ a, s * (2 + max b (2 ^ b - 1)) ≤ a → a ≤ now → one (.cnt b s) now a = 2 ^ b - 1 := fun a l1 l2 => by
        rw [one_cnt b s now a h3 l2]
        have g := div_add_ge (now - a) a s h3
        rw [show now - a + a = now by omega] at g
        have : 2 + max b (2 ^ b - 1) ≤ a / s := (Nat.le_div_iff_mul_le h3).mpr (by rw [Nat.mul_comm]; exact l1)
        unfold dd
        omega
      refine ⟨Nat.succ_le_succ hn', fun a l1 l2 l3 => ?_⟩
      have e := big a (Nat.le_of_lt l1) l2
      rw [poss_cnt, e] at l3
      have e2 : 2 ^ b - 1 = mark := of_decide_eq_true l3
      exact ⟨e2.symm, s * (2 + max b (2 ^ b - 1)), Nat.lt_succ_self _, by rw [poss_cnt, big _ (Nat.le_refl _) hn', decide_eq_true e2]⟩
    | shf b s =>
      obtain ⟨h1, h2, h3, h4⟩ : 1 ≤ b ∧ b ≤ 10 ∧ 1 ≤ s ∧ s ≤ 20 := hR
      have hn' : s * (2 + max b 0) ≤ now := by
        have : ¬ now ≤ s * (2 + max b 0) := hn
        omega
      have big : ∀ a, s * (2 + max b 0) ≤ a → a ≤ now → one (.shf b s) now a = 0 := fun a l1 l2 => by
        rw [one_shf b s now a h3 l2]
        have g := div_add_ge (now - a) a s h3
        rw [show now - a + a = now by omega] at g
        have : 2 + max b 0 ≤ a / s := (Nat.le_div_iff_mul_le h3).mpr (by rw [Nat.mul_comm]; exact l1)
        refine two_div0 ?_
        unfold dd
        omega
      have ps : ∀ a, one (.shf b s) now a = 0 → poss (.shf b s) now mark a = decide (0 = mark) := fun a e => by
        unfold poss
        rw [e]
        rfl
      refine ⟨Nat.succ_le_succ hn', fun a l1 l2 l3 => ?_⟩
      have e := big a (Nat.le_of_lt l1) l2
      rw [ps a e] at l3
      have e2 : 0 = mark := of_decide_eq_true l3
      exact ⟨e2.symm, s * (2 + max b 0), Nat.lt_succ_self _, by rw [ps _ (big _ (Nat.le_refl _) hn'), decide_eq_true e2]⟩
theorem far_le {R : Ru} (hR : R.ok) : R.far ≤ 1300 := by
  cases R with
  | rgh b => exact (by decide : 140 ≤ 1300)
  | cnt b s =>
    obtain ⟨h1, h2, h3, h4⟩ : 1 ≤ b ∧ b ≤ 6 ∧ 1 ≤ s ∧ s ≤ 20 := hR
    have : 2 ^ b ≤ 2 ^ 6 := Nat.pow_le_pow_right (by decide) h2
    exact Nat.mul_le_mul h4 (show 2 + max b (2 ^ b - 1) ≤ 65 by omega)
  | shf b s =>
    obtain ⟨h1, h2, h3, h4⟩ : 1 ≤ b ∧ b ≤ 10 ∧ 1 ≤ s ∧ s ≤ 20 := hR
    exact Nat.mul_le_mul h4 (show 2 + max b 0 ≤ 65 by omega)
end LS
namespace LS
/-- a turn of rough -/
def tT (b : Nat) : Nat := 2 ^ (2 ^ b - 2)
theorem two_T {b : Nat} (hb : 1 ≤ b) : 2 ^ (2 ^ b - 1) = 2 * tT b := by
  have : 2 ^ 1 ≤ 2 ^ b := Nat.pow_le_pow_right (by decide) hb
  unfold tT
  rw [show 2 ^ b - 1 = (2 ^ b - 2) + 1 by omega, Nat.pow_succ, Nat.mul_comm]
theorem T_pos (b : Nat) : 1 ≤ tT b := Nat.two_pow_pos _
theorem T_le {b : Nat} (hb : b ≤ 3) : tT b ≤ 64 := by
  have : 2 ^ b ≤ 2 ^ 3 := Nat.pow_le_pow_right (by decide) hb
  have : tT b ≤ 2 ^ 6 := Nat.pow_le_pow_right (by decide) (by omega)
  exact this
theorem tick_T (b m t k : Nat) (h : m ≤ 2 ^ b - 1) : tick (.rgh b) m (t + tT b * k) = tick (.rgh b) m t := by
  show (if m ≠ 2 ^ b - 1 ∧ (t + tT b * k) % 2 ^ m = 0 then m + 1 else m) = if m ≠ 2 ^ b - 1 ∧ t % 2 ^ m = 0 then m + 1 else m
  by_cases e : m = 2 ^ b - 1
  · rw [if_neg (fun h => h.1 e), if_neg (fun h => h.1 e)]
  · have ed : tT b = 2 ^ m * 2 ^ (2 ^ b - 2 - m) := by
      unfold tT
      rw [← Nat.pow_add]
      congr 1
      omega
    rw [ed, Nat.mul_assoc, Nat.add_mul_mod_self_left]
theorem ag_T (b m t k : Nat) (h : m ≤ 2 ^ b - 1) : ∀ n, ag (.rgh b) m (t + tT b * k) n = ag (.rgh b) m t n
  | 0 => rfl
  | n + 1 => by
    show tick (.rgh b) (ag (.rgh b) m (t + tT b * k) n) (t + tT b * k + n + 1) = tick (.rgh b) (ag (.rgh b) m t n) (t + n + 1)
    rw [ag_T b m t k h n, show t + tT b * k + n + 1 = (t + n + 1) + tT b * k by omega]
    exact tick_T b _ _ k (ag_le (.rgh b) m t h n)
theorem one_T (b now k a : Nat) (h : a ≤ now) : one (.rgh b) (now + tT b * k) a = one (.rgh b) now a := by
  show ag (.rgh b) 0 (now + tT b * k - a) a = ag (.rgh b) 0 (now - a) a
  rw [show now + tT b * k - a = (now - a) + tT b * k by omega]
  exact ag_T b 0 (now - a) k (Nat.zero_le _) a
/-- a moment of the third turn that stands for another one -/
def rep (b now : Nat) : Nat := 2 * tT b + now % tT b
theorem rep_in (b now : Nat) : 2 * tT b ≤ rep b now ∧ rep b now < 3 * tT b := by
  have := Nat.mod_lt now (T_pos b)
  unfold rep
  omega
theorem rep_same (b now a : Nat) (h : a ≤ now) (h2 : a ≤ rep b now) : one (.rgh b) (rep b now) a = one (.rgh b) now a := by
  have e := Nat.div_add_mod now (tT b)
  by_cases c : now / tT b ≤ 2
  · obtain ⟨k, hk⟩ : ∃ k, 2 = now / tT b + k := ⟨2 - now / tT b, by omega⟩
    have : rep b now = now + tT b * k := by
      unfold rep
      have : 2 * tT b = tT b * (now / tT b) + tT b * k := by rw [← Nat.mul_add, ← hk, Nat.mul_comm]
      omega
    rw [this]
    exact one_T b now k a h
  · obtain ⟨k, hk⟩ : ∃ k, now / tT b = 2 + k := ⟨now / tT b - 2, by omega⟩
    have : now = rep b now + tT b * k := by
      unfold rep
      have : tT b * (now / tT b) = 2 * tT b + tT b * k := by rw [hk, Nat.mul_add, Nat.mul_comm]
      omega
    have q := one_T b (rep b now) k a h2
    rw [← this] at q
    exact q.symm
theorem one_far2 {b now a : Nat} (hb : 1 ≤ b) (ha : 2 * tT b - 1 ≤ a) : one (.rgh b) now a = 2 ^ b - 1 := by
  have r := rgh_reach b 0 (now - a) (2 ^ b - 1) (Nat.le_refl _)
  rw [two_T hb] at r
  obtain ⟨k, hk⟩ : ∃ k, a = (2 * tT b - 1) + k := ⟨a - (2 * tT b - 1), by omega⟩
  have mo := ag_rgh_mono b 0 (now - a) (2 * tT b - 1) k
  rw [← hk] at mo
  have l : one (.rgh b) now a ≤ 2 ^ b - 1 := one_le (.rgh b) now a (top_le _)
  have l2 : 2 ^ b - 1 ≤ one (.rgh b) now a := Nat.le_trans r mo
  omega
theorem exists_span (R : Ru) (now m : Nat) : ∃ x y, IsSpan R now m x y := by
  have c := cov_end R now m
  cases ef : fl R now m (now + 1) with
  | nil => exact ⟨none, none, span_nil c ef⟩
  | cons lo r =>
    obtain ⟨f1, f2⟩ := fl_head ef
    by_cases e : m = R.fin
    · exact ⟨some lo, none, span_some c f1 f2 (.inl ⟨e, rfl⟩)⟩
    · have hl : lo :: r = (lo :: r).dropLast ++ [(lo :: r).getLast (List.cons_ne_nil _ _)] := (List.dropLast_concat_getLast _).symm
      have g := fl_last (ef.trans hl)
      exact ⟨some lo, some _, span_some c f1 f2 (.inr ⟨e, _, rfl, g.1, g.2⟩)⟩
theorem IsSpan.lo_le {R : Ru} {now m a : Nat} {x y : Option Nat} (h : IsSpan R now m x y) (ha : a ≤ now) (hp : poss R now m a = true) : ∃ lo, x = some lo ∧ lo ≤ a ∧ lo ≤ now ∧ poss R now m lo = true := by
  rcases h with ⟨_, _, h⟩ | ⟨lo, rfl, h1, h2, h3, _⟩
  · rw [h a ha] at hp
    cases hp
  · exact ⟨lo, rfl, h3 a ha hp, h1, h2⟩
theorem IsSpan.hi_ge {R : Ru} {now m a : Nat} {x y : Option Nat} (h : IsSpan R now m x y) (ha : a ≤ now) (hp : poss R now m a = true) (hm : m ≠ R.fin) : ∃ hi, y = some hi ∧ a ≤ hi ∧ hi ≤ now ∧ poss R now m hi = true := by
  rcases h with ⟨_, _, h⟩ | ⟨lo, rfl, h1, h2, h3, h4⟩
  · rw [h a ha] at hp
    cases hp
  · rcases h4 with ⟨e, _⟩ | ⟨_, hi, rfl, k1, k2, k3⟩
    · exact absurd e hm
    · exact ⟨hi, rfl, k3 a ha hp, k1, k2⟩
theorem IsSpan.hi_none {R : Ru} {now m : Nat} {x y : Option Nat} (h : IsSpan R now m x y) (hm : m = R.fin) : y = none := by
  rcases h with ⟨_, e, _⟩ | ⟨lo, rfl, h1, h2, h3, h4⟩
  · exact e
  · rcases h4 with ⟨_, e⟩ | ⟨n, _⟩
    · exact e
    · exact absurd hm n
theorem IsSpan.both {R : Ru} {now m lo hi : Nat} (h : IsSpan R now m (some lo) (some hi)) : lo ≤ now ∧ hi ≤ now ∧ poss R now m lo = true ∧ poss R now m hi = true ∧ lo ≤ hi ∧ m ≠ R.fin := by
  rcases h with ⟨e, _⟩ | ⟨lo', e, h1, h2, h3, h4⟩
  · cases e
  · cases e
    rcases h4 with ⟨_, e⟩ | ⟨n, hi', e, k1, k2, k3⟩
    · cases e
    · cases e
      exact ⟨h1, k1, h2, k2, h3 _ k1 k2, n⟩
def wset (b d : Nat) : Prop := ∃ now m lo hi, 2 * tT b ≤ now ∧ now < 3 * tT b ∧ m < 2 ^ b - 1 ∧ IsSpan (.rgh b) now m (some lo) (some hi) ∧ d = hi - lo
def OffR (b v : Nat) : Prop := (∀ d, wset b d → d ≤ v) ∧ (v = 0 ∨ wset b v)
def lset (b l : Nat) : Prop := ∃ now, 2 * tT b ≤ now ∧ now < 3 * tT b ∧ IsSpan (.rgh b) now (2 ^ b - 1) (some l) none
def ReachR (b v : Nat) : Prop := (∀ l, lset b l → v + 1 ≤ l) ∧ lset b (v + 1)
def IsOff (R : Ru) (v : Nat) : Prop := (R.isRgh = true ∧ OffR R.bits v) ∨ (R.isRgh = false ∧ v = R.step - 1)
def IsReach (R : Ru) (v : Nat) : Prop := (R.isRgh = true ∧ ReachR R.bits v) ∨ (R.isRgh = false ∧ v = (R.ags R.fin - 1) * R.step)
theorem step_pos {R : Ru} (h : R.ok) : 0 < R.step := by
  cases R with
  | cnt b s => exact h.2.2.1
  | shf b s => exact h.2.2.1
  | rgh b => exact Nat.one_pos
theorem dd_lt {s now a k : Nat} (hs : 0 < s) (ha : a ≤ now) (h : k + 1 ≤ dd s now a) : k * s < a := by
  unfold dd at h
  have h1 := Nat.div_mul_le_self now s
  have h2 : now - a < ((now - a) / s + 1) * s := by
    have := Nat.lt_mul_div_succ (now - a) hs
    rw [Nat.mul_comm] at this
    exact this
  have h3 : ((now - a) / s + (k + 1)) * s ≤ now / s * s := Nat.mul_le_mul_right s (by omega)
  rw [Nat.add_mul] at h2 h3
  rw [Nat.add_mul k 1 s] at h3
  omega
theorem dd_eq {s now a c : Nat} (hs : 0 < s) (ha : a ≤ now) (hc : c ≤ now) (h : dd s now a = dd s now c) : c ≤ a + (s - 1) := by
  unfold dd at h
  have m1 := div_mono s (show now - a ≤ now by omega)
  have m2 := div_mono s (show now - c ≤ now by omega)
  have e : (now - a) / s = (now - c) / s := by omega
  have h1 := Nat.div_mul_le_self (now - c) s
  have h2 : now - a < ((now - a) / s + 1) * s := by
    have := Nat.lt_mul_div_succ (now - a) hs
    rw [Nat.mul_comm] at this
    exact this
  rw [e, Nat.add_mul] at h2
  omega
/-- by how much it can be too much -/
theorem off_all {R : Ru} {v now m lo hi : Nat} (hR : R.ok) (hv : IsOff R v) (hm : m ≤ R.most) (h : IsSpan R now m (some lo) (some hi)) : hi ≤ lo + v := by
  obtain ⟨l1, l2, p1, p2, lh, nf⟩ := h.both
  rcases hv with ⟨ir, hv⟩ | ⟨nr, rfl⟩
  · cases R with
    | cnt b s => cases ir
    | shf b s => cases ir
    | rgh b =>
      have b1 : 1 ≤ b := hR.1
      have hm' : m ≤ 2 ^ b - 1 := hm
      have nf' : m ≠ 2 ^ b - 1 := nf
      have lt : ∀ a, poss (.rgh b) now m a = true → a < 2 * tT b := fun a p => by
        by_cases c : a < 2 * tT b
        · exact c
        · rw [poss_rgh, one_far2 b1 (by omega)] at p
          exact absurd (of_decide_eq_true p).symm nf'
      obtain ⟨r1, r2⟩ := rep_in b now
      have tr : ∀ a, a ≤ now → poss (.rgh b) now m a = true → a ≤ rep b now ∧ poss (.rgh b) (rep b now) m a = true := fun a ha p => by
        have := lt a p
        refine ⟨by omega, ?_⟩
        rw [poss_rgh] at p ⊢
        rw [rep_same b now a ha (by omega)]
        exact p
      obtain ⟨x, y, sp⟩ := exists_span (.rgh b) (rep b now) m
      obtain ⟨q1, q2⟩ := tr lo l1 p1
      obtain ⟨q3, q4⟩ := tr hi l2 p2
      obtain ⟨lo', rfl, e1, _⟩ := sp.lo_le q1 q2
      obtain ⟨hi', rfl, e2, _⟩ := sp.hi_ge q3 q4 nf
      have := hv.1 (hi' - lo') ⟨rep b now, m, lo', hi', r1, r2, Nat.lt_of_le_of_ne hm' nf', sp, rfl⟩
      omega
  · have hs := step_pos hR
    have a1 := (poss_stp nr hs hm l1).mp p1
    have a2 := (poss_stp nr hs hm l2).mp p2
    rw [if_neg nf] at a1 a2
    exact dd_eq hs l1 l2 (a1.trans a2.symm)
theorem fin_most (R : Ru) : R.fin ≤ R.most := by
  cases R with
  | cnt b s => exact Nat.le_refl _
  | shf b s => exact Nat.zero_le _
  | rgh b => exact Nat.le_refl _
theorem ags_fin {R : Ru} (hR : R.ok) (nr : R.isRgh = false) : 1 ≤ R.ags R.fin := by
  cases R with
  | cnt b s =>
    have : 2 ^ 1 ≤ 2 ^ b := Nat.pow_le_pow_right (by decide) hR.1
    show 1 ≤ 2 ^ b - 1
    omega
  | shf b s => exact Nat.succ_le_succ (Nat.zero_le b)
  | rgh b => cases nr
/-- within reach no mark is the end -/
theorem reach_all {R : Ru} {v now a : Nat} (hR : R.ok) (hv : IsReach R v) (ha : a ≤ now) (hp : poss R now R.fin a = true) : v < a := by
  rcases hv with ⟨ir, hv⟩ | ⟨nr, rfl⟩
  · cases R with
    | cnt b s => cases ir
    | shf b s => cases ir
    | rgh b =>
      have b1 : 1 ≤ b := hR.1
      obtain ⟨r1, r2⟩ := rep_in b now
      have tp := T_pos b
      obtain ⟨x, y, sp⟩ := exists_span (.rgh b) (rep b now) (2 ^ b - 1)
      have pe : poss (.rgh b) (rep b now) (2 ^ b - 1) (2 * tT b - 1) = true := by
        rw [poss_rgh, one_far2 b1 (Nat.le_refl _), decide_eq_true rfl]
      have yn : y = none := sp.hi_none rfl
      subst yn
      obtain ⟨lo, rfl, e1, e3, _⟩ := sp.lo_le (show 2 * tT b - 1 ≤ rep b now by omega) pe
      have lb := hv.1 lo ⟨rep b now, r1, r2, sp⟩
      by_cases c : a ≤ rep b now
      · have hp' : poss (.rgh b) (rep b now) (2 ^ b - 1) a = true := by
          rw [poss_rgh, rep_same b now a ha c, ← poss_rgh]
          exact hp
        obtain ⟨lo', e, l, _⟩ := sp.lo_le c hp'
        cases e
        omega
      · omega
  · have hs := step_pos hR
    have a1 := (poss_stp nr hs (fin_most R) ha).mp hp
    rw [if_pos rfl] at a1
    have := ags_fin hR nr
    exact dd_lt hs ha (by omega)
/-- the marks of a thing that was just seen -/
def Fresh (R : Ru) (m : Nat) : Prop := if R.isShf = true then R.top ≤ m ∧ m < 2 * R.top else m = 0
/-- a thing that was truly seen may have been seen then -/
theorem poss_true {R : Ru} (hR : R.ok) {m last n : Nat} (h : Fresh R m) : poss R (last + n) (ag R m last n) n = true := by
  cases R with
  | cnt b s =>
    have e : m = 0 := h
    subst e
    rw [poss_cnt]
    refine decide_eq_true ?_
    show ag (.cnt b s) 0 (last + n - n) n = _
    rw [Nat.add_sub_cancel]
  | rgh b =>
    have e : m = 0 := h
    subst e
    rw [poss_rgh]
    refine decide_eq_true ?_
    show ag (.rgh b) 0 (last + n - n) n = _
    rw [Nat.add_sub_cancel]
  | shf b s =>
    obtain ⟨h1, h2⟩ : 2 ^ b ≤ m ∧ m < 2 * 2 ^ b := h
    have hs : 0 < s := hR.2.2.1
    have e1 : one (.shf b s) (last + n) n = 2 ^ b / 2 ^ ((last + n) / s - last / s) := by
      show ag (.shf b s) (2 ^ b) (last + n - n) n = _
      rw [Nat.add_sub_cancel]
      exact ag_shf b s _ last hs n
    rw [ag_shf b s m last hs n]
    generalize (last + n) / s - last / s = d at e1
    have pd := Nat.two_pow_pos d
    unfold poss
    rw [e1]
    by_cases hd : d ≤ b
    · have p := Nat.two_pow_pos (b - d)
      have es : 2 ^ b = 2 ^ (b - d) * 2 ^ d := by rw [← Nat.pow_add]; congr 1; omega
      rw [two_div hd, decide_eq_true p]
      have q1 : 2 ^ (b - d) ≤ m / 2 ^ d := (Nat.le_div_iff_mul_le pd).mpr (by rw [← es]; exact h1)
      have q2 : m / 2 ^ d < 2 * 2 ^ (b - d) := (Nat.div_lt_iff_lt_mul pd).mpr (by rw [Nat.mul_assoc, ← es]; exact h2)
      rw [decide_eq_true q1, decide_eq_true q2]
      rfl
    · have z : m / 2 ^ d = 0 := by
        refine Nat.div_eq_of_lt (Nat.lt_of_lt_of_le h2 ?_)
        rw [Nat.mul_comm, ← Nat.pow_succ]
        exact Nat.pow_le_pow_right (by decide) (by omega)
      rw [two_div0 (by omega), z]
      rfl
theorem fresh_most {R : Ru} {m : Nat} (h : Fresh R m) : m ≤ R.most := by
  cases R with
  | cnt b s =>
    have e : m = 0 := h
    rw [e]; exact Nat.zero_le _
  | rgh b =>
    have e : m = 0 := h
    rw [e]; exact Nat.zero_le _
  | shf b s =>
    obtain ⟨h1, h2⟩ : 2 ^ b ≤ m ∧ m < 2 * 2 ^ b := h
    show m ≤ 2 ^ (b + 1) - 1
    rw [Nat.pow_succ]
    omega
end LS
namespace LS
/-- a round that is tried throughout -/
def Ru.arnd : Ru → Nat
  | .cnt b s => s * (1 + (2 ^ b - 1))
  | .shf b s => s * (1 + (b + 1))
  | .rgh _ => 64
theorem ag_fin (R : Ru) (t : Nat) : ∀ n, ag R R.fin t n = R.fin
  | 0 => rfl
  | n + 1 => by
    show tick R (ag R R.fin t n) (t + n + 1) = R.fin
    rw [ag_fin R t n]
    cases R with
    | cnt b s =>
      show (if _ then min (2 ^ b - 1 + 1) (2 ^ b - 1) else 2 ^ b - 1) = 2 ^ b - 1
      split
      · exact Nat.min_eq_right (Nat.le_succ _)
      · rfl
    | shf b s =>
      show (if _ then 0 / 2 else 0) = 0
      split <;> rfl
    | rgh b => exact if_neg fun h => h.1 rfl
theorem fin_le {R : Ru} {t n n' : Nat} (h : ag R R.top t n = R.fin) (l : n ≤ n') : ag R R.top t n' = R.fin := by
  obtain ⟨k, rfl⟩ : ∃ k, n' = n + k := ⟨n' - n, by omega⟩
  rw [ag_add, h, ag_fin]
theorem one_at {R : Ru} {h b : Nat} (l : b ≤ h) : one R h (h - b) = ag R R.top b (h - b) := by
  show ag R R.top (h - (h - b)) (h - b) = _
  rw [show h - (h - b) = b by omega]
theorem poss_exact {R : Ru} {now m a : Nat} (e : one R now a = m) (h : m ≠ R.fin) : poss R now m a = true := by
  cases R with
  | cnt b s => rw [poss_cnt, decide_eq_true e]
  | rgh b => rw [poss_rgh, decide_eq_true e]
  | shf b s =>
    have h' : m ≠ 0 := h
    unfold poss
    rw [e, decide_eq_true (show 0 < m by omega), decide_eq_true (Nat.le_refl m), decide_eq_true (show m < 2 * m by omega)]
    rfl
theorem poss_fin {R : Ru} {now a : Nat} (e : one R now a = R.fin) : poss R now R.fin a = true := by
  cases R with
  | cnt b s => rw [poss_cnt, decide_eq_true e]
  | rgh b => rw [poss_rgh, decide_eq_true e]
  | shf b s =>
    unfold poss
    rw [e]
    rfl
/-- two begins of one mark -/
theorem begins_off {R : Ru} {v h m b1 b2 : Nat} (hR : R.ok) (hv : IsOff R v) (l1 : b1 ≤ h) (l2 : b2 ≤ h) (e1 : ag R R.top b1 (h - b1) = m) (e2 : ag R R.top b2 (h - b2) = m) (nf : m ≠ R.fin) : b2 ≤ b1 + v := by
  have p1 := poss_exact ((one_at l1).trans e1) nf
  have p2 := poss_exact ((one_at l2).trans e2) nf
  obtain ⟨x, y, sp⟩ := exists_span R h m
  obtain ⟨lo, rfl, e3, _⟩ := sp.lo_le (show h - b2 ≤ h by omega) p2
  obtain ⟨hi, rfl, e4, _⟩ := sp.hi_ge (show h - b1 ≤ h by omega) p1 nf
  have mm : m ≤ R.most := by rw [← e1]; exact ag_le R _ _ (top_le R) _
  have := off_all hR hv mm sp
  omega
theorem begins_reach {R : Ru} {u b n : Nat} (hR : R.ok) (hu : IsReach R u) (e : ag R R.top b n = R.fin) : u + 1 ≤ n := by
  have o : one R (b + n) n = R.fin := by
    show ag R R.top (b + n - n) n = _
    rw [Nat.add_sub_cancel]
    exact e
  exact reach_all hR hu (Nat.le_add_left n b) (poss_fin o)
theorem arnd_step {R : Ru} (hR : R.ok) (nr : R.isRgh = false) : ∃ k, R.arnd = R.step * k ∧ 2 ≤ k := by
  cases R with
  | cnt b s =>
    have : 2 ^ 1 ≤ 2 ^ b := Nat.pow_le_pow_right (by decide) hR.1
    exact ⟨1 + (2 ^ b - 1), rfl, by omega⟩
  | shf b s => exact ⟨1 + (b + 1), rfl, by omega⟩
  | rgh b => cases nr
theorem arnd_le {R : Ru} (hR : R.ok) : 1 ≤ R.arnd ∧ R.arnd ≤ 1280 := by
  cases R with
  | cnt b s =>
    obtain ⟨h1, h2, h3, h4⟩ : 1 ≤ b ∧ b ≤ 6 ∧ 1 ≤ s ∧ s ≤ 20 := hR
    have : 2 ^ b ≤ 2 ^ 6 := Nat.pow_le_pow_right (by decide) h2
    exact ⟨Nat.mul_le_mul h3 (show 1 ≤ 1 + (2 ^ b - 1) by omega), Nat.mul_le_mul h4 (show 1 + (2 ^ b - 1) ≤ 64 by omega)⟩
  | shf b s =>
    obtain ⟨h1, h2, h3, h4⟩ : 1 ≤ b ∧ b ≤ 10 ∧ 1 ≤ s ∧ s ≤ 20 := hR
    exact ⟨Nat.mul_le_mul h3 (show 1 ≤ 1 + (b + 1) by omega), Nat.mul_le_mul h4 (show 1 + (b + 1) ≤ 64 by omega)⟩
  | rgh b => exact ⟨(by decide : 1 ≤ 64), (by decide : 64 ≤ 1280)⟩
/-- by how often it was aged: count and shift -/
theorem ag_dd0 {R : Ru} (hR : R.ok) (nr : R.isRgh = false) {t n : Nat} (h : (t + n) / R.step - t / R.step = 0) : ag R R.top t n = R.top ∧ R.top ≠ R.fin := by
  have hs := step_pos hR
  cases R with
  | cnt b s =>
    have h' : (t + n) / s - t / s = 0 := h
    refine ⟨?_, ?_⟩
    · show ag (.cnt b s) 0 t n = 0
      rw [ag_cnt b s 0 t hs (Nat.zero_le _) n, h']
      omega
    · show 0 ≠ 2 ^ b - 1
      have : 2 ^ 1 ≤ 2 ^ b := Nat.pow_le_pow_right (by decide) hR.1
      omega
  | shf b s =>
    have h' : (t + n) / s - t / s = 0 := h
    refine ⟨?_, ?_⟩
    · show ag (.shf b s) (2 ^ b) t n = 2 ^ b
      rw [ag_shf b s _ t hs n, h', Nat.pow_zero, Nat.div_one]
    · show 2 ^ b ≠ 0
      have := Nat.two_pow_pos b
      omega
  | rgh b => cases nr
theorem ag_ddk {R : Ru} (hR : R.ok) (nr : R.isRgh = false) {t n : Nat} (h : (t + n) / R.step - t / R.step = R.ags R.fin) : ag R R.top t n = R.fin := by
  have hs := step_pos hR
  cases R with
  | cnt b s =>
    have h' : (t + n) / s - t / s = 2 ^ b - 1 := h
    show ag (.cnt b s) 0 t n = 2 ^ b - 1
    rw [ag_cnt b s 0 t hs (Nat.zero_le _) n, h']
    omega
  | shf b s =>
    have h' : (t + n) / s - t / s = b + 1 := h
    show ag (.shf b s) (2 ^ b) t n = 0
    rw [ag_shf b s _ t hs n, h']
    exact two_div0 (Nat.lt_succ_self b)
  | rgh b => cases nr
/-- the widest is met -/
theorem off_met {R : Ru} {v : Nat} (hR : R.ok) (hv : IsOff R v) : ∃ h m b1 b2, 4 * R.arnd ≤ h ∧ h < 5 * R.arnd ∧ b1 ≤ h ∧ b2 ≤ h ∧ ag R R.top b1 (h - b1) = m ∧ ag R R.top b2 (h - b2) = m ∧ m ≠ R.fin ∧ v ≤ b2 - b1 := by
  rcases hv with ⟨ir, hv⟩ | ⟨nr, rfl⟩
  · cases R with
    | cnt b s => cases ir
    | shf b s => cases ir
    | rgh b =>
      obtain ⟨b1, b3⟩ : 1 ≤ b ∧ b ≤ 3 := hR
      have p2 : 2 ^ 1 ≤ 2 ^ b := Nat.pow_le_pow_right (by decide) b1
      have tl := T_le b3
      have tp := T_pos b
      rcases hv.2 with rfl | ⟨now, m, lo, hi, n1, n2, hm, sp, rfl⟩
      · refine ⟨256, 0, 256, 256, Nat.le_refl _, (by decide : 256 < 320), Nat.le_refl _, Nat.le_refl _, rfl, rfl, ?_, Nat.zero_le _⟩
        show 0 ≠ 2 ^ b - 1
        omega
      · have n1' : 2 * tT b ≤ now := n1
        have n2' : now < 3 * tT b := n2
        have hm' : m < 2 ^ b - 1 := hm
        obtain ⟨c1, c2, c3, c4, c5, c6⟩ := sp.both
        have td : 64 % tT b = 0 := by
          have hb : b = 1 ∨ b = 2 ∨ b = 3 := by omega
          rcases hb with rfl | rfl | rfl <;> decide
        have hb0 : b = 1 ∨ b = 2 ∨ b = 3 := by omega
        have hr : rep b (256 + now % tT b) = now := by
          have hmod : (256 + now % tT b) % tT b = now % tT b := by
            rcases hb0 with rfl | rfl | rfl
            · show (256 + now % 1) % 1 = now % 1; omega
            · show (256 + now % 4) % 4 = now % 4; omega
            · show (256 + now % 64) % 64 = now % 64; omega
          unfold rep
          rw [hmod]
          have e := Nat.div_add_mod now (tT b)
          have q : now / tT b = 2 := by
            refine Nat.div_eq_of_lt_le n1' ?_
            exact n2'
          rw [q, Nat.mul_comm] at e
          exact e
        have ml := Nat.mod_lt now tp
        have tr : ∀ a, a ≤ now → poss (.rgh b) now m a = true → a ≤ 256 + now % tT b ∧ ag (.rgh b) 0 (256 + now % tT b - a) a = m := fun a ha p => by
          rw [poss_rgh] at p
          have p' := of_decide_eq_true p
          have al : a < 2 * tT b := by
            by_cases c : a < 2 * tT b
            · exact c
            · rw [one_far2 b1 (by omega)] at p'
              exact absurd p'.symm (Nat.ne_of_lt hm')
          have hle : a ≤ 256 + now % tT b := by omega
          have s := rep_same b (256 + now % tT b) a hle (by rw [hr]; exact ha)
          rw [hr] at s
          exact ⟨hle, s.symm.trans p'⟩
        obtain ⟨q1, q2⟩ := tr lo c1 c3
        obtain ⟨q3, q4⟩ := tr hi c2 c4
        refine ⟨256 + now % tT b, m, 256 + now % tT b - hi, 256 + now % tT b - lo, Nat.le_add_right _ _, ?_, Nat.sub_le _ _, Nat.sub_le _ _, ?_, ?_, Nat.ne_of_lt hm', ?_⟩
        · show 256 + now % tT b < 320
          omega
        · show ag (.rgh b) 0 (256 + now % tT b - hi) (256 + now % tT b - (256 + now % tT b - hi)) = m
          rw [show 256 + now % tT b - (256 + now % tT b - hi) = hi by omega]
          exact q4
        · show ag (.rgh b) 0 (256 + now % tT b - lo) (256 + now % tT b - (256 + now % tT b - lo)) = m
          rw [show 256 + now % tT b - (256 + now % tT b - lo) = lo by omega]
          exact q2
        · omega
  · obtain ⟨k, ek, k2⟩ := arnd_step hR nr
    have hs := step_pos hR
    have sk : R.step * 2 ≤ R.step * k := Nat.mul_le_mul_left _ k2
    have z : ∀ n, n < R.step → (4 * R.arnd + n) / R.step - 4 * R.arnd / R.step = 0 := fun n hn => by
      have e : 4 * R.arnd = R.step * (4 * k) := by rw [ek, Nat.mul_left_comm]
      rw [e, Nat.mul_add_div hs, Nat.div_eq_of_lt hn, Nat.mul_div_cancel_left _ hs]
      omega
    obtain ⟨a1, a2⟩ := ag_dd0 hR nr (z (R.step - 1) (by omega))
    refine ⟨4 * R.arnd + (R.step - 1), R.top, 4 * R.arnd, 4 * R.arnd + (R.step - 1), by omega, by omega, by omega, by omega, ?_, ?_, a2, by omega⟩
    · rw [Nat.add_sub_cancel_left]
      exact a1
    · rw [Nat.sub_self]
      rfl
/-- the soonest end is met -/
theorem reach_met {R : Ru} {u : Nat} (hR : R.ok) (hu : IsReach R u) : ∃ b, b < 6 * R.arnd ∧ ag R R.top b (u + 1) = R.fin := by
  rcases hu with ⟨ir, hu⟩ | ⟨nr, rfl⟩
  · cases R with
    | cnt b s => cases ir
    | shf b s => cases ir
    | rgh b =>
      obtain ⟨b1, b3⟩ : 1 ≤ b ∧ b ≤ 3 := hR
      have tl := T_le b3
      obtain ⟨now, n1, n2, sp⟩ := hu.2
      have n2' : now < 3 * tT b := n2
      rcases sp with ⟨e, _⟩ | ⟨lo, e, h1, h2, _⟩
      · cases e
      · cases e
        rw [poss_rgh] at h2
        exact ⟨now - (u + 1), by show now - (u + 1) < 384; omega, of_decide_eq_true h2⟩
  · obtain ⟨k, ek, k2⟩ := arnd_step hR nr
    have hs := step_pos hR
    have sk : R.step * 2 ≤ R.step * k := Nat.mul_le_mul_left _ k2
    have a1 := ags_fin hR nr
    refine ⟨R.step - 1, by omega, ag_ddk hR nr ?_⟩
    have e : R.step - 1 + ((R.ags R.fin - 1) * R.step + 1) = R.step * R.ags R.fin := by
      obtain ⟨j, hj⟩ : ∃ j, R.ags R.fin = j + 1 := ⟨R.ags R.fin - 1, by omega⟩
      rw [hj, Nat.add_sub_cancel, Nat.mul_add, Nat.mul_one, Nat.mul_comm j]
      omega
    rw [e, Nat.mul_div_cancel_left _ hs, Nat.div_eq_of_lt (show R.step - 1 < R.step by omega), Nat.sub_zero]
end LS
namespace LS
open PySem PySem.Spec PyProof.Rows L2 RZ
/-! ### calls by a promise alone -/
def Cl (P : Program) (w : World) (K : PySem.W.Frag) (mg : Str → Option Value) (base : Heap) (k : Nat) (x : Str) (ps : List Str) (sp : Sp) : Prop :=
  ∃ (f : Addr) (fd : FuncData), FnOk P w K mg base CX0 k f fd ps sp ∧ mg x = some (.ref f) ∧ PySem.W.keepIn K (.ref f) = true ∧ Binds K fd ps []
theorem pe_cl {X : Cx} {j k : Nat} {x : Str} {ps : List Str} {sp : Sp} {e : Expr} {es : List Expr} {t : TA} {p pos : Pos} (D : Cl X.prog X.w X.K X.mg X.base k x ps sp) (hr : Room j X.A) (ha : PA X (e :: es) t) (hk : k ≤ j := by decide) (hg : Gl X x := by rfl)
    (hdb : (x == ("__debug__" : Str)) = false := by decide) (he : starEach (e :: es) X.env = (false, eval e X.env) :: starEach es X.env := by rfl) (hpl : (backTo pos (starEach es X.env)).any (·.1) = false := by rfl) :
    PE X (.Call (.Name x p) (e :: es) [] pos) (tCall sp [] E0 t) := by
  obtain ⟨f, fd, G, g, kp, b⟩ := D
  exact pe_call G (hr.mono hk) hg g kp b .nil pass0 ha hdb he hpl
/-- a def as the top has left it -/
def DefAt (K : PySem.W.Frag) (mg : Str → Option Value) (x : Str) (st : Stmt) (ps : List Str) : Prop :=
  ∃ (f : Addr) (fd : FuncData), Fun K x x st f fd ∧ mg x = some (.ref f) ∧ Binds K fd ps []
theorem DefAt.cl {P : Program} {w : World} {K : PySem.W.Frag} {mg : Str → Option Value} {base : Heap} {k : Nat} {x : Str} {st : Stmt} {ps : List Str} {sp : Sp} (D : DefAt K mg x st ps)
    (h : ∀ f fd, Fun K x x st f fd → FnOk P w K mg base CX0 k f fd ps sp) : Cl P w K mg base k x ps sp := by
  obtain ⟨f, fd, F, g, b⟩ := D
  exact ⟨f, fd, h f fd F, g, F.kp, b⟩
theorem defAt_mk {K : PySem.W.Frag} {h : Heap} {mg : Str → Option Value} {x : Str} {st : Stmt} {ps : List Str} {f : Addr} {od an : Option Addr} {sl : Array (Option Value)} {oc kV dc pm cd ct : Value} (X : K.In h) (G : h.Ns mainGlobals mg)
    (a : PySem.W.nsIn K mainGlobals x = some (some (.ref f))) (l : K.lookup f = some ⟨oc, od, .func (PySem.W.fnOf x x (defArgs st) (defBody st) (defScope st) .none kV dc pm an cd ct), sl⟩) (c : PySem.W.codeIn K cd x = true) (k : PySem.W.keepIn K (.ref f) = true)
    (hb : ∀ (kV doc pm : Value) (an : Option Addr) (cdv ct : Value) (us : List Value), us.length = ps.length → bindArgs (PySem.W.fnOf x x (defArgs st) (defBody st) (defScope st) .none kV doc pm an cdv ct) ⟨us, []⟩ = pure (ps.zip us)) : DefAt K mg x st ps := by
  have F := fun_mk (st := st) l c k
  exact ⟨f, _, F, PySem.W.mg_of X G a, F.binds hb⟩
/-! ### heaps -/
theorem same_upd {H : Hp} {p : Addr} {o : HO} (h : H p = none) : Same H (upd H p o) := fun b x e => by
  rw [upd_ne (ne_of_none e h)]
  exact e
/-- all but two objects stands as it was -/
def Kp2 (h c : Addr) (H H' : Hp) : Prop := ∀ b o, H b = some o → b ≠ h → b ≠ c → H' b = some o
theorem Kp2.refl (h c : Addr) (H : Hp) : Kp2 h c H H := fun _ _ e _ _ => e
theorem Kp2.trans {h c : Addr} {H H1 H2 : Hp} (a : Kp2 h c H H1) (b : Kp2 h c H1 H2) : Kp2 h c H H2 := fun x o e n1 n2 => b x o (a x o e n1 n2) n1 n2
theorem Same.kp2 {h c : Addr} {H H1 : Hp} (a : Same H H1) : Kp2 h c H H1 := fun b o e _ _ => a b o e
/-- the list that is drawn from stands at h, its cells at c -/
structure HAt (H : Hp) (h c : Addr) : Prop where
  ex : ∃ (mx pl : Int) (ns : List Int), H h = some (.lst [.int mx, .ref c, .int pl]) ∧ H c = some (.lst (ns.map V.int)) ∧ 0 ≤ mx ∧ mx < 2147483647 ∧ 0 ≤ pl ∧ ns.length ≤ 63
  ne : h ≠ c
theorem HAt.same {H H' : Hp} {h c : Addr} (a : HAt H h c) (s : Same H H') : HAt H' h c := by
  obtain ⟨⟨mx, pl, ns, e1, e2, e3⟩, n⟩ := a
  exact ⟨⟨mx, pl, ns, s _ _ e1, s _ _ e2, e3⟩, n⟩
theorem HAt.neT {H : Hp} {h c p : Addr} {xs : List V} (a : HAt H h c) (e : H p = some (.tup xs)) : p ≠ h ∧ p ≠ c := by
  obtain ⟨⟨mx, pl, ns, e1, e2, e3⟩, n⟩ := a
  exact ⟨ne_of e e1 (by intro q; cases q), ne_of e e2 (by intro q; cases q)⟩
/-- a tuple stands behind a draw -/
theorem Kp2.tup {H H' : Hp} {h c p : Addr} {xs : List V} (k : Kp2 h c H H') (a : HAt H h c) (e : H p = some (.tup xs)) : H' p = some (.tup xs) := k p _ e (a.neT e).1 (a.neT e).2
/-! ### rules as tuples -/
def Ru.kind : Ru → Str
  | .cnt _ _ => "count"
  | .shf _ _ => "shift"
  | .rgh _ => "rough"
def Ru.nums : Ru → List Int
  | .cnt b s => [(b : Int), (s : Int)]
  | .shf b s => [(b : Int), (s : Int)]
  | .rgh b => [(b : Int)]
def Ru.tup (R : Ru) : List V := .str R.kind :: R.nums.map V.int
def Ru.lim : Ru → List Int
  | .cnt _ _ => [6, 20]
  | .shf _ _ => [10, 20]
  | .rgh _ => [3]
abbrev RuAt (H : Hp) (p : Addr) (R : Ru) : Prop := H p = some (.tup R.tup)
theorem Ru.at0 (R : Ru) : atI R.tup 0 = some (.str R.kind) := atI_nat (j := 0) rfl
theorem Ru.at1 (R : Ru) : atI R.tup 1 = some (.int (R.bits : Int)) := by
  cases R <;> exact atI_nat (j := 1) rfl
theorem Ru.bits_pos {R : Ru} (h : R.ok) : 1 ≤ R.bits ∧ R.bits ≤ 10 := by
  cases R with
  | cnt b s => obtain ⟨h1, h2, h3, h4⟩ : 1 ≤ b ∧ b ≤ 6 ∧ 1 ≤ s ∧ s ≤ 20 := h; exact ⟨h1, by show b ≤ 10; omega⟩
  | shf b s => obtain ⟨h1, h2, h3, h4⟩ : 1 ≤ b ∧ b ≤ 10 ∧ 1 ≤ s ∧ s ≤ 20 := h; exact ⟨h1, h2⟩
  | rgh b => obtain ⟨h1, h2⟩ : 1 ≤ b ∧ b ≤ 3 := h; exact ⟨h1, by show b ≤ 10; omega⟩
theorem cut1 (xs : List V) : cutV xs (some 1) none = xs.drop 1 := by
  unfold cutV
  rw [show HT.sIx xs.length 0 (some 1) = min 1 xs.length from HT.sIx_nat xs.length 0 1, HT.sIx_none]
  cases xs with
  | nil => rfl
  | cons x r =>
    rw [show min 1 (x :: r).length = 1 by
      rw [List.length_cons]
      omega]
    show (List.take ((x :: r).length - 1) r) = r
    rw [List.length_cons, Nat.add_sub_cancel]
    exact List.take_length
/-! ### whether texts are alike -/
theorem dec_str {a b : Str} : decide (V.str a = V.str b) = decide (a = b) := by
  by_cases h : a = b
  · subst h; rw [decide_eq_true rfl, decide_eq_true rfl]
  · rw [decide_eq_false h, decide_eq_false (fun q => h (V.str.inj q))]
theorem dec_int {a b : Int} : decide (V.int a = V.int b) = decide (a = b) := by
  by_cases h : a = b
  · subst h; rw [decide_eq_true rfl, decide_eq_true rfl]
  · rw [decide_eq_false h, decide_eq_false (fun q => h (V.int.inj q))]
/-! ### a comprehension over zip of two tuples -/
theorem lc_zipT {K : PySem.W.Frag} {a b : Addr} {xs ys : List V} {g : TG} {tt : TT} {te : TE} {vs : List Nat} {σ : L2.St} {H1 : Hp} {D : Addr} {Qd : Hp → Prop} (hl : xs.length = ys.length) (Pv : Nat → Hp → Prop) (h0 : Pv 0 (upd H1 D (.lst []))) (hq : ∀ i H, Pv i H → SqT K H a xs ∧ SqT K H b ys)
    (hs : ∀ i x y T H, xs[i]? = some x → ys[i]? = some y → Pv i H → H T = none → g (.ref T) (wipe σ vs) (upd H T (.tup [x, y])) fun σ2 H2 => wipe σ2 vs = wipe σ vs ∧ tt σ2 H2 fun b H3 =>
      if b = true then te σ2 H3 fun y H4 => ∃ acc, H4 D = some (.lst acc) ∧ acc.length < sizeLine ∧ Pv (i + 1) (upd H4 D (.lst (acc ++ [y]))) else Pv (i + 1) H3) (hd : ∀ H, Pv xs.length H → Qd H) :
    ∃ W : Nat → Nat → Hp → Prop, (∃ m, W 0 m (upd H1 D (.lst []))) ∧ ∀ i m H, W i m H →
      ((ItzT K a b).stop i H ∧ Qd H) ∨ ((ItzT K a b).go i H ∧ ∃ Nx : Hp → Prop, (∀ H', Nx H' → ∃ m', m' < m ∧ W (i + 1) m' H') ∧ ∀ x H', (ItzT K a b).yld i H x H' → g x (wipe σ vs) H' fun σ2 H2 => wipe σ2 vs = wipe σ vs ∧ tt σ2 H2 fun b H3 =>
        if b = true then te σ2 H3 fun y H4 => ∃ acc, H4 D = some (.lst acc) ∧ acc.length < sizeLine ∧ Nx (upd H4 D (.lst (acc ++ [y]))) else Nx H3) := by
  refine ⟨fun i m H => m = xs.length - i ∧ i ≤ xs.length ∧ Pv i H, ⟨xs.length, by simp, Nat.zero_le _, h0⟩, ?_⟩
  rintro i m H ⟨rfl, hi, p⟩
  obtain ⟨qx, qy⟩ := hq i H p
  by_cases hlt : i < xs.length
  · have hx : xs[i]? = some xs[i] := List.getElem?_eq_getElem hlt
    have hlt2 : i < ys.length := by omega
    have hy : ys[i]? = some ys[i] := List.getElem?_eq_getElem hlt2
    refine .inr ⟨⟨xs, ys, _, _, qx, qy, hx, hy⟩, Pv (i + 1), fun H' p' => ⟨xs.length - (i + 1), by omega, rfl, hlt, p'⟩, fun x H' y => ?_⟩
    obtain ⟨T, x', y', rfl, hT, rfl, f1, f2⟩ := y
    exact hs i x' y' T H (f1 xs qx) (f2 ys qy) p hT
  · have e : i = xs.length := by omega
    subst e
    exact .inl ⟨⟨xs, ys, qx, qy, Or.inl (Nat.le_refl _)⟩, hd H p⟩
/-! ### lists of ints against the empty list -/
theorem dpAll_ints {K : PySem.W.Frag} {H : Hp} : ∀ ns : List Int, DpAll K H (ns.map V.int) (ns.map PyData.int)
  | [] => .nil
  | n :: r => .cons (.int n) (dpAll_ints r)
theorem eqv_nil (ns : List Int) : PyData.eqv (.list (ns.map PyData.int)) (.list []) = ns.isEmpty := by
  cases ns with
  | nil => simp [PyData.eqv, PyData.eqvAll]
  | cons n r => simp [PyData.eqv, PyData.eqvAll]
theorem ixN_nn {n : Nat} {i : Int} (h0 : 0 ≤ i) (h1 : i < n) : ixN n i = some i.toNat := by
  unfold ixN
  rw [if_pos h0, if_pos h1]
/-- two ways to one value -/
theorem join_if {te1 te2 : TE} {σ : L2.St} {H1 : Hp} {Q' : VK} {c : Bool} (G : V → Hp → Prop) (hG : ∀ v H', G v H' → Q' v H') (h1 : c = true → ∃ v H', (∀ Q : VK, Q v H' → te1 σ H1 Q) ∧ G v H')
    (h2 : c = false → ∃ v H', (∀ Q : VK, Q v H' → te2 σ H1 Q) ∧ G v H') : if c = true then te1 σ H1 Q' else te2 σ H1 Q' := by
  cases c with
  | true =>
    obtain ⟨v, H', e, g⟩ := h1 rfl
    rw [if_pos rfl]
    exact e _ (hG _ _ g)
  | false =>
    obtain ⟨v, H', e, g⟩ := h2 rfl
    rw [if_neg Bool.false_ne_true]
    exact e _ (hG _ _ g)
/-- over a range, with a break -/
theorem for_rangeB {lo : Int} {n : Nat} {g : TG} {tb : TS} {D : Ends} {σ : L2.St} {H : Hp} (Pv : Nat → L2.St → Hp → Prop) (Post : L2.St → Hp → Prop) (h0 : Pv 0 σ H)
    (hs : ∀ (bk : L2.St → Hp → Prop), (∀ σ H, Post σ H → bk σ H) → ∀ i σ H, i < n → Pv i σ H → g (.int (lo + i)) σ H fun σ2 H2 => tb { D with nx := Pv (i + 1), ct := Pv (i + 1), bk := bk } σ2 H2) (hd : ∀ σ H, Pv n σ H → Post σ H) (hp : ∀ σ H, Post σ H → D.nx σ H) :
    ∃ W : Nat → Nat → L2.St → Hp → Prop, (∃ m, W 0 m σ H) ∧ ∀ i m σ H, W i m σ H →
      ((Itr lo n).stop i H ∧ D.nx σ H) ∨ ((Itr lo n).go i H ∧ ∃ N : L2.St → Hp → Prop, (∀ σ' H', N σ' H' → ∃ m', m' < m ∧ W (i + 1) m' σ' H') ∧ ∀ x H', (Itr lo n).yld i H x H' → g x σ H' fun σ2 H2 => tb { D with nx := N, ct := N, bk := D.nx } σ2 H2) :=
  for_range Pv h0 (hs D.nx hp) fun σ H h => hp σ H (hd σ H h)
/-- two ways to values of one kind -/
theorem join_ifA {te1 te2 : TE} {σ : L2.St} {H1 : Hp} {Q' : VK} {c : Bool} (G : V → Hp → Prop) (hG : ∀ v H', G v H' → Q' v H') (h1 : c = true → ∀ Q : VK, (∀ v H', G v H' → Q v H') → te1 σ H1 Q)
    (h2 : c = false → ∀ Q : VK, (∀ v H', G v H' → Q v H') → te2 σ H1 Q) : if c = true then te1 σ H1 Q' else te2 σ H1 Q' := by
  cases c with
  | true =>
    rw [if_pos rfl]
    exact h1 rfl Q' hG
  | false =>
    rw [if_neg Bool.false_ne_true]
    exact h2 rfl Q' hG
/-- a statement by what holds behind it -/
theorem abs_nx {t : TS} {D : Ends} {σ : L2.St} {H : Hp} (G : L2.St → Hp → Prop) (h : ∀ nx' : L2.St → Hp → Prop, (∀ σ' H', G σ' H' → nx' σ' H') → t { D with nx := nx' } σ H) (hG : ∀ σ' H', G σ' H' → D.nx σ' H') : t D σ H := h D.nx hG
theorem le64 {i : Int} (h0 : 0 ≤ i) (h : i < 18446744073709551616) : -(2 ^ 64) < i ∧ i < 2 ^ 64 := by
  constructor <;> omega
end LS
namespace LS
open PySem PySem.Spec PyProof.Rows L2 RZ
def top (i : Nat) : Stmt := PySem.Challenge.pw_lastseen_k09_played.main.body.getD i (.Pass ⟨0, 0, 0, 0⟩)
abbrev s_wall : Stmt := top 0
abbrev s_is_rule : Stmt := top 11
abbrev s_check_rule : Stmt := top 12
abbrev s_check_mark : Stmt := top 13
abbrev s_check_moment : Stmt := top 14
abbrev s_top_mark : Stmt := top 15
abbrev s_end_mark : Stmt := top 16
abbrev s_seen : Stmt := top 17
abbrev s_aged_on : Stmt := top 18
abbrev s_aged_roughly : Stmt := top 19
abbrev s_span : Stmt := top 21
abbrev s_agings : Stmt := top 22
abbrev s_stepped_span : Stmt := top 23
abbrev s_rough_span : Stmt := top 24
abbrev m_Board_init : Stmt := inClass (top 28) 0
abbrev m_Board_see : Stmt := inClass (top 28) 1
abbrev m_Board_pass_by : Stmt := inClass (top 28) 2
abbrev m_Board_marks : Stmt := inClass (top 28) 3
abbrev m_Board_age : Stmt := inClass (top 28) 4
abbrev m_Board_ages : Stmt := inClass (top 28) 5
abbrev m_Board_oldest : Stmt := inClass (top 28) 6
abbrev m_Board_now : Stmt := inClass (top 28) 7
abbrev m_Board_check_thing : Stmt := inClass (top 28) 8
abbrev s_played : Stmt := top 29
abbrev s_told : Stmt := top 30
abbrev s_L_mix : Stmt := top 32
abbrev s_L_next : Stmt := top 33
abbrev s_L_alike : Stmt := top 34
abbrev s_L_rule : Stmt := top 35
abbrev s_L_end : Stmt := top 36
abbrev s_L_most : Stmt := top 37
abbrev s_L_top : Stmt := top 38
abbrev s_L_tick : Stmt := top 39
abbrev s_L_aged : Stmt := top 40
abbrev s_L_seen : Stmt := top 41
abbrev s_L_board : Stmt := top 42
abbrev s_L_do : Stmt := top 43
abbrev s_L_step : Stmt := top 44
abbrev s_L_told : Stmt := top 45
abbrev s_law : Stmt := top 46
/-! ### the program: rules -/
theorem k_cs : ¬ (("count" : Str) = "shift") := by decide +kernel
theorem k_cr : ¬ (("count" : Str) = "rough") := by decide +kernel
theorem k_sc : ¬ (("shift" : Str) = "count") := by decide +kernel
theorem k_sr : ¬ (("shift" : Str) = "rough") := by decide +kernel
theorem k_rc : ¬ (("rough" : Str) = "count") := by decide +kernel
theorem k_rs : ¬ (("rough" : Str) = "shift") := by decide +kernel

/-- what the top has written of the limits, at d -/
def WrT (K : PySem.W.Frag) (a : Addr) (xs : List V) : Prop := ∃ (o : Obj) (its : Array Value) (n : Nat), K.lookup a = some o ∧ o.cls = .type "tuple" ∧ o.data = .seq its n ∧ its.size ≤ sizeLine ∧ Vals xs its.toList
structure Lims (K : PySem.W.Frag) (w : World) (mg : Str → Option Value) : Prop where
  ex : ∃ (d : Addr) (es : Array DictEntry) (n : Nat), mg "LIMITS" = some (.ref d) ∧ KDict K w d es n ∧ ∀ R : Ru, ∃ t, PySem.W.nsIn K d R.kind = some (some (.ref t)) ∧ WrT K t (R.lim.map V.int)
theorem nums_ok {R : Ru} (h : R.ok) {i : Nat} {x y : V} (hx : (R.nums.map V.int)[i]? = some x) (hy : (R.lim.map V.int)[i]? = some y) : ∃ n m : Int, x = .int n ∧ y = .int m ∧ 1 ≤ n ∧ n ≤ m := by
  cases R with
  | cnt b s =>
    obtain ⟨h1, h2, h3, h4⟩ : 1 ≤ b ∧ b ≤ 6 ∧ 1 ≤ s ∧ s ≤ 20 := h
    match i, hx, hy with
    | 0, hx, hy => exact ⟨b, 6, (Option.some.inj hx).symm, (Option.some.inj hy).symm, by omega, by omega⟩
    | 1, hx, hy => exact ⟨s, 20, (Option.some.inj hx).symm, (Option.some.inj hy).symm, by omega, by omega⟩
    | i + 2, hx, hy => simp [Ru.nums] at hx
  | shf b s =>
    obtain ⟨h1, h2, h3, h4⟩ : 1 ≤ b ∧ b ≤ 10 ∧ 1 ≤ s ∧ s ≤ 20 := h
    match i, hx, hy with
    | 0, hx, hy => exact ⟨b, 10, (Option.some.inj hx).symm, (Option.some.inj hy).symm, by omega, by omega⟩
    | 1, hx, hy => exact ⟨s, 20, (Option.some.inj hx).symm, (Option.some.inj hy).symm, by omega, by omega⟩
    | i + 2, hx, hy => simp [Ru.nums] at hx
  | rgh b =>
    obtain ⟨h1, h2⟩ : 1 ≤ b ∧ b ≤ 3 := h
    match i, hx, hy with
    | 0, hx, hy => exact ⟨b, 3, (Option.some.inj hx).symm, (Option.some.inj hy).symm, by omega, by omega⟩
    | i + 1, hx, hy => simp [Ru.nums] at hx
theorem nums_lim (R : Ru) : (R.nums.map V.int).length = (R.lim.map V.int).length := by cases R <;> rfl
theorem lim_short (R : Ru) : (R.lim.map V.int).length ≤ 2 := by
  cases R with
  | cnt b s => exact Nat.le_refl 2
  | shf b s => exact Nat.le_refl 2
  | rgh b => exact (by decide : 1 ≤ 2)
def spIsRule : Sp := fun vs H Q _ => ∃ (p : Addr) (R : Ru), vs = [.ref p] ∧ RuAt H p R ∧ R.ok ∧ ∀ H', Same H H' → Q (.bl true) H'
section
variable {P : Program} {w : World} {K : PySem.W.Frag} {mg : Str → Option Value} {base : Heap}
theorem sc_is_rule : FnScope ["rule", "limits", "numbers", "number", "most"] ["rule"] (defScope s_is_rule) := ⟨rfl, rfl, rfl, by decide +kernel, rfl, by decide +kernel, by decide +kernel⟩
theorem ok_is_rule (D : DefAt K mg "is_rule" s_is_rule ["rule"]) (LI : Lims K w mg) (m_len : mg "len" = none) (m_all : mg "all" = none) (m_zip : mg "zip" = none) : Cl P w K mg base 1 "is_rule" ["rule"] spIsRule := by
  refine D.cl fun f fd F => ?_
  obtain ⟨d, es, n, gL, kd, lt⟩ := LI.ex
  refine F.ok sc_is_rule (fun vs H Q E h => ?_) (fun cdv A outer s H vs Q E hr h => ?_)
  · obtain ⟨p, R, rfl, _⟩ := h
    rfl
  · obtain ⟨p, R, rfl, hp, ok, q⟩ := h
    obtain ⟨t, ht, wt⟩ := lt R
    refine ⟨_, pss_cons (ps_if (pt_cmpR (op_notIn_kd kd) (pe_ix ix_tup (pv 0) pe_int (fun _ _ => rfl)) (pe_glob (v := .ref d) (by rfl) gL rfl) (by rfl)) (pss_one ps_never) pss_nil)
      (pss_cons (ps_set (i := 1) sc_is_rule.nd rfl (Or.inl rfl) (pe_ix ix_kdict (pe_glob (v := .ref d) (by rfl) gL rfl) (pe_ix ix_tup (pv 0) pe_int (fun _ _ => rfl)) (fun _ _ => rfl)))
      (pss_cons (ps_set (i := 2) sc_is_rule.nd rfl (Or.inl rfl) (pe_slice sl_tup (pv 0) (po_some pe_int) po_none))
      (pss_cons (ps_if (pt_cmpR op_ne (pe_callB call_len_seq (by rfl) m_len PySem.boot_len (pa_cons (pv 2) pa_nil)) (pe_callB call_len_seq (by rfl) m_len PySem.boot_len (pa_cons (pv 1) pa_nil)) (nomark _)) (pss_one ps_never) pss_nil)
      (pss_one (ps_ret (pe_callB (cr_all rfl) (by rfl) m_all (by decide +kernel) (pa_cons
        (pe_lc (own := [("number", 3), ("most", 4)]) (g := gTup K 2 (gCons (gName 3) (gCons (gName 4) gNil))) (tt := tYes) rfl sc_is_rule.nd (pi_zipA (by rfl) m_zip (pa_cons (pv 2) (pa_cons (pv 1) pa_nil))) (blkOk_by (N := ["rule", "limits", "numbers", "number", "most"]) (sc := defScope s_is_rule) (by decide +kernel))
          (fun _ _ _ _ _ => by exact pg_tup rfl (pgs_cons (pg_name (i := 3) sc_is_rule.nd rfl (Or.inl rfl)) (pgs_cons (pg_name (i := 4) sc_is_rule.nd rfl (Or.inl rfl)) pgs_nil))) (fun _ _ _ _ _ => by exact pts_nil)
          (fun _ _ _ _ _ => by exact pe_chain op_le op_le pe_int (pv 3) (pv 4))) pa_nil))))))), ?_⟩
    refine ⟨_, rfl, p, _, _, _, rfl, rfl, SqT.of hp, R.at0, R.kind, _, rfl, rfl, ht, _, rfl, iteF ?_⟩
    refine ⟨_, rfl, p, _, _, _, rfl, rfl, SqT.of hp, R.at0, d, R.kind, .ref t, rfl, rfl, ⟨es, n, _, kd.at_, kd.lit, ht, rfl⟩, ?_⟩
    refine ⟨_, rfl, 1, rfl, p, R.tup, rfl, SqT.of hp, ?_, fun u nu => ?_⟩
    · have h1 : R.tup.length = (R.nums.map V.int).length + 1 := rfl
      have h2 : 1 ≤ (R.nums.map V.int).length := by cases R <;> exact Nat.succ_le_succ (Nat.zero_le _)
      rintro ⟨e, _⟩
      rw [show HT.sIx R.tup.length 0 (some 1) = min 1 R.tup.length from HT.sIx_nat _ 0 1] at e
      omega
    have su : Same H (upd H u (.tup (cutV R.tup (some 1) none))) := same_upd nu
    have eu : (upd H u (.tup (cutV R.tup (some 1) none))) u = some (.tup (R.nums.map V.int)) := by
      rw [upd_same, cut1]; rfl
    refine ⟨_, rfl, u, R.nums.map V.int, rfl, .inr (SqT.of eu), _, rfl, t, R.lim.map V.int, rfl, .inr (.inr wt), rfl, _, rfl, ?_⟩
    rw [nums_lim]
    refine iteNS rfl ?_
    refine ⟨_, rfl, _, rfl, u, t, R.nums.map V.int, R.lim.map V.int, rfl, .inr ⟨SqT.of eu, .inr wt, fun D nD => ?_⟩⟩
    refine lc_zipT (K := K) (xs := R.nums.map V.int) (ys := R.lim.map V.int) (nums_lim R) (fun i H' => Same (upd H u (.tup (cutV R.tup (some 1) none))) H' ∧ H' D = some (.lst ((List.replicate i true).map V.bl)))
      ⟨same_upd nD, upd_same⟩ (fun i H' h => ⟨SqT.of (h.1 _ _ eu), .inr wt⟩) ?_ ?_
    · rintro i x y T H' hx hy ⟨sm, hD⟩ hT
      obtain ⟨a, b, rfl, rfl, h1, h2⟩ := nums_ok ok hx hy
      have nT : D ≠ T := ne_of_none hD hT
      refine ⟨T, [.int a, .int b], rfl, .inl (.inl upd_same), rfl, .int a, [.int b], rfl, .int b, [], rfl, rfl, rfl, ?_⟩
      refine ⟨_, rfl, _, _, rfl, rfl, _, rfl, ?_⟩
      rw [decide_eq_true h1]
      refine iteT ?_
      refine ⟨_, rfl, _, _, rfl, rfl, ?_⟩
      dsimp only
      rw [decide_eq_true h2]
      refine ⟨_, (by rw [upd_ne nT]; exact hD), ?_, ?_, ?_⟩
      · rw [List.length_map, List.length_replicate]
        have : i < (R.lim.map V.int).length := (List.getElem?_eq_some_iff.mp hy).1
        have := lim_short R
        exact small1000 (by omega)
      · intro z o e
        rw [upd_ne (show z ≠ D from ne_of_none e nD), upd_ne (ne_of_none (sm _ _ e) hT)]
        exact sm _ _ e
      · rw [upd_same, List.replicate_succ', List.map_append]
        rfl
    · rintro H' ⟨sm, hD⟩
      refine ⟨D, List.replicate _ true, rfl, SqL.of hD, ?_⟩
      rw [show (List.replicate (R.nums.map V.int).length true).all id = true by simp]
      exact q H' (su.trans sm)
end
/-! ### the program: marks and ageing -/
def spCheckRule : Sp := fun vs H Q _ => ∃ (p : Addr) (R : Ru), vs = [.ref p] ∧ RuAt H p R ∧ R.ok ∧ ∀ H', Same H H' → Q .non H'
def spTopMark : Sp := fun vs H Q _ => ∃ (p : Addr) (R : Ru), vs = [.ref p] ∧ RuAt H p R ∧ R.ok ∧ Q (.int (R.most : Int)) H
def spCheckMark : Sp := fun vs H Q _ => ∃ (p : Addr) (R : Ru) (i : Int), vs = [.ref p, .int i] ∧ RuAt H p R ∧ R.ok ∧ 0 ≤ i ∧ i ≤ (R.most : Int) ∧ Q .non H
def spCheckMoment : Sp := fun vs H Q _ => ∃ (i : Int), vs = [.int i] ∧ 0 ≤ i ∧ i ≤ 1000000000 ∧ Q .non H
def spRoughly : Sp := fun vs H Q _ => ∃ (b m t n : Nat) (i1 i2 i3 i4 : Int), vs = [.int i1, .int i2, .int i3, .int i4] ∧ i1 = ((2 ^ b - 1 : Nat) : Int) ∧ i2 = (m : Int) ∧ i3 = (t : Int) ∧ i4 = ((t + n : Nat) : Int) ∧
  1 ≤ b ∧ b ≤ 3 ∧ m ≤ 2 ^ b - 1 ∧ t + n ≤ 1000000000 ∧ Q (.int (ag (.rgh b) m t n : Int)) H
def spAged : Sp := fun vs H Q _ => ∃ (p : Addr) (R : Ru) (m t n : Nat) (i1 i2 i3 : Int), vs = [.ref p, .int i1, .int i2, .int i3] ∧ i1 = (m : Int) ∧ i2 = (t : Int) ∧ i3 = ((t + n : Nat) : Int) ∧
  RuAt H p R ∧ R.ok ∧ m ≤ R.most ∧ t + n ≤ 1000000000 ∧ ∀ H', Same H H' → Q (.int (ag R m t n : Int)) H'
theorem pow_sub (k : Nat) : (2 : Int) ^ k - 1 = ((2 ^ k - 1 : Nat) : Int) := by
  have := Nat.two_pow_pos k
  have e : ((2 ^ k : Nat) : Int) = (2 : Int) ^ k := by rw [Int.natCast_pow]; rfl
  omega
theorem top_is {i : Int} {k : Nat} (h : i = (k : Int)) : (1 : Int) * 2 ^ i.toNat - 1 = ((2 ^ k - 1 : Nat) : Int) := by
  rw [h, Int.toNat_natCast, Int.one_mul, pow_sub]
theorem Ru.most_lt {R : Ru} (h : R.ok) : R.most < 2048 := by
  cases R with
  | cnt b s =>
    obtain ⟨h1, h2, h3, h4⟩ : 1 ≤ b ∧ b ≤ 6 ∧ 1 ≤ s ∧ s ≤ 20 := h
    have : 2 ^ b ≤ 2 ^ 6 := Nat.pow_le_pow_right (by decide) h2
    show 2 ^ b - 1 < 2048
    omega
  | shf b s =>
    obtain ⟨h1, h2, h3, h4⟩ : 1 ≤ b ∧ b ≤ 10 ∧ 1 ≤ s ∧ s ≤ 20 := h
    have : 2 ^ (b + 1) ≤ 2 ^ 11 := Nat.pow_le_pow_right (by decide) (by omega)
    show 2 ^ (b + 1) - 1 < 2048
    omega
  | rgh b =>
    obtain ⟨h1, h2⟩ : 1 ≤ b ∧ b ≤ 3 := h
    have : 2 ^ b ≤ 2 ^ 3 := Nat.pow_le_pow_right (by decide) h2
    show 2 ^ b - 1 < 2048
    omega
theorem next_cast (t m : Nat) : ((t : Int) / 2 ^ (m : Int).toNat + 1) * 2 ^ (m : Int).toNat = (((t / 2 ^ m + 1) * 2 ^ m : Nat) : Int) := by
  rw [Int.toNat_natCast, Int.natCast_mul, Int.natCast_add, Int.natCast_ediv, Int.natCast_pow]
  rfl
theorem kind_ne {R : Ru} {x : Str} (h : R.kind ≠ x) : decide (V.str R.kind = V.str x) = false := by rw [dec_str, decide_eq_false h]
section
variable {P : Program} {w : World} {K : PySem.W.Frag} {mg : Str → Option Value} {base : Heap}
theorem sc_check_rule : FnScope ["rule"] ["rule"] (defScope s_check_rule) := ⟨rfl, rfl, rfl, by decide +kernel, rfl, by decide +kernel, by decide +kernel⟩
theorem ok_check_rule (D : DefAt K mg "check_rule" s_check_rule ["rule"]) (C1 : Cl P w K mg base 1 "is_rule" ["rule"] spIsRule) : Cl P w K mg base 2 "check_rule" ["rule"] spCheckRule := by
  refine D.cl fun f fd F => ?_
  refine F.ok sc_check_rule (fun vs H Q E h => ?_) (fun cdv A outer s H vs Q E hr h => ?_)
  · obtain ⟨p, R, rfl, _⟩ := h
    rfl
  · obtain ⟨p, R, rfl, hp, ok, q⟩ := h
    refine ⟨_, pss_one (ps_if (pt_not (pt_val (pe_cl C1 hr (pa_cons (pv 0) pa_nil)))) (pss_one ps_never) pss_nil), ?_⟩
    exact ⟨_, rfl, p, R, rfl, hp, ok, fun H' sm => ⟨true, rfl, iteF (q H' sm)⟩⟩
theorem sc_top_mark : FnScope ["rule"] ["rule"] (defScope s_top_mark) := ⟨rfl, rfl, rfl, by decide +kernel, rfl, by decide +kernel, by decide +kernel⟩
theorem ok_top_mark (D : DefAt K mg "top_mark" s_top_mark ["rule"]) : Cl P w K mg base 1 "top_mark" ["rule"] spTopMark := by
  refine D.cl fun f fd F => ?_
  refine F.ok sc_top_mark (fun vs H Q E h => ?_) (fun cdv A outer s H vs Q E hr h => ?_)
  · obtain ⟨p, R, rfl, _⟩ := h
    rfl
  · obtain ⟨p, R, rfl, hp, ok, q⟩ := h
    have hb := R.bits_pos ok
    refine ⟨_, pss_cons (ps_if (pt_cmpR op_eq (pe_ix ix_tup (pv 0) pe_int (fun _ _ => rfl)) pe_str (nomark _)) (pss_one (ps_ret (pe_op op_sub (pe_op op_shl pe_int (pe_op op_add (pe_ix ix_tup (pv 0) pe_int (fun _ _ => rfl)) pe_int)) pe_int))) pss_nil)
      (pss_one (ps_ret (pe_op op_sub (pe_op op_shl pe_int (pe_ix ix_tup (pv 0) pe_int (fun _ _ => rfl))) pe_int))), ?_⟩
    refine ⟨_, rfl, p, _, _, _, rfl, rfl, SqT.of hp, R.at0, rfl, _, rfl, ?_⟩
    have low : ∀ _ : R.kind ≠ "shift", R.most = 2 ^ R.bits - 1 := by
      intro hk
      cases R with
      | cnt b s => rfl
      | shf b s => exact absurd rfl hk
      | rgh b => rfl
    by_cases hk : R.kind = "shift"
    · rw [dec_str, decide_eq_true hk]
      refine iteT ?_
      refine ⟨_, rfl, p, _, _, _, rfl, rfl, SqT.of hp, R.at1, _, _, rfl, rfl, _, _, rfl, rfl, ⟨by omega, by omega, by decide⟩, _, _, rfl, rfl, ?_⟩
      have e : (1 : Int) * 2 ^ ((R.bits : Int) + 1).toNat - 1 = (R.most : Int) := by
        rw [top_is (i := (R.bits : Int) + 1) (k := R.bits + 1) rfl]
        cases R with
        | cnt b s => exact absurd hk k_cs
        | shf b s => rfl
        | rgh b => exact absurd hk k_rs
      dsimp only
      rw [e]
      exact q
    · rw [dec_str, decide_eq_false hk]
      refine iteF ?_
      refine ⟨_, rfl, p, _, _, _, rfl, rfl, SqT.of hp, R.at1, _, _, rfl, rfl, ⟨by omega, by omega, by decide⟩, _, _, rfl, rfl, ?_⟩
      dsimp only
      rw [top_is (i := (R.bits : Int)) (k := R.bits) rfl, ← low hk]
      exact q
theorem sc_roughly : FnScope ["last", "mark", "begin", "end", "moment"] ["last", "mark", "begin", "end"] (defScope s_aged_roughly) := ⟨rfl, rfl, rfl, by decide +kernel, rfl, by decide +kernel, by decide +kernel⟩
theorem ok_roughly (D : DefAt K mg "_aged_roughly" s_aged_roughly ["last", "mark", "begin", "end"]) : Cl P w K mg base 1 "_aged_roughly" ["last", "mark", "begin", "end"] spRoughly := by
  refine D.cl fun f fd F => ?_
  refine F.ok sc_roughly (fun vs H Q E h => ?_) (fun cdv A outer s H vs Q E hr h => ?_)
  · obtain ⟨b, m, t, n, i1, i2, i3, i4, rfl, _⟩ := h
    rfl
  · obtain ⟨b, m, t, n, i1, i2, i3, i4, rfl, rfl, rfl, rfl, rfl, b1, b3, hm, ht, q⟩ := h
    refine ⟨_, pss_cons (ps_set (i := 4) sc_roughly.nd rfl (Or.inl rfl) (pv 2))
      (pss_cons (ps_while PassesOwn.never (pt_cmpR op_lt (pv 1) (pv 0) (nomark _))
        (pss_cons (ps_set (i := 4) sc_roughly.nd rfl (Or.inl rfl) (pe_op op_shl (pe_op op_add (pe_op op_shr (pv 4) (pv 1)) pe_int) (pv 1)))
        (pss_cons (ps_if (pt_cmpR op_gt (pv 4) (pv 3) (nomark _)) (pss_one ps_break) pss_nil)
        (pss_one (ps_aug (i := 1) sc_roughly.nd rfl (Or.inl rfl) pe_int ip_add)))))
      (pss_one (ps_ret (pv 1)))), ?_⟩
    refine ⟨_, rfl, ?_⟩
    refine while_by (fun σ H' => ∃ m' t' n' : Nat, σ = [some (.int ((2 ^ b - 1 : Nat) : Int)), some (.int (m' : Int)), some (.int (t : Int)), some (.int ((t + n : Nat) : Int)), some (.int (t' : Int))] ∧ H' = H ∧ t' + n' = t + n ∧ m' ≤ 2 ^ b - 1 ∧ ag (.rgh b) m t n = ag (.rgh b) m' t' n')
      (fun σ H' => match σ with | [_, some (.int i), _, _, _] => (((2 ^ b - 1 : Nat) : Int) - i).toNat | _ => 0) ⟨m, t, n, rfl, rfl, rfl, hm, rfl⟩ ?_ ?_
    · rintro σ H' ⟨m', t', n', rfl, rfl, e, hm', ea⟩
      have p3 : 2 ^ b ≤ 2 ^ 3 := Nat.pow_le_pow_right (by decide) b3
      refine ⟨_, rfl, _, rfl, _, _, rfl, rfl, _, rfl, ?_⟩
      by_cases c : m' < 2 ^ b - 1
      · rw [decide_eq_true (show (m' : Int) < ((2 ^ b - 1 : Nat) : Int) by omega)]
        refine iteT ?_
        have g1 := next_gt m' t'
        have g2 := next_le m' t'
        have p7 : 2 ^ m' ≤ 2 ^ 7 := Nat.pow_le_pow_right (by decide) (by omega)
        have hdiv : t' / 2 ^ m' ≤ t' := Nat.div_le_self _ _
        refine ⟨_, rfl, _, rfl, _, _, rfl, rfl, Int.natCast_nonneg _, _, _, rfl, rfl, _, rfl, _, _, rfl, rfl, ⟨Int.natCast_nonneg _, by omega, ?_⟩, ?_⟩
        · rw [Int.toNat_natCast]
          have e2 : ((t' : Int) / 2 ^ m' + 1) = ((t' / 2 ^ m' + 1 : Nat) : Int) := by
            rw [Int.natCast_add, Int.natCast_ediv, Int.natCast_pow]; rfl
          rw [e2]
          show t' / 2 ^ m' + 1 < 2 ^ 64
          have : t' ≤ 1000000000 := by omega
          have : (2 : Nat) ^ 64 = 18446744073709551616 := by decide
          omega
        · dsimp only
          rw [next_cast]
          refine ⟨_, rfl, _, rfl, _, _, rfl, rfl, _, rfl, ?_⟩
          by_cases c2 : t + n < (t' / 2 ^ m' + 1) * 2 ^ m'
          · rw [decide_eq_true (show ((t + n : Nat) : Int) < (((t' / 2 ^ m' + 1) * 2 ^ m' : Nat) : Int) by omega)]
            refine iteT ?_
            have es : ag (.rgh b) m t n = m' := by
              rw [ea]
              exact ag_rgh_still b m' t' n' (by omega)
            rw [es] at q
            exact ⟨_, rfl, q⟩
          · rw [decide_eq_false (show ¬ ((t + n : Nat) : Int) < (((t' / 2 ^ m' + 1) * 2 ^ m' : Nat) : Int) by omega)]
            refine iteF ?_
            refine ⟨_, rfl, _, _, rfl, rfl, ⟨m' + 1, (t' / 2 ^ m' + 1) * 2 ^ m', t + n - (t' / 2 ^ m' + 1) * 2 ^ m', rfl, rfl, by omega, by omega, ?_⟩, ?_⟩
            · obtain ⟨k, hk⟩ : ∃ k, n' = ((t' / 2 ^ m' + 1) * 2 ^ m' - t') + k := ⟨n' - ((t' / 2 ^ m' + 1) * 2 ^ m' - t'), by omega⟩
              rw [ea, hk, ag_add, ag_rgh_next b m' t' (by omega)]
              rw [show t' + ((t' / 2 ^ m' + 1) * 2 ^ m' - t') = (t' / 2 ^ m' + 1) * 2 ^ m' by omega]
              rw [show t + n - (t' / 2 ^ m' + 1) * 2 ^ m' = k by omega]
            · show (((2 ^ b - 1 : Nat) : Int) - ((m' : Int) + 1)).toNat < (((2 ^ b - 1 : Nat) : Int) - (m' : Int)).toNat
              omega
      · rw [decide_eq_false (show ¬ (m' : Int) < ((2 ^ b - 1 : Nat) : Int) by omega)]
        refine iteF ?_
        have es : ag (.rgh b) m t n = m' := by
          have : m' = 2 ^ b - 1 := by omega
          rw [ea, this]
          exact ag_rgh_fin b t' n'
        rw [es] at q
        exact ⟨_, rfl, q⟩
    · rintro σ H' Q1 Q2 i ⟨x, hx, y, hy, i', j', e1, e2, k, ek, qq⟩
      exact ⟨x, hx, y, hy, i', j', e1, e2, k, ek, i _ _ qq⟩
theorem sc_aged_on : FnScope ["rule", "mark", "begin", "end", "step", "times"] ["rule", "mark", "begin", "end"] (defScope s_aged_on) := ⟨rfl, rfl, rfl, by decide +kernel, rfl, by decide +kernel, by decide +kernel⟩
theorem Ru.at2 {R : Ru} (h : R.kind ≠ "rough") : atI R.tup 2 = some (.int (R.step : Int)) := by
  cases R with
  | cnt b s => exact atI_nat (j := 2) rfl
  | shf b s => exact atI_nat (j := 2) rfl
  | rgh b => exact absurd rfl h
theorem Ru.step_ok {R : Ru} (h : R.ok) : 1 ≤ R.step ∧ R.step ≤ 20 := by
  cases R with
  | cnt b s => obtain ⟨h1, h2, h3, h4⟩ : 1 ≤ b ∧ b ≤ 6 ∧ 1 ≤ s ∧ s ≤ 20 := h; exact ⟨h3, h4⟩
  | shf b s => obtain ⟨h1, h2, h3, h4⟩ : 1 ≤ b ∧ b ≤ 10 ∧ 1 ≤ s ∧ s ≤ 20 := h; exact ⟨h3, h4⟩
  | rgh b => exact ⟨Nat.le_refl 1, (by decide : 1 ≤ 20)⟩
theorem times_cast (t n s : Nat) : ((t + n : Nat) : Int) / (s : Int) - (t : Int) / (s : Int) = (((t + n) / s - t / s : Nat) : Int) := by
  have g := div_mono s (Nat.le_add_right t n)
  rw [← Int.natCast_ediv, ← Int.natCast_ediv]
  omega
theorem ok_aged_on (D : DefAt K mg "aged_on" s_aged_on ["rule", "mark", "begin", "end"]) (m_min : mg "min" = none) (C1 : Cl P w K mg base 1 "top_mark" ["rule"] spTopMark) (C2 : Cl P w K mg base 1 "_aged_roughly" ["last", "mark", "begin", "end"] spRoughly) :
    Cl P w K mg base 2 "aged_on" ["rule", "mark", "begin", "end"] spAged := by
  refine D.cl fun f fd F => ?_
  refine F.ok sc_aged_on (fun vs H Q E h => ?_) (fun cdv A outer s H vs Q E hr h => ?_)
  · obtain ⟨p, R, m, t, n, i1, i2, i3, rfl, _⟩ := h
    rfl
  · obtain ⟨p, R, m, t, n, i1, i2, i3, rfl, rfl, rfl, rfl, hp, ok, hm, ht, q⟩ := h
    have hs := R.step_ok ok
    refine ⟨_, pss_cons (ps_if (pt_cmpR op_eq (pe_ix ix_tup (pv 0) pe_int (fun _ _ => rfl)) pe_str (nomark _)) (pss_one (ps_ret (pe_cl C2 hr (pa_cons (pe_cl C1 hr (pa_cons (pv 0) pa_nil)) (pa_cons (pv 1) (pa_cons (pv 2) (pa_cons (pv 3) pa_nil))))))) pss_nil)
      (pss_cons (ps_set (i := 4) sc_aged_on.nd rfl (Or.inl rfl) (pe_ix ix_tup (pv 0) pe_int (fun _ _ => rfl)))
      (pss_cons (ps_set (i := 5) sc_aged_on.nd rfl (Or.inl rfl) (pe_op op_sub (pe_op op_fdiv (pv 3) (pv 4)) (pe_op op_fdiv (pv 2) (pv 4))))
      (pss_cons (ps_if (pt_cmpR op_eq (pe_ix ix_tup (pv 0) pe_int (fun _ _ => rfl)) pe_str (nomark _)) (pss_one (ps_ret (pe_op op_shr (pv 1) (pv 5)))) pss_nil)
      (pss_one (ps_ret (pe_callB (call_min2 rfl) (by rfl) m_min (by decide +kernel) (pa_cons (pe_op op_add (pv 1) (pv 5)) (pa_cons (pe_cl C1 hr (pa_cons (pv 0) pa_nil)) pa_nil)))))))), ?_⟩
    refine ⟨_, rfl, p, _, _, _, rfl, rfl, SqT.of hp, R.at0, rfl, _, rfl, ?_⟩
    by_cases hk : R.kind = "rough"
    · rw [dec_str, decide_eq_true hk]
      refine iteT ?_
      cases R with
      | cnt b s => exact absurd hk k_cr
      | shf b s => exact absurd hk k_sr
      | rgh b =>
        obtain ⟨b1, b3⟩ : 1 ≤ b ∧ b ≤ 3 := ok
        exact ⟨_, rfl, p, .rgh b, rfl, hp, ⟨b1, b3⟩, _, rfl, _, rfl, _, rfl, b, m, t, n, _, _, _, _, rfl, rfl, rfl, rfl, rfl, b1, b3, hm, ht, q H (Same.refl H)⟩
    · rw [dec_str, decide_eq_false hk]
      refine iteF ?_
      refine ⟨_, rfl, p, _, _, _, rfl, rfl, SqT.of hp, R.at2 hk, ?_⟩
      refine ⟨_, rfl, _, rfl, _, _, rfl, rfl, ⟨by omega, by omega⟩, _, rfl, _, rfl, _, _, rfl, rfl, ⟨by omega, by omega⟩, _, _, rfl, rfl, ?_⟩
      dsimp only
      rw [times_cast]
      refine ⟨_, rfl, p, _, _, _, rfl, rfl, SqT.of hp, R.at0, rfl, _, rfl, ?_⟩
      by_cases hk2 : R.kind = "shift"
      · rw [dec_str, decide_eq_true hk2]
        refine iteT ?_
        refine ⟨_, rfl, _, rfl, _, _, rfl, rfl, Int.natCast_nonneg _, ?_⟩
        have q' := q H (Same.refl H)
        cases R with
        | cnt b s => exact absurd hk2 k_cs
        | rgh b => exact absurd rfl hk
        | shf b s =>
          rw [ag_shf b s m t hs.1 n, Int.natCast_ediv, Int.natCast_pow] at q'
          dsimp only
          rw [Int.toNat_natCast]
          exact q'
      · rw [dec_str, decide_eq_false hk2]
        refine iteF ?_
        refine ⟨_, rfl, _, rfl, _, _, rfl, rfl, _, rfl, p, R, rfl, hp, ok, _, _, rfl, ?_⟩
        have q' := q H (Same.refl H)
        cases R with
        | shf b s => exact absurd rfl hk2
        | rgh b => exact absurd rfl hk
        | cnt b s =>
          rw [ag_cnt b s m t hs.1 hm n] at q'
          have e : (if ((Ru.cnt b s).most : Int) < (m : Int) + (((t + n) / (Ru.cnt b s).step - t / (Ru.cnt b s).step : Nat) : Int) then ((Ru.cnt b s).most : Int) else (m : Int) + (((t + n) / (Ru.cnt b s).step - t / (Ru.cnt b s).step : Nat) : Int)) =
              ((min (m + ((t + n) / s - t / s)) (2 ^ b - 1) : Nat) : Int) := by
            show (if ((2 ^ b - 1 : Nat) : Int) < (m : Int) + (((t + n) / s - t / s : Nat) : Int) then ((2 ^ b - 1 : Nat) : Int) else (m : Int) + (((t + n) / s - t / s : Nat) : Int)) = _
            split <;> omega
          rw [e]
          exact q'
end
section
variable {P : Program} {w : World} {K : PySem.W.Frag} {mg : Str → Option Value} {base : Heap}
theorem sc_check_mark : FnScope ["rule", "mark"] ["rule", "mark"] (defScope s_check_mark) := ⟨rfl, rfl, rfl, by decide +kernel, rfl, by decide +kernel, by decide +kernel⟩
theorem ok_check_mark (D : DefAt K mg "check_mark" s_check_mark ["rule", "mark"]) (C1 : Cl P w K mg base 1 "top_mark" ["rule"] spTopMark) : Cl P w K mg base 2 "check_mark" ["rule", "mark"] spCheckMark := by
  refine D.cl fun f fd F => ?_
  refine F.ok sc_check_mark (fun vs H Q E h => ?_) (fun cdv A outer s H vs Q E hr h => ?_)
  · obtain ⟨p, R, i, rfl, _⟩ := h
    rfl
  · obtain ⟨p, R, i, rfl, hp, ok, h0, h1, q⟩ := h
    refine ⟨_, pss_one (ps_if (PW.pt (pw_or (pt_cmpR op_lt (pv 1) pe_int (nomark _)) (pw_or1 (pt_cmpR op_gt (pv 1) (pe_cl C1 hr (pa_cons (pv 0) pa_nil)) (nomark _))))) (pss_one ps_never) pss_nil), ?_⟩
    refine ⟨_, rfl, _, _, rfl, rfl, _, rfl, ?_⟩
    rw [decide_eq_false (show ¬ i < 0 by omega)]
    refine iteF ⟨_, rfl, _, rfl, p, R, rfl, hp, ok, _, _, rfl, rfl, _, rfl, ?_⟩
    rw [decide_eq_false (show ¬ (R.most : Int) < i by omega)]
    exact iteF q
theorem sc_check_moment : FnScope ["moment"] ["moment"] (defScope s_check_moment) := ⟨rfl, rfl, rfl, by decide +kernel, rfl, by decide +kernel, by decide +kernel⟩
theorem ok_check_moment (D : DefAt K mg "check_moment" s_check_moment ["moment"]) {tk : Tok} (gl : mg "LAST_MOMENT" = some (.int 1000000000 tk)) : Cl P w K mg base 1 "check_moment" ["moment"] spCheckMoment := by
  refine D.cl fun f fd F => ?_
  refine F.ok sc_check_moment (fun vs H Q E h => ?_) (fun cdv A outer s H vs Q E hr h => ?_)
  · obtain ⟨i, rfl, _⟩ := h
    rfl
  · obtain ⟨i, rfl, h0, h1, q⟩ := h
    refine ⟨_, pss_one (ps_if (PW.pt (pw_or (pt_cmpR op_lt (pv 0) pe_int (nomark _)) (pw_or1 (pt_cmpR op_gt (pv 0) (pe_glob (v := .int 1000000000) (by rfl) gl ⟨_, rfl⟩) (nomark _))))) (pss_one ps_never) pss_nil), ?_⟩
    refine ⟨_, rfl, _, _, rfl, rfl, _, rfl, ?_⟩
    rw [decide_eq_false (show ¬ i < 0 by omega)]
    refine iteF ⟨_, rfl, _, _, rfl, rfl, _, rfl, ?_⟩
    rw [decide_eq_false (show ¬ (1000000000 : Int) < i by omega)]
    exact iteF q
end
/-! ### the program: what a mark tells -/
def oV : Option Nat → V
  | none => .non
  | some n => .int (n : Int)
/-- the mark of a thing that is seen -/
def seenM : Ru → Nat → Nat
  | .shf b _, m => if m < 2 ^ b then m + 2 ^ b else m
  | _, _ => 0
def spEndMark : Sp := fun vs H Q _ => ∃ (p : Addr) (R : Ru), vs = [.ref p] ∧ RuAt H p R ∧ R.ok ∧ Q (.int (R.fin : Int)) H
def spSeen : Sp := fun vs H Q _ => ∃ (p : Addr) (R : Ru) (m : Nat) (i : Int), vs = [.ref p, .int i] ∧ i = (m : Int) ∧ RuAt H p R ∧ R.ok ∧ Q (.int (seenM R m : Int)) H
def spAgings : Sp := fun vs H Q _ => ∃ (p : Addr) (R : Ru) (m : Nat) (i : Int), vs = [.ref p, .int i] ∧ i = (m : Int) ∧ RuAt H p R ∧ R.ok ∧ R.isRgh = false ∧ m ≤ R.most ∧ Q (.int (R.ags m : Int)) H
def spStepped : Sp := fun vs H Q _ => ∃ (p : Addr) (R : Ru) (now m : Nat) (i1 i2 : Int), vs = [.ref p, .int i1, .int i2] ∧ i1 = (now : Int) ∧ i2 = (m : Int) ∧ RuAt H p R ∧ R.ok ∧ R.isRgh = false ∧ m ≤ R.most ∧
  ∀ H' T x y, IsSpan R now m x y → H T = none → Same H H' → H' T = some (.tup [oV x, oV y]) → Q (.ref T) H'
def spRoughSpan : Sp := fun vs H Q _ => ∃ (p : Addr) (R : Ru) (now m : Nat) (i1 i2 : Int), vs = [.ref p, .int i1, .int i2] ∧ i1 = (now : Int) ∧ i2 = (m : Int) ∧ RuAt H p R ∧ R.ok ∧ R.isRgh = true ∧ m ≤ R.most ∧ now ≤ 1000000000 ∧
  ∀ H' T x y, IsSpan R now m x y → H T = none → Same H H' → H' T = some (.tup [oV x, oV y]) → Q (.ref T) H'
def spSpan : Sp := fun vs H Q _ => ∃ (p : Addr) (R : Ru) (now m : Nat) (i1 i2 : Int), vs = [.ref p, .int i1, .int i2] ∧ i1 = (now : Int) ∧ i2 = (m : Int) ∧ RuAt H p R ∧ R.ok ∧ m ≤ R.most ∧ now ≤ 1000000000 ∧
  ∀ H' T x y, IsSpan R now m x y → H T = none → Same H H' → H' T = some (.tup [oV x, oV y]) → Q (.ref T) H'
theorem bits_bl (n : Nat) : Builtin.Int.intBits (n : Int) = bl n := by
  unfold Builtin.Int.intBits bl
  by_cases h : n = 0
  · subst h; rfl
  · rw [if_neg h, if_neg (by simpa using h)]
    rfl
theorem bl_two (b : Nat) : bl (2 ^ b) = b + 1 := by
  have p := Nat.two_pow_pos b
  obtain ⟨h1, h2, h3⟩ := bl_pos (show 2 ^ b ≠ 0 by omega)
  have := pow_uniq h1 (show 2 ^ b < 2 ^ (bl (2 ^ b) - 1 + 1) by rw [show bl (2 ^ b) - 1 + 1 = bl (2 ^ b) by omega]; exact h2) (Nat.le_refl _) (show 2 ^ b < 2 ^ (b + 1) by rw [Nat.pow_succ]; omega)
  omega
theorem Ru.rough_iff (R : Ru) : (R.kind = "rough") ↔ R.isRgh = true := by
  cases R with
  | cnt b s => exact ⟨fun h => absurd h k_cr, fun h => nomatch h⟩
  | shf b s => exact ⟨fun h => absurd h k_sr, fun h => nomatch h⟩
  | rgh b => exact ⟨fun _ => rfl, fun _ => rfl⟩
theorem shl_is {i : Int} {k : Nat} (h : i = (k : Int)) : (1 : Int) * 2 ^ i.toNat = ((2 ^ k : Nat) : Int) := by
  rw [h, Int.toNat_natCast, Int.one_mul, Int.natCast_pow]
  rfl
section
variable {P : Program} {w : World} {K : PySem.W.Frag} {mg : Str → Option Value} {base : Heap}
theorem sc_end_mark : FnScope ["rule"] ["rule"] (defScope s_end_mark) := ⟨rfl, rfl, rfl, by decide +kernel, rfl, by decide +kernel, by decide +kernel⟩
theorem ok_end_mark (D : DefAt K mg "end_mark" s_end_mark ["rule"]) (C1 : Cl P w K mg base 1 "top_mark" ["rule"] spTopMark) : Cl P w K mg base 2 "end_mark" ["rule"] spEndMark := by
  refine D.cl fun f fd F => ?_
  refine F.ok sc_end_mark (fun vs H Q E h => ?_) (fun cdv A outer s H vs Q E hr h => ?_)
  · obtain ⟨p, R, rfl, _⟩ := h
    rfl
  · obtain ⟨p, R, rfl, hp, ok, q⟩ := h
    refine ⟨_, pss_cons (ps_if (pt_cmpR op_eq (pe_ix ix_tup (pv 0) pe_int (fun _ _ => rfl)) pe_str (nomark _)) (pss_one (ps_ret pe_int)) pss_nil) (pss_one (ps_ret (pe_cl C1 hr (pa_cons (pv 0) pa_nil)))), ?_⟩
    refine ⟨_, rfl, p, _, _, _, rfl, rfl, SqT.of hp, R.at0, rfl, _, rfl, ?_⟩
    rw [dec_str]
    by_cases hk : R.kind = "shift"
    · rw [decide_eq_true hk]
      refine iteT ?_
      cases R with
      | cnt b s => exact absurd hk k_cs
      | rgh b => exact absurd hk k_rs
      | shf b s => exact q
    · rw [decide_eq_false hk]
      refine iteF ⟨_, rfl, p, R, rfl, hp, ok, ?_⟩
      cases R with
      | cnt b s => exact q
      | rgh b => exact q
      | shf b s => exact absurd rfl hk
theorem sc_seen : FnScope ["rule", "mark", "highest_bit"] ["rule", "mark"] (defScope s_seen) := ⟨rfl, rfl, rfl, by decide +kernel, rfl, by decide +kernel, by decide +kernel⟩
theorem ok_seen (D : DefAt K mg "seen" s_seen ["rule", "mark"]) : Cl P w K mg base 1 "seen" ["rule", "mark"] spSeen := by
  refine D.cl fun f fd F => ?_
  refine F.ok sc_seen (fun vs H Q E h => ?_) (fun cdv A outer s H vs Q E hr h => ?_)
  · obtain ⟨p, R, m, i, rfl, _⟩ := h
    rfl
  · obtain ⟨p, R, m, i, rfl, rfl, hp, ok, q⟩ := h
    refine ⟨_, pss_cons (ps_if (pt_cmpR op_ne (pe_ix ix_tup (pv 0) pe_int (fun _ _ => rfl)) pe_str (nomark _)) (pss_one (ps_ret pe_int)) pss_nil)
      (pss_cons (ps_set (i := 2) sc_seen.nd rfl (Or.inl rfl) (pe_op op_shl pe_int (pe_ix ix_tup (pv 0) pe_int (fun _ _ => rfl))))
      (pss_cons (ps_if (pt_cmpR op_lt (pv 1) (pv 2) (nomark _)) (pss_one (ps_ret (pe_op op_add (pv 1) (pv 2)))) pss_nil)
      (pss_one (ps_ret (pv 1))))), ?_⟩
    refine ⟨_, rfl, p, _, _, _, rfl, rfl, SqT.of hp, R.at0, rfl, _, rfl, ?_⟩
    rw [dec_str]
    by_cases hk : R.kind = "shift"
    · rw [decide_eq_true hk]
      refine iteF ?_
      cases R with
      | cnt b s => exact absurd hk k_cs
      | rgh b => exact absurd hk k_rs
      | shf b s =>
        have hb : b ≤ 10 := ok.2.1
        refine ⟨_, rfl, p, _, _, _, rfl, rfl, SqT.of hp, Ru.at1 (.shf b s), _, _, rfl, rfl, ⟨Int.natCast_nonneg _, (by show (b : Int) ≤ 1000000; omega), by decide⟩, ?_⟩
        dsimp only
        rw [show (1 : Int) * 2 ^ (((Ru.shf b s).bits : Nat) : Int).toNat = ((2 ^ b : Nat) : Int) from shl_is (k := b) rfl]
        refine ⟨_, rfl, _, rfl, _, _, rfl, rfl, _, rfl, ?_⟩
        by_cases c : m < 2 ^ b
        · rw [decide_eq_true (show (m : Int) < ((2 ^ b : Nat) : Int) by omega)]
          refine iteT ⟨_, rfl, _, rfl, _, _, rfl, rfl, ?_⟩
          rw [show seenM (.shf b s) m = m + 2 ^ b from if_pos c] at q
          exact q
        · rw [decide_eq_false (show ¬ (m : Int) < ((2 ^ b : Nat) : Int) by omega)]
          refine iteF ⟨_, rfl, ?_⟩
          rw [show seenM (.shf b s) m = m from if_neg c] at q
          exact q
    · rw [decide_eq_false hk]
      refine iteT ?_
      cases R with
      | cnt b s => exact q
      | rgh b => exact q
      | shf b s => exact absurd rfl hk
theorem sc_agings : FnScope ["rule", "mark", "fresh"] ["rule", "mark"] (defScope s_agings) := ⟨rfl, rfl, rfl, by decide +kernel, rfl, by decide +kernel, by decide +kernel⟩
theorem ok_agings (D : DefAt K mg "_agings" s_agings ["rule", "mark"]) (C1 : Cl P w K mg base 1 "seen" ["rule", "mark"] spSeen) (C2 : Cl P w K mg base 2 "end_mark" ["rule"] spEndMark) : Cl P w K mg base 3 "_agings" ["rule", "mark"] spAgings := by
  refine D.cl fun f fd F => ?_
  refine F.ok sc_agings (fun vs H Q E h => ?_) (fun cdv A outer s H vs Q E hr h => ?_)
  · obtain ⟨p, R, m, i, rfl, _⟩ := h
    rfl
  · obtain ⟨p, R, m, i, rfl, rfl, hp, ok, nr, hm, q⟩ := h
    refine ⟨_, pss_cons (ps_set (i := 2) sc_agings.nd rfl (Or.inl rfl) (pe_cl C1 hr (pa_cons (pv 0) (pa_cons (pe_cl C2 hr (pa_cons (pv 0) pa_nil)) pa_nil))))
      (pss_cons (ps_if (pt_cmpR op_eq (pe_ix ix_tup (pv 0) pe_int (fun _ _ => rfl)) pe_str (nomark _)) (pss_one (ps_ret (pe_op op_sub (pe_bits (pv 2)) (pe_bits (pv 1))))) pss_nil)
      (pss_one (ps_ret (pe_op op_sub (pv 1) (pv 2))))), ?_⟩
    refine ⟨_, rfl, _, rfl, p, R, rfl, hp, ok, p, R, R.fin, _, rfl, rfl, hp, ok, ?_⟩
    refine ⟨_, rfl, p, _, _, _, rfl, rfl, SqT.of hp, R.at0, rfl, _, rfl, ?_⟩
    rw [dec_str]
    cases R with
    | rgh b => cases nr
    | cnt b s =>
      rw [decide_eq_false (show ¬ (Ru.cnt b s).kind = "shift" from k_cs)]
      refine iteF ⟨_, rfl, _, rfl, _, _, rfl, rfl, ?_⟩
      have e : (m : Int) - ((seenM (.cnt b s) (Ru.cnt b s).fin : Nat) : Int) = ((Ru.cnt b s).ags m : Int) := by
        show (m : Int) - ((0 : Nat) : Int) = (m : Int)
        omega
      dsimp only
      rw [e]
      exact q
    | shf b s =>
      rw [decide_eq_true (show (Ru.shf b s).kind = "shift" from rfl)]
      refine iteT ⟨_, rfl, _, rfl, _, rfl, _, rfl, _, _, rfl, rfl, ?_⟩
      have hm' : m ≤ 2 ^ (b + 1) - 1 := hm
      have pb := Nat.two_pow_pos (b + 1)
      have pb' := Nat.two_pow_pos b
      have e1 : seenM (.shf b s) (Ru.shf b s).fin = 2 ^ b := by
        exact (if_pos (show (Ru.shf b s).fin < 2 ^ b from pb')).trans (Nat.zero_add _)
      have l := bl_le (show m < 2 ^ (b + 1) by omega)
      have e : ((Builtin.Int.intBits ((seenM (.shf b s) (Ru.shf b s).fin : Nat) : Int) : Nat) : Int) - ((Builtin.Int.intBits (m : Int) : Nat) : Int) = ((Ru.shf b s).ags m : Int) := by
        rw [e1, bits_bl, bits_bl, bl_two]
        show ((b + 1 : Nat) : Int) - (bl m : Int) = ((b + 1 - bl m : Nat) : Int)
        omega
      dsimp only
      rw [e]
      exact q
theorem sc_rough : FnScope ["rule", "now", "mark", "end", "fresh", "found", "ago", "reached"] ["rule", "now", "mark"] (defScope s_rough_span) := ⟨rfl, rfl, rfl, by decide +kernel, rfl, by decide +kernel, by decide +kernel⟩
theorem ok_rough (D : DefAt K mg "_rough_span" s_rough_span ["rule", "now", "mark"]) (m_range : mg "range" = none) (C1 : Cl P w K mg base 2 "end_mark" ["rule"] spEndMark) (C2 : Cl P w K mg base 1 "seen" ["rule", "mark"] spSeen) (C3 : Cl P w K mg base 2 "aged_on" ["rule", "mark", "begin", "end"] spAged) :
    Cl P w K mg base 3 "_rough_span" ["rule", "now", "mark"] spRoughSpan := by
  refine D.cl fun f fd F => ?_
  refine F.ok sc_rough (fun vs H Q E h => ?_) (fun cdv A outer s H vs Q E hr h => ?_)
  · obtain ⟨p, R, now, m, i1, i2, rfl, _⟩ := h
    rfl
  · obtain ⟨p, R, now, m, i1, i2, rfl, rfl, rfl, hp, ok, ir, hm, hnow, q⟩ := h
    cases R with
    | cnt b s => cases ir
    | shf b s => cases ir
    | rgh b =>
    refine ⟨_, pss_cons (ps_set (i := 3) sc_rough.nd rfl (Or.inl rfl) (pe_cl C1 hr (pa_cons (pv 0) pa_nil)))
      (pss_cons (ps_set (i := 4) sc_rough.nd rfl (Or.inl rfl) (pe_cl C2 hr (pa_cons (pv 0) (pa_cons (pv 3) pa_nil))))
      (pss_cons (ps_set (i := 5) sc_rough.nd rfl (Or.inl rfl) (pe_lst pa_nil))
      (pss_cons (ps_for PassesOwn.never rfl (pi_range1 (by rfl) m_range (pa_cons (pe_op op_add (pv 1) pe_int) pa_nil)) (pg_name (i := 6) sc_rough.nd rfl (Or.inl rfl))
        (pss_cons (ps_set (i := 7) sc_rough.nd rfl (Or.inl rfl) (pe_cl C3 hr (pa_cons (pv 0) (pa_cons (pv 4) (pa_cons (pe_op op_sub (pv 1) (pv 6)) (pa_cons (pv 1) pa_nil))))))
        (pss_cons (ps_if (pt_cmpR op_eq (pv 7) (pv 2) (nomark _)) (pss_one (ps_expr (pe_bm PySem.F.plainAttrs_list PySem.F.slot_list_append PySem.F.type_list_append mt_append (pv 5) (pa_cons (pv 6) pa_nil)))) pss_nil)
        (pss_one (ps_if (pt_cmpR op_eq (pv 7) (pv 3) (nomark _)) (pss_one ps_break) pss_nil)))))
      (pss_cons (ps_if (pt_not (pt_truth (pv 5) (by intro _; rfl))) (pss_one (ps_ret (pe_tup (pa_cons pe_non (pa_cons pe_non pa_nil))))) pss_nil)
      (pss_cons (ps_if (pt_cmpR op_eq (pv 2) (pv 3) (nomark _)) (pss_one (ps_ret (pe_tup (pa_cons (pe_ix ix_list (pv 5) pe_int (fun _ _ => rfl)) (pa_cons pe_non pa_nil))))) pss_nil)
      (pss_one (ps_ret (pe_tup (pa_cons (pe_ix ix_list (pv 5) pe_int (fun _ _ => rfl)) (pa_cons (pe_ix ix_list (pv 5) (pe_un un_neg pe_int) (fun _ _ => rfl)) pa_nil)))))))))), ?_⟩
    refine ⟨_, rfl, p, .rgh b, rfl, hp, ok, ?_⟩
    refine ⟨_, rfl, _, rfl, p, .rgh b, (Ru.rgh b).fin, _, rfl, rfl, hp, ok, ?_⟩
    refine ⟨Nat.zero_le _, fun L nL => ?_⟩
    refine ⟨_, rfl, _, _, rfl, rfl, _, rfl, by omega, by omega, ?_⟩
    rw [show ((now : Int) + 1).toNat = now + 1 by omega]
    refine for_rangeB (lo := 0) (n := now + 1)
      (fun i σ H' => ∃ v6 v7 : Option V, σ = [some (.ref p), some (.int (now : Int)), some (.int (m : Int)), some (.int ((Ru.rgh b).fin : Int)), some (.int ((0 : Nat) : Int)), some (.ref L), v6, v7] ∧ Kp2 L L (upd H L (.lst [])) H' ∧
        H' L = some (.lst ((fl (.rgh b) now m i).map fun (a : Nat) => V.int (a : Int))) ∧ ∀ a, a < i → one (.rgh b) now a ≠ 2 ^ b - 1)
      (fun σ H' => ∃ (c : Nat) (v6 v7 : Option V), σ = [some (.ref p), some (.int (now : Int)), some (.int (m : Int)), some (.int ((Ru.rgh b).fin : Int)), some (.int ((0 : Nat) : Int)), some (.ref L), v6, v7] ∧ Kp2 L L (upd H L (.lst [])) H' ∧
        H' L = some (.lst ((fl (.rgh b) now m c).map fun (a : Nat) => V.int (a : Int))) ∧ Cov (.rgh b) now m c)
      ⟨none, none, rfl, Kp2.refl _ _ _, upd_same, fun a h => absurd h (Nat.not_lt_zero a)⟩ ?_ ?_ ?_
    · rintro bk hbk i σ H' hi ⟨v6, v7, rfl, kk, eL, nf⟩
      have hp' : H' p = some (.tup (Ru.rgh b).tup) := by
        have npL : p ≠ L := ne_of_none hp nL
        exact kk _ _ (by rw [upd_ne npL]; exact hp) npL npL
      have i127 : i ≤ 127 := by
        by_cases h : i ≤ 127
        · exact h
        · exact absurd (one_rgh_far ok.2 (Nat.le_refl 127)) (nf 127 (by omega))
      refine ⟨_, rfl, _, rfl, _, rfl, _, rfl, _, _, rfl, rfl, _, rfl, p, .rgh b, 0, now - i, i, _, _, _, rfl, rfl, by omega, by omega, hp', ok, Nat.zero_le _, by omega, fun H2 s2 => ?_⟩
      have eL2 := s2 _ _ eL
      have kk2 : Kp2 L L (upd H L (.lst [])) H2 := kk.trans (Same.kp2 s2)
      have oi : ag (.rgh b) 0 (now - i) i = one (.rgh b) now i := rfl
      rw [oi]
      refine ⟨_, rfl, _, rfl, rfl, _, rfl, ?_⟩
      rw [dec_int]
      -- the second test, for any list that then stands
      have fin : ∀ (H3 : Hp), Kp2 L L (upd H L (.lst [])) H3 → H3 L = some (.lst ((fl (.rgh b) now m (i + 1)).map fun (a : Nat) => V.int (a : Int))) →
          (if decide (V.int (one (.rgh b) now i : Int) = V.int ((Ru.rgh b).fin : Int)) = true then bk [some (.ref p), some (.int (now : Int)), some (.int (m : Int)), some (.int ((Ru.rgh b).fin : Int)), some (.int ((0 : Nat) : Int)), some (.ref L), some (.int (0 + (i : Int))), some (.int (one (.rgh b) now i : Int))] H3
            else ∃ v6 v7 : Option V, [some (.ref p), some (.int (now : Int)), some (.int (m : Int)), some (.int ((Ru.rgh b).fin : Int)), some (.int ((0 : Nat) : Int)), some (.ref L), some (V.int (0 + (i : Int))), some (V.int (one (.rgh b) now i : Int))] = [some (.ref p), some (.int (now : Int)), some (.int (m : Int)), some (.int ((Ru.rgh b).fin : Int)), some (.int ((0 : Nat) : Int)), some (.ref L), v6, v7] ∧ Kp2 L L (upd H L (.lst [])) H3 ∧
              H3 L = some (.lst ((fl (.rgh b) now m (i + 1)).map fun (a : Nat) => V.int (a : Int))) ∧ ∀ a, a < i + 1 → one (.rgh b) now a ≠ 2 ^ b - 1) := by
        intro H3 k3 e3
        rw [dec_int]
        by_cases z : one (.rgh b) now i = 2 ^ b - 1
        · rw [decide_eq_true (show (one (.rgh b) now i : Int) = ((Ru.rgh b).fin : Int) by rw [z]; rfl), if_pos rfl]
          exact hbk _ _ ⟨i + 1, _, _, rfl, k3, e3, cov_rgh z (by omega)⟩
        · rw [decide_eq_false (show ¬ (one (.rgh b) now i : Int) = ((Ru.rgh b).fin : Int) from fun y => z (Int.ofNat.inj y)), if_neg Bool.false_ne_true]
          refine ⟨_, _, rfl, k3, e3, fun a ha => ?_⟩
          by_cases ea : a = i
          · rw [ea]; exact z
          · exact nf a (by omega)
      by_cases c : one (.rgh b) now i = m
      · rw [decide_eq_true (show (one (.rgh b) now i : Int) = (m : Int) by omega)]
        refine iteT ⟨_, rfl, .inl ⟨rfl, _, SqL.of eL2⟩, _, rfl, L, _, _, rfl, rfl, eL2, ?_, ?_⟩
        · rw [List.length_map]
          exact small1000 (Nat.le_trans (fl_len _ _ _ _) (by omega))
        · have e3 : (upd H2 L (.lst ((fl (.rgh b) now m i).map (fun (a : Nat) => V.int (a : Int)) ++ [V.int (0 + (i : Int))]))) L = some (.lst ((fl (.rgh b) now m (i + 1)).map fun (a : Nat) => V.int (a : Int))) := by
            rw [upd_same, fl_succ, if_pos (by rw [poss_rgh, decide_eq_true c]), List.map_append, Int.zero_add]
            rfl
          exact ⟨_, rfl, _, rfl, rfl, _, rfl, fin _ (fun x o e n1 n2 => by rw [upd_ne n1]; exact kk2 x o e n1 n2) e3⟩
      · rw [decide_eq_false (show ¬ (one (.rgh b) now i : Int) = (m : Int) by omega)]
        refine iteF ?_
        refine ⟨_, rfl, _, rfl, rfl, _, rfl, fin _ kk2 ?_⟩
        rw [fl_succ, if_neg (by rw [poss_rgh, decide_eq_false c]; exact Bool.false_ne_true)]
        exact eL2
    · rintro σ H' ⟨v6, v7, rfl, kk, eL, nf⟩
      exact ⟨now + 1, v6, v7, rfl, kk, eL, cov_end _ _ _⟩
    · rintro σ H' ⟨c, v6, v7, rfl, kk, eL, cov⟩
      have sm : Same H H' := fun x o e => by
        have nx : x ≠ L := ne_of_none e nL
        exact kk x o (by rw [upd_ne nx]; exact e) nx nx
      refine ⟨_, rfl, _, .inl ⟨_, SqL.of eL, rfl⟩, ?_⟩
      cases ef : fl (.rgh b) now m c with
      | nil =>
        refine iteT ⟨(by show 2 ≤ sizeLine; decide), fun T nT => ?_⟩
        exact q _ T none none (span_nil cov ef) (sm.free nT) (sm.trans (same_upd nT)) upd_same
      | cons lo r =>
        rw [ef] at eL
        obtain ⟨f1, f2⟩ := fl_head ef
        have a0 : atI ((lo :: r).map fun (a : Nat) => V.int (a : Int)) 0 = some (.int (lo : Int)) := atI_nat (j := 0) rfl
        refine iteF ⟨_, rfl, _, rfl, rfl, _, rfl, ?_⟩
        rw [dec_int]
        by_cases e : m = 2 ^ b - 1
        · rw [decide_eq_true (show (m : Int) = ((Ru.rgh b).fin : Int) by rw [e]; rfl)]
          refine iteT ⟨_, rfl, L, _, _, _, rfl, rfl, SqL.of eL, a0, (by show 2 ≤ sizeLine; decide), fun T nT => ?_⟩
          exact q _ T (some lo) none (span_some cov f1 f2 (.inl ⟨e, rfl⟩)) (sm.free nT) (sm.trans (same_upd nT)) upd_same
        · rw [decide_eq_false (show ¬ (m : Int) = ((Ru.rgh b).fin : Int) from fun y => e (Int.ofNat.inj y))]
          have hl : lo :: r = (lo :: r).dropLast ++ [(lo :: r).getLast (List.cons_ne_nil _ _)] := (List.dropLast_concat_getLast _).symm
          generalize (lo :: r).dropLast = ini at hl
          generalize (lo :: r).getLast (List.cons_ne_nil _ _) = hi at hl
          have al : atI ((lo :: r).map fun (a : Nat) => V.int (a : Int)) (-1) = some (.int (hi : Int)) := by
            rw [hl, List.map_append]
            exact atI_last _ _
          have g := fl_last (ef.trans hl)
          refine iteF ⟨_, rfl, L, _, _, _, rfl, rfl, SqL.of eL, a0, _, rfl, 1, rfl, L, _, _, _, rfl, rfl, SqL.of eL, al, (by show 2 ≤ sizeLine; decide), fun T nT => ?_⟩
          exact q _ T (some lo) (some hi) (span_some cov f1 f2 (.inr ⟨e, hi, rfl, g.1, g.2⟩)) (sm.free nT) (sm.trans (same_upd nT)) upd_same
end
section
variable {P : Program} {w : World} {K : PySem.W.Frag} {mg : Str → Option Value} {base : Heap}
theorem sc_stepped : FnScope ["rule", "now", "mark", "step", "run", "first", "latest"] ["rule", "now", "mark"] (defScope s_stepped_span) := ⟨rfl, rfl, rfl, by decide +kernel, rfl, by decide +kernel, by decide +kernel⟩
theorem ok_stepped (D : DefAt K mg "_stepped_span" s_stepped_span ["rule", "now", "mark"]) (m_min : mg "min" = none) (C1 : Cl P w K mg base 3 "_agings" ["rule", "mark"] spAgings) (C2 : Cl P w K mg base 2 "end_mark" ["rule"] spEndMark) :
    Cl P w K mg base 4 "_stepped_span" ["rule", "now", "mark"] spStepped := by
  refine D.cl fun f fd F => ?_
  refine F.ok sc_stepped (fun vs H Q E h => ?_) (fun cdv A outer s H vs Q E hr h => ?_)
  · obtain ⟨p, R, now, m, i1, i2, rfl, _⟩ := h
    rfl
  · obtain ⟨p, R, now, m, i1, i2, rfl, rfl, rfl, hp, ok, nr, hm, q⟩ := h
    have hs := R.step_ok ok
    have hk : R.kind ≠ "rough" := fun z => by
      rw [(R.rough_iff).mp z] at nr
      cases nr
    refine ⟨_, pss_cons (ps_set (i := 3) sc_stepped.nd rfl (Or.inl rfl) (pe_ix ix_tup (pv 0) pe_int (fun _ _ => rfl)))
      (pss_cons (ps_set (i := 4) sc_stepped.nd rfl (Or.inl rfl) (pe_op op_sub (pe_op op_fdiv (pv 1) (pv 3)) (pe_cl C1 hr (pa_cons (pv 0) (pa_cons (pv 2) pa_nil)))))
      (pss_cons (ps_if (pt_cmpR op_lt (pv 4) pe_int (nomark _)) (pss_one (ps_ret (pe_tup (pa_cons pe_non (pa_cons pe_non pa_nil))))) pss_nil)
      (pss_cons (ps_set (i := 5) sc_stepped.nd rfl (Or.inl rfl) (pe_op op_mul (pv 4) (pv 3)))
      (pss_cons (ps_set (i := 6) sc_stepped.nd rfl (Or.inl rfl) (pe_callB (call_min2 rfl) (by rfl) m_min (by decide +kernel) (pa_cons (pv 1) (pa_cons (pe_op op_sub (pe_op op_add (pv 5) (pv 3)) pe_int) pa_nil))))
      (pss_cons (ps_if (pt_cmpR op_eq (pv 2) (pe_cl C2 hr (pa_cons (pv 0) pa_nil)) (nomark _)) (pss_one (ps_ret (pe_tup (pa_cons (pe_op op_sub (pv 1) (pv 6)) (pa_cons pe_non pa_nil))))) pss_nil)
      (pss_one (ps_ret (pe_tup (pa_cons (pe_op op_sub (pv 1) (pv 6)) (pa_cons (pe_op op_sub (pv 1) (pv 5)) pa_nil)))))))))), ?_⟩
    refine ⟨_, rfl, p, _, _, _, rfl, rfl, SqT.of hp, R.at2 hk, ?_⟩
    refine ⟨_, rfl, _, rfl, _, _, rfl, rfl, ⟨by omega, by omega⟩, _, rfl, _, rfl, p, R, m, _, rfl, rfl, hp, ok, nr, hm, _, _, rfl, rfl, ?_⟩
    refine ⟨_, rfl, _, _, rfl, rfl, _, rfl, ?_⟩
    have en : (now : Int) / (R.step : Int) = ((now / R.step : Nat) : Int) := rfl
    rw [en]
    by_cases c : now / R.step < R.ags m
    · rw [decide_eq_true (show ((now / R.step : Nat) : Int) - (R.ags m : Int) < 0 by omega)]
      refine iteT ⟨(by show 2 ≤ sizeLine; decide), fun T nT => ?_⟩
      exact q _ T none none (span_stp_none nr hs.1 hm c) nT (same_upd nT) upd_same
    · rw [decide_eq_false (show ¬ ((now / R.step : Nat) : Int) - (R.ags m : Int) < 0 by omega)]
      refine iteF ?_
      obtain ⟨run, hrun⟩ : ∃ run, now / R.step = R.ags m + run := ⟨now / R.step - R.ags m, by omega⟩
      obtain ⟨sp, f1⟩ := span_stp_some nr hs.1 hm hrun rfl rfl
      dsimp only
      rw [show ((now / R.step : Nat) : Int) - (R.ags m : Int) = (run : Int) by omega]
      refine ⟨_, rfl, _, rfl, _, _, rfl, rfl, .inr (le64 (by omega) (by omega)), ?_⟩
      refine ⟨_, rfl, _, rfl, _, rfl, _, _, rfl, rfl, _, _, rfl, rfl, _, _, rfl, ?_⟩
      have em : (if (run : Int) * (R.step : Int) + (R.step : Int) - 1 < (now : Int) then (run : Int) * (R.step : Int) + (R.step : Int) - 1 else (now : Int)) = ((min now (run * R.step + R.step - 1) : Nat) : Int) := by
        rw [show (run : Int) * (R.step : Int) = ((run * R.step : Nat) : Int) from rfl]
        split <;> omega
      dsimp only
      rw [em]
      refine ⟨_, rfl, _, rfl, p, R, rfl, hp, ok, rfl, _, rfl, ?_⟩
      rw [dec_int]
      have lx : ((now : Int) - ((min now (run * R.step + R.step - 1) : Nat) : Int)) = ((now - min now (run * R.step + R.step - 1) : Nat) : Int) := by omega
      by_cases e : m = R.fin
      · rw [decide_eq_true (show (m : Int) = (R.fin : Int) by omega)]
        refine iteT ⟨_, rfl, _, rfl, _, _, rfl, rfl, (by show 2 ≤ sizeLine; decide), fun T nT => ?_⟩
        rw [if_pos e] at sp
        refine q _ T _ _ sp nT (same_upd nT) ?_
        rw [upd_same]
        dsimp only
        rw [lx]
        rfl
      · rw [decide_eq_false (show ¬ (m : Int) = (R.fin : Int) by omega)]
        refine iteF ⟨_, rfl, _, rfl, _, _, rfl, rfl, _, rfl, _, rfl, _, _, rfl, rfl, (by show 2 ≤ sizeLine; decide), fun T nT => ?_⟩
        rw [if_neg e] at sp
        refine q _ T _ _ sp nT (same_upd nT) ?_
        rw [upd_same]
        dsimp only
        rw [lx, show (now : Int) - (run : Int) * (R.step : Int) = ((now - run * R.step : Nat) : Int) by
          rw [show (run : Int) * (R.step : Int) = ((run * R.step : Nat) : Int) from rfl]
          omega]
        rfl
theorem sc_span : FnScope ["rule", "now", "mark"] ["rule", "now", "mark"] (defScope s_span) := ⟨rfl, rfl, rfl, by decide +kernel, rfl, by decide +kernel, by decide +kernel⟩
theorem ok_span (D : DefAt K mg "span" s_span ["rule", "now", "mark"]) (C1 : Cl P w K mg base 2 "check_rule" ["rule"] spCheckRule) (C2 : Cl P w K mg base 1 "check_moment" ["moment"] spCheckMoment) (C3 : Cl P w K mg base 2 "check_mark" ["rule", "mark"] spCheckMark)
    (C4 : Cl P w K mg base 3 "_rough_span" ["rule", "now", "mark"] spRoughSpan) (C5 : Cl P w K mg base 4 "_stepped_span" ["rule", "now", "mark"] spStepped) : Cl P w K mg base 5 "span" ["rule", "now", "mark"] spSpan := by
  refine D.cl fun f fd F => ?_
  refine F.ok sc_span (fun vs H Q E h => ?_) (fun cdv A outer s H vs Q E hr h => ?_)
  · obtain ⟨p, R, now, m, i1, i2, rfl, _⟩ := h
    rfl
  · obtain ⟨p, R, now, m, i1, i2, rfl, rfl, rfl, hp, ok, hm, hnow, q⟩ := h
    refine ⟨_, pss_cons (ps_expr (pe_cl C1 hr (pa_cons (pv 0) pa_nil)))
      (pss_cons (ps_expr (pe_cl C2 hr (pa_cons (pv 1) pa_nil)))
      (pss_cons (ps_expr (pe_cl C3 hr (pa_cons (pv 0) (pa_cons (pv 2) pa_nil))))
      (pss_cons (ps_if (pt_cmpR op_eq (pe_ix ix_tup (pv 0) pe_int (fun _ _ => rfl)) pe_str (nomark _)) (pss_one (ps_ret (pe_cl C4 hr (pa_cons (pv 0) (pa_cons (pv 1) (pa_cons (pv 2) pa_nil)))))) pss_nil)
      (pss_one (ps_ret (pe_cl C5 hr (pa_cons (pv 0) (pa_cons (pv 1) (pa_cons (pv 2) pa_nil))))))))), ?_⟩
    refine ⟨_, rfl, p, R, rfl, hp, ok, fun H1 s1 => ?_⟩
    have hp1 := s1 _ _ hp
    refine ⟨_, rfl, _, rfl, by omega, by omega, ?_⟩
    refine ⟨_, rfl, _, rfl, p, R, _, rfl, hp1, ok, by omega, by omega, ?_⟩
    refine ⟨_, rfl, p, _, _, _, rfl, rfl, SqT.of hp1, R.at0, rfl, _, rfl, ?_⟩
    rw [dec_str]
    cases er : R.isRgh with
    | true =>
      rw [decide_eq_true ((R.rough_iff).mpr er)]
      exact iteT ⟨_, rfl, _, rfl, _, rfl, p, R, now, m, _, _, rfl, rfl, rfl, hp1, ok, er, hm, hnow, fun H' T x y i n s2 e => q H' T x y i (s1.free n) (s1.trans s2) e⟩
    | false =>
      rw [decide_eq_false (fun z => by rw [(R.rough_iff).mp z] at er; cases er)]
      exact iteF ⟨_, rfl, _, rfl, _, rfl, p, R, now, m, _, _, rfl, rfl, rfl, hp1, ok, er, hm, fun H' T x y i n s2 e => q H' T x y i (s1.free n) (s1.trans s2) e⟩
end
/-! ### a seen mark is fresh -/
theorem seen_shf {b s m : Nat} : seenM (.shf b s) m = if m < 2 ^ b then m + 2 ^ b else m := rfl
theorem seen_fresh {R : Ru} {m : Nat} (hm : m ≤ R.most) : Fresh R (seenM R m) := by
  cases R with
  | cnt b s => exact (rfl : (0 : Nat) = 0)
  | rgh b => exact (rfl : (0 : Nat) = 0)
  | shf b s =>
    have hm' : m ≤ 2 ^ (b + 1) - 1 := hm
    have pb := Nat.two_pow_pos b
    rw [Nat.pow_succ] at hm'
    show 2 ^ b ≤ seenM (.shf b s) m ∧ seenM (.shf b s) m < 2 * 2 ^ b
    rw [seen_shf]
    split <;> omega
/-! ### what stands behind a change; lists of marks -/
/-- all but some objects stands as it was -/
def KpL (L : List Addr) (H H' : Hp) : Prop := ∀ b o, H b = some o → ¬ b ∈ L → H' b = some o
theorem KpL.refl (L : List Addr) (H : Hp) : KpL L H H := fun _ _ e _ => e
theorem KpL.trans {L : List Addr} {H H1 H2 : Hp} (a : KpL L H H1) (b : KpL L H1 H2) : KpL L H H2 := fun x o e n => b x o (a x o e n) n
theorem KpL.mono {L L' : List Addr} {H H1 : Hp} (a : KpL L H H1) (h : ∀ x, x ∈ L → x ∈ L') : KpL L' H H1 := fun x o e n => a x o e fun z => n (h x z)
theorem Same.kpL {L : List Addr} {H H1 : Hp} (a : Same H H1) : KpL L H H1 := fun b o e _ => a b o e
theorem KpL.free {L : List Addr} {H H1 : Hp} (a : KpL L H H1) {x : Addr} (h : H1 x = none) (n : ¬ x ∈ L) : H x = none := by
  cases q : H x with
  | none => rfl
  | some o =>
    rw [a x o q n] at h
    cases h
def nvs (ms : List Nat) : List V := (ms.map Int.ofNat).map V.int
theorem rep_one (k : Nat) (v : V) : (List.replicate k [v]).flatten = List.replicate k v := by
  induction k with
  | zero => rfl
  | succ k ih => rw [List.replicate_succ, List.flatten_cons, ih, List.replicate_succ]; rfl
theorem nvs_len (ms : List Nat) : (nvs ms).length = ms.length := by
  unfold nvs
  rw [List.length_map, List.length_map]
theorem nvs_get {ms : List Nat} {j : Nat} (h : j < ms.length) : (nvs ms)[j]? = some (.int ((ms.getD j 0 : Nat) : Int)) := by
  unfold nvs
  rw [List.getElem?_map, List.getElem?_map, List.getElem?_eq_getElem h, List.getD_eq_getElem?_getD, List.getElem?_eq_getElem h]
  rfl
theorem nvs_set (ms : List Nat) (j x : Nat) : (nvs ms).set j (.int (x : Int)) = nvs (ms.set j x) := by
  unfold nvs
  rw [List.map_set, List.map_set]
  rfl
theorem getD_mem {ms : List Nat} {j : Nat} (h : j < ms.length) : ms.getD j 0 ∈ ms := by
  rw [List.getD_eq_getElem?_getD, List.getElem?_eq_getElem h]
  exact List.getElem_mem h
theorem Kp2.kpL {h c : Addr} {H H' : Hp} (k : Kp2 h c H H') : KpL [h, c] H H' := fun b o e n => k b o e (fun z => n (by rw [z]; simp)) (fun z => n (by rw [z]; simp))
theorem nin2 {x a b : Addr} (h1 : x ≠ a) (h2 : x ≠ b) : ¬ x ∈ [a, b] := by
  intro z
  rcases List.mem_cons.mp z with z | z
  · exact h1 z
  · exact h2 (List.mem_singleton.mp z)
/-! ### methods and errors by their promises -/
/-- a method by its promise alone -/
def ClM (P : Program) (w : World) (K : PySem.W.Frag) (mg : Str → Option Value) (base : Heap) (CX : CXT) (k : Nat) (C : Addr) (m : Str) (ps : List Str) (sp : Sp) : Prop :=
  ∃ (f : Addr) (fd : FuncData), FnOk P w K mg base CX k f fd ps sp ∧ Meth K C m f ∧ Binds K fd ps []
theorem pe_cm {X : Cx} {CX : CXT} {E : XK} {j k : Nat} {C : Addr} {m : Str} {ps : List Str} {sp : Sp} {o e : Expr} {es : List Expr} {ta : TE} {t : TA} {apos pos : Pos} {pl : Sem Bool} (D : ClM X.prog X.w X.K X.mg X.base CX k C m ps sp) (c : Cls X.K C)
    (hx : Passes CX X E) (hr : Room j X.A) (he : PE X o ta) (ha : PA X (e :: es) t) (hk : k ≤ j := by decide)
    (hst : starEach (e :: es) X.env = (false, eval e X.env) :: starEach es X.env := by rfl) (hpl : (backTo pos (starEach es X.env)).any (·.1) = false := by rfl)
    (ht : eval (.Call (.Attribute o m apos) (e :: es) [] pos) X.env = (do
      let ov ← eval o X.env
      standAt apos.atName
      let (f, first) ← holding [ov] (getMethod ov m pl)
      callWith pos f first (backTo pos (starEach (e :: es) X.env)) (backToKw pos (keywordEach [] X.env))) := by rfl) :
    PE X (.Call (.Attribute o m apos) (e :: es) [] pos) (tMeth C m sp [] E ta t) := by
  obtain ⟨f, fd, G, M, b⟩ := D
  exact pe_meth he c M G (hr.mono hk) b .nil hx ha hst hpl ht
theorem pe_cm0 {X : Cx} {CX : CXT} {E : XK} {j k : Nat} {C : Addr} {m : Str} {ps : List Str} {sp : Sp} {o : Expr} {ta : TE} {apos pos : Pos} {pl : Sem Bool} (D : ClM X.prog X.w X.K X.mg X.base CX k C m ps sp) (c : Cls X.K C)
    (hx : Passes CX X E) (hr : Room j X.A) (he : PE X o ta) (hk : k ≤ j := by decide)
    (ht : eval (.Call (.Attribute o m apos) [] [] pos) X.env = (do
      let ov ← eval o X.env
      standAt apos.atName
      let (f, first) ← holding [ov] (getMethod ov m pl)
      callWith pos f first (backTo pos (starEach [] X.env)) (backToKw pos (keywordEach [] X.env))) := by rfl) :
    PE X (.Call (.Attribute o m apos) [] [] pos) (tMeth C m sp [] E ta tNil) := by
  obtain ⟨f, fd, G, M, b⟩ := D
  exact pe_meth0 he c M G (hr.mono hk) b .nil hx ht
/-- a method as the top has left it -/
def DefM (K : PySem.W.Frag) (C : Addr) (m q : Str) (st : Stmt) (ps : List Str) : Prop :=
  ∃ (f : Addr) (fd : FuncData), Fun K m q st f fd ∧ Meth K C m f ∧ Binds K fd ps []
theorem DefM.cl {P : Program} {w : World} {K : PySem.W.Frag} {mg : Str → Option Value} {base : Heap} {CX : CXT} {k : Nat} {C : Addr} {m q : Str} {st : Stmt} {ps : List Str} {sp : Sp} (D : DefM K C m q st ps)
    (h : ∀ f fd, Fun K m q st f fd → FnOk P w K mg base CX k f fd ps sp) : ClM P w K mg base CX k C m ps sp := by
  obtain ⟨f, fd, F, g, b⟩ := D
  exact ⟨f, fd, h f fd F, g, b⟩
theorem defM_mk {K : PySem.W.Frag} {C : Addr} {m q : Str} {st : Stmt} {ps : List Str} {f : Addr} {od an : Option Addr} {sl : Array (Option Value)} {oc kV dc pm cd ct : Value}
    (a : PySem.W.findIn K (.ref C) m = some (some (.ref f))) (i : PySem.W.isFn K (.ref f) = true) (l : K.lookup f = some ⟨oc, od, .func (PySem.W.fnOf m q (defArgs st) (defBody st) (defScope st) .none kV dc pm an cd ct), sl⟩) (c : PySem.W.codeIn K cd q = true) (k : PySem.W.keepIn K (.ref f) = true)
    (hb : ∀ (kV doc pm : Value) (an : Option Addr) (cdv ct : Value) (us : List Value), us.length = ps.length → bindArgs (PySem.W.fnOf m q (defArgs st) (defBody st) (defScope st) .none kV doc pm an cdv ct) ⟨us, []⟩ = pure (ps.zip us)) : DefM K C m q st ps := by
  have F := fun_mk (st := st) l c k
  exact ⟨f, _, F, ⟨a, i, k⟩, F.binds hb⟩
/-- an own error's class -/
structure ErrC (K : PySem.W.Frag) (mg : Str → Option Value) (x : Str) (c : Addr) : Prop where
  g : mg x = some (.ref c)
  x : PySem.W.excIn K c [.type "ValueError", .type "Exception", .type "BaseException", .type "object"] "ValueError.__new__" = true
  k : PySem.W.keepIn K (.ref c) = true
  b : PySem.W.subIn K (.ref c) (.type "BaseException") = some true
  t : PySem.W.typeIn K (.ref c) = some (.type "type")
theorem ps_err {X : Cx} {W : WX} {x m : Str} {c : Addr} {j : Nat} {p p2 pos pos2 : Pos} (hc : X.calm = true) (tk : Takes X W) (e : ErrC X.K X.mg x c) (hg : Gl X x) (hdb : (x == ("__debug__" : Str)) = false := by decide) :
    PS X (.Raise (some (.Call (.Name x p) [.Constant (.str m) j p2] [] pos)) none pos2) (fun _ σ H => W (.ref c) none σ H) :=
  ps_raise hc tk (pmk_own PySem.F.excBase_ValueError e.x e.g e.k (raises_own e.b e.t) hg hdb)
/-- a def that may raise, by its promise -/
def ClX (P : Program) (w : World) (K : PySem.W.Frag) (mg : Str → Option Value) (base : Heap) (k : Nat) (x : Str) (ps : List Str) (sp : Sp) : Prop :=
  ∃ (f : Addr) (fd : FuncData), FnOk P w K mg base (L2.CX P w) k f fd ps sp ∧ mg x = some (.ref f) ∧ PySem.W.keepIn K (.ref f) = true ∧ Binds K fd ps []
theorem pe_clx {X : Cx} {E : XK} {j k : Nat} {x : Str} {ps : List Str} {sp : Sp} {e : Expr} {es : List Expr} {t : TA} {p pos : Pos} (D : ClX X.prog X.w X.K X.mg X.base k x ps sp) (hx : Passes (L2.CX X.prog X.w) X E) (hr : Room j X.A) (ha : PA X (e :: es) t) (hk : k ≤ j := by decide) (hg : Gl X x := by rfl)
    (hdb : (x == ("__debug__" : Str)) = false := by decide) (he : starEach (e :: es) X.env = (false, eval e X.env) :: starEach es X.env := by rfl) (hpl : (backTo pos (starEach es X.env)).any (·.1) = false := by rfl) :
    PE X (.Call (.Name x p) (e :: es) [] pos) (tCall sp [] E t) := by
  obtain ⟨f, fd, G, g, kp, b⟩ := D
  exact pe_call G (hr.mono hk) hg g kp b .nil hx ha hdb he hpl
theorem DefAt.clx {P : Program} {w : World} {K : PySem.W.Frag} {mg : Str → Option Value} {base : Heap} {k : Nat} {x : Str} {st : Stmt} {ps : List Str} {sp : Sp} (D : DefAt K mg x st ps)
    (h : ∀ f fd, Fun K x x st f fd → FnOk P w K mg base (L2.CX P w) k f fd ps sp) : ClX P w K mg base k x ps sp := by
  obtain ⟨f, fd, F, g, b⟩ := D
  exact ⟨f, fd, h f fd F, g, F.kp, b⟩
/-! ### the program: boards -/
theorem kRM : ¬ (("_rule" : Str) = "_marks") := by decide +kernel
theorem kRT : ¬ (("_rule" : Str) = "_moment") := by decide +kernel
theorem kMT : ¬ (("_marks" : Str) = "_moment") := by decide +kernel
def bfl (p am : Addr) (now : Nat) : List (Str × V) := putF "_moment" (.int (now : Int)) (putF "_marks" (.ref am) (putF "_rule" (.ref p) []))
theorem bfl_eq (p am : Addr) (now : Nat) : bfl p am now = ([("_rule", V.ref p), ("_marks", V.ref am), ("_moment", V.int (now : Int))] : List (Str × V)) := by
  have e : putF "_marks" (.ref am) ([("_rule", V.ref p)] : List (Str × V)) = ([("_rule", V.ref p), ("_marks", V.ref am)] : List (Str × V)) := by
    show (if ("_rule" : Str) = "_marks" then [(("_rule" : Str), V.ref am)] else (("_rule" : Str), V.ref p) :: putF "_marks" (V.ref am) []) = ([("_rule", V.ref p), ("_marks", V.ref am)] : List (Str × V))
    rw [if_neg kRM]
    rfl
  show putF "_moment" (.int (now : Int)) (putF "_marks" (.ref am) ([("_rule", V.ref p)] : List (Str × V))) = ([("_rule", V.ref p), ("_marks", V.ref am), ("_moment", V.int (now : Int))] : List (Str × V))
  rw [e]
  show (if ("_rule" : Str) = "_moment" then _ else (("_rule" : Str), V.ref p) :: (if ("_marks" : Str) = "_moment" then _ else (("_marks" : Str), V.ref am) :: putF "_moment" (V.int (now : Int)) [])) = ([("_rule", V.ref p), ("_marks", V.ref am), ("_moment", V.int (now : Int))] : List (Str × V))
  rw [if_neg kRT, if_neg kMT]
  rfl
theorem bfl_rule (p am : Addr) (now : Nat) : (bfl p am now).lookup ("_rule" : Str) = some (.ref p) := by
  unfold bfl
  rw [lookup_putF, if_neg kRT, lookup_putF, if_neg kRM, lookup_putF, if_pos rfl]
theorem bfl_marks (p am : Addr) (now : Nat) : (bfl p am now).lookup ("_marks" : Str) = some (.ref am) := by
  unfold bfl
  rw [lookup_putF, if_neg kMT, lookup_putF, if_pos rfl]
theorem bfl_moment (p am : Addr) (now : Nat) : (bfl p am now).lookup ("_moment" : Str) = some (.int (now : Int)) := by
  unfold bfl
  rw [lookup_putF, if_pos rfl]
theorem bfl_no (p am : Addr) (now : Nat) {m : Str} (h1 : ¬ m = "_moment") (h2 : ¬ m = "_marks") (h3 : ¬ m = "_rule") : (bfl p am now).lookup m = none := by
  unfold bfl
  rw [lookup_putF, if_neg h1, lookup_putF, if_neg h2, lookup_putF, if_neg h3]
  rfl
theorem bfl_put_marks (p am am' : Addr) (now : Nat) : putF "_marks" (.ref am') (bfl p am now) = bfl p am' now := by
  rw [bfl_eq, bfl_eq]
  show (if ("_rule" : Str) = "_marks" then _ else (("_rule" : Str), V.ref p) :: (if ("_marks" : Str) = "_marks" then (("_marks" : Str), V.ref am') :: [(("_moment" : Str), V.int (now : Int))] else _)) = ([("_rule", V.ref p), ("_marks", V.ref am'), ("_moment", V.int (now : Int))] : List (Str × V))
  rw [if_neg kRM, if_pos rfl]
theorem bfl_put_moment (p am : Addr) (now t : Nat) : putF "_moment" (.int (t : Int)) (bfl p am now) = bfl p am t := by
  rw [bfl_eq, bfl_eq]
  show (if ("_rule" : Str) = "_moment" then _ else (("_rule" : Str), V.ref p) :: (if ("_marks" : Str) = "_moment" then _ else (("_marks" : Str), V.ref am) :: (if ("_moment" : Str) = "_moment" then (("_moment" : Str), V.int (t : Int)) :: [] else _))) = ([("_rule", V.ref p), ("_marks", V.ref am), ("_moment", V.int (t : Int))] : List (Str × V))
  rw [if_neg kRT, if_neg kMT, if_pos rfl]
/-- a board stands at b, its marks at am -/
structure BAt (C : Addr) (H : Hp) (b p am : Addr) (R : Ru) (ms : List Nat) (now : Nat) : Prop where
  ob : ∃ dx, H b = some (.ins C dx (bfl p am now))
  rl : RuAt H p R
  mrk : H am = some (.lst (nvs ms))
  few : ms.length ≤ 8
  bd : ∀ x, x ∈ ms → x ≤ R.most
  ok : R.ok
theorem BAt.kp {C : Addr} {H H' : Hp} {b p am : Addr} {R : Ru} {ms : List Nat} {now : Nat} (a : BAt C H b p am R ms now) {L : List Addr} (k : KpL L H H') (n1 : ¬ b ∈ L) (n2 : ¬ p ∈ L) (n3 : ¬ am ∈ L) : BAt C H' b p am R ms now :=
  ⟨let ⟨dx, e⟩ := a.ob; ⟨dx, k _ _ e n1⟩, k _ _ a.rl n2, k _ _ a.mrk n3, a.few, a.bd, a.ok⟩
theorem BAt.same {C : Addr} {H H' : Hp} {b p am : Addr} {R : Ru} {ms : List Nat} {now : Nat} (a : BAt C H b p am R ms now) (k : Same H H') : BAt C H' b p am R ms now :=
  ⟨let ⟨dx, e⟩ := a.ob; ⟨dx, k _ _ e⟩, k _ _ a.rl, k _ _ a.mrk, a.few, a.bd, a.ok⟩
structure Bcl (K : PySem.W.Frag) (mg : Str → Option Value) (C : Addr) : Prop where
  cl : Cls K C
  nR : NoAttr K C "_rule"
  nM : NoAttr K C "_marks"
  nT : NoAttr K C "_moment"
def spInit (C : Addr) : Sp := fun vs H Q _ => ∃ (b dx p : Addr) (R : Ru) (n : Nat) (i : Int), vs = [.ref b, .ref p, .int i] ∧ i = (n : Int) ∧ H b = some (.ins C dx []) ∧ RuAt H p R ∧ R.ok ∧ 1 ≤ n ∧ n ≤ 8 ∧
  ∀ H' am, BAt C H' b p am R (List.replicate n R.fin) 0 → H am = none → KpL [b] H H' → Q .non H'
def spChk (C cN : Addr) : Sp := fun vs H Q E => ∃ (b p am : Addr) (R : Ru) (ms : List Nat) (now : Nat) (i : Int), vs = [.ref b, .int i] ∧ BAt C H b p am R ms now ∧
  ((0 ≤ i ∧ i < (ms.length : Int) ∧ Q .non H) ∨ (¬ (0 ≤ i ∧ i < (ms.length : Int)) ∧ E (.ref cN) none H))
def spSee (C cN : Addr) : Sp := fun vs H Q E => ∃ (b p am : Addr) (R : Ru) (ms : List Nat) (now : Nat) (i : Int), vs = [.ref b, .int i] ∧ BAt C H b p am R ms now ∧
  ((∃ k : Nat, i = (k : Int) ∧ k < ms.length ∧ ∀ H', BAt C H' b p am R (ms.set k (seenM R (ms.getD k 0))) now → KpL [am] H H' → Q .non H') ∨ (¬ (0 ≤ i ∧ i < (ms.length : Int)) ∧ E (.ref cN) none H))
def spPass (C cM : Addr) : Sp := fun vs H Q E => ∃ (b p am : Addr) (R : Ru) (ms : List Nat) (now : Nat) (i : Int), vs = [.ref b, .int i] ∧ BAt C H b p am R ms now ∧
  ((∃ k : Nat, i = (k : Int) ∧ 1 ≤ k ∧ k ≤ 1000 ∧ now + k ≤ 1000000000 ∧ ∀ H' am', BAt C H' b p am' R (ms.map fun x => ag R x now k) (now + k) → H am' = none → KpL [b] H H' → Q (.int ((now + k : Nat) : Int)) H') ∨
   (¬ (1 ≤ i ∧ i ≤ 1000) ∧ E (.ref cM) none H))
def spMarks (C : Addr) : Sp := fun vs H Q _ => ∃ (b p am : Addr) (R : Ru) (ms : List Nat) (now : Nat), vs = [.ref b] ∧ BAt C H b p am R ms now ∧ ∀ H' l, H l = none → Same H H' → H' l = some (.lst (nvs ms)) → Q (.ref l) H'
def spNow (C : Addr) : Sp := fun vs H Q _ => ∃ (b p am : Addr) (R : Ru) (ms : List Nat) (now : Nat), vs = [.ref b] ∧ BAt C H b p am R ms now ∧ Q (.int (now : Int)) H
def spAge (C cN : Addr) : Sp := fun vs H Q E => ∃ (b p am : Addr) (R : Ru) (ms : List Nat) (now : Nat) (i : Int), vs = [.ref b, .int i] ∧ BAt C H b p am R ms now ∧ now ≤ 1000000000 ∧
  ((∃ k : Nat, i = (k : Int) ∧ k < ms.length ∧ ∀ H' T x y, IsSpan R now (ms.getD k 0) x y → H T = none → Same H H' → H' T = some (.tup [oV x, oV y]) → Q (.ref T) H') ∨ (¬ (0 ≤ i ∧ i < (ms.length : Int)) ∧ E (.ref cN) none H))
section
variable {P : Program} {w : World} {K : PySem.W.Frag} {mg : Str → Option Value} {base : Heap} {C : Addr}
theorem sc_init : FnScope ["self", "rule", "things"] ["self", "rule", "things"] (defScope m_Board_init) := ⟨rfl, rfl, rfl, by decide +kernel, rfl, by decide +kernel, by decide +kernel⟩
theorem ok_init (D : DefM K C "__init__" "Board.__init__" m_Board_init ["self", "rule", "things"]) (T : Bcl K mg C) {tk : Tok} (gT : mg "MOST_THINGS" = some (.int 8 tk)) (C1 : Cl P w K mg base 2 "check_rule" ["rule"] spCheckRule) (C2 : Cl P w K mg base 2 "end_mark" ["rule"] spEndMark) :
    ClM P w K mg base CX0 3 C "__init__" ["self", "rule", "things"] (spInit C) := by
  refine D.cl fun f fd F => ?_
  refine F.ok sc_init (fun vs H Q E h => ?_) (fun cdv A outer s H vs Q E hr h => ?_)
  · obtain ⟨b, dx, p, R, n, i, rfl, _⟩ := h
    rfl
  · obtain ⟨b, dx, p, R, n, i, rfl, rfl, hb, hp, ok, n1, n8, q⟩ := h
    refine ⟨_, pss_cons (ps_expr (pe_cl C1 hr (pa_cons (pv 1) pa_nil)))
      (pss_cons (ps_if (PW.pt (pw_or (pt_cmpR op_lt (pv 2) pe_int (nomark _)) (pw_or1 (pt_cmpR op_gt (pv 2) (pe_glob (v := .int 8) (by rfl) gT ⟨_, rfl⟩) (nomark _))))) (pss_one ps_never) pss_nil)
      (pss_cons (ps_fld (pv 0) (pv 1) rfl)
      (pss_cons (ps_fld (pv 0) (pe_op op_rep (pe_lst (pa_cons (pe_cl C2 hr (pa_cons (pv 1) pa_nil)) pa_nil)) (pv 2)) rfl)
      (pss_one (ps_fld (pv 0) pe_int rfl))))), ?_⟩
    refine ⟨_, rfl, p, R, rfl, hp, ok, fun H1 s1 => ?_⟩
    have hb1 := s1 _ _ hb
    have hp1 := s1 _ _ hp
    refine ⟨_, rfl, _, _, rfl, rfl, _, rfl, ?_⟩
    rw [decide_eq_false (show ¬ (n : Int) < 1 by omega)]
    refine iteF ⟨_, rfl, _, _, rfl, rfl, _, rfl, ?_⟩
    rw [decide_eq_false (show ¬ (8 : Int) < (n : Int) by omega)]
    refine iteF ?_
    have npb : p ≠ b := ne_of hp1 hb1 (fun z => nomatch z)
    refine ⟨_, rfl, _, rfl, b, C, dx, [], rfl, hb1, T.cl, T.nR, (by show 0 < 1000; decide), ?_⟩
    have hp2 : (upd H1 b (.ins C dx (putF "_rule" (.ref p) []))) p = some (.tup R.tup) := by rw [upd_ne npb]; exact hp1
    refine ⟨_, rfl, p, R, rfl, hp2, ok, ?_⟩
    refine ⟨(by show 1 ≤ sizeLine; decide), fun l1 nl1 => ?_⟩
    refine ⟨_, rfl, l1, _, _, rfl, rfl, upd_same, by omega, by omega, ?_, fun am nam => ?_⟩
    · rw [Int.toNat_natCast]
      exact Nat.le_trans (show 1 * n ≤ 8 by omega) (by decide)
    rw [Int.toNat_natCast, rep_one]
    have b2 : (upd H1 b (.ins C dx (putF "_rule" (.ref p) []))) b = some (.ins C dx (putF "_rule" (.ref p) [])) := upd_same
    have b3 := same_upd (o := .lst [V.int (R.fin : Int)]) nl1 _ _ b2
    have b4 := same_upd (o := .lst (List.replicate n (V.int (R.fin : Int)))) nam _ _ b3
    refine ⟨_, rfl, b, C, dx, _, rfl, b4, T.cl, T.nM, (by show 1 < 1000; decide), ?_⟩
    have e2 : putF "_marks" (.ref am) (putF "_rule" (.ref p) []) = ([("_rule", V.ref p), ("_marks", V.ref am)] : List (Str × V)) := by
      show (if ("_rule" : Str) = "_marks" then [(("_rule" : Str), V.ref am)] else (("_rule" : Str), V.ref p) :: putF "_marks" (V.ref am) []) = ([("_rule", V.ref p), ("_marks", V.ref am)] : List (Str × V))
      rw [if_neg kRM]
      rfl
    refine ⟨_, rfl, b, C, dx, _, rfl, upd_same, T.cl, T.nT, (by rw [e2]; show 2 < 1000; decide), ?_⟩
    have nba : b ≠ am := ne_of_none b3 nam
    refine q _ am ⟨⟨dx, upd_same⟩, ?_, ?_, ?_, fun x hx => ?_, ok⟩ ?_ fun x o e n => ?_
    · unfold RuAt
      rw [upd_ne npb, upd_ne npb]
      exact same_upd nam _ _ (same_upd nl1 _ _ hp2)
    · rw [upd_ne nba.symm, upd_ne nba.symm, upd_same]
      unfold nvs
      rw [List.map_replicate, List.map_replicate]
      rfl
    · rw [List.length_replicate]; exact n8
    · rw [List.eq_of_mem_replicate hx]
      exact fin_most R
    · refine s1.free ?_
      have z := (same_upd (o := .lst [V.int (R.fin : Int)]) nl1).free nam
      rw [upd_ne nba.symm] at z
      exact z
    · have nx : x ≠ b := fun z => n (by rw [z]; simp)
      rw [upd_ne nx, upd_ne nx]
      refine same_upd nam _ _ (same_upd nl1 _ _ ?_)
      rw [upd_ne nx]
      exact s1 _ _ e
theorem sc_chk : FnScope ["self", "thing"] ["self", "thing"] (defScope m_Board_check_thing) := ⟨rfl, rfl, rfl, by decide +kernel, rfl, by decide +kernel, by decide +kernel⟩
theorem ok_chk {cN : Addr} (D : DefM K C "_check_thing" "Board._check_thing" m_Board_check_thing ["self", "thing"]) (T : Bcl K mg C) (m_len : mg "len" = none) (eN : ErrC K mg "NoThing" cN) : ClM P w K mg base (L2.CX P w) 1 C "_check_thing" ["self", "thing"] (spChk C cN) := by
  refine D.cl fun f fd F => ?_
  refine F.okX sc_chk (fun vs H Q E h => ?_) (fun cdv A outer s H vs Q E hr h => ?_)
  · obtain ⟨b, p, am, R, ms, now, i, rfl, _⟩ := h
    rfl
  · obtain ⟨b, p, am, R, ms, now, i, rfl, ba, q⟩ := h
    obtain ⟨dx, ob⟩ := ba.ob
    refine ⟨_, pss_one (ps_if (PW.pt (pw_or (pt_cmpR op_lt (pv 1) pe_int (nomark _)) (pw_or1 (pt_cmpR op_ge (pv 1) (pe_callB call_len_seq (by rfl) m_len PySem.boot_len (pa_cons (pe_fld (pv 0) rfl) pa_nil)) (nomark _))))) (pss_one (ps_err rfl (takes_of rfl rfl rfl rfl) eN rfl)) pss_nil), ?_⟩
    refine ⟨_, rfl, _, _, rfl, rfl, _, rfl, ?_⟩
    have ln : ((nvs ms).length : Int) = (ms.length : Int) := by rw [nvs_len]
    by_cases h0 : i < 0
    · rw [decide_eq_true h0]
      refine iteT ?_
      rcases q with ⟨a, _⟩ | ⟨_, e⟩
      · exact absurd h0 (by omega)
      · exact e
    · rw [decide_eq_false h0]
      refine iteF ⟨_, rfl, _, rfl, b, C, dx, _, _, rfl, ob, T.cl, T.nM, bfl_marks _ _ _, am, _, rfl, .inl (SqL.of ba.mrk), _, _, rfl, rfl, _, rfl, ?_⟩
      by_cases h1 : (ms.length : Int) ≤ i
      · rw [decide_eq_true (show ((nvs ms).length : Int) ≤ i by rw [ln]; exact h1)]
        refine iteT ?_
        rcases q with ⟨_, a, _⟩ | ⟨_, e⟩
        · exact absurd a (by omega)
        · exact e
      · rw [decide_eq_false (show ¬ ((nvs ms).length : Int) ≤ i by rw [ln]; exact h1)]
        refine iteF ?_
        rcases q with ⟨_, _, e⟩ | ⟨n, _⟩
        · exact e
        · exact absurd ⟨by omega, by omega⟩ n
theorem sc_see : FnScope ["self", "thing"] ["self", "thing"] (defScope m_Board_see) := ⟨rfl, rfl, rfl, by decide +kernel, rfl, by decide +kernel, by decide +kernel⟩
theorem ok_see {cN : Addr} (D : DefM K C "see" "Board.see" m_Board_see ["self", "thing"]) (T : Bcl K mg C) (CK : ClM P w K mg base (L2.CX P w) 1 C "_check_thing" ["self", "thing"] (spChk C cN)) (C1 : Cl P w K mg base 1 "seen" ["rule", "mark"] spSeen) :
    ClM P w K mg base (L2.CX P w) 2 C "see" ["self", "thing"] (spSee C cN) := by
  refine D.cl fun f fd F => ?_
  refine F.okX sc_see (fun vs H Q E h => ?_) (fun cdv A outer s H vs Q E hr h => ?_)
  · obtain ⟨b, p, am, R, ms, now, i, rfl, _⟩ := h
    rfl
  · obtain ⟨b, p, am, R, ms, now, i, rfl, ba, q⟩ := h
    obtain ⟨dx, ob⟩ := ba.ob
    refine ⟨_, pss_cons (ps_expr (pe_cm (E := E) CK T.cl (passes_call (takes_of rfl rfl rfl rfl) (fun _ _ _ _ h => h)) hr (pv 0) (pa_cons (pv 1) pa_nil)))
      (pss_one (ps_asg (pe_cl C1 hr (pa_cons (pe_fld (pv 0) rfl) (pa_cons (pe_ix ix_list (pe_fld (pv 0) rfl) (pv 1) (fun _ _ => rfl)) pa_nil))) (pg_sub (pe_fld (pv 0) rfl) (pv 1) set_list))), ?_⟩
    refine ⟨_, rfl, b, dx, _, rfl, ob, bfl_no _ _ _ (by decide +kernel) (by decide +kernel) (by decide +kernel), _, rfl, b, p, am, R, ms, now, i, rfl, ba, ?_⟩
    rcases q with ⟨k, rfl, kl, q⟩ | ⟨n, e⟩
    · refine .inl ⟨by omega, by omega, ?_⟩
      have kn : ixN (nvs ms).length (k : Int) = some k := by
        rw [nvs_len, ixN_nn (Int.natCast_nonneg _) (by omega), Int.toNat_natCast]
      refine ⟨_, rfl, b, C, dx, _, _, rfl, ob, T.cl, T.nR, bfl_rule _ _ _, _, rfl, b, C, dx, _, _, rfl, ob, T.cl, T.nM, bfl_marks _ _ _, _, rfl, am, _, _, _, rfl, rfl, SqL.of ba.mrk, atI_nat (nvs_get kl), p, R, ms.getD k 0, _, rfl, rfl, ba.rl, ba.ok, ?_⟩
      refine ⟨_, rfl, b, C, dx, _, _, rfl, ob, T.cl, T.nM, bfl_marks _ _ _, _, rfl, am, _, _, k, rfl, rfl, ba.mrk, kn, ?_⟩
      refine q _ ⟨⟨dx, ?_⟩, ?_, ?_, ?_, fun x hx => ?_, ba.ok⟩ fun x o e n => ?_
      · rw [upd_ne (ne_of ob ba.mrk (fun z => nomatch z))]; exact ob
      · unfold RuAt
        rw [upd_ne (ne_of ba.rl ba.mrk (fun z => nomatch z))]; exact ba.rl
      · rw [upd_same, nvs_set]
      · rw [List.length_set]; exact ba.few
      · rcases List.mem_or_eq_of_mem_set hx with hx | hx
        · exact ba.bd x hx
        · rw [hx]
          exact fresh_most (seen_fresh (ba.bd _ (getD_mem kl)))
      · rw [upd_ne (fun z => n (by rw [z]; simp))]
        exact e
    · exact .inr ⟨n, e⟩
theorem sc_pass : FnScope ["self", "many", "then", "mark"] ["self", "many"] (defScope m_Board_pass_by) := ⟨rfl, rfl, rfl, by decide +kernel, rfl, by decide +kernel, by decide +kernel⟩
theorem ok_pass {cM : Addr} (D : DefM K C "pass_by" "Board.pass_by" m_Board_pass_by ["self", "many"]) (T : Bcl K mg C) {tk : Tok} (gL : mg "LONGEST_PASS" = some (.int 1000 tk)) (eM : ErrC K mg "BadMoment" cM) (C1 : Cl P w K mg base 2 "aged_on" ["rule", "mark", "begin", "end"] spAged) :
    ClM P w K mg base (L2.CX P w) 3 C "pass_by" ["self", "many"] (spPass C cM) := by
  refine D.cl fun f fd F => ?_
  refine F.okX sc_pass (fun vs H Q E h => ?_) (fun cdv A outer s H vs Q E hr h => ?_)
  · obtain ⟨b, p, am, R, ms, now, i, rfl, _⟩ := h
    rfl
  · obtain ⟨b, p, am, R, ms, now, i, rfl, ba, q⟩ := h
    obtain ⟨dx, ob⟩ := ba.ob
    refine ⟨_, pss_cons (ps_if (PW.pt (pw_or (pt_cmpR op_lt (pv 1) pe_int (nomark _)) (pw_or1 (pt_cmpR op_gt (pv 1) (pe_glob (v := .int 1000) (by rfl) gL ⟨_, rfl⟩) (nomark _))))) (pss_one (ps_err rfl (takes_of rfl rfl rfl rfl) eM rfl)) pss_nil)
      (pss_cons (ps_set (i := 2) sc_pass.nd rfl (Or.inr rfl) (pe_op op_add (pe_fld (pv 0) rfl) (pv 1)))
      (pss_cons (ps_fld (pv 0) (pe_lc (own := [("mark", 3)]) (g := gName 3) (tt := tYes) (te := tCall spAged [] E0 (tCons (tFld K (tVar 0) "_rule") (tCons (tVar 3) (tCons (tFld K (tVar 0) "_moment") (tCons (tVar 2) tNil))))) rfl sc_pass.nd (pi_list (pe_fld (pv 0) rfl))
          (blkOk_by (N := ["self", "many", "then", "mark"]) (sc := defScope m_Board_pass_by) (by decide +kernel)) (fun _ _ _ _ _ => by exact pg_name (i := 3) sc_pass.nd rfl (Or.inl rfl)) (fun _ _ _ _ _ => by exact pts_nil)
          (fun _ _ _ _ _ => by exact pe_cl C1 hr (pa_cons (pe_fld (pv 0) rfl) (pa_cons (pv 3) (pa_cons (pe_fld (pv 0) rfl) (pa_cons (pv 2) pa_nil)))))) rfl)
      (pss_cons (ps_fld (pv 0) (pv 2) rfl)
      (pss_one (ps_ret (pv 2)))))), ?_⟩
    refine ⟨_, rfl, _, _, rfl, rfl, _, rfl, ?_⟩
    rcases q with ⟨k, rfl, k1, k2, tl, q⟩ | ⟨n, e⟩
    · rw [decide_eq_false (show ¬ (k : Int) < 1 by omega)]
      refine iteF ⟨_, rfl, _, _, rfl, rfl, _, rfl, ?_⟩
      rw [decide_eq_false (show ¬ (1000 : Int) < (k : Int) by omega)]
      refine iteF ?_
      refine ⟨_, rfl, b, C, dx, _, _, rfl, ob, T.cl, T.nT, bfl_moment _ _ _, _, rfl, _, _, rfl, rfl, ?_⟩
      refine ⟨_, rfl, b, C, dx, _, _, rfl, ob, T.cl, T.nM, bfl_marks _ _ _, am, rfl, ⟨_, SqL.of ba.mrk⟩, fun D nD => ?_⟩
      refine lc_list (K := K) (a := am) (xs := nvs ms) (fun j H' => Same H H' ∧ H' D = some (.lst (nvs ((ms.take j).map fun x => ag R x now k)))) ⟨same_upd nD, upd_same⟩ (fun j H' _ h => SqL.of (h.1 _ _ ba.mrk)) ?_ ?_
      · rintro j y H' hy ⟨sm, eD⟩
        have jl : j < ms.length := by
          have := (List.getElem?_eq_some_iff.mp hy).1
          rw [nvs_len] at this
          exact this
        have ey : y = .int ((ms.getD j 0 : Nat) : Int) := Option.some.inj (hy.symm.trans (nvs_get jl))
        subst ey
        have ob' := sm _ _ ob
        refine ⟨rfl, _, rfl, b, C, dx, _, _, rfl, ob', T.cl, T.nR, bfl_rule _ _ _, _, rfl, _, rfl, b, C, dx, _, _, rfl, ob', T.cl, T.nT, bfl_moment _ _ _, _, rfl, p, R, ms.getD j 0, now, k, _, _, _, rfl, rfl, rfl, rfl, sm _ _ ba.rl, ba.ok, ba.bd _ (getD_mem jl), tl, fun H2 s2 => ?_⟩
        refine ⟨_, s2 _ _ eD, ?_, fun x o e => ?_, ?_⟩
        · rw [nvs_len, List.length_map, List.length_take]
          exact small1000 (by have := ba.few; omega)
        · rw [upd_ne (ne_of_none e nD)]
          exact s2 _ _ (sm _ _ e)
        · rw [upd_same, List.take_add_one, List.getElem?_eq_getElem jl, List.getD_eq_getElem?_getD, List.getElem?_eq_getElem jl]
          unfold nvs
          rw [List.map_append, List.map_append, List.map_append]
          rfl
      · rintro H' ⟨sm, eD⟩
        rw [nvs_len, List.take_length] at eD
        have ob' := sm _ _ ob
        have nbD : b ≠ D := ne_of_none ob nD
        have npb : p ≠ b := ne_of ba.rl ob (fun z => nomatch z)
        refine ⟨_, rfl, b, C, dx, _, rfl, ob', T.cl, T.nM, (by rw [bfl_eq]; show 3 < 1000; decide), ?_⟩
        rw [bfl_put_marks]
        refine ⟨_, rfl, _, rfl, b, C, dx, _, rfl, upd_same, T.cl, T.nT, (by rw [bfl_eq]; show 3 < 1000; decide), ?_⟩
        have et : (now : Int) + (k : Int) = ((now + k : Nat) : Int) := rfl
        refine ⟨_, rfl, ?_⟩
        rw [upd_upd]
        refine q _ D ⟨⟨dx, ?_⟩, ?_, ?_, ?_, fun x hx => ?_, ba.ok⟩ nD fun x o e n => ?_
        · rw [upd_same]
          show some (HO.ins C dx (putF "_moment" (.int ((now + k : Nat) : Int)) (bfl p D now))) = some (HO.ins C dx (bfl p D (now + k)))
          rw [bfl_put_moment]
        · unfold RuAt
          rw [upd_ne npb]; exact sm _ _ ba.rl
        · rw [upd_ne nbD.symm]
          exact eD
        · rw [List.length_map]
          exact ba.few
        · obtain ⟨z, hz, rfl⟩ := List.mem_map.mp hx
          exact ag_le R z now (ba.bd z hz) k
        · rw [upd_ne (fun z => n (by rw [z]; simp))]
          exact sm _ _ e
    · by_cases h1 : i < 1
      · rw [decide_eq_true h1]
        exact iteT e
      · rw [decide_eq_false h1]
        refine iteF ⟨_, rfl, _, _, rfl, rfl, _, rfl, ?_⟩
        rw [decide_eq_true (show (1000 : Int) < i by omega)]
        exact iteT e
theorem sc_marks : FnScope ["self"] ["self"] (defScope m_Board_marks) := ⟨rfl, rfl, rfl, by decide +kernel, rfl, by decide +kernel, by decide +kernel⟩
theorem ok_marks (D : DefM K C "marks" "Board.marks" m_Board_marks ["self"]) (T : Bcl K mg C) (m_list : mg "list" = none) : ClM P w K mg base CX0 1 C "marks" ["self"] (spMarks C) := by
  refine D.cl fun f fd F => ?_
  refine F.ok sc_marks (fun vs H Q E h => ?_) (fun cdv A outer s H vs Q E hr h => ?_)
  · obtain ⟨b, p, am, R, ms, now, rfl, _⟩ := h
    rfl
  · obtain ⟨b, p, am, R, ms, now, rfl, ba, q⟩ := h
    obtain ⟨dx, ob⟩ := ba.ob
    refine ⟨_, pss_one (ps_ret (pe_callTy call_list_of (by rfl) m_list (by decide +kernel) (pa_cons (pe_fld (pv 0) rfl) pa_nil))), ?_⟩
    refine ⟨_, rfl, b, C, dx, _, _, rfl, ob, T.cl, T.nM, bfl_marks _ _ _, am, _, rfl, .inl (SqL.of ba.mrk), fun l hl => ?_⟩
    exact q _ l hl (same_upd hl) upd_same
theorem sc_now : FnScope ["self"] ["self"] (defScope m_Board_now) := ⟨rfl, rfl, rfl, by decide +kernel, rfl, by decide +kernel, by decide +kernel⟩
theorem ok_now (D : DefM K C "now" "Board.now" m_Board_now ["self"]) (T : Bcl K mg C) : ClM P w K mg base CX0 1 C "now" ["self"] (spNow C) := by
  refine D.cl fun f fd F => ?_
  refine F.ok sc_now (fun vs H Q E h => ?_) (fun cdv A outer s H vs Q E hr h => ?_)
  · obtain ⟨b, p, am, R, ms, now, rfl, _⟩ := h
    rfl
  · obtain ⟨b, p, am, R, ms, now, rfl, ba, q⟩ := h
    obtain ⟨dx, ob⟩ := ba.ob
    exact ⟨_, pss_one (ps_ret (pe_fld (pv 0) rfl)), _, rfl, b, C, dx, _, _, rfl, ob, T.cl, T.nT, bfl_moment _ _ _, q⟩
theorem sc_age : FnScope ["self", "thing"] ["self", "thing"] (defScope m_Board_age) := ⟨rfl, rfl, rfl, by decide +kernel, rfl, by decide +kernel, by decide +kernel⟩
theorem ok_age {cN : Addr} (D : DefM K C "age" "Board.age" m_Board_age ["self", "thing"]) (T : Bcl K mg C) (CK : ClM P w K mg base (L2.CX P w) 1 C "_check_thing" ["self", "thing"] (spChk C cN)) (C1 : Cl P w K mg base 5 "span" ["rule", "now", "mark"] spSpan) :
    ClM P w K mg base (L2.CX P w) 6 C "age" ["self", "thing"] (spAge C cN) := by
  refine D.cl fun f fd F => ?_
  refine F.okX sc_age (fun vs H Q E h => ?_) (fun cdv A outer s H vs Q E hr h => ?_)
  · obtain ⟨b, p, am, R, ms, now, i, rfl, _⟩ := h
    rfl
  · obtain ⟨b, p, am, R, ms, now, i, rfl, ba, nl, q⟩ := h
    obtain ⟨dx, ob⟩ := ba.ob
    refine ⟨_, pss_cons (ps_expr (pe_cm (E := E) CK T.cl (passes_call (takes_of rfl rfl rfl rfl) (fun _ _ _ _ h => h)) hr (pv 0) (pa_cons (pv 1) pa_nil)))
      (pss_one (ps_ret (pe_cl C1 hr (pa_cons (pe_fld (pv 0) rfl) (pa_cons (pe_fld (pv 0) rfl) (pa_cons (pe_ix ix_list (pe_fld (pv 0) rfl) (pv 1) (fun _ _ => rfl)) pa_nil)))))), ?_⟩
    refine ⟨_, rfl, b, dx, _, rfl, ob, bfl_no _ _ _ (by decide +kernel) (by decide +kernel) (by decide +kernel), _, rfl, b, p, am, R, ms, now, i, rfl, ba, ?_⟩
    rcases q with ⟨k, rfl, kl, q⟩ | ⟨n, e⟩
    · refine .inl ⟨by omega, by omega, ?_⟩
      refine ⟨_, rfl, b, C, dx, _, _, rfl, ob, T.cl, T.nR, bfl_rule _ _ _, _, rfl, b, C, dx, _, _, rfl, ob, T.cl, T.nT, bfl_moment _ _ _, _, rfl, b, C, dx, _, _, rfl, ob, T.cl, T.nM, bfl_marks _ _ _, _, rfl, am, _, _, _, rfl, rfl, SqL.of ba.mrk, atI_nat (nvs_get kl), ?_⟩
      exact ⟨p, R, now, ms.getD k 0, _, _, rfl, rfl, rfl, ba.rl, ba.ok, ba.bd _ (getD_mem kl), nl, q⟩
    · exact .inr ⟨n, e⟩
end
/-! ### ages, the oldest -/
noncomputable def spanF (R : Ru) (now m : Nat) : Option Nat × Option Nat := ⟨(exists_span R now m).choose, (exists_span R now m).choose_spec.choose⟩
theorem spanF_is (R : Ru) (now m : Nat) : IsSpan R now m (spanF R now m).1 (spanF R now m).2 := (exists_span R now m).choose_spec.choose_spec
theorem spanF_eq {R : Ru} {now m : Nat} {x y : Option Nat} (h : IsSpan R now m x y) : spanF R now m = (x, y) := by
  obtain ⟨e1, e2⟩ := (spanF_is R now m).uniq h
  exact Prod.ext e1 e2
abbrev Sps := List (Option Nat × Option Nat)
noncomputable def agesF (R : Ru) (now : Nat) (ms : List Nat) : Sps := ms.map (spanF R now)
/-- tuples of spans stand at Ts -/
structure TupsAt (H : Hp) (Ts : List Addr) (sp : Sps) : Prop where
  len : Ts.length = sp.length
  at_ : ∀ (j : Nat) (T : Addr) (s : Option Nat × Option Nat), Ts[j]? = some T → sp[j]? = some s → H T = some (.tup [oV s.1, oV s.2])
theorem TupsAt.same {H H' : Hp} {Ts : List Addr} {sp : Sps} (a : TupsAt H Ts sp) (k : Same H H') : TupsAt H' Ts sp := ⟨a.len, fun j T s h1 h2 => k _ _ (a.at_ j T s h1 h2)⟩
theorem TupsAt.get {H : Hp} {Ts : List Addr} {sp : Sps} (a : TupsAt H Ts sp) {j : Nat} {T : Addr} (h : Ts[j]? = some T) : ∃ s, sp[j]? = some s ∧ H T = some (.tup [oV s.1, oV s.2]) := by
  have l : j < sp.length := by rw [← a.len]; exact (List.getElem?_eq_some_iff.mp h).1
  exact ⟨sp[j], List.getElem?_eq_getElem l, a.at_ j T _ h (List.getElem?_eq_getElem l)⟩
/-- one span more -/
theorem ages_more {R : Ru} {now i : Nat} {ms : List Nat} {Ts : List Addr} {H' H2 : Hp} {D T2 : Addr} {x y : Option Nat} (hi : i < ms.length) (ta : TupsAt H' Ts (agesF R now (ms.take i))) (eD : H' D = some (.lst (Ts.map V.ref))) (isp : IsSpan R now (ms.getD i 0) x y)
    (s2 : Same H' H2) (eT : H2 T2 = some (.tup [oV x, oV y])) : Ts.length ≤ i ∧ (upd H2 D (.lst (Ts.map V.ref ++ [V.ref T2]))) D = some (.lst ((Ts ++ [T2]).map V.ref)) ∧ TupsAt (upd H2 D (.lst (Ts.map V.ref ++ [V.ref T2]))) (Ts ++ [T2]) (agesF R now (ms.take (i + 1))) := by
  have tl : Ts.length = i := by
    rw [ta.len]
    unfold agesF
    rw [List.length_map, List.length_take]
    omega
  refine ⟨Nat.le_of_eq tl, ?_, ?_, fun j T s h1 h2 => ?_⟩
  · rw [upd_same, List.map_append]
    rfl
  · unfold agesF
    rw [List.length_append, List.length_map, List.length_take, tl]
    show i + 1 = min (i + 1) ms.length
    omega
  · have ne : T ≠ D := by
      by_cases jl : j < Ts.length
      · rw [List.getElem?_append_left jl] at h1
        obtain ⟨s', _, e'⟩ := ta.get h1
        exact ne_of e' eD (fun z => nomatch z)
      · have jn := (List.getElem?_eq_some_iff.mp h1).1
        rw [List.length_append] at jn
        have je : j = Ts.length := by
          have : j < Ts.length + 1 := jn
          omega
        subst je
        rw [List.getElem?_append_right (Nat.le_refl _), Nat.sub_self] at h1
        have : T2 = T := Option.some.inj h1
        rw [← this]
        exact ne_of eT (s2 _ _ eD) (fun z => nomatch z)
    rw [upd_ne ne]
    by_cases jl : j < Ts.length
    · rw [List.getElem?_append_left jl] at h1
      refine s2 _ _ (ta.at_ j T s h1 ?_)
      unfold agesF at h2 ⊢
      rw [List.getElem?_map, List.getElem?_take, if_pos (by omega)] at h2
      rw [List.getElem?_map, List.getElem?_take, if_pos (by omega)]
      exact h2
    · have jn := (List.getElem?_eq_some_iff.mp h1).1
      rw [List.length_append] at jn
      have je : j = Ts.length := by
        have : j < Ts.length + 1 := jn
        omega
      subst je
      rw [List.getElem?_append_right (Nat.le_refl _), Nat.sub_self] at h1
      have e1 : T2 = T := Option.some.inj h1
      unfold agesF at h2
      rw [tl, List.getElem?_map, List.getElem?_take, if_pos (Nat.lt_succ_self _), List.getElem?_eq_getElem hi] at h2
      have e2 : spanF R now ms[i] = s := Option.some.inj h2
      rw [List.getD_eq_getElem?_getD, List.getElem?_eq_getElem hi] at isp
      have e3 := spanF_eq isp
      rw [← e1, ← e2]
      have e4 : spanF R now ms[i] = (x, y) := e3
      rw [e4]
      exact eT
/-! ### whether two things are alike: the same data on both sides -/
theorem Same.seqT {K : PySem.W.Frag} {H H' : Hp} {a : Addr} {xs : List V} (e : Same H H') (h : SqT K H a xs) : SqT K H' a xs := by
  rcases h with (h | ⟨o, h⟩) | h
  · exact .inl (.inl (e _ _ h))
  · exact .inl (.inr ⟨o, e _ _ h⟩)
  · exact .inr h
mutual
theorem Dp.same {K : PySem.W.Frag} {H H' : Hp} (e : Same H H') : ∀ (d : PyData) (v : V), Dp K H v d → Dp K H' v d
  | .none, _, h => by cases h; exact .non
  | .bool b, _, h => by cases h; exact .bl b
  | .int i, _, h => by cases h; exact .int i
  | .str x, _, h => by cases h; exact .str x
  | .list ds, _, h => by
    cases h with
    | lst hs ha => exact .lst (Same.seq e hs) (DpAll.same e ds _ ha)
  | .tuple ds, _, h => by
    cases h with
    | tup hs ha => exact .tup (Same.seqT e hs) (DpAll.same e ds _ ha)
  | .dict _, _, h => by cases h
theorem DpAll.same {K : PySem.W.Frag} {H H' : Hp} (e : Same H H') : ∀ (ds : List PyData) (vs : List V), DpAll K H vs ds → DpAll K H' vs ds
  | [], _, h => by cases h; exact .nil
  | d :: ds, _, h => by
    cases h with
    | cons h1 h2 => exact .cons (Dp.same e d _ h1) (DpAll.same e ds _ h2)
end
theorem dpAll_len {K : PySem.W.Frag} {H : Hp} : ∀ {ds : List PyData} {vs : List V}, DpAll K H vs ds → vs.length = ds.length
  | [], _, h => by cases h; rfl
  | d :: ds, _, h => by
    cases h with
    | cons h1 h2 => exact congrArg (· + 1) (dpAll_len h2)
theorem dpAll_get {K : PySem.W.Frag} {H : Hp} : ∀ {ds : List PyData} {vs : List V} {i : Nat}, DpAll K H vs ds → i < ds.length → ∃ v d, vs[i]? = some v ∧ ds[i]? = some d ∧ Dp K H v d
  | [], _, _, _, l => absurd l (Nat.not_lt_zero _)
  | d :: ds, _, 0, h, _ => by
    cases h with
    | cons h1 h2 => exact ⟨_, d, rfl, rfl, h1⟩
  | d :: ds, _, i + 1, h, l => by
    cases h with
    | cons h1 h2 =>
      obtain ⟨v, d', e1, e2, e3⟩ := dpAll_get h2 (Nat.lt_of_succ_lt_succ l)
      exact ⟨v, d', e1, e2, e3⟩
theorem depth_get : ∀ {ds : List PyData} {i : Nat} {d : PyData}, ds[i]? = some d → PyData.depth d ≤ PyData.depthAll ds
  | [], _, _, h => by simp at h
  | x :: ds, 0, d, h => by
    have e : x = d := Option.some.inj h
    subst e
    simp only [PyData.depthAll]
    omega
  | x :: ds, i + 1, d, h => by
    have ih := depth_get (ds := ds) (i := i) (d := d) h
    simp only [PyData.depthAll]
    omega
mutual
/-- lists of at most a thousand items -/
def szOk : PyData → Bool
  | .list xs => decide (xs.length ≤ 1000) && szAll xs
  | .tuple xs => decide (xs.length ≤ 1000) && szAll xs
  | _ => true
def szAll : List PyData → Bool
  | [] => true
  | x :: r => szOk x && szAll r
end
theorem szOk_lst {ds : List PyData} (h : szOk (.list ds) = true) : ds.length ≤ 1000 ∧ szAll ds = true := by
  simp only [szOk, Bool.and_eq_true, decide_eq_true_eq] at h
  exact h
theorem szOk_tup {ds : List PyData} (h : szOk (.tuple ds) = true) : ds.length ≤ 1000 ∧ szAll ds = true := by
  simp only [szOk, Bool.and_eq_true, decide_eq_true_eq] at h
  exact h
theorem sz_get : ∀ {ds : List PyData} {i : Nat} {d : PyData}, ds[i]? = some d → szAll ds = true → szOk d = true
  | [], _, _, h, _ => by simp at h
  | x :: ds, 0, d, h, a => by
    have e : x = d := Option.some.inj h
    subst e
    simp only [szAll, Bool.and_eq_true] at a
    exact a.1
  | x :: ds, i + 1, d, h, a => by
    simp only [szAll, Bool.and_eq_true] at a
    exact sz_get (ds := ds) (i := i) (d := d) h a.2
theorem ty_list {K : PySem.W.Frag} {H : Hp} {a : Addr} {xs : List V} (h : SqL K H a xs) : TyX K H (.ref a) (.type "list") := by
  rcases h with (h | ⟨o, h⟩) | ⟨o, its, n, hk, hc, _⟩
  · exact .base (.lst h)
  · exact .base (.frz h)
  · exact .kList hk hc
theorem ty_tup {K : PySem.W.Frag} {H : Hp} {a : Addr} {xs : List V} (h : SqT K H a xs) : TyX K H (.ref a) (.type "tuple") := by
  rcases h with (h | ⟨o, h⟩) | ⟨o, its, n, hk, hc, _⟩
  · exact .base (.tup h)
  · exact .fTuple h
  · exact .kTuple hk hc
/-- alike: the same data, of small lists -/
def spAlike (K : PySem.W.Frag) (n : Nat) : Sp := fun vs H Q _ => ∃ (x y : V) (d : PyData), vs = [x, y] ∧ Dp K H x d ∧ Dp K H y d ∧ PyData.depth d ≤ n ∧ szOk d = true ∧ ∀ H', Same H H' → Q (.bl true) H'
section
variable {P : Program} {w : World} {K : PySem.W.Frag} {mg : Str → Option Value} {base : Heap}
theorem sc_alike : FnScope ["_law_found", "_law_due", "_law_k"] ["_law_found", "_law_due"] (defScope s_L_alike) := ⟨rfl, rfl, rfl, by decide +kernel, rfl, by decide +kernel, by decide +kernel⟩
theorem ok_alike0 (D : DefAt K mg "_law_alike" s_L_alike ["_law_found", "_law_due"]) (m_isi : mg "isinstance" = none) (m_tuple : mg "tuple" = none) (m_list : mg "list" = none) (m_str : mg "str" = none) (m_bool : mg "bool" = none) (m_int : mg "int" = none) :
    Cl P w K mg base 1 "_law_alike" ["_law_found", "_law_due"] (spAlike K 0) := by
  refine D.cl fun f fd F => ?_
  refine F.ok sc_alike (fun vs H Q E h => ?_) (fun cdv A outer s H vs Q E hr h => ?_)
  · obtain ⟨x, y, d, rfl, _⟩ := h
    rfl
  · obtain ⟨x, y, d, rfl, hx, hy, hd, hz, q⟩ := h
    refine ⟨_, pss_cons (ps_if (pt_val (pe_callB call_isiT (by rfl) m_isi (by decide +kernel) (pa_cons (pv 1) (pa_cons (pe_tup (pa_cons (pe_bltn (v := .ty "tuple") (u := .type "tuple") (by rfl) m_tuple (by decide +kernel) rfl) (pa_cons (pe_bltn (v := .ty "list") (u := .type "list") (by rfl) m_list (by decide +kernel) rfl) pa_nil))) pa_nil)))) pss_never pss_nil)
      (pss_cons (ps_if (pt_cmp (pc_isN (pv 1)) rfl) (pss_one (ps_ret (pe_cmp (pc_isN (pv 0)) rfl))) pss_nil)
      (pss_cons (ps_if (pt_val (pe_callB call_isi (by rfl) m_isi (by decide +kernel) (pa_cons (pv 1) (pa_cons (pe_bltn (v := .ty "str") (u := .type "str") (by rfl) m_str (by decide +kernel) rfl) pa_nil)))) (pss_one (ps_ret (pe_and (pe_callB call_isi (by rfl) m_isi (by decide +kernel) (pa_cons (pv 0) (pa_cons (pe_bltn (v := .ty "str") (u := .type "str") (by rfl) m_str (by decide +kernel) rfl) pa_nil))) (pe_one (pe_cmpR op_eq (pv 0) (pv 1) (nomark _)))))) pss_nil)
      (pss_cons (ps_if (PW.pt (pw_or (pt_val (pe_callB call_isi (by rfl) m_isi (by decide +kernel) (pa_cons (pv 1) (pa_cons (pe_bltn (v := .ty "bool") (u := .type "bool") (by rfl) m_bool (by decide +kernel) rfl) pa_nil)))) (pw_or1 (pt_val (pe_callB call_isi (by rfl) m_isi (by decide +kernel) (pa_cons (pv 0) (pa_cons (pe_bltn (v := .ty "bool") (u := .type "bool") (by rfl) m_bool (by decide +kernel) rfl) pa_nil))))))) (pss_one (ps_ret (pe_and (pe_callB call_isi (by rfl) m_isi (by decide +kernel) (pa_cons (pv 1) (pa_cons (pe_bltn (v := .ty "bool") (u := .type "bool") (by rfl) m_bool (by decide +kernel) rfl) pa_nil))) (pe_and (pe_callB call_isi (by rfl) m_isi (by decide +kernel) (pa_cons (pv 0) (pa_cons (pe_bltn (v := .ty "bool") (u := .type "bool") (by rfl) m_bool (by decide +kernel) rfl) pa_nil))) (pe_one (pe_cmpR op_eq (pv 0) (pv 1) (nomark _))))))) pss_nil)
      (pss_one (ps_ret (pe_and (pe_callB call_isi (by rfl) m_isi (by decide +kernel) (pa_cons (pv 0) (pa_cons (pe_bltn (v := .ty "int") (u := .type "int") (by rfl) m_int (by decide +kernel) rfl) pa_nil))) (pe_one (pe_cmpR op_eq (pv 0) (pv 1) (nomark _))))))))), ?_⟩
    cases hx with
    | non =>
      cases hy
      refine ⟨_, rfl, (by show 2 ≤ sizeLine; decide), fun p np => ?_⟩
      refine ⟨.non, p, _, _, _, false, rfl, upd_same, .cons (.ty "tuple") (.cons (.ty "list") .nil), .base (.non), (kitAny_cons (b := false) (kit_ty (by decide +kernel)) (fun _ => kitAny_cons (b := false) (kit_ty (by decide +kernel)) (fun _ => kitAny_nil) (fun e => nomatch e)) (fun e => nomatch e)), _, rfl, iteF ?_⟩
      refine ⟨_, rfl, _, rfl, ?_⟩
      rw [decide_eq_true rfl]
      exact iteT ⟨_, rfl, q _ (same_upd np)⟩
    | bl b =>
      cases hy
      refine ⟨_, rfl, (by show 2 ≤ sizeLine; decide), fun p np => ?_⟩
      refine ⟨.bl b, p, _, _, _, false, rfl, upd_same, .cons (.ty "tuple") (.cons (.ty "list") .nil), .base (.bl b), (kitAny_cons (b := false) (kit_ty (by decide +kernel)) (fun _ => kitAny_cons (b := false) (kit_ty (by decide +kernel)) (fun _ => kitAny_nil) (fun e => nomatch e)) (fun e => nomatch e)), _, rfl, iteF ?_⟩
      refine ⟨_, rfl, _, rfl, ?_⟩
      rw [decide_eq_false (show ¬ V.bl b = .non from fun z => nomatch z)]
      refine iteF ?_
      refine ⟨_, rfl, .bl b, _, _, _, false, rfl, .ty "str", .base (.bl b), kit_ty (by decide +kernel), _, rfl, iteF ?_⟩
      refine ⟨_, rfl, .bl b, _, _, _, true, rfl, .ty "bool", .base (.bl b), kit_ty (by decide +kernel), _, rfl, iteT ?_⟩
      refine ⟨_, rfl, .bl b, _, _, _, true, rfl, .ty "bool", .base (.bl b), kit_ty (by decide +kernel), true, rfl, iteT ?_⟩
      refine ⟨_, rfl, .bl b, _, _, _, true, rfl, .ty "bool", .base (.bl b), kit_ty (by decide +kernel), true, rfl, iteT ⟨_, rfl, _, rfl, rfl, ?_⟩⟩
      rw [decide_eq_true rfl]
      exact q _ (same_upd np)
    | int i =>
      cases hy
      refine ⟨_, rfl, (by show 2 ≤ sizeLine; decide), fun p np => ?_⟩
      refine ⟨.int i, p, _, _, _, false, rfl, upd_same, .cons (.ty "tuple") (.cons (.ty "list") .nil), .base (.int i), (kitAny_cons (b := false) (kit_ty (by decide +kernel)) (fun _ => kitAny_cons (b := false) (kit_ty (by decide +kernel)) (fun _ => kitAny_nil) (fun e => nomatch e)) (fun e => nomatch e)), _, rfl, iteF ?_⟩
      refine ⟨_, rfl, _, rfl, ?_⟩
      rw [decide_eq_false (show ¬ V.int i = .non from fun z => nomatch z)]
      refine iteF ?_
      refine ⟨_, rfl, .int i, _, _, _, false, rfl, .ty "str", .base (.int i), kit_ty (by decide +kernel), _, rfl, iteF ?_⟩
      refine ⟨_, rfl, .int i, _, _, _, false, rfl, .ty "bool", .base (.int i), kit_ty (by decide +kernel), _, rfl, iteF ?_⟩
      refine ⟨_, rfl, .int i, _, _, _, false, rfl, .ty "bool", .base (.int i), kit_ty (by decide +kernel), _, rfl, iteF ?_⟩
      refine ⟨_, rfl, .int i, _, _, _, true, rfl, .ty "int", .base (.int i), kit_ty (by decide +kernel), true, rfl, iteT ⟨_, rfl, _, rfl, rfl, ?_⟩⟩
      rw [decide_eq_true rfl]
      exact q _ (same_upd np)
    | str s =>
      cases hy
      refine ⟨_, rfl, (by show 2 ≤ sizeLine; decide), fun p np => ?_⟩
      refine ⟨.str s, p, _, _, _, false, rfl, upd_same, .cons (.ty "tuple") (.cons (.ty "list") .nil), .base (.str s), (kitAny_cons (b := false) (kit_ty (by decide +kernel)) (fun _ => kitAny_cons (b := false) (kit_ty (by decide +kernel)) (fun _ => kitAny_nil) (fun e => nomatch e)) (fun e => nomatch e)), _, rfl, iteF ?_⟩
      refine ⟨_, rfl, _, rfl, ?_⟩
      rw [decide_eq_false (show ¬ V.str s = .non from fun z => nomatch z)]
      refine iteF ?_
      refine ⟨_, rfl, .str s, _, _, _, true, rfl, .ty "str", .base (.str s), kit_ty (by decide +kernel), _, rfl, iteT ?_⟩
      refine ⟨_, rfl, .str s, _, _, _, true, rfl, .ty "str", .base (.str s), kit_ty (by decide +kernel), true, rfl, iteT ⟨_, rfl, _, rfl, rfl, ?_⟩⟩
      rw [decide_eq_true rfl]
      exact q _ (same_upd np)
    | lst hs ha => exact absurd hd (Nat.not_succ_le_zero _)
    | tup hs ha => exact absurd hd (Nat.not_succ_le_zero _)
theorem ok_alikeS {n : Nat} (D : DefAt K mg "_law_alike" s_L_alike ["_law_found", "_law_due"]) (m_isi : mg "isinstance" = none) (m_tuple : mg "tuple" = none) (m_list : mg "list" = none) (m_str : mg "str" = none) (m_bool : mg "bool" = none) (m_int : mg "int" = none) (m_len : mg "len" = none) (m_range : mg "range" = none)
    (C1 : Cl P w K mg base (n + 1) "_law_alike" ["_law_found", "_law_due"] (spAlike K n)) : Cl P w K mg base (n + 2) "_law_alike" ["_law_found", "_law_due"] (spAlike K (n + 1)) := by
  refine D.cl fun f fd F => ?_
  refine F.ok sc_alike (fun vs H Q E h => ?_) (fun cdv A outer s H vs Q E hr h => ?_)
  · obtain ⟨x, y, d, rfl, _⟩ := h
    rfl
  · obtain ⟨x, y, d, rfl, hx, hy, hd, hz, q⟩ := h
    refine ⟨_, pss_cons (ps_if (pt_val (pe_callB call_isiT (by rfl) m_isi (by decide +kernel) (pa_cons (pv 1) (pa_cons (pe_tup (pa_cons (pe_bltn (v := .ty "tuple") (u := .type "tuple") (by rfl) m_tuple (by decide +kernel) rfl) (pa_cons (pe_bltn (v := .ty "list") (u := .type "list") (by rfl) m_list (by decide +kernel) rfl) pa_nil))) pa_nil))))
        (pss_cons (ps_if (PW.pt (pw_or (pt_not (pt_val (pe_callB call_isiT (by rfl) m_isi (by decide +kernel) (pa_cons (pv 0) (pa_cons (pe_tup (pa_cons (pe_bltn (v := .ty "tuple") (u := .type "tuple") (by rfl) m_tuple (by decide +kernel) rfl) (pa_cons (pe_bltn (v := .ty "list") (u := .type "list") (by rfl) m_list (by decide +kernel) rfl) pa_nil))) pa_nil))))) (pw_or1 (pt_cmpR op_ne (pe_callB call_isi (by rfl) m_isi (by decide +kernel) (pa_cons (pv 0) (pa_cons (pe_bltn (v := .ty "list") (u := .type "list") (by rfl) m_list (by decide +kernel) rfl) pa_nil))) (pe_callB call_isi (by rfl) m_isi (by decide +kernel) (pa_cons (pv 1) (pa_cons (pe_bltn (v := .ty "list") (u := .type "list") (by rfl) m_list (by decide +kernel) rfl) pa_nil))) (nomark _))))) pss_never pss_nil)
        (pss_cons (ps_if (pt_cmpR op_ne (pe_callB call_len_seq (by rfl) m_len PySem.boot_len (pa_cons (pv 0) pa_nil)) (pe_callB call_len_seq (by rfl) m_len PySem.boot_len (pa_cons (pv 1) pa_nil)) (nomark _)) pss_never pss_nil)
        (pss_one (ps_ret (pe_cmpR (op_eqD hr.units) (pe_lc (own := [("_law_k", 2)]) (g := gName 2) (tt := tNot (tB (tCall (spAlike K n) [] E0 (tCons (tOp (rIx K) (tVar 0) (tVar 2)) (tCons (tOp (rIx K) (tVar 1) (tVar 2)) tNil))))) rfl sc_alike.nd
          (pi_range1 (by rfl) m_range (pa_cons (pe_callB call_len_seq (by rfl) m_len PySem.boot_len (pa_cons (pv 1) pa_nil)) pa_nil)) (blkOk_by (N := ["_law_found", "_law_due", "_law_k"]) (sc := defScope s_L_alike) (by decide +kernel))
          (fun _ _ _ _ _ => by exact pg_name (i := 2) sc_alike.nd rfl (Or.inl rfl)) (fun _ _ _ _ _ => by exact pts_one (pt_not (pt_val (pe_cl C1 hr (pa_cons (pe_ix ix_seq (pv 0) (pv 2) (fun _ _ => rfl)) (pa_cons (pe_ix ix_seq (pv 1) (pv 2) (fun _ _ => rfl)) pa_nil)) (Nat.le_refl _)))))
          (fun _ _ _ _ _ => by exact pv 2)) (pe_lst pa_nil) (nomark _)))))) pss_nil)
      (pss_cons (ps_if (pt_cmp (pc_isN (pv 1)) rfl) (pss_one (ps_ret (pe_cmp (pc_isN (pv 0)) rfl))) pss_nil)
      (pss_cons (ps_if (pt_val (pe_callB call_isi (by rfl) m_isi (by decide +kernel) (pa_cons (pv 1) (pa_cons (pe_bltn (v := .ty "str") (u := .type "str") (by rfl) m_str (by decide +kernel) rfl) pa_nil)))) (pss_one (ps_ret (pe_and (pe_callB call_isi (by rfl) m_isi (by decide +kernel) (pa_cons (pv 0) (pa_cons (pe_bltn (v := .ty "str") (u := .type "str") (by rfl) m_str (by decide +kernel) rfl) pa_nil))) (pe_one (pe_cmpR op_eq (pv 0) (pv 1) (nomark _)))))) pss_nil)
      (pss_cons (ps_if (PW.pt (pw_or (pt_val (pe_callB call_isi (by rfl) m_isi (by decide +kernel) (pa_cons (pv 1) (pa_cons (pe_bltn (v := .ty "bool") (u := .type "bool") (by rfl) m_bool (by decide +kernel) rfl) pa_nil)))) (pw_or1 (pt_val (pe_callB call_isi (by rfl) m_isi (by decide +kernel) (pa_cons (pv 0) (pa_cons (pe_bltn (v := .ty "bool") (u := .type "bool") (by rfl) m_bool (by decide +kernel) rfl) pa_nil))))))) (pss_one (ps_ret (pe_and (pe_callB call_isi (by rfl) m_isi (by decide +kernel) (pa_cons (pv 1) (pa_cons (pe_bltn (v := .ty "bool") (u := .type "bool") (by rfl) m_bool (by decide +kernel) rfl) pa_nil))) (pe_and (pe_callB call_isi (by rfl) m_isi (by decide +kernel) (pa_cons (pv 0) (pa_cons (pe_bltn (v := .ty "bool") (u := .type "bool") (by rfl) m_bool (by decide +kernel) rfl) pa_nil))) (pe_one (pe_cmpR op_eq (pv 0) (pv 1) (nomark _))))))) pss_nil)
      (pss_one (ps_ret (pe_and (pe_callB call_isi (by rfl) m_isi (by decide +kernel) (pa_cons (pv 0) (pa_cons (pe_bltn (v := .ty "int") (u := .type "int") (by rfl) m_int (by decide +kernel) rfl) pa_nil))) (pe_one (pe_cmpR op_eq (pv 0) (pv 1) (nomark _))))))))), ?_⟩
    cases hx with
    | non =>
      cases hy
      refine ⟨_, rfl, (by show 2 ≤ sizeLine; decide), fun p np => ?_⟩
      refine ⟨.non, p, _, _, _, false, rfl, upd_same, .cons (.ty "tuple") (.cons (.ty "list") .nil), .base (.non), (kitAny_cons (b := false) (kit_ty (by decide +kernel)) (fun _ => kitAny_cons (b := false) (kit_ty (by decide +kernel)) (fun _ => kitAny_nil) (fun e => nomatch e)) (fun e => nomatch e)), _, rfl, iteF ?_⟩
      refine ⟨_, rfl, _, rfl, ?_⟩
      rw [decide_eq_true rfl]
      exact iteT ⟨_, rfl, q _ (same_upd np)⟩
    | bl b =>
      cases hy
      refine ⟨_, rfl, (by show 2 ≤ sizeLine; decide), fun p np => ?_⟩
      refine ⟨.bl b, p, _, _, _, false, rfl, upd_same, .cons (.ty "tuple") (.cons (.ty "list") .nil), .base (.bl b), (kitAny_cons (b := false) (kit_ty (by decide +kernel)) (fun _ => kitAny_cons (b := false) (kit_ty (by decide +kernel)) (fun _ => kitAny_nil) (fun e => nomatch e)) (fun e => nomatch e)), _, rfl, iteF ?_⟩
      refine ⟨_, rfl, _, rfl, ?_⟩
      rw [decide_eq_false (show ¬ V.bl b = .non from fun z => nomatch z)]
      refine iteF ?_
      refine ⟨_, rfl, .bl b, _, _, _, false, rfl, .ty "str", .base (.bl b), kit_ty (by decide +kernel), _, rfl, iteF ?_⟩
      refine ⟨_, rfl, .bl b, _, _, _, true, rfl, .ty "bool", .base (.bl b), kit_ty (by decide +kernel), _, rfl, iteT ?_⟩
      refine ⟨_, rfl, .bl b, _, _, _, true, rfl, .ty "bool", .base (.bl b), kit_ty (by decide +kernel), true, rfl, iteT ?_⟩
      refine ⟨_, rfl, .bl b, _, _, _, true, rfl, .ty "bool", .base (.bl b), kit_ty (by decide +kernel), true, rfl, iteT ⟨_, rfl, _, rfl, rfl, ?_⟩⟩
      rw [decide_eq_true rfl]
      exact q _ (same_upd np)
    | int i =>
      cases hy
      refine ⟨_, rfl, (by show 2 ≤ sizeLine; decide), fun p np => ?_⟩
      refine ⟨.int i, p, _, _, _, false, rfl, upd_same, .cons (.ty "tuple") (.cons (.ty "list") .nil), .base (.int i), (kitAny_cons (b := false) (kit_ty (by decide +kernel)) (fun _ => kitAny_cons (b := false) (kit_ty (by decide +kernel)) (fun _ => kitAny_nil) (fun e => nomatch e)) (fun e => nomatch e)), _, rfl, iteF ?_⟩
      refine ⟨_, rfl, _, rfl, ?_⟩
      rw [decide_eq_false (show ¬ V.int i = .non from fun z => nomatch z)]
      refine iteF ?_
      refine ⟨_, rfl, .int i, _, _, _, false, rfl, .ty "str", .base (.int i), kit_ty (by decide +kernel), _, rfl, iteF ?_⟩
      refine ⟨_, rfl, .int i, _, _, _, false, rfl, .ty "bool", .base (.int i), kit_ty (by decide +kernel), _, rfl, iteF ?_⟩
      refine ⟨_, rfl, .int i, _, _, _, false, rfl, .ty "bool", .base (.int i), kit_ty (by decide +kernel), _, rfl, iteF ?_⟩
      refine ⟨_, rfl, .int i, _, _, _, true, rfl, .ty "int", .base (.int i), kit_ty (by decide +kernel), true, rfl, iteT ⟨_, rfl, _, rfl, rfl, ?_⟩⟩
      rw [decide_eq_true rfl]
      exact q _ (same_upd np)
    | str s =>
      cases hy
      refine ⟨_, rfl, (by show 2 ≤ sizeLine; decide), fun p np => ?_⟩
      refine ⟨.str s, p, _, _, _, false, rfl, upd_same, .cons (.ty "tuple") (.cons (.ty "list") .nil), .base (.str s), (kitAny_cons (b := false) (kit_ty (by decide +kernel)) (fun _ => kitAny_cons (b := false) (kit_ty (by decide +kernel)) (fun _ => kitAny_nil) (fun e => nomatch e)) (fun e => nomatch e)), _, rfl, iteF ?_⟩
      refine ⟨_, rfl, _, rfl, ?_⟩
      rw [decide_eq_false (show ¬ V.str s = .non from fun z => nomatch z)]
      refine iteF ?_
      refine ⟨_, rfl, .str s, _, _, _, true, rfl, .ty "str", .base (.str s), kit_ty (by decide +kernel), _, rfl, iteT ?_⟩
      refine ⟨_, rfl, .str s, _, _, _, true, rfl, .ty "str", .base (.str s), kit_ty (by decide +kernel), true, rfl, iteT ⟨_, rfl, _, rfl, rfl, ?_⟩⟩
      rw [decide_eq_true rfl]
      exact q _ (same_upd np)
    | @lst a xs ds hs hal =>
      cases hy with
      | @lst a2 ys _ hs2 hal2 =>
      have lx := dpAll_len hal
      have ly := dpAll_len hal2
      obtain ⟨zl, za⟩ := szOk_lst hz
      have hdd : PyData.depthAll ds ≤ n := Nat.le_of_succ_le_succ hd
      refine ⟨_, rfl, (by show 2 ≤ sizeLine; decide), fun p np => ?_⟩
      have s1 := same_upd (o := .tup [V.ty "tuple", V.ty "list"]) np
      refine ⟨.ref a2, p, _, _, _, true, rfl, upd_same, .cons (.ty "tuple") (.cons (.ty "list") .nil), ty_list (Same.seq s1 hs2), (kitAny_cons (b := false) (kit_ty (by decide +kernel)) (fun _ => kitAny_cons (b := true) (r := true) (kit_ty (by decide +kernel)) (fun e => nomatch e) (fun _ => rfl)) (fun e => nomatch e)), _, rfl, iteT ?_⟩
      refine ⟨_, rfl, (by show 2 ≤ sizeLine; decide), fun p2 np2 => ?_⟩
      have s2 := s1.trans (same_upd (o := .tup [V.ty "tuple", V.ty "list"]) np2)
      refine ⟨.ref a, p2, _, _, _, true, rfl, upd_same, .cons (.ty "tuple") (.cons (.ty "list") .nil), ty_list (Same.seq s2 hs), (kitAny_cons (b := false) (kit_ty (by decide +kernel)) (fun _ => kitAny_cons (b := true) (r := true) (kit_ty (by decide +kernel)) (fun e => nomatch e) (fun _ => rfl)) (fun e => nomatch e)), _, rfl, iteF ?_⟩
      refine ⟨_, rfl, .ref a, _, _, _, true, rfl, .ty "list", ty_list (Same.seq s2 hs), kit_ty (by decide +kernel), ?_⟩
      refine ⟨_, rfl, .ref a2, _, _, _, true, rfl, .ty "list", ty_list (Same.seq s2 hs2), kit_ty (by decide +kernel), rfl, _, rfl, iteF ?_⟩
      refine ⟨_, rfl, a, xs, rfl, .inl (Same.seq s2 hs), _, rfl, a2, ys, rfl, .inl (Same.seq s2 hs2), rfl, _, rfl, ?_⟩
      rw [lx, ly]
      refine iteNS rfl ?_
      have sz : ds.length ≤ sizeLine := by
        exact Nat.le_trans zl (by decide)
      have szn : sizeLine < 2 ^ 62 := by decide
      refine ⟨_, rfl, a2, ys, rfl, .inl (Same.seq s2 hs2), _, rfl, by omega, by omega, fun D nD => ?_⟩
      rw [Int.toNat_natCast, ly]
      refine lc_range (lo := 0) (n := ds.length) (fun i H3 => Same (upd (upd H p (.tup [V.ty "tuple", V.ty "list"])) p2 (.tup [V.ty "tuple", V.ty "list"])) H3 ∧ H3 D = some (.lst [])) ⟨same_upd nD, upd_same⟩ ?_ ?_
      · rintro i H3 hi ⟨s3, eD⟩
        have s4 := s2.trans s3
        obtain ⟨v, d, gv, gd, hv⟩ := dpAll_get hal hi
        obtain ⟨v2, d2, gv2, gd2, hv2⟩ := dpAll_get hal2 hi
        have ed : d2 = d := Option.some.inj (gd2.symm.trans gd)
        subst ed
        refine ⟨rfl, _, rfl, _, rfl, .inl ⟨a, _, _, _, rfl, rfl, Same.seq s4 hs, at_of (j := i) (Int.zero_add _) gv, ?_⟩⟩
        refine ⟨_, rfl, _, rfl, .inl ⟨a2, _, _, _, rfl, rfl, Same.seq s4 hs2, at_of (j := i) (Int.zero_add _) gv2, ?_⟩⟩
        refine ⟨v, v2, d2, rfl, Dp.same s4 d2 _ hv, Dp.same s4 d2 _ hv2, Nat.le_trans (depth_get gd) hdd, sz_get gd za, fun H5 s5 => ⟨_, rfl, ?_⟩⟩
        exact ⟨s3.trans s5, s5 _ _ eD⟩
      · rintro H3 ⟨s3, eD⟩
        refine ⟨Nat.zero_le _, fun p3 np3 => ?_⟩
        refine ⟨.list [], .list [], Dp.lst (SqL.of (same_upd np3 _ _ eD)) .nil, Dp.lst (SqL.of upd_same) .nil, PySem.W.shaped_ints [], PySem.W.shaped_ints [], ?_⟩
        rw [show PyData.eqv (.list []) (.list []) = true from eqv_nil []]
        exact q _ ((s2.trans s3).trans (same_upd np3))
    | @tup a xs ds hs hal =>
      cases hy with
      | @tup a2 ys _ hs2 hal2 =>
      have lx := dpAll_len hal
      have ly := dpAll_len hal2
      obtain ⟨zl, za⟩ := szOk_tup hz
      have hdd : PyData.depthAll ds ≤ n := Nat.le_of_succ_le_succ hd
      refine ⟨_, rfl, (by show 2 ≤ sizeLine; decide), fun p np => ?_⟩
      have s1 := same_upd (o := .tup [V.ty "tuple", V.ty "list"]) np
      refine ⟨.ref a2, p, _, _, _, true, rfl, upd_same, .cons (.ty "tuple") (.cons (.ty "list") .nil), ty_tup (Same.seqT s1 hs2), (kitAny_cons (b := true) (r := true) (kit_ty (by decide +kernel)) (fun e => nomatch e) (fun _ => rfl)), _, rfl, iteT ?_⟩
      refine ⟨_, rfl, (by show 2 ≤ sizeLine; decide), fun p2 np2 => ?_⟩
      have s2 := s1.trans (same_upd (o := .tup [V.ty "tuple", V.ty "list"]) np2)
      refine ⟨.ref a, p2, _, _, _, true, rfl, upd_same, .cons (.ty "tuple") (.cons (.ty "list") .nil), ty_tup (Same.seqT s2 hs), (kitAny_cons (b := true) (r := true) (kit_ty (by decide +kernel)) (fun e => nomatch e) (fun _ => rfl)), _, rfl, iteF ?_⟩
      refine ⟨_, rfl, .ref a, _, _, _, false, rfl, .ty "list", ty_tup (Same.seqT s2 hs), kit_ty (by decide +kernel), ?_⟩
      refine ⟨_, rfl, .ref a2, _, _, _, false, rfl, .ty "list", ty_tup (Same.seqT s2 hs2), kit_ty (by decide +kernel), rfl, _, rfl, iteF ?_⟩
      refine ⟨_, rfl, a, xs, rfl, .inr (Same.seqT s2 hs), _, rfl, a2, ys, rfl, .inr (Same.seqT s2 hs2), rfl, _, rfl, ?_⟩
      rw [lx, ly]
      refine iteNS rfl ?_
      have sz : ds.length ≤ sizeLine := by
        exact Nat.le_trans zl (by decide)
      have szn : sizeLine < 2 ^ 62 := by decide
      refine ⟨_, rfl, a2, ys, rfl, .inr (Same.seqT s2 hs2), _, rfl, by omega, by omega, fun D nD => ?_⟩
      rw [Int.toNat_natCast, ly]
      refine lc_range (lo := 0) (n := ds.length) (fun i H3 => Same (upd (upd H p (.tup [V.ty "tuple", V.ty "list"])) p2 (.tup [V.ty "tuple", V.ty "list"])) H3 ∧ H3 D = some (.lst [])) ⟨same_upd nD, upd_same⟩ ?_ ?_
      · rintro i H3 hi ⟨s3, eD⟩
        have s4 := s2.trans s3
        obtain ⟨v, d, gv, gd, hv⟩ := dpAll_get hal hi
        obtain ⟨v2, d2, gv2, gd2, hv2⟩ := dpAll_get hal2 hi
        have ed : d2 = d := Option.some.inj (gd2.symm.trans gd)
        subst ed
        refine ⟨rfl, _, rfl, _, rfl, .inr (.inl ⟨a, _, _, _, rfl, rfl, Same.seqT s4 hs, at_of (j := i) (Int.zero_add _) gv, ?_⟩)⟩
        refine ⟨_, rfl, _, rfl, .inr (.inl ⟨a2, _, _, _, rfl, rfl, Same.seqT s4 hs2, at_of (j := i) (Int.zero_add _) gv2, ?_⟩)⟩
        refine ⟨v, v2, d2, rfl, Dp.same s4 d2 _ hv, Dp.same s4 d2 _ hv2, Nat.le_trans (depth_get gd) hdd, sz_get gd za, fun H5 s5 => ⟨_, rfl, ?_⟩⟩
        exact ⟨s3.trans s5, s5 _ _ eD⟩
      · rintro H3 ⟨s3, eD⟩
        refine ⟨Nat.zero_le _, fun p3 np3 => ?_⟩
        refine ⟨.list [], .list [], Dp.lst (SqL.of (same_upd np3 _ _ eD)) .nil, Dp.lst (SqL.of upd_same) .nil, PySem.W.shaped_ints [], PySem.W.shaped_ints [], ?_⟩
        rw [show PyData.eqv (.list []) (.list []) = true from eqv_nil []]
        exact q _ ((s2.trans s3).trans (same_upd np3))
end

/-! ### marks, spans as data -/
def pdO : Option Nat → PyData
  | none => .none
  | some n => .int (n : Int)
theorem dpO {K : PySem.W.Frag} {H : Hp} : ∀ o : Option Nat, Dp K H (oV o) (pdO o)
  | none => .non
  | some n => .int (n : Int)
def pdM (ms : List Nat) : List PyData := (ms.map Int.ofNat).map PyData.int
theorem dpM {K : PySem.W.Frag} {H : Hp} (ms : List Nat) : DpAll K H (nvs ms) (pdM ms) := dpAll_ints _
def pdS (s : Option Nat × Option Nat) : PyData := .tuple [pdO s.1, pdO s.2]
theorem dp_tups {K : PySem.W.Frag} {H : Hp} : ∀ {Ts : List Addr} {sp : Sps}, TupsAt H Ts sp → DpAll K H (Ts.map V.ref) (sp.map pdS)
  | [], [], _ => .nil
  | [], s :: r, h => absurd h.len (fun z => nomatch z)
  | T :: r, [], h => absurd h.len (fun z => nomatch z)
  | T :: r, s :: q, h => .cons (.tup (SqT.of (h.at_ 0 T s rfl rfl)) (.cons (dpO s.1) (.cons (dpO s.2) .nil))) (dp_tups (Ts := r) (sp := q) ⟨Nat.succ.inj h.len, fun j T' s' h1 h2 => h.at_ (j + 1) T' s' h1 h2⟩)
theorem depthAll_le {n : Nat} : ∀ {ds : List PyData}, (∀ d, d ∈ ds → PyData.depth d ≤ n) → PyData.depthAll ds ≤ n
  | [], _ => Nat.zero_le _
  | d :: r, h => by
    have h1 := h d List.mem_cons_self
    have h2 := depthAll_le (ds := r) fun x hx => h x (List.mem_cons_of_mem _ hx)
    simp only [PyData.depthAll]
    omega
theorem szAll_of : ∀ {ds : List PyData}, (∀ d, d ∈ ds → szOk d = true) → szAll ds = true
  | [], _ => rfl
  | d :: r, h => by
    have h1 := h d List.mem_cons_self
    have h2 := szAll_of (ds := r) fun x hx => h x (List.mem_cons_of_mem _ hx)
    simp only [szAll, h1, h2, Bool.and_self]
theorem pdO_d (o : Option Nat) : PyData.depth (pdO o) = 0 := by cases o <;> rfl
theorem pdO_s (o : Option Nat) : szOk (pdO o) = true := by cases o <;> rfl
theorem pdM_d (ms : List Nat) : PyData.depthAll (pdM ms) ≤ 0 := depthAll_le fun d hd => by
  obtain ⟨i, _, rfl⟩ := List.mem_map.mp hd
  exact Nat.le_refl 0
theorem pdM_s (ms : List Nat) : szAll (pdM ms) = true := szAll_of fun d hd => by
  obtain ⟨i, _, rfl⟩ := List.mem_map.mp hd
  rfl
theorem pdM_len (ms : List Nat) : (pdM ms).length = ms.length := by
  unfold pdM
  rw [List.length_map, List.length_map]
theorem pdS_d (s : Option Nat × Option Nat) : PyData.depth (pdS s) ≤ 1 := by
  unfold pdS
  simp only [PyData.depth, PyData.depthAll, pdO_d]
  decide
theorem pdS_s (s : Option Nat × Option Nat) : szOk (pdS s) = true := by
  unfold pdS
  simp only [szOk, szAll, pdO_s]
  rfl
theorem pdSs_d (sp : Sps) : PyData.depthAll (sp.map pdS) ≤ 1 := depthAll_le fun d hd => by
  obtain ⟨i, _, rfl⟩ := List.mem_map.mp hd
  exact pdS_d i
theorem pdSs_s (sp : Sps) : szAll (sp.map pdS) = true := szAll_of fun d hd => by
  obtain ⟨i, _, rfl⟩ := List.mem_map.mp hd
  exact pdS_s i
theorem agesF_len (R : Ru) (now : Nat) (ms : List Nat) : (agesF R now ms).length = ms.length := by unfold agesF; rw [List.length_map]
/-- a list of marks -/
def pdMs (ms : List Nat) : PyData := .list (pdM ms)
/-- a list of spans -/
def pdSp (sp : Sps) : PyData := .list (sp.map pdS)
theorem pdMs_d (ms : List Nat) : PyData.depth (pdMs ms) ≤ 1 := Nat.succ_le_succ (pdM_d ms)
theorem pdSp_d (sp : Sps) : PyData.depth (pdSp sp) ≤ 2 := Nat.succ_le_succ (pdSs_d sp)
theorem szOk_l {ds : List PyData} (h : ds.length ≤ 1000) (a : szAll ds = true) : szOk (.list ds) = true := by
  simp only [szOk, a, Bool.and_true]
  exact decide_eq_true h
theorem pdMs_s {ms : List Nat} (h : ms.length ≤ 1000) : szOk (pdMs ms) = true := szOk_l (by rw [pdM_len]; exact h) (pdM_s ms)
theorem pdSp_s {sp : Sps} (h : sp.length ≤ 1000) : szOk (pdSp sp) = true := szOk_l (by rw [List.length_map]; exact h) (pdSs_s sp)
theorem dpMs {K : PySem.W.Frag} {H : Hp} {a : Addr} {ms : List Nat} (h : H a = some (.lst (nvs ms))) : Dp K H (.ref a) (pdMs ms) := .lst (SqL.of h) (dpM ms)
theorem dpSp {K : PySem.W.Frag} {H : Hp} {a : Addr} {Ts : List Addr} {sp : Sps} (h : H a = some (.lst (Ts.map V.ref))) (ta : TupsAt H Ts sp) : Dp K H (.ref a) (pdSp sp) := .lst (SqL.of h) (dp_tups ta)
/-! ### the law's own helpers -/
def spMix (K : PySem.W.Frag) : Sp := fun vs H Q _ => ∃ (a : Addr) (sd : Int) (ns : List Int), vs = [.ref a, .int sd] ∧ SqL K H a (ns.map V.int) ∧ ns.length ≤ 63 ∧ 0 ≤ sd ∧ sd < 2147483647 ∧ ∀ H' h c, HAt H' h c → H h = none → H c = none → Same H H' → Q (.ref h) H'
def spNext : Sp := fun vs H Q _ => ∃ (h c : Addr) (m : Int), vs = [.ref h, .int m] ∧ 1 ≤ m ∧ m < 1073741824 ∧ HAt H h c ∧ ∀ (r : Nat) H', (r : Int) < m → HAt H' h c → Kp2 h c H H' → Q (.int (r : Int)) H'
section
variable {P : Program} {w : World} {K : PySem.W.Frag} {mg : Str → Option Value} {base : Heap}
theorem sc_mix : FnScope ["_law_script", "_law_seed", "_law_mixed", "_law_cell"] ["_law_script", "_law_seed"] (defScope s_L_mix) := ⟨rfl, rfl, rfl, by decide +kernel, rfl, by decide +kernel, by decide +kernel⟩
theorem ok_mix (D : DefAt K mg "_law_mix" s_L_mix ["_law_script", "_law_seed"]) (m_list : mg "list" = none) : Cl P w K mg base 1 "_law_mix" ["_law_script", "_law_seed"] (spMix K) := by
  refine D.cl fun f fd F => ?_
  refine F.ok sc_mix (fun vs H Q E h => ?_) (fun cdv A outer s H vs Q E hr h => ?_)
  · obtain ⟨a, sd, ns, rfl, _⟩ := h
    rfl
  · obtain ⟨a, sd, ns, rfl, hS, hl, s0, s1, q⟩ := h
    refine ⟨_, pss_cons (ps_set (i := 2) sc_mix.nd rfl (Or.inl rfl) (pv 1))
      (pss_cons (ps_for PassesOwn.never rfl (pi_list (pv 0)) (pg_name (i := 3) sc_mix.nd rfl (Or.inl rfl))
        (pss_one (ps_set (i := 2) sc_mix.nd rfl (Or.inl rfl) (pe_op op_mod (pe_op op_add (pe_op op_add (pe_op op_mul (pv 2) pe_int) (pe_op op_mod (pv 3) pe_int)) pe_int) pe_int))))
      (pss_one (ps_ret (pe_lst (pa_cons (pv 2) (pa_cons (pe_callTy call_list_of (by rfl) m_list (by decide +kernel) (pa_cons (pv 0) pa_nil)) (pa_cons pe_int pa_nil))))))), ?_⟩
    refine ⟨_, rfl, ?_⟩
    refine ⟨_, rfl, a, rfl, ⟨_, hS⟩, for_list (K := K) (a := a) (xs := ns.map V.int) (fun i σ H' => ∃ (mx : Int) (v : Option V), σ = [some (.ref a), some (.int sd), some (.int mx), v] ∧ H' = H ∧ 0 ≤ mx ∧ mx < 2147483647)
      ⟨sd, none, rfl, rfl, s0, s1⟩ (fun i σ H' _ ⟨_, _, _, e, _⟩ => by rw [e]; exact hS) ?_ ?_⟩
    · rintro i y σ H' hi ⟨mx, v, rfl, rfl, m0, m1⟩
      obtain ⟨z, rfl⟩ : ∃ z, y = V.int z := by
        rw [List.getElem?_map] at hi
        cases e : ns[i]? with
        | none =>
          rw [e] at hi
          cases hi
        | some z =>
          rw [e] at hi
          exact ⟨z, (Option.some.inj hi).symm⟩
      refine ⟨_, rfl, _, _, rfl, rfl, .inl (le64 m0 (by omega)), _, rfl, _, _, rfl, rfl, (by show (0 : Int) < 2147483629; decide), _, _, rfl, rfl, _, _, rfl, rfl, _, _, rfl, rfl, (by show (0 : Int) < 2147483647; decide), ?_⟩
      exact ⟨_, some (.int z), rfl, rfl, Int.emod_nonneg _ (by decide), Int.emod_lt_of_pos _ (by decide)⟩
    · rintro σ H' ⟨mx, v, rfl, rfl, m0, m1⟩
      refine ⟨_, rfl, _, rfl, a, ns.map V.int, rfl, .inl hS, fun c nc => ?_⟩
      refine ⟨(by show 3 ≤ sizeLine; decide), fun h nh => ?_⟩
      have sc' : Same H' (upd H' c (.lst (ns.map V.int))) := same_upd nc
      have nch : c ≠ h := ne_of_none upd_same nh
      refine q _ h c ⟨⟨mx, 0, ns, upd_same, ?_, m0, m1, Int.le_refl 0, hl⟩, nch.symm⟩ (sc'.free nh) nc (sc'.trans (same_upd nh))
      rw [upd_ne nch, upd_same]
theorem sc_next : FnScope ["_law_h", "_law_many", "_law_at", "_law_cell"] ["_law_h", "_law_many"] (defScope s_L_next) := ⟨rfl, rfl, rfl, by decide +kernel, rfl, by decide +kernel, by decide +kernel⟩
theorem ok_next (D : DefAt K mg "_law_next" s_L_next ["_law_h", "_law_many"]) (m_max : mg "max" = none) (m_len : mg "len" = none) : Cl P w K mg base 1 "_law_next" ["_law_h", "_law_many"] spNext := by
  refine D.cl fun f fd F => ?_
  refine F.ok sc_next (fun vs H Q E h => ?_) (fun cdv A outer s H vs Q E hr h => ?_)
  · obtain ⟨h, c, m, rfl, _⟩ := h
    rfl
  · obtain ⟨h, c, m, rfl, h1, h2, ha, q⟩ := h
    obtain ⟨⟨mx, pl, ns, eh, ec, m0, m1, p0, hl⟩, nhc⟩ := ha
    refine ⟨_, pss_cons (ps_set (i := 2) sc_next.nd rfl (Or.inl rfl) (pe_op op_mod (pe_ix ix_list (pv 0) pe_int (fun _ _ => rfl)) (pe_callB (call_max2 rfl) (by rfl) m_max (by decide +kernel) (pa_cons pe_int (pa_cons (pe_callB call_len_seq (by rfl) m_len PySem.boot_len (pa_cons (pe_ix ix_list (pv 0) pe_int (fun _ _ => rfl)) pa_nil)) pa_nil)))))
      (pss_cons (ps_set (i := 3) sc_next.nd rfl (Or.inl rfl) (pe_ifExp (pt_cmpR (op_neD hr.units) (pe_ix ix_list (pv 0) pe_int (fun _ _ => rfl)) (pe_lst pa_nil) (nomark _)) (pe_ix ix_list (pe_ix ix_list (pv 0) pe_int (fun _ _ => rfl)) (pv 2) (fun _ _ => rfl)) pe_int))
      (pss_cons (ps_if (pt_cmpR op_ge (pv 3) (pe_op op_pow pe_int pe_int) (nomark _))
        (pss_cons (ps_asg (pe_op op_fdiv (pv 3) (pv 1)) (pg_sub (pe_ix ix_list (pv 0) pe_int (fun _ _ => rfl)) (pv 2) set_list)) (pss_one (ps_ret (pe_op op_mod (pv 3) (pv 1))))) pss_nil)
      (pss_cons (ps_asg (pe_op op_mod (pe_op op_add (pe_op op_add (pe_op op_mul (pe_ix ix_list (pv 0) pe_int (fun _ _ => rfl)) pe_int) (pe_op op_mul (pv 3) pe_int)) pe_int) pe_int) (pg_sub (pv 0) pe_int set_list))
      (pss_cons (ps_asg (pe_op op_add (pe_ix ix_list (pv 0) pe_int (fun _ _ => rfl)) pe_int) (pg_sub (pv 0) pe_int set_list))
      (pss_one (ps_ret (pe_op op_mod (pe_op op_fdiv (pe_ix ix_list (pv 0) pe_int (fun _ _ => rfl)) pe_int) (pv 1)))))))), ?_⟩
    have a1 : atI [V.int mx, V.ref c, V.int pl] 1 = some (.ref c) := atI_nat (j := 1) rfl
    have a0 : atI [V.int mx, V.ref c, V.int pl] 0 = some (.int mx) := atI_nat (j := 0) rfl
    have a2 : atI [V.int mx, V.ref c, V.int pl] 2 = some (.int pl) := atI_nat (j := 2) rfl
    have hz : ((ns.map V.int).length : Int) = (ns.length : Int) := by rw [List.length_map]
    obtain ⟨M, hM, hM1, hM2⟩ : ∃ M : Int, (if ((ns.map V.int).length : Int) > 1 then ((ns.map V.int).length : Int) else 1) = M ∧ 1 ≤ M ∧ (ns ≠ [] → M = ns.length) := by
      refine ⟨_, rfl, ?_, ?_⟩
      · split <;> omega
      · intro hn
        have : 1 ≤ ns.length := List.length_pos_iff.mpr hn
        rw [hz]
        split <;> omega
    -- _law_at
    refine ⟨_, rfl, h, _, _, _, rfl, rfl, SqL.of eh, a2, _, rfl, h, _, _, _, rfl, rfl, SqL.of eh, a1, c, _, rfl, .inl (SqL.of ec), _, _, rfl, ?_⟩
    dsimp only
    rw [hM]
    refine ⟨_, _, rfl, rfl, (by show 0 < M; omega), ?_⟩
    have at0 : 0 ≤ pl % M := Int.emod_nonneg _ (by omega)
    have at1 : pl % M < M := Int.emod_lt_of_pos _ (by omega)
    -- _law_cell
    refine ⟨_, rfl, h, _, _, _, rfl, rfl, SqL.of eh, a1, (by show 0 ≤ sizeLine; decide), fun p np => ?_⟩
    have sp : Same H (upd H p (.lst [])) := same_upd np
    have eh1 := sp _ _ eh
    have ec1 := sp _ _ ec
    refine ⟨.list (ns.map PyData.int), .list [], Dp.lst (SqL.of ec1) (dpAll_ints ns), Dp.lst (SqL.of upd_same) .nil, PySem.W.shaped_ints ns, PySem.W.shaped_ints [], _, rfl, ?_⟩
    rw [eqv_nil]
    refine join_if (fun v H' => ∃ z : Int, v = .int z ∧ H' = upd H p (.lst []) ∧ (1000000000000000000 ≤ z → ns ≠ [])) ?_ ?_ ?_
    · rintro v H' ⟨z, rfl, rfl, hzn⟩
      refine ⟨_, rfl, _, _, rfl, rfl, ⟨by decide, by decide, by decide⟩, _, _, rfl, rfl, _, rfl, ?_⟩
      have e18 : (10 : Int) ^ (18 : Int).toNat = 1000000000000000000 := by decide
      dsimp only
      rw [e18]
      by_cases big : 1000000000000000000 ≤ z
      · rw [decide_eq_true big]
        refine iteT ?_
        have hn := hzn big
        have hj : (pl % M).toNat < ns.length := by
          have := hM2 hn
          omega
        refine ⟨_, rfl, _, rfl, _, _, rfl, rfl, ⟨by omega, by omega⟩, _, rfl, h, _, _, _, rfl, rfl, SqL.of eh1, a1, _, rfl, c, _, _, (pl % M).toNat, rfl, rfl, ec1, ?_, ?_⟩
        · rw [List.length_map]
          exact ixN_nn at0 (by omega)
        · refine ⟨_, rfl, _, rfl, _, _, rfl, rfl, (by show 0 < m; omega), ?_⟩
          dsimp only
          have e : z % m = ((z % m).toNat : Int) := (Int.toNat_of_nonneg (Int.emod_nonneg _ (by omega))).symm
          have lt := Int.emod_lt_of_pos z (show 0 < m by omega)
          rw [e]
          refine q _ _ (by omega) ⟨⟨mx, pl, ns.set (pl % M).toNat (z / m), ?_, ?_, m0, m1, p0, by rw [List.length_set]; exact hl⟩, nhc⟩ fun b o eb n1 n2 => ?_
          · rw [upd_ne nhc]
            exact eh1
          · rw [upd_same, List.map_set]
          · rw [upd_ne n2]
            exact sp _ _ eb
      · rw [decide_eq_false big]
        refine iteF ?_
        refine ⟨_, rfl, h, _, _, _, rfl, rfl, SqL.of eh1, a0, _, _, rfl, rfl, .inl (le64 m0 (by omega)), _, rfl, _, _, rfl, rfl, .inr ⟨by decide, by decide⟩, _, _, rfl, rfl, _, _, rfl, rfl, _, _, rfl, rfl, (by show (0 : Int) < 2147483647; decide),
          _, rfl, h, _, _, 0, rfl, rfl, eh1, rfl, ?_⟩
        refine ⟨_, rfl, h, _, _, _, rfl, rfl, SqL.of upd_same, atI_nat (j := 2) rfl, _, _, rfl, rfl, _, rfl, h, _, _, 2, rfl, rfl, upd_same, rfl, ?_⟩
        refine ⟨_, rfl, h, _, _, _, rfl, rfl, SqL.of upd_same, atI_nat (j := 0) rfl, _, _, rfl, rfl, ⟨by decide, by decide⟩, _, rfl, _, _, rfl, rfl, (by show 0 < m; omega), ?_⟩
        dsimp only
        have n0 := Int.emod_nonneg (mx * 48271 + z * 69621 + 11) (show (2147483647 : Int) ≠ 0 by decide)
        have n1 := Int.emod_lt_of_pos (mx * 48271 + z * 69621 + 11) (show (0 : Int) < 2147483647 by decide)
        generalize (mx * 48271 + z * 69621 + 11) % 2147483647 = y at n0 n1 ⊢
        have e : y / 7 % m = ((y / 7 % m).toNat : Int) := (Int.toNat_of_nonneg (Int.emod_nonneg _ (by omega))).symm
        have lt := Int.emod_lt_of_pos (y / 7) (show 0 < m by omega)
        rw [e]
        refine q _ _ (by omega) ⟨⟨y, pl + 1, ns, ?_, ?_, n0, n1, by omega, hl⟩, nhc⟩ fun b o eb n1 n2 => ?_
        · rw [upd_same]
          rfl
        · rw [upd_ne nhc.symm, upd_ne nhc.symm]
          exact ec1
        · rw [upd_ne n1, upd_ne n1]
          exact sp _ _ eb
    · intro e
      have hn : ns ≠ [] := by
        intro z
        subst z
        cases e
      have hj : (pl % M).toNat < ns.length := by
        have := hM2 hn
        omega
      exact ⟨.int ns[(pl % M).toNat], _, fun Q q => ⟨_, rfl, h, _, _, _, rfl, rfl, SqL.of eh1, a1, _, rfl, c, _, _, _, rfl, rfl, SqL.of ec1, at_of (j := (pl % M).toNat) (by omega) (by rw [List.getElem?_map, List.getElem?_eq_getElem hj]; rfl), q⟩, _, rfl, rfl, fun _ => hn⟩
    · intro e
      exact ⟨.int 0, _, fun Q q => q, 0, rfl, rfl, fun h => absurd h (by decide)⟩
end
def Ru.small : Ru → Prop
  | .cnt b s => b ≤ 4 ∧ s ≤ 6
  | .shf b s => b ≤ 5 ∧ s ≤ 6
  | .rgh _ => True
def spRule : Sp := fun vs H Q _ => ∃ (h c : Addr) (sm : Int), vs = [.ref h, .int sm] ∧ (sm = 0 ∨ sm = 1) ∧ HAt H h c ∧ ∀ (R : Ru) H' p, R.ok → (sm = 1 → R.small) → HAt H' h c → Kp2 h c H H' → RuAt H' p R → Q (.ref p) H'
def spEnd : Sp := fun vs H Q _ => ∃ (p : Addr) (R : Ru), vs = [.ref p] ∧ RuAt H p R ∧ R.ok ∧ ∀ H', Same H H' → Q (.int (R.fin : Int)) H'
def spTick : Sp := fun vs H Q _ => ∃ (p : Addr) (R : Ru) (m t : Nat) (i1 i2 : Int), vs = [.ref p, .int i1, .int i2] ∧ i1 = (m : Int) ∧ i2 = (t : Int) ∧ RuAt H p R ∧ R.ok ∧ m ≤ R.most ∧ ∀ H', Same H H' → Q (.int (tick R m t : Int)) H'
theorem fin_at {b : Nat} (h1 : 1 ≤ b) (h2 : b ≤ 6) : atI [V.int 1, V.int 3, V.int 7, V.int 15, V.int 31, V.int 63] ((b : Int) - 1) = some (.int ((2 ^ b - 1 : Nat) : Int)) := by
  have : b = 1 ∨ b = 2 ∨ b = 3 ∨ b = 4 ∨ b = 5 ∨ b = 6 := by omega
  rcases this with rfl | rfl | rfl | rfl | rfl | rfl
  · exact atI_nat (j := 0) rfl
  · exact atI_nat (j := 1) rfl
  · exact atI_nat (j := 2) rfl
  · exact atI_nat (j := 3) rfl
  · exact atI_nat (j := 4) rfl
  · exact atI_nat (j := 5) rfl
theorem pow_at {m : Nat} (h : m ≤ 7) : atI [V.int 1, V.int 2, V.int 4, V.int 8, V.int 16, V.int 32, V.int 64, V.int 128] (m : Int) = some (.int ((2 ^ m : Nat) : Int)) := by
  have : m = 0 ∨ m = 1 ∨ m = 2 ∨ m = 3 ∨ m = 4 ∨ m = 5 ∨ m = 6 ∨ m = 7 := by omega
  rcases this with rfl | rfl | rfl | rfl | rfl | rfl | rfl | rfl
  · exact atI_nat (j := 0) rfl
  · exact atI_nat (j := 1) rfl
  · exact atI_nat (j := 2) rfl
  · exact atI_nat (j := 3) rfl
  · exact atI_nat (j := 4) rfl
  · exact atI_nat (j := 5) rfl
  · exact atI_nat (j := 6) rfl
  · exact atI_nat (j := 7) rfl
section
variable {P : Program} {w : World} {K : PySem.W.Frag} {mg : Str → Option Value} {base : Heap}
theorem sc_rule : FnScope ["_law_h", "_law_small", "_law_kind", "_law_step_here"] ["_law_h", "_law_small"] (defScope s_L_rule) := ⟨rfl, rfl, rfl, by decide +kernel, rfl, by decide +kernel, by decide +kernel⟩
theorem ok_rule (D : DefAt K mg "_law_rule" s_L_rule ["_law_h", "_law_small"]) (m_int : mg "int" = none) (C1 : Cl P w K mg base 1 "_law_next" ["_law_h", "_law_many"] spNext) : Cl P w K mg base 2 "_law_rule" ["_law_h", "_law_small"] spRule := by
  refine D.cl fun f fd F => ?_
  refine F.ok sc_rule (fun vs H Q E h => ?_) (fun cdv A outer s H vs Q E hr h => ?_)
  · obtain ⟨h, c, sm, rfl, _⟩ := h
    rfl
  · obtain ⟨h, c, sm, rfl, hsm, ha, q⟩ := h
    refine ⟨_, pss_cons (ps_set (i := 2) sc_rule.nd rfl (Or.inl rfl) (pe_ix ix_list (pe_lst (pa_cons pe_str (pa_cons pe_str (pa_cons pe_str pa_nil)))) (pe_cl C1 hr (pa_cons (pv 0) (pa_cons pe_int pa_nil))) (fun _ _ => rfl)))
      (pss_cons (ps_if (pt_cmpR op_eq (pv 2) pe_str (nomark _)) (pss_one (ps_ret (pe_tup (pa_cons (pv 2) (pa_cons (pe_op op_add pe_int (pe_cl C1 hr (pa_cons (pv 0) (pa_cons pe_int pa_nil)))) pa_nil))))) pss_nil)
      (pss_cons (ps_set (i := 3) sc_rule.nd rfl (Or.inl rfl) (pe_op op_add pe_int (pe_cl C1 hr (pa_cons (pv 0) (pa_cons (pe_ix ix_list (pe_lst (pa_cons pe_int (pa_cons pe_int pa_nil))) (pv 1) (fun _ _ => rfl)) pa_nil)))))
      (pss_one (ps_ret (pe_tup (pa_cons (pv 2) (pa_cons (pe_op op_add pe_int (pe_cl C1 hr (pa_cons (pv 0) (pa_cons (pe_ix ix_list (pe_ix ix_list (pe_lst (pa_cons (pe_lst (pa_cons pe_int (pa_cons pe_int pa_nil))) (pa_cons (pe_lst (pa_cons pe_int (pa_cons pe_int pa_nil))) pa_nil)))
        (pe_callTy call_int1 (by rfl) m_int (by decide +kernel) (pa_cons (pe_cmpR op_eq (pv 2) pe_str (nomark _)) pa_nil)) (fun _ _ => rfl)) (pv 1) (fun _ _ => rfl)) pa_nil)))) (pa_cons (pv 3) pa_nil)))))))), ?_⟩
    refine ⟨(by show 3 ≤ sizeLine; decide), fun l0 n0 => ?_⟩
    have s0 : Same H (upd H l0 (.lst [.str "count", .str "shift", .str "rough"])) := same_upd n0
    refine ⟨_, rfl, h, c, 3, rfl, by decide, by decide, ha.same s0, fun r0 H1 r0l ha1 k1 => ?_⟩
    have el : (upd H l0 (.lst [.str "count", .str "shift", .str "rough"])) l0 = some (.lst [.str "count", .str "shift", .str "rough"]) := upd_same
    have nl : l0 ≠ h ∧ l0 ≠ c := by
      obtain ⟨⟨mx, pl, ns, e1, e2, _⟩, _⟩ := ha
      exact ⟨(ne_of_none e1 n0).symm, (ne_of_none e2 n0).symm⟩
    have el1 := k1 _ _ el nl.1 nl.2
    have K1 : Kp2 h c H H1 := (Same.kp2 s0).trans k1
    have hr0 : r0 = 0 ∨ r0 = 1 ∨ r0 = 2 := by omega
    obtain ⟨kd, ek, hk⟩ : ∃ kd : Str, atI [V.str "count", V.str "shift", V.str "rough"] (r0 : Int) = some (.str kd) ∧ (kd = "count" ∨ kd = "shift" ∨ kd = "rough") := by
      rcases hr0 with rfl | rfl | rfl
      · exact ⟨"count", atI_nat (j := 0) rfl, .inl rfl⟩
      · exact ⟨"shift", atI_nat (j := 1) rfl, .inr (.inl rfl)⟩
      · exact ⟨"rough", atI_nat (j := 2) rfl, .inr (.inr rfl)⟩
    refine ⟨l0, _, _, _, rfl, rfl, SqL.of el1, ek, ?_⟩
    refine ⟨_, rfl, rfl, _, rfl, ?_⟩
    by_cases er : kd = "rough"
    · subst er
      rw [dec_str, decide_eq_true rfl]
      refine iteT ?_
      refine ⟨_, rfl, _, rfl, h, c, 3, rfl, by decide, by decide, ha1, fun r H2 rl ha2 k2 => ?_⟩
      refine ⟨_, _, rfl, rfl, (by show 2 ≤ sizeLine; decide), fun p np => ?_⟩
      refine q (.rgh (1 + r)) _ p ⟨by omega, by omega⟩ (fun _ => trivial) (ha2.same (same_upd np)) ((K1.trans k2).trans (Same.kp2 (same_upd np))) ?_
      exact upd_same
    · rw [dec_str, decide_eq_false er]
      refine iteF ?_
      refine ⟨_, rfl, (by show 2 ≤ sizeLine; decide), fun l1 n1 => ?_⟩
      have s1 : Same H1 (upd H1 l1 (.lst [.int 20, .int 6])) := same_upd n1
      obtain ⟨m1, em1, h11, h12, h13⟩ : ∃ m1 : Int, atI [V.int 20, V.int 6] sm = some (.int m1) ∧ 1 ≤ m1 ∧ m1 ≤ 20 ∧ (sm = 1 → m1 ≤ 6) := by
        rcases hsm with rfl | rfl
        · exact ⟨20, atI_nat (j := 0) rfl, by decide, by decide, fun e => nomatch e⟩
        · exact ⟨6, atI_nat (j := 1) rfl, by decide, by decide, fun _ => by decide⟩
      refine ⟨_, rfl, l1, _, _, _, rfl, rfl, SqL.of upd_same, em1, h, c, m1, rfl, h11, by omega, ha1.same s1, fun r2 H2 r2l ha2 k2 => ?_⟩
      refine ⟨_, _, rfl, rfl, ?_⟩
      refine ⟨_, rfl, _, rfl, (by show 2 ≤ sizeLine; decide), fun l2 n2 => ?_⟩
      have s2 : Same H2 (upd H2 l2 (.lst [.int 6, .int 4])) := same_upd n2
      refine ⟨(by show 2 ≤ sizeLine; decide), fun l3 n3 => ?_⟩
      have s3 : Same (upd H2 l2 (.lst [.int 6, .int 4])) (upd (upd H2 l2 (.lst [.int 6, .int 4])) l3 (.lst [.int 10, .int 5])) := same_upd n3
      refine ⟨(by show 2 ≤ sizeLine; decide), fun l4 n4 => ?_⟩
      have s4 : Same (upd (upd H2 l2 (.lst [.int 6, .int 4])) l3 (.lst [.int 10, .int 5])) (upd (upd (upd H2 l2 (.lst [.int 6, .int 4])) l3 (.lst [.int 10, .int 5])) l4 (.lst [.ref l2, .ref l3])) := same_upd n4
      have e2 := s4 _ _ (s3 _ _ (show (upd H2 l2 (.lst [.int 6, .int 4])) l2 = some (.lst [.int 6, .int 4]) from upd_same))
      have e3 := s4 _ _ (show (upd (upd H2 l2 (.lst [.int 6, .int 4])) l3 (.lst [.int 10, .int 5])) l3 = some (.lst [.int 10, .int 5]) from upd_same)
      have sa := (s2.trans s3).trans s4
      refine ⟨_, rfl, rfl, .inr ⟨_, rfl, ?_⟩⟩
      rw [dec_str]
      have hkd : kd = "count" ∨ kd = "shift" := by
        rcases hk with z | z | z
        · exact .inl z
        · exact .inr z
        · exact absurd z er
      obtain ⟨lx, elx, hlx⟩ : ∃ lx, atI [V.ref l2, V.ref l3] (if decide (kd = "shift") = true then 1 else 0) = some (.ref lx) ∧ (kd = "count" ∧ lx = l2 ∨ kd = "shift" ∧ lx = l3) := by
        rcases hkd with rfl | rfl
        · refine ⟨l2, ?_, .inl ⟨rfl, rfl⟩⟩
          rw [decide_eq_false k_cs]
          exact atI_nat (j := 0) rfl
        · refine ⟨l3, ?_, .inr ⟨rfl, rfl⟩⟩
          rw [decide_eq_true rfl]
          exact atI_nat (j := 1) rfl
      obtain ⟨u, v, euv, hu⟩ : ∃ u v : Int, (upd (upd (upd H2 l2 (.lst [.int 6, .int 4])) l3 (.lst [.int 10, .int 5])) l4 (.lst [.ref l2, .ref l3])) lx = some (.lst [.int u, .int v]) ∧ (kd = "count" ∧ u = 6 ∧ v = 4 ∨ kd = "shift" ∧ u = 10 ∧ v = 5) := by
        rcases hlx with ⟨z, rfl⟩ | ⟨z, rfl⟩
        · exact ⟨6, 4, e2, .inl ⟨z, rfl, rfl⟩⟩
        · exact ⟨10, 5, e3, .inr ⟨z, rfl, rfl⟩⟩
      obtain ⟨m2, em2, hm2⟩ : ∃ m2 : Int, atI [V.int u, V.int v] sm = some (.int m2) ∧ (sm = 0 ∧ m2 = u ∨ sm = 1 ∧ m2 = v) := by
        rcases hsm with rfl | rfl
        · exact ⟨u, atI_nat (j := 0) rfl, .inl ⟨rfl, rfl⟩⟩
        · exact ⟨v, atI_nat (j := 1) rfl, .inr ⟨rfl, rfl⟩⟩
      have b2 : 1 ≤ m2 ∧ m2 ≤ 10 := by
        rcases hu with ⟨_, rfl, rfl⟩ | ⟨_, rfl, rfl⟩ <;> rcases hm2 with ⟨_, rfl⟩ | ⟨_, rfl⟩ <;> decide
      refine ⟨l4, _, _, _, rfl, rfl, SqL.of upd_same, elx, _, rfl, lx, _, _, _, rfl, rfl, SqL.of euv, em2, h, c, m2, rfl, b2.1, by omega, ha2.same sa, fun r5 H5 r5l ha5 k5 => ?_⟩
      refine ⟨_, _, rfl, rfl, _, rfl, (by show 3 ≤ sizeLine; decide), fun p np => ?_⟩
      have KK : Kp2 h c H (upd H5 p (.tup [.str kd, .int (1 + (r5 : Int)), .int (1 + (r2 : Int))])) := (((K1.trans (Same.kp2 s1)).trans k2).trans (Same.kp2 sa)).trans (k5.trans (Same.kp2 (same_upd np)))
      rcases hu with ⟨rfl, rfl, rfl⟩ | ⟨rfl, rfl, rfl⟩
      · have x1 : (r5 : Int) < 6 ∧ (sm = 1 → (r5 : Int) < 4) := by
          rcases hm2 with ⟨z, rfl⟩ | ⟨z, rfl⟩
          · exact ⟨r5l, fun z' => by omega⟩
          · exact ⟨by omega, fun _ => r5l⟩
        exact q (.cnt (1 + r5) (1 + r2)) _ p ⟨by omega, by omega, by omega, by omega⟩ (fun z => by have := h13 z; have := x1.2 z; exact ⟨by omega, by omega⟩) (ha5.same (same_upd np)) KK upd_same
      · have x1 : (r5 : Int) < 10 ∧ (sm = 1 → (r5 : Int) < 5) := by
          rcases hm2 with ⟨z, rfl⟩ | ⟨z, rfl⟩
          · exact ⟨r5l, fun z' => by omega⟩
          · exact ⟨by omega, fun _ => r5l⟩
        exact q (.shf (1 + r5) (1 + r2)) _ p ⟨by omega, by omega, by omega, by omega⟩ (fun z => by have := h13 z; have := x1.2 z; exact ⟨by omega, by omega⟩) (ha5.same (same_upd np)) KK upd_same
theorem sc_end : FnScope ["_law_rule_here"] ["_law_rule_here"] (defScope s_L_end) := ⟨rfl, rfl, rfl, by decide +kernel, rfl, by decide +kernel, by decide +kernel⟩
theorem ok_end (D : DefAt K mg "_law_end" s_L_end ["_law_rule_here"]) : Cl P w K mg base 1 "_law_end" ["_law_rule_here"] spEnd := by
  refine D.cl fun f fd F => ?_
  refine F.ok sc_end (fun vs H Q E h => ?_) (fun cdv A outer s H vs Q E hr h => ?_)
  · obtain ⟨p, R, rfl, _⟩ := h
    rfl
  · obtain ⟨p, R, rfl, hp, ok, q⟩ := h
    refine ⟨_, pss_one (ps_ret (pe_ifExp (pt_cmpR op_ne (pe_ix ix_tup (pv 0) pe_int (fun _ _ => rfl)) pe_str (nomark _)) (pe_ix ix_list (pe_lst (pa_cons pe_int (pa_cons pe_int (pa_cons pe_int (pa_cons pe_int (pa_cons pe_int (pa_cons pe_int pa_nil))))))) (pe_op op_sub (pe_ix ix_tup (pv 0) pe_int (fun _ _ => rfl)) pe_int) (fun _ _ => rfl)) pe_int)), ?_⟩
    refine ⟨_, rfl, p, _, _, _, rfl, rfl, SqT.of hp, R.at0, rfl, _, rfl, ?_⟩
    rw [dec_str]
    by_cases hk : R.kind = "shift"
    · rw [decide_eq_true hk]
      refine iteF ?_
      cases R with
      | cnt b s => exact absurd hk k_cs
      | rgh b => exact absurd hk k_rs
      | shf b s => exact q H (Same.refl H)
    · rw [decide_eq_false hk]
      have eb : R.fin = 2 ^ R.bits - 1 ∧ R.bits ≤ 6 := by
        cases R with
        | cnt b s => exact ⟨rfl, ok.2.1⟩
        | rgh b => exact ⟨rfl, Nat.le_trans ok.2 (by decide)⟩
        | shf b s => exact absurd rfl hk
      refine iteT ⟨(by show 6 ≤ sizeLine; decide), fun l nl => ?_⟩
      have sl : Same H (upd H l (.lst [.int 1, .int 3, .int 7, .int 15, .int 31, .int 63])) := same_upd nl
      refine ⟨_, rfl, p, _, _, _, rfl, rfl, SqT.of (sl _ _ hp), R.at1, _, _, rfl, rfl, l, _, _, _, rfl, rfl, SqL.of upd_same, fin_at (R.bits_pos ok).1 eb.2, ?_⟩
      rw [← eb.1]
      exact q _ sl
theorem sc_most : FnScope ["_law_rule_here", "_law_most_here", "_law_turn"] ["_law_rule_here"] (defScope s_L_most) := ⟨rfl, rfl, rfl, by decide +kernel, rfl, by decide +kernel, by decide +kernel⟩
theorem ok_most (D : DefAt K mg "_law_most" s_L_most ["_law_rule_here"]) (m_range : mg "range" = none) (m_int : mg "int" = none) : Cl P w K mg base 1 "_law_most" ["_law_rule_here"] spTopMark := by
  refine D.cl fun f fd F => ?_
  refine F.ok sc_most (fun vs H Q E h => ?_) (fun cdv A outer s H vs Q E hr h => ?_)
  · obtain ⟨p, R, rfl, _⟩ := h
    rfl
  · obtain ⟨p, R, rfl, hp, ok, q⟩ := h
    refine ⟨_, pss_cons (ps_set (i := 1) sc_most.nd rfl (Or.inl rfl) pe_int)
      (pss_cons (ps_for PassesOwn.never rfl (pi_range1 (by rfl) m_range (pa_cons (pe_op op_add (pe_ix ix_tup (pv 0) pe_int (fun _ _ => rfl)) (pe_callTy call_int1 (by rfl) m_int (by decide +kernel) (pa_cons (pe_cmpR op_eq (pe_ix ix_tup (pv 0) pe_int (fun _ _ => rfl)) pe_str (nomark _)) pa_nil))) pa_nil))
        (pg_name (i := 2) sc_most.nd rfl (Or.inl rfl)) (pss_one (ps_set (i := 1) sc_most.nd rfl (Or.inl rfl) (pe_op op_mul (pv 1) pe_int))))
      (pss_one (ps_ret (pe_op op_sub (pv 1) pe_int)))), ?_⟩
    refine ⟨_, rfl, p, _, _, _, rfl, rfl, SqT.of hp, R.at1, _, rfl, p, _, _, _, rfl, rfl, SqT.of hp, R.at0, rfl, .inr ⟨_, rfl, ?_⟩⟩
    rw [dec_str]
    obtain ⟨n, en, hn, hm⟩ : ∃ n : Nat, (R.bits : Int) + (if decide (R.kind = "shift") = true then 1 else 0) = (n : Int) ∧ n ≤ 11 ∧ R.most = 2 ^ n - 1 := by
      have hb := R.bits_pos ok
      cases R with
      | cnt b s =>
        refine ⟨b, ?_, by have : b ≤ 10 := hb.2; omega, rfl⟩
        rw [decide_eq_false (show ¬ (Ru.cnt b s).kind = "shift" from k_cs)]
        rfl
      | rgh b =>
        refine ⟨b, ?_, by have : b ≤ 10 := hb.2; omega, rfl⟩
        rw [decide_eq_false (show ¬ (Ru.rgh b).kind = "shift" from k_rs)]
        rfl
      | shf b s =>
        refine ⟨b + 1, ?_, by have : b ≤ 10 := hb.2; omega, rfl⟩
        rw [decide_eq_true (show (Ru.shf b s).kind = "shift" from rfl)]
        rfl
    refine ⟨_, _, rfl, rfl, _, rfl, by omega, by omega, ?_⟩
    rw [en, Int.toNat_natCast]
    refine for_range (lo := 0) (n := n) (fun i σ H' => ∃ v : Option V, σ = [some (.ref p), some (.int ((2 ^ i : Nat) : Int)), v] ∧ H' = H ∧ i ≤ n) ⟨none, rfl, rfl, Nat.zero_le _⟩ ?_ ?_
    · rintro i σ H' hi ⟨v, rfl, rfl, _⟩
      have pw : 2 ^ i ≤ 2 ^ 11 := Nat.pow_le_pow_right (by decide) (by omega)
      refine ⟨_, rfl, _, _, rfl, rfl, .inl (le64 (Int.natCast_nonneg _) (by omega)), some (.int (0 + (i : Int))), ?_, rfl, hi⟩
      rw [Nat.pow_succ]
      rfl
    · rintro σ H' ⟨v, rfl, rfl, _⟩
      refine ⟨_, rfl, _, _, rfl, rfl, ?_⟩
      dsimp only
      have pp := Nat.two_pow_pos n
      rw [show ((2 ^ n : Nat) : Int) - 1 = (R.most : Int) by rw [hm]; omega]
      exact q
theorem sc_tick : FnScope ["_law_rule_here", "_law_mark", "_law_moment"] ["_law_rule_here", "_law_mark", "_law_moment"] (defScope s_L_tick) := ⟨rfl, rfl, rfl, by decide +kernel, rfl, by decide +kernel, by decide +kernel⟩
theorem ok_tick (D : DefAt K mg "_law_tick" s_L_tick ["_law_rule_here", "_law_mark", "_law_moment"]) (m_int : mg "int" = none) (m_min : mg "min" = none) (C1 : Cl P w K mg base 1 "_law_end" ["_law_rule_here"] spEnd) :
    Cl P w K mg base 2 "_law_tick" ["_law_rule_here", "_law_mark", "_law_moment"] spTick := by
  refine D.cl fun f fd F => ?_
  refine F.ok sc_tick (fun vs H Q E h => ?_) (fun cdv A outer s H vs Q E hr h => ?_)
  · obtain ⟨p, R, m, t, i1, i2, rfl, _⟩ := h
    rfl
  · obtain ⟨p, R, m, t, i1, i2, rfl, rfl, rfl, hp, ok, hm, q⟩ := h
    refine ⟨_, pss_cons (ps_if (pt_cmpR op_eq (pe_ix ix_tup (pv 0) pe_int (fun _ _ => rfl)) pe_str (nomark _)) (pss_one (ps_ret (pe_op op_add (pv 1) (pe_callTy call_int1 (by rfl) m_int (by decide +kernel) (pa_cons (pe_and (pe_cmpR op_ne (pv 1) (pe_cl C1 hr (pa_cons (pv 0) pa_nil)) (nomark _))
        (pe_one (pe_cmpR op_eq (pe_op op_mod (pv 2) (pe_ix ix_list (pe_lst (pa_cons pe_int (pa_cons pe_int (pa_cons pe_int (pa_cons pe_int (pa_cons pe_int (pa_cons pe_int (pa_cons pe_int (pa_cons pe_int pa_nil))))))))) (pv 1) (fun _ _ => rfl))) pe_int (nomark _)))) pa_nil))))) pss_nil)
      (pss_cons (ps_if (pt_cmpR op_ne (pe_op op_mod (pv 2) (pe_ix ix_tup (pv 0) pe_int (fun _ _ => rfl))) pe_int (nomark _)) (pss_one (ps_ret (pv 1))) pss_nil)
      (pss_one (ps_ret (pe_ifExp (pt_cmpR op_eq (pe_ix ix_tup (pv 0) pe_int (fun _ _ => rfl)) pe_str (nomark _)) (pe_op op_fdiv (pv 1) pe_int) (pe_callB (call_min2 rfl) (by rfl) m_min (by decide +kernel) (pa_cons (pe_op op_add (pv 1) pe_int) (pa_cons (pe_cl C1 hr (pa_cons (pv 0) pa_nil)) pa_nil))))))), ?_⟩
    refine ⟨_, rfl, p, _, _, _, rfl, rfl, SqT.of hp, R.at0, rfl, _, rfl, ?_⟩
    rw [dec_str]
    by_cases hk : R.kind = "rough"
    · rw [decide_eq_true hk]
      refine iteT ?_
      cases R with
      | cnt b s => exact absurd hk k_cr
      | shf b s => exact absurd hk k_sr
      | rgh b =>
        obtain ⟨b1, b3⟩ : 1 ≤ b ∧ b ≤ 3 := ok
        have p8 : 2 ^ b ≤ 2 ^ 3 := Nat.pow_le_pow_right (by decide) b3
        have hm' : m ≤ 2 ^ b - 1 := hm
        refine ⟨_, rfl, _, rfl, _, rfl, p, .rgh b, rfl, hp, ⟨b1, b3⟩, fun H1 s1 => ?_⟩
        refine ⟨rfl, _, rfl, ?_⟩
        rw [dec_int]
        by_cases e : m = 2 ^ b - 1
        · rw [decide_eq_true (show (m : Int) = ((Ru.rgh b).fin : Int) by rw [e]; rfl)]
          refine iteF (.inr ⟨_, rfl, _, _, rfl, rfl, ?_⟩)
          have q' := q H1 s1
          rw [show tick (.rgh b) m t = m from if_neg (fun z => z.1 e)] at q'
          exact q'
        · rw [decide_eq_false (show ¬ (m : Int) = ((Ru.rgh b).fin : Int) from fun z => e (Int.ofNat.inj z))]
          refine iteT ⟨_, rfl, (by show 8 ≤ sizeLine; decide), fun l nl => ?_⟩
          refine ⟨_, rfl, l, _, _, _, rfl, rfl, SqL.of upd_same, pow_at (by omega), _, _, rfl, rfl, ?_, rfl, ?_⟩
          · have := Nat.two_pow_pos m
            show (0 : Int) < ((2 ^ m : Nat) : Int)
            omega
          · refine .inr ⟨_, rfl, _, _, rfl, rfl, ?_⟩
            have q' := q _ (s1.trans (same_upd (o := .lst [V.int 1, V.int 2, V.int 4, V.int 8, V.int 16, V.int 32, V.int 64, V.int 128]) nl))
            rw [dec_int]
            have em : (t : Int) % ((2 ^ m : Nat) : Int) = ((t % 2 ^ m : Nat) : Int) := rfl
            dsimp only
            by_cases z : t % 2 ^ m = 0
            · rw [show tick (.rgh b) m t = m + 1 from if_pos ⟨e, z⟩] at q'
              rw [decide_eq_true (show (t : Int) % ((2 ^ m : Nat) : Int) = 0 by rw [em, z]; rfl)]
              exact q'
            · rw [show tick (.rgh b) m t = m from if_neg (fun x => z x.2)] at q'
              rw [decide_eq_false (show ¬ (t : Int) % ((2 ^ m : Nat) : Int) = 0 by rw [em]; omega)]
              exact q'
    · rw [decide_eq_false hk]
      refine iteF ?_
      have hs := R.step_ok ok
      refine ⟨_, rfl, _, rfl, p, _, _, _, rfl, rfl, SqT.of hp, R.at2 hk, _, _, rfl, rfl, (by show (0 : Int) < (R.step : Int); omega), rfl, _, rfl, ?_⟩
      rw [dec_int]
      have em : (t : Int) % (R.step : Int) = ((t % R.step : Nat) : Int) := rfl
      have q' := q H (Same.refl H)
      by_cases z : t % R.step = 0
      · rw [decide_eq_true (show (t : Int) % (R.step : Int) = 0 by rw [em, z]; rfl)]
        refine iteF ?_
        refine ⟨_, rfl, p, _, _, _, rfl, rfl, SqT.of hp, R.at0, rfl, _, rfl, ?_⟩
        rw [dec_str]
        by_cases hk2 : R.kind = "shift"
        · rw [decide_eq_true hk2]
          refine iteT ⟨_, rfl, _, _, rfl, rfl, ⟨by decide, by decide⟩, ?_⟩
          cases R with
          | cnt b s => exact absurd hk2 k_cs
          | rgh b => exact absurd rfl hk
          | shf b s =>
            rw [show tick (.shf b s) m t = m / 2 from if_pos z] at q'
            exact q'
        · rw [decide_eq_false hk2]
          refine iteF ⟨_, rfl, _, _, rfl, rfl, _, rfl, p, R, rfl, hp, ok, fun H1 s1 => ?_⟩
          refine ⟨_, _, rfl, ?_⟩
          have q'' := q H1 s1
          cases R with
          | shf b s => exact absurd rfl hk2
          | rgh b => exact absurd rfl hk
          | cnt b s =>
            rw [show tick (.cnt b s) m t = min (m + 1) (2 ^ b - 1) from if_pos z] at q''
            have e : (if ((Ru.cnt b s).fin : Int) < (m : Int) + 1 then ((Ru.cnt b s).fin : Int) else (m : Int) + 1) = ((min (m + 1) (2 ^ b - 1) : Nat) : Int) := by
              show (if ((2 ^ b - 1 : Nat) : Int) < (m : Int) + 1 then ((2 ^ b - 1 : Nat) : Int) else (m : Int) + 1) = _
              split <;> omega
            rw [e]
            exact q''
      · rw [decide_eq_false (show ¬ (t : Int) % (R.step : Int) = 0 by rw [em]; omega)]
        refine iteT ⟨_, rfl, ?_⟩
        cases R with
        | rgh b => exact absurd rfl hk
        | cnt b s =>
          rw [show tick (.cnt b s) m t = m from if_neg z] at q'
          exact q'
        | shf b s =>
          rw [show tick (.shf b s) m t = m from if_neg z] at q'
          exact q'
end
section
variable {P : Program} {w : World} {K : PySem.W.Frag} {mg : Str → Option Value} {base : Heap}
theorem sc_Laged : FnScope ["_law_rule_here", "_law_mark", "_law_begin", "_law_end_here", "_law_moment"] ["_law_rule_here", "_law_mark", "_law_begin", "_law_end_here"] (defScope s_L_aged) := ⟨rfl, rfl, rfl, by decide +kernel, rfl, by decide +kernel, by decide +kernel⟩
theorem ok_Laged (D : DefAt K mg "_law_aged" s_L_aged ["_law_rule_here", "_law_mark", "_law_begin", "_law_end_here"]) (m_range : mg "range" = none) (C1 : Cl P w K mg base 2 "_law_tick" ["_law_rule_here", "_law_mark", "_law_moment"] spTick) :
    Cl P w K mg base 3 "_law_aged" ["_law_rule_here", "_law_mark", "_law_begin", "_law_end_here"] spAged := by
  refine D.cl fun f fd F => ?_
  refine F.ok sc_Laged (fun vs H Q E h => ?_) (fun cdv A outer s H vs Q E hr h => ?_)
  · obtain ⟨p, R, m, t, n, i1, i2, i3, rfl, _⟩ := h
    rfl
  · obtain ⟨p, R, m, t, n, i1, i2, i3, rfl, rfl, rfl, rfl, hp, ok, hm, ht, q⟩ := h
    refine ⟨_, pss_cons (ps_for PassesOwn.never rfl (pi_range2 (by rfl) m_range (pa_cons (pe_op op_add (pv 2) pe_int) (pa_cons (pe_op op_add (pv 3) pe_int) pa_nil))) (pg_name (i := 4) sc_Laged.nd rfl (Or.inl rfl))
        (pss_one (ps_set (i := 1) sc_Laged.nd rfl (Or.inl rfl) (pe_cl C1 hr (pa_cons (pv 0) (pa_cons (pv 1) (pa_cons (pv 4) pa_nil)))))))
      (pss_one (ps_ret (pv 1))), ?_⟩
    refine ⟨_, rfl, _, _, rfl, rfl, _, rfl, _, _, rfl, rfl, _, _, rfl, ⟨by omega, by omega, by omega, by omega⟩, ?_⟩
    rw [show (((t + n : Nat) : Int) + 1 - ((t : Int) + 1)).toNat = n by omega]
    refine for_range (lo := (t : Int) + 1) (n := n) (fun i σ H' => ∃ v : Option V, σ = [some (.ref p), some (.int (ag R m t i : Int)), some (.int (t : Int)), some (.int ((t + n : Nat) : Int)), v] ∧ Same H H') ⟨none, rfl, Same.refl H⟩ ?_ ?_
    · rintro i σ H' hi ⟨v, rfl, sm⟩
      refine ⟨_, rfl, _, rfl, _, rfl, p, R, ag R m t i, t + i + 1, _, _, rfl, rfl, by omega, sm _ _ hp, ok, ag_le R m t hm i, fun H2 s2 => ?_⟩
      exact ⟨some (.int ((t : Int) + 1 + (i : Int))), rfl, sm.trans s2⟩
    · rintro σ H' ⟨v, rfl, sm⟩
      exact ⟨_, rfl, q H' sm⟩
end
/-! ### the law's own look at spans -/
def spTop : Sp := fun vs H Q _ => ∃ (p : Addr) (R : Ru), vs = [.ref p] ∧ RuAt H p R ∧ R.ok ∧ R.isShf = true ∧ Q (.int (R.top : Int)) H
theorem Ru.shift_iff (R : Ru) : (R.kind = "shift") ↔ R.isShf = true := by
  cases R with
  | cnt b s => exact ⟨fun h => absurd h k_cs, fun h => nomatch h⟩
  | shf b s => exact ⟨fun _ => rfl, fun _ => rfl⟩
  | rgh b => exact ⟨fun h => absurd h k_rs, fun h => nomatch h⟩
section
variable {P : Program} {w : World} {K : PySem.W.Frag} {mg : Str → Option Value} {base : Heap}
theorem sc_top : FnScope ["_law_rule_here"] ["_law_rule_here"] (defScope s_L_top) := ⟨rfl, rfl, rfl, by decide +kernel, rfl, by decide +kernel, by decide +kernel⟩
theorem ok_top (D : DefAt K mg "_law_top" s_L_top ["_law_rule_here"]) (C1 : Cl P w K mg base 1 "_law_most" ["_law_rule_here"] spTopMark) : Cl P w K mg base 2 "_law_top" ["_law_rule_here"] spTop := by
  refine D.cl fun f fd F => ?_
  refine F.ok sc_top (fun vs H Q E h => ?_) (fun cdv A outer s H vs Q E hr h => ?_)
  · obtain ⟨p, R, rfl, _⟩ := h
    rfl
  · obtain ⟨p, R, rfl, hp, ok, hs, q⟩ := h
    refine ⟨_, pss_one (ps_ret (pe_op op_fdiv (pe_op op_add (pe_cl C1 hr (pa_cons (pv 0) pa_nil)) pe_int) pe_int)), ?_⟩
    refine ⟨_, rfl, p, R, rfl, hp, ok, _, _, rfl, rfl, _, _, rfl, rfl, ⟨by decide, by decide⟩, ?_⟩
    cases R with
    | cnt b s => cases hs
    | rgh b => cases hs
    | shf b s =>
      have e : (((Ru.shf b s).most : Int) + 1) / 2 = ((Ru.shf b s).top : Int) := by
        show (((2 ^ (b + 1) - 1 : Nat) : Int) + 1) / 2 = ((2 ^ b : Nat) : Int)
        have pb := Nat.two_pow_pos b
        rw [Nat.pow_succ]
        omega
      dsimp only
      rw [e]
      exact q
end
/-! ### the law's own: a thing that is seen -/
section
variable {P : Program} {w : World} {K : PySem.W.Frag} {mg : Str → Option Value} {base : Heap}
theorem sc_Lseen : FnScope ["_law_rule_here", "_law_mark"] ["_law_rule_here", "_law_mark"] (defScope s_L_seen) := ⟨rfl, rfl, rfl, by decide +kernel, rfl, by decide +kernel, by decide +kernel⟩
theorem ok_Lseen (D : DefAt K mg "_law_seen" s_L_seen ["_law_rule_here", "_law_mark"]) (C1 : Cl P w K mg base 2 "_law_top" ["_law_rule_here"] spTop) : Cl P w K mg base 3 "_law_seen" ["_law_rule_here", "_law_mark"] spSeen := by
  refine D.cl fun f fd F => ?_
  refine F.ok sc_Lseen (fun vs H Q E h => ?_) (fun cdv A outer s H vs Q E hr h => ?_)
  · obtain ⟨p, R, m, i, rfl, _⟩ := h
    rfl
  · obtain ⟨p, R, m, i, rfl, rfl, hp, ok, q⟩ := h
    refine ⟨_, pss_cons (ps_if (pt_cmpR op_ne (pe_ix ix_tup (pv 0) pe_int (fun _ _ => rfl)) pe_str (nomark _)) (pss_one (ps_ret pe_int)) pss_nil)
      (pss_one (ps_ret (pe_ifExp (pt_cmpR op_ge (pv 1) (pe_cl C1 hr (pa_cons (pv 0) pa_nil)) (nomark _)) (pv 1) (pe_op op_add (pv 1) (pe_cl C1 hr (pa_cons (pv 0) pa_nil)))))), ?_⟩
    refine ⟨_, rfl, p, _, _, _, rfl, rfl, SqT.of hp, R.at0, rfl, _, rfl, ?_⟩
    rw [dec_str]
    by_cases hk : R.kind = "shift"
    · rw [decide_eq_true hk]
      refine iteF ?_
      cases R with
      | cnt b s => exact absurd hk k_cs
      | rgh b => exact absurd hk k_rs
      | shf b s =>
        refine ⟨_, rfl, _, rfl, p, .shf b s, rfl, hp, ok, rfl, _, _, rfl, rfl, _, rfl, ?_⟩
        rw [seen_shf] at q
        by_cases c : m < 2 ^ b
        · rw [if_pos c] at q
          rw [decide_eq_false (show ¬ ((Ru.shf b s).top : Int) ≤ (m : Int) by show ¬ ((2 ^ b : Nat) : Int) ≤ (m : Int); omega)]
          exact iteF ⟨_, rfl, _, rfl, p, .shf b s, rfl, hp, ok, rfl, _, _, rfl, rfl, q⟩
        · rw [if_neg c] at q
          rw [decide_eq_true (show ((Ru.shf b s).top : Int) ≤ (m : Int) by show ((2 ^ b : Nat) : Int) ≤ (m : Int); omega)]
          exact iteT ⟨_, rfl, q⟩
    · rw [decide_eq_false hk]
      refine iteT ?_
      cases R with
      | cnt b s => exact q
      | rgh b => exact q
      | shf b s => exact absurd rfl hk
end
/-! ### the law's own board: a dict of a rule, marks, the moment, when each was last seen -/
structure Md where
  ms : List Nat
  ls : List (Option Nat)
  now : Nat
def bkv (p am : Addr) (now : Nat) (al : Addr) : List (Key × V) := [(.inr "rule", .ref p), (.inr "marks", .ref am), (.inr "now", .int (now : Int)), (.inr "last", .ref al)]
structure MAt (H : Hp) (m p am al : Addr) (R : Ru) (s : Md) : Prop where
  ob : H m = some (.dK (bkv p am s.now al))
  rl : RuAt H p R
  mrk : H am = some (.lst (nvs s.ms))
  la : H al = some (.lst (s.ls.map oV))
  ne : am ≠ al
  len : s.ls.length = s.ms.length
  few : s.ms.length ≤ 8
  bd : ∀ x, x ∈ s.ms → x ≤ R.most
theorem MAt.kp {H H' : Hp} {m p am al : Addr} {R : Ru} {s : Md} (a : MAt H m p am al R s) {L : List Addr} (k : KpL L H H') (n1 : ¬ m ∈ L) (n2 : ¬ p ∈ L) (n3 : ¬ am ∈ L) (n4 : ¬ al ∈ L) : MAt H' m p am al R s :=
  ⟨k _ _ a.ob n1, k _ _ a.rl n2, k _ _ a.mrk n3, k _ _ a.la n4, a.ne, a.len, a.few, a.bd⟩
theorem MAt.same {H H' : Hp} {m p am al : Addr} {R : Ru} {s : Md} (a : MAt H m p am al R s) (k : Same H H') : MAt H' m p am al R s :=
  ⟨k _ _ a.ob, k _ _ a.rl, k _ _ a.mrk, k _ _ a.la, a.ne, a.len, a.few, a.bd⟩
def mdSee (R : Ru) (j : Nat) (s : Md) : Md := ⟨s.ms.set j (seenM R (s.ms.getD j 0)), s.ls.set j (some s.now), s.now⟩
def mdPass (R : Ru) (n : Nat) (s : Md) : Md := ⟨s.ms.map fun x => ag R x s.now n, s.ls, s.now + n⟩
theorem k_rm : ¬ (("rule" : Str) = "marks") := by decide +kernel
theorem k_rn : ¬ (("rule" : Str) = "now") := by decide +kernel
theorem k_rl : ¬ (("rule" : Str) = "last") := by decide +kernel
theorem k_mn : ¬ (("marks" : Str) = "now") := by decide +kernel
theorem k_ml : ¬ (("marks" : Str) = "last") := by decide +kernel
theorem k_nl : ¬ (("now" : Str) = "last") := by decide +kernel
theorem inr_ne {a b : Str} (h : ¬ a = b) : ¬ (Sum.inr a : Key) = Sum.inr b := fun q => h (Sum.inr.inj q)
theorem bkv_rule (p am : Addr) (now : Nat) (al : Addr) : valV (bkv p am now al) (.inr "rule") = some (.ref p) := valV_pos rfl
theorem bkv_marks (p am : Addr) (now : Nat) (al : Addr) : valV (bkv p am now al) (.inr "marks") = some (.ref am) := by
  unfold bkv
  rw [valV_neg (inr_ne k_rm)]
  exact valV_pos rfl
theorem bkv_now (p am : Addr) (now : Nat) (al : Addr) : valV (bkv p am now al) (.inr "now") = some (.int (now : Int)) := by
  unfold bkv
  rw [valV_neg (inr_ne k_rn), valV_neg (inr_ne k_mn)]
  exact valV_pos rfl
theorem bkv_last (p am : Addr) (now : Nat) (al : Addr) : valV (bkv p am now al) (.inr "last") = some (.ref al) := by
  unfold bkv
  rw [valV_neg (inr_ne k_rl), valV_neg (inr_ne k_ml), valV_neg (inr_ne k_nl)]
  exact valV_pos rfl
theorem dg {H : Hp} {a : Addr} {kvs : List (Key × V)} {k : Str} {v : V} (e : H a = some (.dK kvs)) (h : valV kvs (.inr k) = some v) : DGet H a (.str k) (some v) := .inl ⟨kvs, .inr k, .inl e, rfl, h.symm⟩
theorem bkv_put_marks (p am : Addr) (now : Nat) (al am' : Addr) : putK (bkv p am now al) (.inr "marks") (.ref am') = bkv p am' now al := by
  unfold putK
  rw [valV_any, bkv_marks, Option.isSome_some, if_pos rfl]
  unfold bkv
  simp only [List.map_cons, List.map_nil, if_neg (inr_ne k_rm), if_neg (inr_ne (fun q => k_mn q.symm)), if_neg (inr_ne (fun q => k_ml q.symm)), if_pos]
theorem bkv_put_now (p am : Addr) (now : Nat) (al : Addr) (t : Nat) : putK (bkv p am now al) (.inr "now") (.int (t : Int)) = bkv p am t al := by
  unfold putK
  rw [valV_any, bkv_now, Option.isSome_some, if_pos rfl]
  unfold bkv
  simp only [List.map_cons, List.map_nil, if_neg (inr_ne k_rn), if_neg (inr_ne k_mn), if_neg (inr_ne (fun q => k_nl q.symm)), if_pos]
theorem bkv_merge (p am : Addr) (now : Nat) (al : Addr) : mergeK [] (bkv p am now al) = bkv p am now al := by
  unfold mergeK bkv
  simp only [List.foldl_cons, List.foldl_nil]
  have e1 : putK [] (.inr ("rule" : Str)) (.ref p) = ([(.inr "rule", .ref p)] : List (Key × V)) := rfl
  rw [e1]
  have e2 : putK ([(.inr "rule", .ref p)] : List (Key × V)) (.inr "marks") (.ref am) = [(.inr "rule", .ref p), (.inr "marks", .ref am)] := by
    unfold putK
    rw [valV_any, valV_neg (inr_ne k_rm), valV_nil, Option.isSome_none, if_neg Bool.false_ne_true]
    rfl
  rw [e2]
  have e3 : putK ([(.inr "rule", .ref p), (.inr "marks", .ref am)] : List (Key × V)) (.inr "now") (.int (now : Int)) = [(.inr "rule", .ref p), (.inr "marks", .ref am), (.inr "now", .int (now : Int))] := by
    unfold putK
    rw [valV_any, valV_neg (inr_ne k_rn), valV_neg (inr_ne k_mn), valV_nil, Option.isSome_none, if_neg Bool.false_ne_true]
    rfl
  rw [e3]
  unfold putK
  rw [valV_any, valV_neg (inr_ne k_rl), valV_neg (inr_ne k_ml), valV_neg (inr_ne k_nl), valV_nil, Option.isSome_none, if_neg Bool.false_ne_true]
  rfl
def spBoardL : Sp := fun vs H Q _ => ∃ (p : Addr) (R : Ru) (n : Nat) (i : Int), vs = [.ref p, .int i] ∧ i = (n : Int) ∧ RuAt H p R ∧ R.ok ∧ n ≤ 8 ∧
  ∀ H' m am al, MAt H' m p am al R ⟨List.replicate n R.fin, List.replicate n none, 0⟩ → H m = none → H am = none → H al = none → Same H H' → Q (.ref m) H'
def spDo : Sp := fun vs H Q _ => ∃ (m p am al st : Addr) (R : Ru) (s : Md) (wd : Str) (k : Nat) (i : Int), vs = [.ref m, .ref st] ∧ MAt H m p am al R s ∧ R.ok ∧ H st = some (.tup [.str wd, .int i]) ∧ i = (k : Int) ∧
  ((wd = "see" ∧ k < s.ms.length ∧ ∀ H', MAt H' m p am al R (mdSee R k s) → KpL [m, am, al] H H' → Q .non H') ∨
   (wd = "pass" ∧ s.now + k ≤ 1000000000 ∧ ∀ H' am', MAt H' m p am' al R (mdPass R k s) → H am' = none → KpL [m, am, al] H H' → Q (.int ((s.now + k : Nat) : Int)) H'))
theorem k_sp : ¬ (("pass" : Str) = "see") := by decide +kernel
section
variable {P : Program} {w : World} {K : PySem.W.Frag} {mg : Str → Option Value} {base : Heap}
theorem sc_Lboard : FnScope ["_law_rule_here", "_law_things"] ["_law_rule_here", "_law_things"] (defScope s_L_board) := ⟨rfl, rfl, rfl, by decide +kernel, rfl, by decide +kernel, by decide +kernel⟩
theorem ok_Lboard (D : DefAt K mg "_law_board" s_L_board ["_law_rule_here", "_law_things"]) (C1 : Cl P w K mg base 1 "_law_end" ["_law_rule_here"] spEnd) : Cl P w K mg base 2 "_law_board" ["_law_rule_here", "_law_things"] spBoardL := by
  refine D.cl fun f fd F => ?_
  refine F.ok sc_Lboard (fun vs H Q E h => ?_) (fun cdv A outer s H vs Q E hr h => ?_)
  · obtain ⟨p, R, n, i, rfl, _⟩ := h
    rfl
  · obtain ⟨p, R, n, i, rfl, rfl, hp, ok, n8, q⟩ := h
    refine ⟨_, pss_one (ps_ret (pe_disp (pps_cons pe_str (pv 0) (pps_cons pe_str (pe_op op_rep (pe_lst (pa_cons (pe_cl C1 hr (pa_cons (pv 0) pa_nil)) pa_nil)) (pv 1)) (pps_cons pe_str pe_int (pps_cons pe_str (pe_op op_rep (pe_lst (pa_cons pe_non pa_nil)) (pv 1)) pps_nil)))) (by rfl) (by rfl) (fun z => by cases z) (by decide))), ?_⟩
    intro m nm
    have s0 := same_upd (o := .dK []) nm
    refine ⟨_, rfl, ?_⟩
    refine ⟨_, rfl, p, R, rfl, s0 _ _ hp, ok, fun H1 s1 => ?_⟩
    refine ⟨(by show 1 ≤ sizeLine; decide), fun l1 n1 => ?_⟩
    have sl1 := same_upd (o := .lst [V.int (R.fin : Int)]) n1
    refine ⟨_, rfl, l1, _, _, rfl, rfl, upd_same, by omega, by omega, ?_, fun am nam => ?_⟩
    · rw [Int.toNat_natCast]
      exact Nat.le_trans (show 1 * n ≤ 8 by omega) (by decide)
    rw [Int.toNat_natCast, rep_one]
    have sam := same_upd (o := .lst (List.replicate n (V.int (R.fin : Int)))) nam
    refine ⟨(by show 1 ≤ sizeLine; decide), fun l2 n2 => ?_⟩
    have sl2 := same_upd (o := .lst [V.non]) n2
    refine ⟨_, rfl, l2, _, _, rfl, rfl, upd_same, by omega, by omega, ?_, fun al nal => ?_⟩
    · rw [Int.toNat_natCast]
      exact Nat.le_trans (show 1 * n ≤ 8 by omega) (by decide)
    rw [Int.toNat_natCast, rep_one]
    have sal := same_upd (o := .lst (List.replicate n V.non)) nal
    have sx := (((s1.trans sl1).trans sam).trans sl2).trans sal
    have em := sx _ _ (show (upd H m (.dK [])) m = some (.dK []) from upd_same)
    have eam := sal _ _ (sl2 _ _ (show (upd _ am (HO.lst (List.replicate n (V.int (R.fin : Int))))) am = some (.lst (List.replicate n (V.int (R.fin : Int)))) from upd_same))
    refine ⟨em, bkv p am 0 al, rfl, (by show 4 ≤ 15; decide), ?_⟩
    rw [bkv_merge]
    have na : am ≠ al := ne_of_none (sl2 _ _ (show (upd _ am (HO.lst (List.replicate n (V.int (R.fin : Int))))) am = some (.lst (List.replicate n (V.int (R.fin : Int)))) from upd_same)) nal
    have mam : m ≠ am := ne_of em eam (fun z => nomatch z)
    have mal : m ≠ al := ne_of em upd_same (fun z => nomatch z)
    have hpx := sx _ _ (s0 _ _ hp)
    have f1 : H am = none := (s0.trans (s1.trans sl1)).free nam
    have f2 : H al = none := (s0.trans (((s1.trans sl1).trans sam).trans sl2)).free nal
    refine q _ m am al ⟨upd_same, ?_, ?_, ?_, na, ?_, ?_, fun x hx => ?_⟩ nm f1 f2 fun x o e => ?_
    · unfold RuAt
      rw [upd_ne (ne_of hpx em (fun z => nomatch z))]
      exact hpx
    · rw [upd_ne mam.symm, eam]
      unfold nvs
      rw [List.map_replicate, List.map_replicate]
      rfl
    · rw [upd_ne mal.symm, upd_same, List.map_replicate]
      rfl
    · rw [List.length_replicate, List.length_replicate]
    · rw [List.length_replicate]; exact n8
    · rw [List.eq_of_mem_replicate hx]
      exact fin_most R
    · rw [upd_ne (ne_of_none e nm)]
      exact sx _ _ (s0 _ _ e)
theorem sc_Ldo : FnScope ["_law_m", "_law_step_here", "_law_end_here", "_law_mark"] ["_law_m", "_law_step_here"] (defScope s_L_do) := ⟨rfl, rfl, rfl, by decide +kernel, rfl, by decide +kernel, by decide +kernel⟩
theorem ok_Ldo (D : DefAt K mg "_law_do" s_L_do ["_law_m", "_law_step_here"]) (C1 : Cl P w K mg base 3 "_law_seen" ["_law_rule_here", "_law_mark"] spSeen) (C2 : Cl P w K mg base 3 "_law_aged" ["_law_rule_here", "_law_mark", "_law_begin", "_law_end_here"] spAged) :
    Cl P w K mg base 4 "_law_do" ["_law_m", "_law_step_here"] spDo := by
  refine D.cl fun f fd F => ?_
  refine F.ok sc_Ldo (fun vs H Q E h => ?_) (fun cdv A outer s H vs Q E hr h => ?_)
  · obtain ⟨m, p, am, al, st, R, sv, wd, k, i, rfl, _⟩ := h
    rfl
  · obtain ⟨m, p, am, al, st, R, sv, wd, k, i, rfl, ma, ok, est, rfl, q⟩ := h
    have hu := hu_of hr
    refine ⟨_, pss_cons (ps_if (pt_cmpR op_eq (pe_ix ix_tup (pv 1) pe_int (fun _ _ => rfl)) pe_str (nomark _))
        (pss_cons (ps_asg (pe_cl C1 hr (pa_cons (pe_dget hu (pv 0) pe_str (fun _ _ => rfl)) (pa_cons (pe_ix ix_list (pe_dget hu (pv 0) pe_str (fun _ _ => rfl)) (pe_ix ix_tup (pv 1) pe_int (fun _ _ => rfl)) (fun _ _ => rfl)) pa_nil))) (pg_sub (pe_dget hu (pv 0) pe_str (fun _ _ => rfl)) (pe_ix ix_tup (pv 1) pe_int (fun _ _ => rfl)) set_list))
        (pss_cons (ps_asg (pe_dget hu (pv 0) pe_str (fun _ _ => rfl)) (pg_sub (pe_dget hu (pv 0) pe_str (fun _ _ => rfl)) (pe_ix ix_tup (pv 1) pe_int (fun _ _ => rfl)) set_list))
        (pss_one (ps_ret pe_non)))) pss_nil)
      (pss_cons (ps_set (i := 2) sc_Ldo.nd rfl (Or.inr rfl) (pe_op op_add (pe_dget hu (pv 0) pe_str (fun _ _ => rfl)) (pe_ix ix_tup (pv 1) pe_int (fun _ _ => rfl))))
      (pss_cons (ps_dput hu (pv 0) pe_str (pe_lc (own := [("_law_mark", 3)]) (g := gName 3) (tt := tYes) (te := tCall spAged [] E0 (tCons (tDGet (tVar 0) (tC (.str "rule"))) (tCons (tVar 3) (tCons (tDGet (tVar 0) (tC (.str "now"))) (tCons (tVar 2) tNil))))) rfl sc_Ldo.nd (pi_list (pe_dget hu (pv 0) pe_str (fun _ _ => rfl)))
          (blkOk_by (N := ["_law_m", "_law_step_here", "_law_end_here", "_law_mark"]) (sc := defScope s_L_do) (by decide +kernel)) (fun _ _ _ _ _ => by exact pg_name (i := 3) sc_Ldo.nd rfl (Or.inl rfl)) (fun _ _ _ _ _ => by exact pts_nil)
          (fun _ _ _ _ _ => by exact pe_cl C2 hr (pa_cons (pe_dget hu (pv 0) pe_str (fun _ _ => rfl)) (pa_cons (pv 3) (pa_cons (pe_dget hu (pv 0) pe_str (fun _ _ => rfl)) (pa_cons (pv 2) pa_nil)))))) rfl)
      (pss_cons (ps_dput hu (pv 0) pe_str (pv 2) rfl)
      (pss_one (ps_ret (pv 2)))))), ?_⟩
    have t0 : atI [V.str wd, V.int (k : Int)] 0 = some (.str wd) := atI_nat (j := 0) rfl
    have t1 : atI [V.str wd, V.int (k : Int)] 1 = some (.int (k : Int)) := atI_nat (j := 1) rfl
    have nMm : m ≠ am := ne_of ma.ob ma.mrk (fun z => nomatch z)
    have nMl : m ≠ al := ne_of ma.ob ma.la (fun z => nomatch z)
    have nPm : p ≠ m := ne_of ma.rl ma.ob (fun z => nomatch z)
    have nPa : p ≠ am := ne_of ma.rl ma.mrk (fun z => nomatch z)
    have nPl : p ≠ al := ne_of ma.rl ma.la (fun z => nomatch z)
    refine ⟨_, rfl, st, _, _, _, rfl, rfl, SqT.of est, t0, rfl, _, rfl, ?_⟩
    rw [dec_str]
    rcases q with ⟨rfl, kl, q⟩ | ⟨rfl, tl, q⟩
    · rw [decide_eq_true rfl]
      refine iteT ?_
      have gm := nvs_get kl
      refine ⟨_, rfl, m, _, rfl, dg ma.ob (bkv_rule _ _ _ _), _, rfl, m, _, rfl, dg ma.ob (bkv_marks _ _ _ _), _, rfl, st, _, _, _, rfl, rfl, SqT.of est, t1, am, _, _, _, rfl, rfl, SqL.of ma.mrk, atI_nat gm, p, R, sv.ms.getD k 0, _, rfl, rfl, ma.rl, ok, ?_⟩
      have kn : ixN (nvs sv.ms).length (k : Int) = some k := by
        rw [nvs_len, ixN_nn (Int.natCast_nonneg _) (by omega), Int.toNat_natCast]
      refine ⟨_, rfl, m, _, rfl, dg ma.ob (bkv_marks _ _ _ _), _, rfl, st, _, _, _, rfl, rfl, SqT.of est, t1, am, _, _, k, rfl, rfl, ma.mrk, kn, ?_⟩
      have eob : (upd H am (.lst ((nvs sv.ms).set k (.int (seenM R (sv.ms.getD k 0) : Int))))) m = some (.dK (bkv p am sv.now al)) := by
        rw [upd_ne nMm]; exact ma.ob
      have ela : (upd H am (.lst ((nvs sv.ms).set k (.int (seenM R (sv.ms.getD k 0) : Int))))) al = some (.lst (sv.ls.map oV)) := by
        rw [upd_ne ma.ne.symm]; exact ma.la
      have est2 : (upd H am (.lst ((nvs sv.ms).set k (.int (seenM R (sv.ms.getD k 0) : Int))))) st = some (.tup [.str "see", .int (k : Int)]) := by
        rw [upd_ne (ne_of est ma.mrk (fun z => nomatch z))]; exact est
      have kn2 : ixN (sv.ls.map oV).length (k : Int) = some k := by
        rw [List.length_map, ma.len, ixN_nn (Int.natCast_nonneg _) (by omega), Int.toNat_natCast]
      refine ⟨_, rfl, m, _, rfl, dg eob (bkv_now _ _ _ _), _, rfl, m, _, rfl, dg eob (bkv_last _ _ _ _), _, rfl, st, _, _, _, rfl, rfl, SqT.of est2, t1, al, _, _, k, rfl, rfl, ela, kn2, ?_⟩
      refine q _ ⟨?_, ?_, ?_, ?_, ma.ne, ?_, ?_, fun x hx => ?_⟩ fun x o e n => ?_
      · rw [upd_ne nMl]; exact eob
      · unfold RuAt
        rw [upd_ne nPl, upd_ne nPa]; exact ma.rl
      · rw [upd_ne ma.ne, upd_same, nvs_set]
        rfl
      · rw [upd_same]
        show some (HO.lst ((sv.ls.map oV).set k (oV (some sv.now)))) = some (HO.lst ((sv.ls.set k (some sv.now)).map oV))
        rw [List.map_set]
      · show (sv.ls.set k (some sv.now)).length = (sv.ms.set k (seenM R (sv.ms.getD k 0))).length
        rw [List.length_set, List.length_set]
        exact ma.len
      · show (sv.ms.set k (seenM R (sv.ms.getD k 0))).length ≤ 8
        rw [List.length_set]
        exact ma.few
      · rcases List.mem_or_eq_of_mem_set hx with hx | hx
        · exact ma.bd x hx
        · rw [hx]
          exact fresh_most (seen_fresh (ma.bd _ (getD_mem kl)))
      · rw [upd_ne (fun z => n (by rw [z]; simp)), upd_ne (fun z => n (by rw [z]; simp))]
        exact e
    · rw [decide_eq_false k_sp]
      refine iteF ?_
      refine ⟨_, rfl, m, _, rfl, dg ma.ob (bkv_now _ _ _ _), _, rfl, st, _, _, _, rfl, rfl, SqT.of est, t1, _, _, rfl, rfl, ?_⟩
      refine ⟨_, rfl, m, _, rfl, dg ma.ob (bkv_marks _ _ _ _), am, rfl, ⟨_, SqL.of ma.mrk⟩, fun D nD => ?_⟩
      refine lc_list (K := K) (a := am) (xs := nvs sv.ms) (fun j H' => Same H H' ∧ H' D = some (.lst (nvs ((sv.ms.take j).map fun x => ag R x sv.now k)))) ⟨same_upd nD, upd_same⟩ (fun j H' _ h => SqL.of (h.1 _ _ ma.mrk)) ?_ ?_
      · rintro j y H' hy ⟨sm, eD⟩
        have jl : j < sv.ms.length := by
          have := (List.getElem?_eq_some_iff.mp hy).1
          rw [nvs_len] at this
          exact this
        have ey : y = .int ((sv.ms.getD j 0 : Nat) : Int) := Option.some.inj (hy.symm.trans (nvs_get jl))
        subst ey
        have ob' := sm _ _ ma.ob
        refine ⟨rfl, _, rfl, m, _, rfl, dg ob' (bkv_rule _ _ _ _), _, rfl, _, rfl, m, _, rfl, dg ob' (bkv_now _ _ _ _), _, rfl, p, R, sv.ms.getD j 0, sv.now, k, _, _, _, rfl, rfl, rfl, rfl, sm _ _ ma.rl, ok, ma.bd _ (getD_mem jl), tl, fun H2 s2 => ?_⟩
        refine ⟨_, s2 _ _ eD, ?_, fun x o e => ?_, ?_⟩
        · rw [nvs_len, List.length_map, List.length_take]
          exact small1000 (by have := ma.few; omega)
        · rw [upd_ne (ne_of_none e nD)]
          exact s2 _ _ (sm _ _ e)
        · rw [upd_same, List.take_add_one, List.getElem?_eq_getElem jl, List.getD_eq_getElem?_getD, List.getElem?_eq_getElem jl]
          unfold nvs
          rw [List.map_append, List.map_append, List.map_append]
          rfl
      · rintro H' ⟨sm, eD⟩
        rw [nvs_len, List.take_length] at eD
        have fD : H D = none := nD
        have ob' := sm _ _ ma.ob
        refine ⟨_, rfl, m, _, rfl, .inl ⟨_, .inr "marks", ob', rfl, (by show 4 < sizeLine; decide), rfl⟩, ?_⟩
        rw [bkv_put_marks]
        refine ⟨_, rfl, _, rfl, m, _, rfl, .inl ⟨_, .inr "now", upd_same, rfl, (by show 4 < sizeLine; decide), rfl⟩, ?_⟩
        have et : (sv.now : Int) + (k : Int) = ((sv.now + k : Nat) : Int) := rfl
        have nmD : m ≠ D := ne_of_none ma.ob nD
        refine ⟨_, rfl, ?_⟩
        rw [upd_upd]
        refine q _ D ⟨?_, ?_, ?_, ?_, ?_, ?_, ?_, fun x hx => ?_⟩ fD fun x o e n => ?_
        · rw [upd_same]
          show some (HO.dK (putK (bkv p D sv.now al) (.inr "now") (.int ((sv.now + k : Nat) : Int)))) = some (HO.dK (bkv p D (sv.now + k) al))
          rw [bkv_put_now]
        · unfold RuAt
          rw [upd_ne nPm]; exact sm _ _ ma.rl
        · rw [upd_ne nmD.symm]
          exact eD
        · rw [upd_ne nMl.symm]; exact sm _ _ ma.la
        · exact (ne_of_none ma.la nD).symm
        · show sv.ls.length = (sv.ms.map fun x => ag R x sv.now k).length
          rw [List.length_map]
          exact ma.len
        · show (sv.ms.map fun x => ag R x sv.now k).length ≤ 8
          rw [List.length_map]
          exact ma.few
        · obtain ⟨z, hz, rfl⟩ := List.mem_map.mp hx
          exact ag_le R z sv.now (ma.bd z hz) k
        · rw [upd_ne (fun z => n (by rw [z]; simp))]
          exact sm _ _ e
end
/-! ### the law's own steps -/
def spStep : Sp := fun vs H Q _ => ∃ (h c m p am al : Addr) (R : Ru) (s : Md), vs = [.ref h, .ref m] ∧ HAt H h c ∧ MAt H m p am al R s ∧ 1 ≤ s.ms.length ∧ h ≠ am ∧ h ≠ al ∧ c ≠ am ∧ c ≠ al ∧
  ∀ H' st wd (k : Nat), ((wd = "see" ∧ k < s.ms.length) ∨ (wd = "pass" ∧ 1 ≤ k ∧ k ≤ 1000)) → H' st = some (.tup [.str wd, .int (k : Int)]) → HAt H' h c → KpL [h, c] H H' → Q (.ref st) H'
/-- the law's board stands behind a draw -/
theorem MAt.drawn {H H' : Hp} {m p am al h c : Addr} {R : Ru} {s : Md} (a : MAt H m p am al R s) (hc : HAt H h c) (n1 : h ≠ am) (n2 : h ≠ al) (n3 : c ≠ am) (n4 : c ≠ al) (k : KpL [h, c] H H') : MAt H' m p am al R s := by
  obtain ⟨⟨mx, pl, ns, e1, e2, _⟩, _⟩ := hc
  exact a.kp k (nin2 (ne_of a.ob e1 (fun z => nomatch z)) (ne_of a.ob e2 (fun z => nomatch z))) (nin2 (ne_of a.rl e1 (fun z => nomatch z)) (ne_of a.rl e2 (fun z => nomatch z))) (nin2 n1.symm n3.symm) (nin2 n2.symm n4.symm)
section
variable {P : Program} {w : World} {K : PySem.W.Frag} {mg : Str → Option Value} {base : Heap}
theorem sc_Lstep : FnScope ["_law_h", "_law_m"] ["_law_h", "_law_m"] (defScope s_L_step) := ⟨rfl, rfl, rfl, by decide +kernel, rfl, by decide +kernel, by decide +kernel⟩
theorem ok_Lstep (D : DefAt K mg "_law_step" s_L_step ["_law_h", "_law_m"]) (m_len : mg "len" = none) (C1 : Cl P w K mg base 1 "_law_next" ["_law_h", "_law_many"] spNext) : Cl P w K mg base 2 "_law_step" ["_law_h", "_law_m"] spStep := by
  refine D.cl fun f fd F => ?_
  refine F.ok sc_Lstep (fun vs H Q E h => ?_) (fun cdv A outer s H vs Q E hr h => ?_)
  · obtain ⟨h, c, m, p, am, al, R, sv, rfl, _⟩ := h
    rfl
  · obtain ⟨h, c, m, p, am, al, R, sv, rfl, ha, ma, ln, n1, n2, n3, n4, q⟩ := h
    have hu := hu_of hr
    refine ⟨_, pss_cons (ps_if (pt_cmpR op_eq (pe_cl C1 hr (pa_cons (pv 0) (pa_cons pe_int pa_nil))) pe_int (nomark _)) (pss_one (ps_ret (pe_tup (pa_cons pe_str (pa_cons (pe_cl C1 hr (pa_cons (pv 0) (pa_cons (pe_callB call_len_seq (by rfl) m_len PySem.boot_len (pa_cons (pe_dget hu (pv 1) pe_str (fun _ _ => rfl)) pa_nil)) pa_nil))) pa_nil))))) pss_nil)
      (pss_one (ps_ret (pe_tup (pa_cons pe_str (pa_cons (pe_op op_add pe_int (pe_cl C1 hr (pa_cons (pv 0) (pa_cons (pe_ix ix_list (pe_lst (pa_cons pe_int (pa_cons pe_int (pa_cons pe_int (pa_cons pe_int pa_nil))))) (pe_op op_fdiv (pe_cl C1 hr (pa_cons (pv 0) (pa_cons pe_int pa_nil))) pe_int) (fun _ _ => rfl)) pa_nil)))) pa_nil))))), ?_⟩
    refine ⟨_, rfl, h, c, 2, rfl, by decide, by decide, ha, fun r0 H1 r0l ha1 k1 => ?_⟩
    have K1 := Kp2.kpL k1
    have ma1 := ma.drawn ha n1 n2 n3 n4 K1
    refine ⟨rfl, _, rfl, ?_⟩
    rw [dec_int]
    by_cases z : r0 = 0
    · rw [decide_eq_true (show (r0 : Int) = 0 by omega)]
      refine iteT ?_
      have f8 := ma.few
      refine ⟨_, rfl, _, rfl, m, _, rfl, dg ma1.ob (bkv_marks _ _ _ _), am, _, rfl, .inl (SqL.of ma1.mrk), h, c, _, rfl, by rw [nvs_len]; omega, by rw [nvs_len]; omega, ha1, fun k H2 kl ha2 k2 => ?_⟩
      rw [nvs_len] at kl
      refine ⟨(by show 2 ≤ sizeLine; decide), fun st nst => ?_⟩
      exact q _ st "see" k (.inl ⟨rfl, by omega⟩) upd_same (ha2.same (same_upd nst)) ((K1.trans (Kp2.kpL k2)).trans (Same.kpL (same_upd nst)))
    · rw [decide_eq_false (show ¬ (r0 : Int) = 0 by omega)]
      refine iteF ?_
      refine ⟨_, rfl, (by show 4 ≤ sizeLine; decide), fun l nl => ?_⟩
      have sl := same_upd (o := .lst [V.int 3, V.int 20, V.int 200, V.int 1000]) nl
      have nlh : l ≠ h ∧ l ≠ c := by
        obtain ⟨⟨mx, pl, ns, e1, e2, _⟩, _⟩ := ha1
        exact ⟨(ne_of_none e1 nl).symm, (ne_of_none e2 nl).symm⟩
      refine ⟨_, rfl, h, c, 7, rfl, by decide, by decide, ha1.same sl, fun r1 H2 r1l ha2 k2 => ?_⟩
      refine ⟨_, _, rfl, rfl, ⟨by decide, by decide⟩, ?_⟩
      obtain ⟨mv, emv, mv1, mv2⟩ : ∃ mv : Int, atI [V.int 3, V.int 20, V.int 200, V.int 1000] ((r1 : Int) / 2) = some (.int mv) ∧ 1 ≤ mv ∧ mv ≤ 1000 := by
        have : (r1 : Int) / 2 = 0 ∨ (r1 : Int) / 2 = 1 ∨ (r1 : Int) / 2 = 2 ∨ (r1 : Int) / 2 = 3 := by omega
        rcases this with e | e | e | e
        · rw [e]; exact ⟨3, atI_nat (j := 0) rfl, by decide, by decide⟩
        · rw [e]; exact ⟨20, atI_nat (j := 1) rfl, by decide, by decide⟩
        · rw [e]; exact ⟨200, atI_nat (j := 2) rfl, by decide, by decide⟩
        · rw [e]; exact ⟨1000, atI_nat (j := 3) rfl, by decide, by decide⟩
      refine ⟨l, _, _, _, rfl, rfl, SqL.of (k2 _ _ upd_same nlh.1 nlh.2), emv, h, c, mv, rfl, mv1, by omega, ha2, fun r H3 rl ha3 k3 => ?_⟩
      refine ⟨_, _, rfl, rfl, (by show 2 ≤ sizeLine; decide), fun st nst => ?_⟩
      have e : (1 : Int) + (r : Int) = ((1 + r : Nat) : Int) := rfl
      exact q _ st "pass" (1 + r) (.inr ⟨rfl, by omega, by omega⟩) upd_same (ha3.same (same_upd nst)) ((((K1.trans (Same.kpL sl)).trans (Kp2.kpL k2)).trans (Kp2.kpL k3)).trans (Same.kpL (same_upd nst)))
end
/-! ### what a step tells (k09) -/
def spTold : Sp := fun vs H Q _ => ∃ (m p am al st : Addr) (R : Ru) (s : Md) (wd : Str) (i : Int), vs = [.ref m, .ref st] ∧ MAt H m p am al R s ∧ R.ok ∧ s.now ≤ 999999000 ∧ H st = some (.tup [.str wd, .int i]) ∧
  ((wd = "pass" ∧ (¬ (1 ≤ i ∧ i ≤ 1000) → Q (.str "BadMoment") H) ∧ ∀ k : Nat, i = (k : Int) → 1 ≤ k → k ≤ 1000 → ∀ H' am', MAt H' m p am' al R (mdPass R k s) → H am' = none → KpL [m, am, al] H H' → Q (.int ((s.now + k : Nat) : Int)) H') ∨
   (¬ wd = "pass" ∧ (¬ (0 ≤ i ∧ i < (s.ms.length : Int)) → Q (.str "NoThing") H) ∧ ∀ k : Nat, i = (k : Int) → k < s.ms.length →
     ((wd = "see" ∧ ∀ H', MAt H' m p am al R (mdSee R k s) → KpL [m, am, al] H H' → Q .non H') ∨
      (wd = "ask" ∧ ∀ H' T x y, IsSpan R s.now (s.ms.getD k 0) x y → H T = none → Same H H' → H' T = some (.tup [oV x, oV y]) → Q (.ref T) H'))))
theorem k_ask : ¬ (("ask" : Str) = "see") := by decide +kernel
section
variable {P : Program} {w : World} {K : PySem.W.Frag} {mg : Str → Option Value} {base : Heap}
theorem sc_Ltold : FnScope ["_law_m", "_law_step_here"] ["_law_m", "_law_step_here"] (defScope s_L_told) := ⟨rfl, rfl, rfl, by decide +kernel, rfl, by decide +kernel, by decide +kernel⟩
theorem ok_Ltold (D : DefAt K mg "_law_told" s_L_told ["_law_m", "_law_step_here"]) (m_len : mg "len" = none) (C1 : Cl P w K mg base 4 "_law_do" ["_law_m", "_law_step_here"] spDo)
    (C2 : Cl P w K mg base 5 "span" ["rule", "now", "mark"] spSpan) : Cl P w K mg base 6 "_law_told" ["_law_m", "_law_step_here"] spTold := by
  refine D.cl fun f fd F => ?_
  refine F.ok sc_Ltold (fun vs H Q E h => ?_) (fun cdv A outer s H vs Q E hr h => ?_)
  · obtain ⟨m, p, am, al, st, R, sv, wd, i, rfl, _⟩ := h
    rfl
  · obtain ⟨m, p, am, al, st, R, sv, wd, i, rfl, ma, ok, nl, est, q⟩ := h
    have hu := hu_of hr
    refine ⟨_, pss_cons (ps_if (pt_cmpR op_eq (pe_ix ix_tup (pv 1) pe_int (fun _ _ => rfl)) pe_str (nomark _))
        (pss_one (ps_ret (pe_ifExp (pt_chain op_le op_le pe_int (pe_ix ix_tup (pv 1) pe_int (fun _ _ => rfl)) pe_int) (pe_cl C1 hr (pa_cons (pv 0) (pa_cons (pv 1) pa_nil))) pe_str))) pss_nil)
      (pss_cons (ps_if (pt_not (pt_chain op_le op_lt pe_int (pe_ix ix_tup (pv 1) pe_int (fun _ _ => rfl)) (pe_callB call_len_seq (by rfl) m_len PySem.boot_len (pa_cons (pe_dget hu (pv 0) pe_str (fun _ _ => rfl)) pa_nil)))) (pss_one (ps_ret pe_str)) pss_nil)
      (pss_one (ps_ret (pe_ifExp (pt_cmpR op_eq (pe_ix ix_tup (pv 1) pe_int (fun _ _ => rfl)) pe_str (nomark _)) (pe_cl C1 hr (pa_cons (pv 0) (pa_cons (pv 1) pa_nil)))
        (pe_cl C2 hr (pa_cons (pe_dget hu (pv 0) pe_str (fun _ _ => rfl)) (pa_cons (pe_dget hu (pv 0) pe_str (fun _ _ => rfl)) (pa_cons (pe_ix ix_list (pe_dget hu (pv 0) pe_str (fun _ _ => rfl)) (pe_ix ix_tup (pv 1) pe_int (fun _ _ => rfl)) (fun _ _ => rfl)) pa_nil)))))))), ?_⟩
    have t0 : atI [V.str wd, V.int i] 0 = some (.str wd) := atI_nat (j := 0) rfl
    have t1 : atI [V.str wd, V.int i] 1 = some (.int i) := atI_nat (j := 1) rfl
    refine ⟨_, rfl, st, _, _, _, rfl, rfl, SqT.of est, t0, rfl, _, rfl, ?_⟩
    rw [dec_str]
    rcases q with ⟨rfl, qb, q⟩ | ⟨nw, qb, q⟩
    · rw [decide_eq_true rfl]
      refine iteT ?_
      refine ⟨_, rfl, st, _, _, _, rfl, rfl, SqT.of est, t1, _, _, rfl, rfl, _, rfl, ?_⟩
      by_cases c1 : (1 : Int) ≤ i
      · rw [decide_eq_true c1]
        refine iteT ⟨_, _, rfl, rfl, _, rfl, ?_⟩
        by_cases c2 : i ≤ (1000 : Int)
        · rw [decide_eq_true c2]
          refine iteT ?_
          obtain ⟨k, rfl⟩ : ∃ k : Nat, i = (k : Int) := ⟨i.toNat, by omega⟩
          refine ⟨_, rfl, _, rfl, m, p, am, al, st, R, sv, _, k, _, rfl, ma, ok, est, rfl, .inr ⟨rfl, by omega, fun H' am' ma' n kp => ?_⟩⟩
          exact q k rfl (by omega) (by omega) H' am' ma' n kp
        · rw [decide_eq_false c2]
          exact iteF (qb fun z => c2 z.2)
      · rw [decide_eq_false c1]
        exact iteF ⟨_, rfl, iteF (qb fun z => c1 z.1)⟩
    · rw [decide_eq_false nw]
      refine iteF ?_
      refine ⟨_, rfl, st, _, _, _, rfl, rfl, SqT.of est, t1, _, _, rfl, rfl, _, rfl, ?_⟩
      by_cases c1 : (0 : Int) ≤ i
      · rw [decide_eq_true c1]
        refine iteT ⟨_, rfl, m, _, rfl, dg ma.ob (bkv_marks _ _ _ _), am, _, rfl, .inl (SqL.of ma.mrk), _, _, rfl, rfl, _, rfl, ?_⟩
        rw [nvs_len]
        by_cases c2 : i < (sv.ms.length : Int)
        · rw [decide_eq_true c2]
          refine iteF ?_
          obtain ⟨k, rfl⟩ : ∃ k : Nat, i = (k : Int) := ⟨i.toNat, by omega⟩
          have kl : k < sv.ms.length := by omega
          refine ⟨_, rfl, st, _, _, _, rfl, rfl, SqT.of est, t0, rfl, _, rfl, ?_⟩
          rw [dec_str]
          rcases q k rfl kl with ⟨rfl, q2⟩ | ⟨rfl, q2⟩
          · rw [decide_eq_true rfl]
            exact iteT ⟨_, rfl, _, rfl, m, p, am, al, st, R, sv, _, k, _, rfl, ma, ok, est, rfl, .inl ⟨rfl, kl, q2⟩⟩
          · rw [decide_eq_false k_ask]
            refine iteF ⟨_, rfl, m, _, rfl, dg ma.ob (bkv_rule _ _ _ _), _, rfl, m, _, rfl, dg ma.ob (bkv_now _ _ _ _), _, rfl, m, _, rfl, dg ma.ob (bkv_marks _ _ _ _), _, rfl, st, _, _, _, rfl, rfl, SqT.of est, t1, am, _, _, _, rfl, rfl, SqL.of ma.mrk, atI_nat (nvs_get kl), ?_⟩
            exact ⟨p, R, sv.now, sv.ms.getD k 0, _, _, rfl, rfl, rfl, ma.rl, ok, ma.bd _ (getD_mem kl), by omega, q2⟩
        · rw [decide_eq_false c2]
          exact iteT (qb fun z => c2 z.2)
      · rw [decide_eq_false c1]
        exact iteF ⟨_, rfl, iteT (qb fun z => c1 z.1)⟩
end
/-! ### shapes of data -/
theorem canLayAll_of : ∀ {ds : List PyData}, (∀ d, d ∈ ds → PyData.canLay0 d = true) → PyData.canLayAll0 ds = true
  | [], _ => by simp only [PyData.canLayAll0]
  | d :: r, h => by
    have h1 := h d List.mem_cons_self
    have h2 := canLayAll_of (ds := r) fun x hx => h x (List.mem_cons_of_mem _ hx)
    simp only [PyData.canLayAll0, h1, h2, Bool.and_self]
theorem shaped_of {d : PyData} (h : PyData.canLay0 d = true) (h2 : PyData.depth d ≤ 64) : SeqAt.shaped d = true := by
  unfold SeqAt.shaped
  rw [h, decide_eq_true h2]
  rfl
theorem pdO_l (o : Option Nat) : PyData.canLay0 (pdO o) = true := by cases o <;> simp only [pdO, PyData.canLay0]
theorem pdS_l (s : Option Nat × Option Nat) : PyData.canLay0 (pdS s) = true := by
  unfold pdS
  simp only [PyData.canLay0, PyData.canLayAll0, pdO_l, Bool.and_self]
theorem pdSp_shaped (sp : Sps) : SeqAt.shaped (pdSp sp) = true := by
  refine shaped_of ?_ (Nat.le_trans (pdSp_d sp) (by decide))
  unfold pdSp
  simp only [PyData.canLay0]
  exact canLayAll_of fun d hd => by
    obtain ⟨i, _, rfl⟩ := List.mem_map.mp hd
    exact pdS_l i
theorem eqv_nilL (ds : List PyData) : PyData.eqv (.list ds) (.list []) = ds.isEmpty := by
  cases ds with
  | nil => simp [PyData.eqv, PyData.eqvAll]
  | cons n r => simp [PyData.eqv, PyData.eqvAll]
theorem shaped_nil : SeqAt.shaped (.list []) = true := PySem.W.shaped_ints []
theorem TupsAt.snoc {H H' : Hp} {Ts : List Addr} {sp : Sps} {T : Addr} {s : Option Nat × Option Nat} (a : TupsAt H Ts sp) (k : ∀ x xs, H x = some (.tup xs) → H' x = some (.tup xs)) (e : H' T = some (.tup [oV s.1, oV s.2])) : TupsAt H' (Ts ++ [T]) (sp ++ [s]) := by
  refine ⟨by rw [List.length_append, List.length_append, a.len]; rfl, fun j T' s' h1 h2 => ?_⟩
  by_cases jl : j < Ts.length
  · rw [List.getElem?_append_left jl] at h1
    rw [List.getElem?_append_left (by rw [← a.len]; exact jl)] at h2
    exact k _ _ (a.at_ j T' s' h1 h2)
  · have jn := (List.getElem?_eq_some_iff.mp h1).1
    rw [List.length_append] at jn
    have je : j = Ts.length := by
      have : j < Ts.length + 1 := jn
      omega
    subst je
    rw [List.getElem?_append_right (Nat.le_refl _), Nat.sub_self] at h1
    rw [a.len, List.getElem?_append_right (Nat.le_refl _), Nat.sub_self] at h2
    cases h1
    cases h2
    exact e
theorem filter_isEmpty {α : Type} (l : List α) (f : α → Bool) : (l.filter f).isEmpty = !(l.any f) := by
  induction l with
  | nil => rfl
  | cons x r ih =>
    by_cases h : f x = true
    · rw [List.filter_cons_of_pos h, List.any_cons, h]
      rfl
    · rw [List.filter_cons_of_neg h, List.any_cons, ih, show f x = false by simpa using h, Bool.false_or]
theorem eqv_same {d : PyData} (h : SeqAt.shaped d = true) : PyData.eqv d d = true := by
  first
    | exact PySem.Calls.eqv_refl d (SeqAt.canLay_of_shaped h)
    | exact PyData.eqv_refl d (SeqAt.canLay_of_shaped h)
    | exact SeqAt.eqv_refl d (SeqAt.canLay_of_shaped h)
    | exact eqv_refl d (SeqAt.canLay_of_shaped h)
/-! ### what a step of a list tells: the program -/
inductive Tl where
  | non
  | int (n : Nat)
  | word (s : Str)
  | span (s : Option Nat × Option Nat)
def TlAt (H : Hp) (v : V) : Tl → Prop
  | .non => v = .non
  | .int n => v = .int (n : Int)
  | .word s => v = .str s
  | .span s => ∃ T, v = .ref T ∧ H T = some (.tup [oV s.1, oV s.2])
def TupK (H H' : Hp) : Prop := ∀ x xs, H x = some (.tup xs) → H' x = some (.tup xs)
theorem TupK.refl (H : Hp) : TupK H H := fun _ _ e => e
theorem TupK.trans {H H1 H2 : Hp} (a : TupK H H1) (b : TupK H1 H2) : TupK H H2 := fun x xs e => b x xs (a x xs e)
theorem Same.tupK {H H' : Hp} (a : Same H H') : TupK H H' := fun x xs e => a _ _ e
theorem TlAt.k {H H' : Hp} {v : V} {t : Tl} (a : TlAt H v t) (k : TupK H H') : TlAt H' v t := by
  cases t with
  | non => exact a
  | int n => exact a
  | word s => exact a
  | span s =>
    obtain ⟨T, e1, e2⟩ := a
    exact ⟨T, e1, k _ _ e2⟩
structure TlsAt (H : Hp) (vs : List V) (ts : List Tl) : Prop where
  len : vs.length = ts.length
  at_ : ∀ (j : Nat) (v : V) (t : Tl), vs[j]? = some v → ts[j]? = some t → TlAt H v t
theorem TlsAt.k {H H' : Hp} {vs : List V} {ts : List Tl} (a : TlsAt H vs ts) (k : TupK H H') : TlsAt H' vs ts := ⟨a.len, fun j v t h1 h2 => (a.at_ j v t h1 h2).k k⟩
theorem TlsAt.nil (H : Hp) : TlsAt H [] [] := ⟨rfl, fun j v t h1 => by simp at h1⟩
theorem TlsAt.snoc {H : Hp} {vs : List V} {ts : List Tl} {v : V} {t : Tl} (a : TlsAt H vs ts) (h : TlAt H v t) : TlsAt H (vs ++ [v]) (ts ++ [t]) := by
  refine ⟨by rw [List.length_append, List.length_append, a.len]; rfl, fun j v' t' h1 h2 => ?_⟩
  by_cases jl : j < vs.length
  · rw [List.getElem?_append_left jl] at h1
    rw [List.getElem?_append_left (by rw [← a.len]; exact jl)] at h2
    exact a.at_ j v' t' h1 h2
  · have jn := (List.getElem?_eq_some_iff.mp h1).1
    rw [List.length_append] at jn
    have je : j = vs.length := by
      have : j < vs.length + 1 := jn
      omega
    subst je
    rw [List.getElem?_append_right (Nat.le_refl _), Nat.sub_self] at h1
    rw [a.len, List.getElem?_append_right (Nat.le_refl _), Nat.sub_self] at h2
    cases h1
    cases h2
    exact h
def pdT : Tl → PyData
  | .non => .none
  | .int n => .int (n : Int)
  | .word s => .str s
  | .span s => pdS s
theorem dpT {K : PySem.W.Frag} {H : Hp} {v : V} {t : Tl} (a : TlAt H v t) : Dp K H v (pdT t) := by
  cases t with
  | non => rw [show v = .non from a]; exact .non
  | int n => rw [show v = .int (n : Int) from a]; exact .int _
  | word s => rw [show v = .str s from a]; exact .str s
  | span s =>
    obtain ⟨T, e1, e2⟩ := a
    rw [e1]
    exact .tup (SqT.of e2) (.cons (dpO _) (.cons (dpO _) .nil))
theorem dpTs {K : PySem.W.Frag} {H : Hp} : ∀ {vs : List V} {ts : List Tl}, TlsAt H vs ts → DpAll K H vs (ts.map pdT)
  | [], [], _ => .nil
  | [], t :: r, h => absurd h.len (fun z => nomatch z)
  | v :: r, [], h => absurd h.len (fun z => nomatch z)
  | v :: r, t :: q, h => .cons (dpT (h.at_ 0 v t rfl rfl)) (dpTs (vs := r) (ts := q) ⟨Nat.succ.inj h.len, fun j v' t' h1 h2 => h.at_ (j + 1) v' t' h1 h2⟩)
def pdTs (ts : List Tl) : PyData := .list (ts.map pdT)
theorem pdT_d (t : Tl) : PyData.depth (pdT t) ≤ 1 := by
  cases t with
  | span s => exact pdS_d s
  | non => exact Nat.zero_le _
  | int n => exact Nat.zero_le _
  | word s => exact Nat.zero_le _
theorem pdT_s (t : Tl) : szOk (pdT t) = true := by
  cases t with
  | span s => exact pdS_s s
  | non => rfl
  | int n => rfl
  | word s => rfl
theorem pdTs_d (ts : List Tl) : PyData.depth (pdTs ts) ≤ 2 := Nat.succ_le_succ (depthAll_le fun d hd => by
  obtain ⟨i, _, rfl⟩ := List.mem_map.mp hd
  exact pdT_d i)
theorem pdTs_s {ts : List Tl} (h : ts.length ≤ 1000) : szOk (pdTs ts) = true := szOk_l (by rw [List.length_map]; exact h) (szAll_of fun d hd => by
  obtain ⟨i, _, rfl⟩ := List.mem_map.mp hd
  exact pdT_s i)
/-- what a step tells, and how the board stands behind it -/
noncomputable def stepF (R : Ru) (s : List Nat × Nat) (wd : Str) (i : Int) : Tl × (List Nat × Nat) :=
  if wd = "see" then (if 0 ≤ i ∧ i < (s.1.length : Int) then (.non, (s.1.set i.toNat (seenM R (s.1.getD i.toNat 0)), s.2)) else (.word "NoThing", s))
  else if wd = "pass" then (if 1 ≤ i ∧ i ≤ 1000 then (.int (s.2 + i.toNat), (s.1.map (fun x => ag R x s.2 i.toNat), s.2 + i.toNat)) else (.word "BadMoment", s))
  else (if 0 ≤ i ∧ i < (s.1.length : Int) then (.span (spanF R s.2 (s.1.getD i.toNat 0)), s) else (.word "NoThing", s))
noncomputable def playF (R : Ru) : List Nat × Nat → List (Str × Int) → List Tl × (List Nat × Nat)
  | s, [] => ([], s)
  | s, x :: r => let q := stepF R s x.1 x.2; let z := playF R q.2 r; (q.1 :: z.1, z.2)
theorem playF_snoc (R : Ru) : ∀ (l : List (Str × Int)) (s : List Nat × Nat) (x : Str × Int), playF R s (l ++ [x]) = ((playF R s l).1 ++ [(stepF R (playF R s l).2 x.1 x.2).1], (stepF R (playF R s l).2 x.1 x.2).2)
  | [], s, x => rfl
  | y :: r, s, x => by
    show ((stepF R s y.1 y.2).1 :: (playF R (stepF R s y.1 y.2).2 (r ++ [x])).1, (playF R (stepF R s y.1 y.2).2 (r ++ [x])).2) = _
    rw [playF_snoc R r]
    rfl
theorem stepF_now (R : Ru) (s : List Nat × Nat) (wd : Str) (i : Int) : (stepF R s wd i).2.2 ≤ s.2 + 1000 ∧ (stepF R s wd i).2.1.length = s.1.length := by
  unfold stepF
  split
  · split
    · exact ⟨Nat.le_add_right _ _, List.length_set⟩
    · exact ⟨Nat.le_add_right _ _, rfl⟩
  · split
    · split
      · rename_i h
        refine ⟨?_, List.length_map _⟩
        show s.2 + i.toNat ≤ s.2 + 1000
        omega
      · exact ⟨Nat.le_add_right _ _, rfl⟩
    · split
      · exact ⟨Nat.le_add_right _ _, rfl⟩
      · exact ⟨Nat.le_add_right _ _, rfl⟩
theorem playF_now (R : Ru) : ∀ (l : List (Str × Int)) (s : List Nat × Nat), (playF R s l).2.2 ≤ s.2 + 1000 * l.length ∧ (playF R s l).2.1.length = s.1.length ∧ (playF R s l).1.length = l.length
  | [], s => ⟨Nat.le_refl _, rfl, rfl⟩
  | x :: r, s => by
    obtain ⟨a1, a2⟩ := stepF_now R s x.1 x.2
    obtain ⟨b1, b2, b3⟩ := playF_now R r (stepF R s x.1 x.2).2
    refine ⟨?_, b2.trans a2, ?_⟩
    · show (playF R (stepF R s x.1 x.2).2 r).2.2 ≤ s.2 + 1000 * (r.length + 1)
      omega
    · show (playF R (stepF R s x.1 x.2).2 r).1.length + 1 = r.length + 1
      rw [b3]
/-- steps as tuples -/
structure StepsAt (H : Hp) (Ts : List Addr) (sd : List (Str × Int)) : Prop where
  len : Ts.length = sd.length
  at_ : ∀ (j : Nat) (T : Addr) (x : Str × Int), Ts[j]? = some T → sd[j]? = some x → H T = some (.tup [.str x.1, .int x.2])
theorem StepsAt.k {H H' : Hp} {Ts : List Addr} {sd : List (Str × Int)} (a : StepsAt H Ts sd) (k : TupK H H') : StepsAt H' Ts sd := ⟨a.len, fun j T x h1 h2 => k _ _ (a.at_ j T x h1 h2)⟩
theorem StepsAt.nil (H : Hp) : StepsAt H [] [] := ⟨rfl, fun j T x h1 => by simp at h1⟩
theorem StepsAt.snoc {H : Hp} {Ts : List Addr} {sd : List (Str × Int)} {T : Addr} {x : Str × Int} (a : StepsAt H Ts sd) (h : H T = some (.tup [.str x.1, .int x.2])) : StepsAt H (Ts ++ [T]) (sd ++ [x]) := by
  refine ⟨by rw [List.length_append, List.length_append, a.len]; rfl, fun j v' t' h1 h2 => ?_⟩
  by_cases jl : j < Ts.length
  · rw [List.getElem?_append_left jl] at h1
    rw [List.getElem?_append_left (by rw [← a.len]; exact jl)] at h2
    exact a.at_ j v' t' h1 h2
  · have jn := (List.getElem?_eq_some_iff.mp h1).1
    rw [List.length_append] at jn
    have je : j = Ts.length := by
      have : j < Ts.length + 1 := jn
      omega
    subst je
    rw [List.getElem?_append_right (Nat.le_refl _), Nat.sub_self] at h1
    rw [a.len, List.getElem?_append_right (Nat.le_refl _), Nat.sub_self] at h2
    cases h1
    cases h2
    exact h
def okWord (wd : Str) : Prop := wd = "see" ∨ wd = "pass" ∨ wd = "ask"
theorem k_sa : ¬ (("ask" : Str) = "see") := by decide +kernel
theorem k_pa : ¬ (("ask" : Str) = "pass") := by decide +kernel
theorem k_ps : ¬ (("pass" : Str) = "see") := by decide +kernel
def spTold1 (C : Addr) : Sp := fun vs H Q _ => ∃ (b p am : Addr) (R : Ru) (ms : List Nat) (now : Nat) (wd : Str) (i : Int), vs = [.ref b, .str wd, .int i] ∧ BAt C H b p am R ms now ∧ now ≤ 999999000 ∧ okWord wd ∧
  ∀ H' am' v, BAt C H' b p am' R (stepF R (ms, now) wd i).2.1 (stepF R (ms, now) wd i).2.2 → TlAt H' v (stepF R (ms, now) wd i).1 → KpL [b, am] H H' → (am' = am ∨ H am' = none) → Q v H'
def spPlayed (C : Addr) : Sp := fun vs H Q _ => ∃ (p st : Addr) (R : Ru) (n : Nat) (i : Int) (Ts : List Addr) (sd : List (Str × Int)), vs = [.ref p, .int i, .ref st] ∧ i = (n : Int) ∧ RuAt H p R ∧ R.ok ∧ 1 ≤ n ∧ n ≤ 8 ∧ H st = some (.lst (Ts.map V.ref)) ∧ StepsAt H Ts sd ∧ sd.length ≤ 100 ∧ (∀ x, x ∈ sd → okWord x.1) ∧
  ∀ H' T l b am vs, H' T = some (.tup [.ref l, .ref b]) → H' l = some (.lst vs) → TlsAt H' vs (playF R (List.replicate n R.fin, 0) sd).1 → BAt C H' b p am R (playF R (List.replicate n R.fin, 0) sd).2.1 (playF R (List.replicate n R.fin, 0) sd).2.2 → Same H H' → H l = none → H b = none → H am = none → Q (.ref T) H'
section
variable {P : Program} {w : World} {K : PySem.W.Frag} {mg : Str → Option Value} {base : Heap} {C : Addr}
theorem sc_told1 : FnScope ["board", "word", "number"] ["board", "word", "number"] (defScope s_told) := ⟨rfl, rfl, rfl, by decide +kernel, rfl, by decide +kernel, by decide +kernel⟩
theorem ok_told1 {cN cM : Addr} (D : DefAt K mg "_told" s_told ["board", "word", "number"]) (T : Bcl K mg C) (gN : mg "NoThing" = some (.ref cN)) (gM : mg "BadMoment" = some (.ref cM))
    (eNN : PySem.W.exmOne K (.ref cN) (.ref cN) = some true) (eMN : PySem.W.exmOne K (.ref cM) (.ref cN) = some false) (eMM : PySem.W.exmOne K (.ref cM) (.ref cM) = some true)
    (CS : ClM P w K mg base (L2.CX P w) 2 C "see" ["self", "thing"] (spSee C cN)) (CP : ClM P w K mg base (L2.CX P w) 3 C "pass_by" ["self", "many"] (spPass C cM)) (CA : ClM P w K mg base (L2.CX P w) 6 C "age" ["self", "thing"] (spAge C cN)) :
    Cl P w K mg base 7 "_told" ["board", "word", "number"] (spTold1 C) := by
  refine D.cl fun f fd F => ?_
  refine F.ok sc_told1 (fun vs H Q E h => ?_) (fun cdv A outer s H vs Q E hr h => ?_)
  · obtain ⟨b, p, am, R, ms, now, wd, i, rfl, _⟩ := h
    rfl
  · obtain ⟨b, p, am, R, ms, now, wd, i, rfl, ba, nl, ow, q⟩ := h
    obtain ⟨dx, ob⟩ := ba.ob
    refine ⟨_, pss_one (ps_try_many rfl rfl takes0 (fun W pn xe tk _ =>
        pss_cons (ps_if (pt_cmpR op_eq (pv 1) pe_str (nomark _)) (pss_cons (ps_expr (pe_cm (E := fun cls d H => ∀ σ, W cls d σ H) CS T.cl (passes_call tk (fun _ _ _ _ h => h _)) hr (pv 0) (pa_cons (pv 2) pa_nil))) (pss_one (ps_ret pe_non))) pss_nil)
        (pss_cons (ps_if (pt_cmpR op_eq (pv 1) pe_str (nomark _)) (pss_one (ps_ret (pe_cm (E := fun cls d H => ∀ σ, W cls d σ H) CP T.cl (passes_call tk (fun _ _ _ _ h => h _)) hr (pv 0) (pa_cons (pv 2) pa_nil)))) pss_nil)
        (pss_one (ps_ret (pe_cm (E := fun cls d H => ∀ σ, W cls d σ H) CA T.cl (passes_call tk (fun _ _ _ _ h => h _)) hr (pv 0) (pa_cons (pv 2) pa_nil))))))
      (.cons (c := .ref cN) ⟨rfl, by decide, .inl gN⟩ (fun a oe cls d pn hz hf => pss_one (ps_ret pe_str)) (.cons (c := .ref cM) ⟨rfl, by decide, .inl gM⟩ (fun a oe cls d pn hz hf => pss_one (ps_ret pe_str)) .nil))), ?_⟩
    refine ⟨_, rfl, rfl, _, rfl, ?_⟩
    rw [dec_str]
    rcases ow with rfl | rfl | rfl
    · rw [decide_eq_true rfl]
      refine iteT ⟨_, rfl, b, dx, _, rfl, ob, bfl_no _ _ _ (by decide +kernel) (by decide +kernel) (by decide +kernel), _, rfl, b, p, am, R, ms, now, i, rfl, ba, ?_⟩
      by_cases c : 0 ≤ i ∧ i < (ms.length : Int)
      · have e : stepF R (ms, now) "see" i = (.non, (ms.set i.toNat (seenM R (ms.getD i.toNat 0)), now)) := by
          unfold stepF
          rw [if_pos rfl, if_pos c]
        rw [e] at q
        refine .inl ⟨i.toNat, by omega, by omega, fun H' ba' k' => ?_⟩
        exact q H' am .non ba' rfl (k'.mono fun x hx => by rw [List.mem_singleton.mp hx]; simp) (.inl rfl)
      · have e : stepF R (ms, now) "see" i = (.word "NoThing", (ms, now)) := by
          unfold stepF
          rw [if_pos rfl, if_neg c]
        rw [e] at q
        refine .inr ⟨c, fun σ => ⟨true, eNN, fun _ a _ => ?_, fun z => nomatch z⟩⟩
        exact q H am _ ba rfl (KpL.refl _ _) (.inl rfl)
    · rw [decide_eq_false k_ps]
      refine iteF ⟨_, rfl, rfl, _, rfl, ?_⟩
      rw [dec_str, decide_eq_true rfl]
      refine iteT ⟨_, rfl, b, dx, _, rfl, ob, bfl_no _ _ _ (by decide +kernel) (by decide +kernel) (by decide +kernel), _, rfl, b, p, am, R, ms, now, i, rfl, ba, ?_⟩
      by_cases c : 1 ≤ i ∧ i ≤ 1000
      · have e : stepF R (ms, now) "pass" i = (.int (now + i.toNat), (ms.map (fun x => ag R x now i.toNat), now + i.toNat)) := by
          unfold stepF
          rw [if_neg k_ps, if_pos rfl, if_pos c]
        rw [e] at q
        refine .inl ⟨i.toNat, by omega, by omega, by omega, by omega, fun H' am' ba' f' k' => ?_⟩
        exact q H' am' _ ba' rfl (k'.mono fun x hx => by rw [List.mem_singleton.mp hx]; simp) (.inr f')
      · have e : stepF R (ms, now) "pass" i = (.word "BadMoment", (ms, now)) := by
          unfold stepF
          rw [if_neg k_ps, if_pos rfl, if_neg c]
        rw [e] at q
        refine .inr ⟨c, fun σ => ⟨false, eMN, (fun z => nomatch z), fun _ => ⟨true, eMM, fun _ a _ => ?_, fun z => nomatch z⟩⟩⟩
        exact q H am _ ba rfl (KpL.refl _ _) (.inl rfl)
    · rw [decide_eq_false k_sa]
      refine iteF ⟨_, rfl, rfl, _, rfl, ?_⟩
      rw [dec_str, decide_eq_false k_pa]
      refine iteF ⟨_, rfl, b, dx, _, rfl, ob, bfl_no _ _ _ (by decide +kernel) (by decide +kernel) (by decide +kernel), _, rfl, b, p, am, R, ms, now, i, rfl, ba, by omega, ?_⟩
      by_cases c : 0 ≤ i ∧ i < (ms.length : Int)
      · have e : stepF R (ms, now) "ask" i = (.span (spanF R now (ms.getD i.toNat 0)), (ms, now)) := by
          unfold stepF
          rw [if_neg k_sa, if_neg k_pa, if_pos c]
        rw [e] at q
        refine .inl ⟨i.toNat, by omega, by omega, fun H' T2 x y isp nT s2 eT => ?_⟩
        exact q H' am _ (ba.same s2) ⟨T2, rfl, by rw [spanF_eq isp]; exact eT⟩ (Same.kpL s2) (.inl rfl)
      · have e : stepF R (ms, now) "ask" i = (.word "NoThing", (ms, now)) := by
          unfold stepF
          rw [if_neg k_sa, if_neg k_pa, if_neg c]
        rw [e] at q
        refine .inr ⟨c, fun σ => ⟨true, eNN, fun _ a _ => ?_, fun z => nomatch z⟩⟩
        exact q H am _ ba rfl (KpL.refl _ _) (.inl rfl)
theorem sc_played : FnScope ["rule", "things", "steps", "board", "told", "word", "number"] ["rule", "things", "steps"] (defScope s_played) := ⟨rfl, rfl, rfl, by decide +kernel, rfl, by decide +kernel, by decide +kernel⟩
theorem ok_played {fI : Addr} {fdI : FuncData} (D : DefAt K mg "played" s_played ["rule", "things", "steps"]) (gB : mg "Board" = some (.ref C)) (M : Mk K C fI) (GI : FnOk P w K mg base CX0 3 fI fdI ["self", "rule", "things"] (spInit C)) (bI : Binds K fdI ["self", "rule", "things"] [])
    (C1 : Cl P w K mg base 7 "_told" ["board", "word", "number"] (spTold1 C)) : Cl P w K mg base 8 "played" ["rule", "things", "steps"] (spPlayed C) := by
  refine D.cl fun f fd F => ?_
  refine F.ok sc_played (fun vs H Q E h => ?_) (fun cdv A outer s H vs Q E hr h => ?_)
  · obtain ⟨p, st, R, n, i, Ts, sd, rfl, _⟩ := h
    rfl
  · obtain ⟨p, st, R, n, i, Ts, sd, rfl, rfl, hp, ok, n1, n8, est, sta, sl, sw, q⟩ := h
    have hr3 : Room 4 _ := hr.mono (by decide)
    refine ⟨_, pss_cons (ps_set (i := 3) sc_played.nd rfl (Or.inl rfl) (pe_make M GI hr3 (by rfl) gB bI .nil pass0 (pa_cons (pv 0) (pa_cons (pv 1) pa_nil))))
      (pss_cons (ps_set (i := 4) sc_played.nd rfl (Or.inl rfl) (pe_lst pa_nil))
      (pss_cons (ps_for PassesOwn.never rfl (pi_list (pv 2)) (pg_tup rfl (pgs_cons (pg_name (i := 5) sc_played.nd rfl (Or.inl rfl)) (pgs_cons (pg_name (i := 6) sc_played.nd rfl (Or.inl rfl)) pgs_nil)))
        (pss_one (ps_expr (pe_bm PySem.F.plainAttrs_list PySem.F.slot_list_append PySem.F.type_list_append mt_append (pv 4) (pa_cons (pe_cl C1 hr (pa_cons (pv 3) (pa_cons (pv 5) (pa_cons (pv 6) pa_nil)))) pa_nil)))))
      (pss_one (ps_ret (pe_tup (pa_cons (pv 4) (pa_cons (pv 3) pa_nil))))))), ?_⟩
    refine ⟨_, rfl, _, rfl, fun b dx nb ndx ndb => ?_⟩
    have s0 : Same H (upd (upd H dx (.own b)) b (.ins C dx [])) := fun x o e => by
      rw [upd_ne (ne_of_none e nb), upd_ne (ne_of_none e ndx)]
      exact e
    refine ⟨b, dx, p, R, n, _, rfl, rfl, upd_same, s0 _ _ hp, ok, n1, n8, fun H1 am ba nam k1 => ⟨rfl, ?_⟩⟩
    have s1 : Same H H1 := fun x o e => k1 x o (s0 x o e) fun z => ne_of_none e nb (List.mem_singleton.mp z)
    have fam := s0.free nam
    refine ⟨(by show 0 ≤ sizeLine; decide), fun L nL => ?_⟩
    have sL := same_upd (o := .lst []) nL
    have fL := s1.free nL
    have s2 := s1.trans sL
    have lT := sta.len
    refine ⟨_, rfl, st, rfl, ⟨_, SqL.of (s2 _ _ est)⟩, for_list (K := K) (a := st) (xs := Ts.map V.ref) (fun j σ H' => ∃ (am' : Addr) (vs : List V) (v5 v6 : Option V), σ = [some (.ref p), some (.int (n : Int)), some (.ref st), some (.ref b), some (.ref L), v5, v6] ∧ Same H H' ∧
        BAt C H' b p am' R (playF R (List.replicate n R.fin, 0) (sd.take j)).2.1 (playF R (List.replicate n R.fin, 0) (sd.take j)).2.2 ∧ H am' = none ∧ am' ≠ L ∧ H' L = some (.lst vs) ∧ TlsAt H' vs (playF R (List.replicate n R.fin, 0) (sd.take j)).1)
      ⟨am, [], none, none, rfl, s2, ba.same sL, fam, ne_of_none ba.mrk nL, upd_same, TlsAt.nil _⟩ (fun j σ H' _ h => let ⟨_, _, _, _, _, sx, _⟩ := h; SqL.of (sx _ _ est)) ?_ ?_⟩
    · rintro j y σ H2 hy ⟨am', vs, v5, v6, rfl, sx, bx, fa, naL, eL, tl⟩
      have jl : j < Ts.length := by
        have := (List.getElem?_eq_some_iff.mp hy).1
        rw [List.length_map] at this
        exact this
      have ey : y = .ref Ts[j] := by
        rw [List.getElem?_map, List.getElem?_eq_getElem jl] at hy
        exact (Option.some.inj hy).symm
      subst ey
      have js : j < sd.length := by rw [← lT]; exact jl
      have hsd := List.getElem?_eq_getElem js
      have eT := sx _ _ (sta.at_ j _ _ (List.getElem?_eq_getElem jl) hsd)
      have ow := sw _ (List.mem_of_getElem? hsd)
      have tk : sd.take (j + 1) = sd.take j ++ [sd[j]] := by rw [List.take_add_one, hsd]; rfl
      have pn := playF_now R (sd.take j) (List.replicate n R.fin, 0)
      have pl : (sd.take j).length ≤ 100 := by rw [List.length_take]; omega
      generalize sd[j] = x at eT ow tk hsd
      refine ⟨Ts[j], [.str x.1, .int x.2], rfl, SqT.of eT, rfl, _, _, rfl, _, _, rfl, rfl, ?_⟩
      refine ⟨_, rfl, .inl ⟨rfl, _, SqL.of eL⟩, ?_⟩
      rw [tk, playF_snoc]
      generalize hpf : playF R (List.replicate n R.fin, 0) (sd.take j) = pf at bx tl pn
      refine ⟨_, rfl, _, rfl, _, rfl, b, p, am', R, pf.2.1, pf.2.2, x.1, x.2, rfl, bx, ?_, ow, fun H3 am3 v b3 t3 k3 f3 => ?_⟩
      · have h1 : pf.2.2 ≤ 0 + 1000 * (sd.take j).length := pn.1
        omega
      have obx : ∃ dx, H2 b = some (.ins C dx (bfl p am' pf.2.2)) := bx.ob
      obtain ⟨dx2, ob2⟩ := obx
      have nbL : b ≠ L := ne_of ob2 eL (fun z => nomatch z)
      have eL3 := k3 _ _ eL (nin2 nbL.symm naL.symm)
      have vl : vs.length ≤ 100 := by
        rw [tl.len, pn.2.2]
        exact pl
      have tup3 : TupK H2 H3 := fun y xs e => k3 _ _ e (nin2 (ne_of e ob2 (fun z => nomatch z)) (ne_of e bx.mrk (fun z => nomatch z)))
      have tupL : TupK H3 (upd H3 L (.lst (vs ++ [v]))) := fun y xs e => by
        rw [upd_ne (ne_of e eL3 (fun z => nomatch z))]; exact e
      refine ⟨L, _, _, rfl, rfl, eL3, small1000 (by omega), am3, vs ++ [v], _, _, rfl, fun y o e => ?_, ?_, ?_, ?_, upd_same, ?_⟩
      · rw [upd_ne (ne_of_none e fL)]
        exact k3 _ _ (sx _ _ e) (nin2 (ne_of_none e nb) (ne_of_none e fa))
      · have na3 : am3 ≠ L := by
          rcases f3 with f3 | f3
          · rw [f3]; exact naL
          · exact (ne_of_none eL f3).symm
        obtain ⟨dx3, ob3⟩ := b3.ob
        exact ⟨⟨dx3, by rw [upd_ne nbL]; exact ob3⟩, tupL _ _ b3.rl, by rw [upd_ne na3]; exact b3.mrk, b3.few, b3.bd, b3.ok⟩
      · rcases f3 with f3 | f3
        · rw [f3]; exact fa
        · exact sx.free f3
      · rcases f3 with f3 | f3
        · rw [f3]; exact naL
        · exact (ne_of_none eL f3).symm
      · exact ((tl.k tup3).k tupL).snoc (t3.k tupL)
    · rintro σ H2 ⟨am', vs, v5, v6, rfl, sx, bx, fa, naL, eL, tl⟩
      rw [List.length_map, lT, List.take_length] at bx tl
      refine ⟨_, rfl, _, rfl, (by show 2 ≤ sizeLine; decide), fun T nT => ?_⟩
      have sT := same_upd (o := .tup [V.ref L, V.ref b]) nT
      exact q _ T L b am' vs upd_same (sT _ _ eL) (tl.k (Same.tupK sT)) (bx.same sT) (sx.trans sT) fL nb fa
end
/-! ### the law -/
def pdSt (x : Str × Int) : PyData := .tuple [.str x.1, .int x.2]
def pdSts (sd : List (Str × Int)) : PyData := .list (sd.map pdSt)
theorem dpSts {K : PySem.W.Frag} {H : Hp} : ∀ {Ts : List Addr} {sd : List (Str × Int)}, StepsAt H Ts sd → DpAll K H (Ts.map V.ref) (sd.map pdSt)
  | [], [], _ => .nil
  | [], t :: r, h => absurd h.len (fun z => nomatch z)
  | v :: r, [], h => absurd h.len (fun z => nomatch z)
  | v :: r, t :: q, h => .cons (.tup (SqT.of (h.at_ 0 v t rfl rfl)) (.cons (.str _) (.cons (.int _) .nil))) (dpSts (Ts := r) (sd := q) ⟨Nat.succ.inj h.len, fun j v' t' h1 h2 => h.at_ (j + 1) v' t' h1 h2⟩)
theorem word_l {wd : Str} (h : okWord wd) : PyData.canLay0 (.str wd) = true := by
  rcases h with rfl | rfl | rfl <;> decide +kernel
theorem pdSt_d (x : Str × Int) : PyData.depth (pdSt x) ≤ 1 := by
  unfold pdSt
  simp only [PyData.depth, PyData.depthAll]
  decide
theorem pdSts_shaped {sd : List (Str × Int)} (h : ∀ x, x ∈ sd → okWord x.1) : SeqAt.shaped (pdSts sd) = true := by
  refine shaped_of ?_ (Nat.le_trans (Nat.succ_le_succ (depthAll_le (n := 1) fun d hd => ?_)) (by decide))
  · unfold pdSts
    simp only [PyData.canLay0]
    refine canLayAll_of fun d hd => ?_
    obtain ⟨x, hx, rfl⟩ := List.mem_map.mp hd
    have := word_l (h x hx)
    unfold pdSt
    simp only [PyData.canLay0, PyData.canLayAll0, Bool.and_true]
    exact this
  · obtain ⟨x, _, rfl⟩ := List.mem_map.mp hd
    exact pdSt_d x
theorem told_or {H : Hp} {Q : VK} {m p am al : Addr} {R : Ru} {s : Md} {wd : Str} {i : Int} (ma : MAt H m p am al R s) (ow : okWord wd)
    (hq : ∀ H' am' s' v, MAt H' m p am' al R s' → (s'.ms, s'.now) = (stepF R (s.ms, s.now) wd i).2 → TlAt H' v (stepF R (s.ms, s.now) wd i).1 → KpL [m, am, al] H H' → (am' = am ∨ H am' = none) → Q v H') :
  ((wd = "pass" ∧ (¬ (1 ≤ i ∧ i ≤ 1000) → Q (.str "BadMoment") H) ∧ ∀ k : Nat, i = (k : Int) → 1 ≤ k → k ≤ 1000 → ∀ H' am', MAt H' m p am' al R (mdPass R k s) → H am' = none → KpL [m, am, al] H H' → Q (.int ((s.now + k : Nat) : Int)) H') ∨
   (¬ wd = "pass" ∧ (¬ (0 ≤ i ∧ i < (s.ms.length : Int)) → Q (.str "NoThing") H) ∧ ∀ k : Nat, i = (k : Int) → k < s.ms.length →
     ((wd = "see" ∧ ∀ H', MAt H' m p am al R (mdSee R k s) → KpL [m, am, al] H H' → Q .non H') ∨
      (wd = "ask" ∧ ∀ H' T x y, IsSpan R s.now (s.ms.getD k 0) x y → H T = none → Same H H' → H' T = some (.tup [oV x, oV y]) → Q (.ref T) H')))) := by
  rcases ow with rfl | rfl | rfl
  · refine .inr ⟨fun z => k_ps z.symm, fun c => ?_, fun k hk kl => .inl ⟨rfl, fun H' ma' k' => ?_⟩⟩
    · have ef : stepF R (s.ms, s.now) "see" i = (.word "NoThing", (s.ms, s.now)) := by
        unfold stepF
        rw [if_pos rfl, if_neg c]
      rw [ef] at hq
      exact hq H am s _ ma rfl rfl (KpL.refl _ _) (.inl rfl)
    · have ef : stepF R (s.ms, s.now) "see" i = (.non, (s.ms.set k (seenM R (s.ms.getD k 0)), s.now)) := by
        unfold stepF
        rw [if_pos rfl, if_pos (show 0 ≤ i ∧ i < (s.ms.length : Int) by constructor <;> omega), show i.toNat = k by omega]
      rw [ef] at hq
      exact hq H' am _ _ ma' rfl rfl k' (.inl rfl)
  · refine .inl ⟨rfl, fun c => ?_, fun k hk k1 k2 H' am' ma' f' k' => ?_⟩
    · have ef : stepF R (s.ms, s.now) "pass" i = (.word "BadMoment", (s.ms, s.now)) := by
        unfold stepF
        rw [if_neg k_ps, if_pos rfl, if_neg c]
      rw [ef] at hq
      exact hq H am s _ ma rfl rfl (KpL.refl _ _) (.inl rfl)
    · have ef : stepF R (s.ms, s.now) "pass" i = (.int (s.now + k), (s.ms.map (fun x => ag R x s.now k), s.now + k)) := by
        unfold stepF
        rw [if_neg k_ps, if_pos rfl, if_pos (by constructor <;> omega), show i.toNat = k by omega]
      rw [ef] at hq
      exact hq H' am' _ _ ma' rfl rfl k' (.inr f')
  · refine .inr ⟨k_pa, fun c => ?_, fun k hk kl => .inr ⟨rfl, fun H' T x y isp nT s2 eT => ?_⟩⟩
    · have ef : stepF R (s.ms, s.now) "ask" i = (.word "NoThing", (s.ms, s.now)) := by
        unfold stepF
        rw [if_neg k_sa, if_neg k_pa, if_neg c]
      rw [ef] at hq
      exact hq H am s _ ma rfl rfl (KpL.refl _ _) (.inl rfl)
    · have ef : stepF R (s.ms, s.now) "ask" i = (.span (spanF R s.now (s.ms.getD k 0)), (s.ms, s.now)) := by
        unfold stepF
        rw [if_neg k_sa, if_neg k_pa, if_pos (show 0 ≤ i ∧ i < (s.ms.length : Int) by constructor <;> omega), show i.toNat = k by omega]
      rw [ef] at hq
      exact hq H' am s _ (ma.same s2) rfl ⟨T, rfl, by rw [spanF_eq isp]; exact eT⟩ (Same.kpL s2) (.inl rfl)
def spTold2 : Sp := fun vs H Q _ => ∃ (m p am al st : Addr) (R : Ru) (s : Md) (wd : Str) (i : Int), vs = [.ref m, .ref st] ∧ MAt H m p am al R s ∧ R.ok ∧ s.now ≤ 999999000 ∧ H st = some (.tup [.str wd, .int i]) ∧ okWord wd ∧
  ∀ H' am' s' v, MAt H' m p am' al R s' → (s'.ms, s'.now) = (stepF R (s.ms, s.now) wd i).2 → TlAt H' v (stepF R (s.ms, s.now) wd i).1 → KpL [m, am, al] H H' → (am' = am ∨ H am' = none) → Q v H'
theorem told2_of {vs : List V} {H : Hp} {Q : VK} {E : XK} (h : spTold2 vs H Q E) : spTold vs H Q E := by
  obtain ⟨m, p, am, al, st, R, s, wd, i, e, ma, ok, nl, est, ow, hq⟩ := h
  exact ⟨m, p, am, al, st, R, s, wd, i, e, ma, ok, nl, est, told_or (Q := Q) ma ow hq⟩
theorem Cl.imp {P : Program} {w : World} {K : PySem.W.Frag} {mg : Str → Option Value} {base : Heap} {k : Nat} {x : Str} {ps : List Str} {sp sp' : Sp} (D : Cl P w K mg base k x ps sp) (h : ∀ vs H Q E, sp' vs H Q E → sp vs H Q E) : Cl P w K mg base k x ps sp' := by
  obtain ⟨f, fd, G, g, kp, b⟩ := D
  exact ⟨f, fd, G.imp h, g, kp, b⟩
theorem HAt.nt {H : Hp} {h c x : Addr} {xs : List V} (a : HAt H h c) (e : H x = some (.tup xs)) : ¬ x ∈ [h, c] := nin2 (a.neT e).1 (a.neT e).2
/-- what is drawn from, the law's own board, the steps and what is due -/
structure Lw (H : Hp) (h c m p mm ml : Addr) (R : Ru) (s : Md) (L1 L2 : Addr) (xs ys : List V) : Prop where
  ha : HAt H h c
  ma : MAt H m p mm ml R s
  f1 : ∀ x, x ∈ [mm, ml] → x ≠ h ∧ x ≠ c
  e1 : H L1 = some (.lst xs)
  e2 : H L2 = some (.lst ys)
  n12 : L1 ≠ L2
  n1 : ∀ x, x ∈ [h, c, mm, ml] → L1 ≠ x
  n2 : ∀ x, x ∈ [h, c, mm, ml] → L2 ≠ x
section
variable {H H' : Hp} {h c m p mm ml : Addr} {R : Ru} {s : Md} {L1 L2 : Addr} {xs ys : List V}
theorem Lw.same (a : Lw H h c m p mm ml R s L1 L2 xs ys) (k : Same H H') : Lw H' h c m p mm ml R s L1 L2 xs ys := ⟨a.ha.same k, a.ma.same k, a.f1, k _ _ a.e1, k _ _ a.e2, a.n12, a.n1, a.n2⟩
theorem Lw.drawn (a : Lw H h c m p mm ml R s L1 L2 xs ys) (ha : HAt H' h c) (k : KpL [h, c] H H') : Lw H' h c m p mm ml R s L1 L2 xs ys ∧ TupK H H' := by
  obtain ⟨⟨mx, pl, ns, eh, ec, _⟩, _⟩ := id a.ha
  have nn : ∀ x, x ≠ h → x ≠ c → ¬ x ∈ [h, c] := fun x h1 h2 => nin2 h1 h2
  have tk : TupK H H' := fun x xs e => k _ _ e (a.ha.nt e)
  refine ⟨⟨ha, a.ma.kp k (nn _ (ne_of a.ma.ob eh (fun z => nomatch z)) (ne_of a.ma.ob ec (fun z => nomatch z))) (a.ha.nt a.ma.rl) (nn _ (a.f1 mm (by simp)).1 (a.f1 mm (by simp)).2) (nn _ (a.f1 ml (by simp)).1 (a.f1 ml (by simp)).2), a.f1, k _ _ a.e1 (nn _ (a.n1 h (by simp)) (a.n1 c (by simp))), k _ _ a.e2 (nn _ (a.n2 h (by simp)) (a.n2 c (by simp))), a.n12, a.n1, a.n2⟩, tk⟩
theorem Lw.told (a : Lw H h c m p mm ml R s L1 L2 xs ys) {mm' : Addr} {s' : Md} (ma : MAt H' m p mm' ml R s') (k : KpL [m, mm, ml] H H') (f : mm' = mm ∨ H mm' = none) : Lw H' h c m p mm' ml R s' L1 L2 xs ys ∧ TupK H H' := by
  obtain ⟨⟨mx, pl, ns, eh, ec, rest⟩, hne⟩ := id a.ha
  have nn : ∀ x, x ≠ m → x ≠ mm → x ≠ ml → ¬ x ∈ [m, mm, ml] := fun x h1 h2 h3 z => by
    simp only [List.mem_cons, List.not_mem_nil, or_false] at z
    rcases z with z | z | z
    · exact h1 z
    · exact h2 z
    · exact h3 z
  have tk : TupK H H' := fun x xs e => k _ _ e (nn _ (ne_of e a.ma.ob (fun z => nomatch z)) (ne_of e a.ma.mrk (fun z => nomatch z)) (ne_of e a.ma.la (fun z => nomatch z)))
  have ne : ∀ y o, H y = some o → y ≠ mm → mm' ≠ y := fun y o e n z => by
    rcases f with f | f
    · exact n (by rw [← f, z])
    · rw [z, e] at f; cases f
  have mmh := a.f1 mm (by simp)
  have mlh := a.f1 ml (by simp)
  refine ⟨⟨⟨⟨mx, pl, ns, k _ _ eh (nn _ (ne_of eh a.ma.ob (fun z => nomatch z)) mmh.1.symm mlh.1.symm), k _ _ ec (nn _ (ne_of ec a.ma.ob (fun z => nomatch z)) mmh.2.symm mlh.2.symm), rest⟩, hne⟩, ma, fun x hx => ?_, ?_, ?_, a.n12, fun x hx => ?_, fun x hx => ?_⟩, tk⟩
  · simp only [List.mem_cons, List.not_mem_nil, or_false] at hx
    rcases hx with rfl | rfl
    · exact ⟨ne _ _ eh mmh.1.symm, ne _ _ ec mmh.2.symm⟩
    · exact mlh
  · exact k _ _ a.e1 (nn _ (ne_of a.e1 a.ma.ob (fun z => nomatch z)) (a.n1 mm (by simp)) (a.n1 ml (by simp)))
  · exact k _ _ a.e2 (nn _ (ne_of a.e2 a.ma.ob (fun z => nomatch z)) (a.n2 mm (by simp)) (a.n2 ml (by simp)))
  · simp only [List.mem_cons, List.not_mem_nil, or_false] at hx
    rcases hx with rfl | rfl | rfl | rfl
    · exact a.n1 _ (by simp)
    · exact a.n1 _ (by simp)
    · exact (ne _ _ a.e1 (a.n1 mm (by simp))).symm
    · exact a.n1 _ (by simp)
  · simp only [List.mem_cons, List.not_mem_nil, or_false] at hx
    rcases hx with rfl | rfl | rfl | rfl
    · exact a.n2 _ (by simp)
    · exact a.n2 _ (by simp)
    · exact (ne _ _ a.e2 (a.n2 mm (by simp))).symm
    · exact a.n2 _ (by simp)
theorem Lw.put (a : Lw H h c m p mm ml R s L1 L2 xs ys) (zs : List V) : Lw (upd H L1 (.lst zs)) h c m p mm ml R s L1 L2 zs ys ∧ TupK H (upd H L1 (.lst zs)) := by
  obtain ⟨⟨mx, pl, ns, eh, ec, rest⟩, hne⟩ := id a.ha
  have tk : TupK H (upd H L1 (.lst zs)) := fun x xs e => by rw [upd_ne (ne_of e a.e1 (fun z => nomatch z))]; exact e
  have k : KpL [L1] H (upd H L1 (.lst zs)) := fun x o e n => by rw [upd_ne (fun z => n (by rw [z]; simp))]; exact e
  have nn : ∀ x, L1 ≠ x → ¬ x ∈ [L1] := fun x h1 z => h1 (List.mem_singleton.mp z).symm
  exact ⟨⟨⟨⟨mx, pl, ns, k _ _ eh (nn _ (a.n1 _ (by simp))), k _ _ ec (nn _ (a.n1 _ (by simp))), rest⟩, hne⟩, a.ma.kp k (nn _ (ne_of a.e1 a.ma.ob (fun z => nomatch z))) (nn _ (ne_of a.e1 a.ma.rl (fun z => nomatch z))) (nn _ (a.n1 _ (by simp))) (nn _ (a.n1 _ (by simp))), a.f1, upd_same, k _ _ a.e2 (nn _ a.n12), a.n12, a.n1, a.n2⟩, tk⟩
theorem Lw.put2 (a : Lw H h c m p mm ml R s L1 L2 xs ys) (zs : List V) : Lw (upd H L2 (.lst zs)) h c m p mm ml R s L1 L2 xs zs ∧ TupK H (upd H L2 (.lst zs)) := by
  obtain ⟨⟨mx, pl, ns, eh, ec, rest⟩, hne⟩ := id a.ha
  have tk : TupK H (upd H L2 (.lst zs)) := fun x xs e => by rw [upd_ne (ne_of e a.e2 (fun z => nomatch z))]; exact e
  have k : KpL [L2] H (upd H L2 (.lst zs)) := fun x o e n => by rw [upd_ne (fun z => n (by rw [z]; simp))]; exact e
  have nn : ∀ x, L2 ≠ x → ¬ x ∈ [L2] := fun x h1 z => h1 (List.mem_singleton.mp z).symm
  exact ⟨⟨⟨⟨mx, pl, ns, k _ _ eh (nn _ (a.n2 _ (by simp))), k _ _ ec (nn _ (a.n2 _ (by simp))), rest⟩, hne⟩, a.ma.kp k (nn _ (ne_of a.e2 a.ma.ob (fun z => nomatch z))) (nn _ (ne_of a.e2 a.ma.rl (fun z => nomatch z))) (nn _ (a.n2 _ (by simp))) (nn _ (a.n2 _ (by simp))), a.f1, k _ _ a.e1 (nn _ a.n12.symm), upd_same, a.n12, a.n1, a.n2⟩, tk⟩
end
def spLaw (K : PySem.W.Frag) : Sp := fun vs H Q _ => ∃ (a : Addr) (ns : List Int), vs = [.ref a] ∧ SqL K H a (ns.map V.int) ∧ ns.length ≤ 63 ∧ ∀ H', Q (.bl true) H'
section
variable {P : Program} {w : World} {K : PySem.W.Frag} {mg : Str → Option Value} {base : Heap} {C : Addr}
abbrev Nlaw : List Str := ["_law_script", "_law_h", "_law_turn", "_law_rule_here", "_law_things", "_law_m", "_law_steps", "_law_due", "_law_k", "_law_step_here", "_law_out", "_law_odd", "_law_handed", "_law_again", "_law_found", "_law_board_here"]
theorem sc_law : FnScope Nlaw ["_law_script"] (defScope s_law) := ⟨rfl, rfl, rfl, by decide +kernel, rfl, by decide +kernel, by decide +kernel⟩
theorem ok_law {f cN cM : Addr} {fd : FuncData} (F : Fun K "law" "law" s_law f fd) (m_range : mg "range" = none) (m_list : mg "list" = none) (T : Bcl K mg C)
    (C_mix : Cl P w K mg base 1 "_law_mix" ["_law_script", "_law_seed"] (spMix K)) (C_next : Cl P w K mg base 1 "_law_next" ["_law_h", "_law_many"] spNext) (C_rule : Cl P w K mg base 2 "_law_rule" ["_law_h", "_law_small"] spRule)
    (C_lb : Cl P w K mg base 2 "_law_board" ["_law_rule_here", "_law_things"] spBoardL) (C_st : Cl P w K mg base 2 "_law_step" ["_law_h", "_law_m"] spStep) (C_lt : Cl P w K mg base 6 "_law_told" ["_law_m", "_law_step_here"] spTold2)
    (C_al : Cl P w K mg base 4 "_law_alike" ["_law_found", "_law_due"] (spAlike K 3)) (C_pl : Cl P w K mg base 8 "played" ["rule", "things", "steps"] (spPlayed C))
    (CS : ClM P w K mg base (L2.CX P w) 2 C "see" ["self", "thing"] (spSee C cN)) (CP : ClM P w K mg base (L2.CX P w) 3 C "pass_by" ["self", "many"] (spPass C cM))
    (CM : ClM P w K mg base CX0 1 C "marks" ["self"] (spMarks C)) (CN : ClM P w K mg base CX0 1 C "now" ["self"] (spNow C)) : FnOk P w K mg base CX0 9 f fd ["_law_script"] (spLaw K) := by
  refine F.ok sc_law (fun vs H Q E h => ?_) (fun cdv A outer s H vs Q E hr h => ?_)
  · obtain ⟨a, ns, rfl, _⟩ := h
    rfl
  · obtain ⟨a, ns, rfl, hS, hl, q⟩ := h
    have hu := hu_of hr
    refine ⟨_, pss_cons (ps_set (i := 1) sc_law.nd rfl (Or.inl rfl) (pe_cl C_mix hr (pa_cons (pv 0) (pa_cons pe_int pa_nil))))
      (pss_cons (ps_for PassesOwn.never rfl (pi_range1 (by rfl) m_range (pa_cons pe_int pa_nil)) (pg_name (i := 2) sc_law.nd rfl (Or.inl rfl))
        (pss_cons (ps_set (i := 3) sc_law.nd rfl (Or.inl rfl) (pe_cl C_rule hr (pa_cons (pv 1) (pa_cons pe_int pa_nil))))
        (pss_cons (ps_set (i := 4) sc_law.nd rfl (Or.inl rfl) (pe_op op_add pe_int (pe_cl C_next hr (pa_cons (pv 1) (pa_cons pe_int pa_nil)))))
        (pss_cons (ps_set (i := 5) sc_law.nd rfl (Or.inl rfl) (pe_cl C_lb hr (pa_cons (pv 3) (pa_cons (pv 4) pa_nil))))
        (pss_cons (ps_set (i := 6) sc_law.nd rfl (Or.inl rfl) (pe_lst pa_nil))
        (pss_cons (ps_set (i := 7) sc_law.nd rfl (Or.inl rfl) (pe_lst pa_nil))
        (pss_cons (ps_for PassesOwn.never rfl (pi_range1 (by rfl) m_range (pa_cons (pe_cl C_next hr (pa_cons (pv 1) (pa_cons pe_int pa_nil))) pa_nil)) (pg_name (i := 8) sc_law.nd rfl (Or.inl rfl))
          (pss_cons (ps_set (i := 9) sc_law.nd rfl (Or.inl rfl) (pe_ix ix_list (pe_lst (pa_cons (pe_cl C_st hr (pa_cons (pv 1) (pa_cons (pv 5) pa_nil))) (pa_cons (pe_tup (pa_cons pe_str (pa_cons (pe_cl C_next hr (pa_cons (pv 1) (pa_cons (pv 4) pa_nil))) pa_nil))) pa_nil))) (pe_cl C_next hr (pa_cons (pv 1) (pa_cons pe_int pa_nil))) (fun _ _ => rfl)))
          (pss_cons (ps_if (pt_cmpR op_eq (pe_cl C_next hr (pa_cons (pv 1) (pa_cons pe_int pa_nil))) pe_int (nomark _))
            (pss_cons (ps_set (i := 10) sc_law.nd rfl (Or.inl rfl) (pe_cl C_next hr (pa_cons (pv 1) (pa_cons pe_int pa_nil))))
            (pss_cons (ps_set (i := 11) sc_law.nd rfl (Or.inl rfl) (pe_lst (pa_cons (pe_tup (pa_cons pe_str (pa_cons (pe_op op_add (pv 4) (pv 10)) pa_nil))) (pa_cons (pe_tup (pa_cons pe_str (pa_cons (pe_op op_add (pv 4) (pv 10)) pa_nil)))
              (pa_cons (pe_tup (pa_cons pe_str (pa_cons (pe_op op_add pe_int (pv 10)) pa_nil))) (pa_cons (pe_tup (pa_cons pe_str (pa_cons pe_int pa_nil))) pa_nil))))))
            (pss_one (ps_set (i := 9) sc_law.nd rfl (Or.inl rfl) (pe_ix ix_list (pe_op op_cat (pv 11) (pe_lst (pa_cons (pe_tup (pa_cons pe_str (pa_cons (pe_op op_sub (pe_un un_neg pe_int) (pv 10)) pa_nil))) (pa_cons (pe_tup (pa_cons pe_str (pa_cons (pe_op op_sub (pe_un un_neg pe_int) (pv 10)) pa_nil))) pa_nil))))
              (pe_cl C_next hr (pa_cons (pv 1) (pa_cons pe_int pa_nil))) (fun _ _ => rfl)))))) pss_nil)
          (pss_cons (ps_expr (pe_bm PySem.F.plainAttrs_list PySem.F.slot_list_append PySem.F.type_list_append mt_append (pv 6) (pa_cons (pv 9) pa_nil)))
          (pss_one (ps_expr (pe_bm PySem.F.plainAttrs_list PySem.F.slot_list_append PySem.F.type_list_append mt_append (pv 7) (pa_cons (pe_cl C_lt hr (pa_cons (pv 5) (pa_cons (pv 9) pa_nil))) pa_nil))))))))
        (pss_cons (ps_set (i := 12) sc_law.nd rfl (Or.inl rfl) (pe_callTy call_list_of (by rfl) m_list (by decide +kernel) (pa_cons (pv 6) pa_nil)))
        (pss_one (ps_for PassesOwn.never rfl (pi_range1 (by rfl) m_range (pa_cons pe_int pa_nil)) (pg_name (i := 13) sc_law.nd rfl (Or.inl rfl))
          (pss_cons (ps_asg (pe_cl C_pl hr (pa_cons (pv 3) (pa_cons (pv 4) (pa_cons (pv 12) pa_nil)))) (pg_tup rfl (pgs_cons (pg_name (i := 14) sc_law.nd rfl (Or.inl rfl)) (pgs_cons (pg_name (i := 15) sc_law.nd rfl (Or.inl rfl)) pgs_nil))))
          (pss_cons (ps_if (PW.pt (pw_or (pt_not (pt_val (pe_cl C_al hr (pa_cons (pv 14) (pa_cons (pv 7) pa_nil))))) (pw_or1 (pt_cmpR (op_neD hr.units) (pv 12) (pv 6) (nomark _))))) pss_never pss_nil)
          (pss_cons (ps_if (pt_not (pt_val (pe_cl C_al hr (pa_cons (pe_lst (pa_cons (pe_cm0 (E := E0) CM T.cl pass0 hr (pv 15)) (pa_cons (pe_cm0 (E := E0) CN T.cl pass0 hr (pv 15)) pa_nil))) (pa_cons (pe_lst (pa_cons (pe_dget hu (pv 5) pe_str (fun _ _ => rfl)) (pa_cons (pe_dget hu (pv 5) pe_str (fun _ _ => rfl)) pa_nil))) pa_nil))))) pss_never pss_nil)
          (pss_cons (ps_expr (pe_cm (E := E0) CP T.cl passL hr (pv 15) (pa_cons pe_int pa_nil)))
          (pss_cons (ps_expr (pe_cm (E := E0) CS T.cl passL hr (pv 15) (pa_cons pe_int pa_nil)))
          (pss_one (ps_expr (pe_bm PySem.F.plainAttrs_list PySem.F.slot_list_append PySem.F.type_list_append mt_append (pv 14) (pa_cons pe_int pa_nil)))))))))))))))))))
      (pss_one (ps_ret pe_bl))), ?_⟩
    refine ⟨_, rfl, a, 29, ns, rfl, hS, hl, by decide, by decide, fun H0 h c ha0 _ _ s0 => ?_⟩
    refine ⟨2, rfl, by decide, by decide, for_range (lo := 0) (n := 2) (fun i σ H' => ∃ v2 v3 v4 v5 v6 v7 v8 v9 v10 v11 v12 v13 v14 v15 : Option V, σ = [some (.ref a), some (.ref h), v2, v3, v4, v5, v6, v7, v8, v9, v10, v11, v12, v13, v14, v15] ∧ HAt H' h c)
      ⟨none, none, none, none, none, none, none, none, none, none, none, none, none, none, rfl, ha0⟩ ?_ ?_⟩
    · rintro i σ H1 hi ⟨v2, v3, v4, v5, v6, v7, v8, v9, v10, v11, v12, v13, v14, v15, rfl, ha1⟩
      refine ⟨_, rfl, h, c, 0, rfl, .inl rfl, ha1, fun R H2 p ok _ ha2 k2 hp2 => ?_⟩
      refine ⟨_, rfl, h, c, 8, rfl, by decide, by decide, ha2, fun r H3 rl ha3 k3 => ?_⟩
      have hp3 := k3.tup ha2 hp2
      have rl' : (r : Int) < 8 := rl
      refine ⟨_, _, rfl, rfl, ?_⟩
      have e1 : (1 : Int) + (r : Int) = ((1 + r : Nat) : Int) := rfl
      refine ⟨_, rfl, _, rfl, p, R, 1 + r, _, rfl, rfl, hp3, ok, by omega, fun H4 m mm ml ma nm nmm nml s4 => ?_⟩
      refine ⟨(by show 0 ≤ sizeLine; decide), fun L1 nL1 => ⟨(by show 0 ≤ sizeLine; decide), fun L2 nL2 => ?_⟩⟩
      have sL1 := same_upd (o := .lst []) nL1
      have sL2 := same_upd (o := .lst []) nL2
      have ha4 := ha3.same s4
      have lw0 : Lw (upd (upd H4 L1 (.lst [])) L2 (.lst [])) h c m p mm ml R ⟨List.replicate (1 + r) R.fin, List.replicate (1 + r) none, 0⟩ L1 L2 [] [] := by
        obtain ⟨⟨mx, pl, ns, eh, ec, rest⟩, hne⟩ := id ha3
        have eh4 := s4 _ _ eh
        have ec4 := s4 _ _ ec
        refine ⟨(ha4.same sL1).same sL2, (ma.same sL1).same sL2, fun x hx => ?_, sL2 _ _ upd_same, upd_same, ne_of_none (show (upd H4 L1 (.lst [])) L1 = some (.lst []) from upd_same) nL2, fun x hx => ?_, fun x hx => ?_⟩
        · simp only [List.mem_cons, List.not_mem_nil, or_false] at hx
          rcases hx with rfl | rfl
          · exact ⟨(ne_of_none eh nmm).symm, (ne_of_none ec nmm).symm⟩
          · exact ⟨(ne_of_none eh nml).symm, (ne_of_none ec nml).symm⟩
        · simp only [List.mem_cons, List.not_mem_nil, or_false] at hx
          rcases hx with rfl | rfl | rfl | rfl
          · exact (ne_of_none eh4 nL1).symm
          · exact (ne_of_none ec4 nL1).symm
          · exact (ne_of_none ma.mrk nL1).symm
          · exact (ne_of_none ma.la nL1).symm
        · simp only [List.mem_cons, List.not_mem_nil, or_false] at hx
          rcases hx with rfl | rfl | rfl | rfl
          · exact (ne_of_none (sL1 _ _ eh4) nL2).symm
          · exact (ne_of_none (sL1 _ _ ec4) nL2).symm
          · exact (ne_of_none (sL1 _ _ ma.mrk) nL2).symm
          · exact (ne_of_none (sL1 _ _ ma.la) nL2).symm
      refine ⟨_, rfl, h, c, 51, rfl, by decide, by decide, lw0.ha, fun many H5 manyl ha5 k5 => ?_⟩
      have many' : (many : Int) < 51 := manyl
      have lw5 := (lw0.drawn ha5 (Kp2.kpL k5)).1
      refine ⟨_, rfl, by omega, by omega, ?_⟩
      rw [Int.toNat_natCast]
      refine for_range (lo := 0) (n := many) (fun k σ H' => ∃ (s : Md) (mm' : Addr) (Ts : List Addr) (sd : List (Str × Int)) (vs : List V) (w8 w9 w10 w11 : Option V), σ = [some (.ref a), some (.ref h), some (.int (0 + (i : Int))), some (.ref p), some (.int ((1 + r : Nat) : Int)), some (.ref m), some (.ref L1), some (.ref L2), w8, w9, w10, w11, v12, v13, v14, v15] ∧
          Lw H' h c m p mm' ml R s L1 L2 (Ts.map V.ref) vs ∧ StepsAt H' Ts sd ∧ TlsAt H' vs (playF R (List.replicate (1 + r) R.fin, 0) sd).1 ∧ (s.ms, s.now) = (playF R (List.replicate (1 + r) R.fin, 0) sd).2 ∧ sd.length = k ∧ ∀ x, x ∈ sd → okWord x.1)
        ⟨_, mm, [], [], [], v8, v9, v10, v11, rfl, lw5, StepsAt.nil _, TlsAt.nil _, rfl, rfl, fun x hx => (by simp at hx)⟩ ?_ ?_
      · rintro k σ Ha hk ⟨s, mm', Ts, sd, vs, w8, w9, w10, w11, rfl, lwa, sta, tla, eqs, lsd, owa⟩
        have pn := playF_now R sd (List.replicate (1 + r) R.fin, 0)
        rw [← eqs] at pn
        have pn1 : s.now ≤ 0 + 1000 * sd.length := pn.1
        have pn2 : s.ms.length = 1 + r := by
          have : s.ms.length = (List.replicate (1 + r) R.fin).length := pn.2.1
          rw [List.length_replicate] at this
          exact this
        -- the step
        refine ⟨_, rfl, _, rfl, h, c, m, p, mm', ml, R, s, rfl, lwa.ha, lwa.ma, by omega, (lwa.f1 mm' (by simp)).1.symm, (lwa.f1 ml (by simp)).1.symm, (lwa.f1 mm' (by simp)).2.symm, (lwa.f1 ml (by simp)).2.symm, fun Hb st1 wd1 k1 hwd1 est1 hab kb => ?_⟩
        obtain ⟨lwb, tb⟩ := lwa.drawn hab kb
        refine ⟨_, rfl, _, rfl, h, c, _, rfl, by omega, by omega, hab, fun k2 Hc kl2 hac kc => ?_⟩
        obtain ⟨lwc, tc⟩ := lwb.drawn hac (Kp2.kpL kc)
        refine ⟨(by show 2 ≤ sizeLine; decide), fun T2 nT2 => ?_⟩
        have sT2 := same_upd (o := .tup [V.str "ask", V.int (k2 : Int)]) nT2
        refine ⟨(by show 2 ≤ sizeLine; decide), fun l nl => ?_⟩
        have sl := same_upd (o := .lst [V.ref st1, V.ref T2]) nl
        have lwd := lwc.same (sT2.trans sl)
        have nlh : l ≠ h ∧ l ≠ c := by
          obtain ⟨⟨mx, pl, ns, e1, e2, _⟩, _⟩ := (lwc.same sT2).ha
          exact ⟨(ne_of_none e1 nl).symm, (ne_of_none e2 nl).symm⟩
        refine ⟨_, rfl, h, c, 2, rfl, by decide, by decide, lwd.ha, fun r2 Hd r2l had kd => ?_⟩
        obtain ⟨lwe, te⟩ := lwd.drawn had (Kp2.kpL kd)
        have est1' : Hd st1 = some (.tup [.str wd1, .int (k1 : Int)]) := te _ _ (sl _ _ (sT2 _ _ (tc _ _ est1)))
        have eT2' : Hd T2 = some (.tup [.str "ask", .int (k2 : Int)]) := te _ _ (sl _ _ upd_same)
        have tall : TupK Ha Hd := ((tb.trans tc).trans (Same.tupK (sT2.trans sl))).trans te
        obtain ⟨Tx, wd, ix, eat, eTx, ow⟩ : ∃ (Tx : Addr) (wd : Str) (ix : Int), atI [V.ref st1, V.ref T2] (r2 : Int) = some (.ref Tx) ∧ Hd Tx = some (.tup [.str wd, .int ix]) ∧ okWord wd := by
          have : r2 = 0 ∨ r2 = 1 := by omega
          rcases this with rfl | rfl
          · refine ⟨st1, wd1, _, atI_nat (j := 0) rfl, est1', ?_⟩
            rcases hwd1 with ⟨e, _⟩ | ⟨e, _⟩
            · exact .inl (by rw [e])
            · exact .inr (.inl (by rw [e]))
          · exact ⟨T2, "ask", _, atI_nat (j := 1) rfl, eT2', .inr (.inr rfl)⟩
        refine ⟨l, _, _, _, rfl, rfl, SqL.of (kd _ _ upd_same nlh.1 nlh.2), eat, ?_⟩
        dsimp only [gName, tSeq]
        refine abs_nx (t := tIfS _ _ _) (fun σ' H' => ∃ (Ty : Addr) (wd : Str) (ix : Int) (x10 x11 : Option V), σ' = [some (.ref a), some (.ref h), some (.int (0 + (i : Int))), some (.ref p), some (.int ((1 + r : Nat) : Int)), some (.ref m), some (.ref L1), some (.ref L2), some (.int (0 + (k : Int))), some (.ref Ty), x10, x11, v12, v13, v14, v15] ∧
            Lw H' h c m p mm' ml R s L1 L2 (Ts.map V.ref) vs ∧ TupK Ha H' ∧ H' Ty = some (.tup [.str wd, .int ix]) ∧ okWord wd) (fun nx' hnx => ?_) ?_
        · refine ⟨_, rfl, h, c, 8, rfl, by decide, by decide, had, fun r3 He _ hae ke => ⟨rfl, _, rfl, ?_⟩⟩
          obtain ⟨lwf, tf⟩ := lwe.drawn hae (Kp2.kpL ke)
          rw [dec_int]
          refine ite2 (fun _ => ?_) (fun _ => hnx _ _ ⟨Tx, wd, ix, _, _, rfl, lwf, tall.trans tf, tf _ _ eTx, ow⟩)
          refine ⟨_, rfl, h, c, 1000, rfl, by decide, by decide, hae, fun out Hf _ haf kf => ?_⟩
          obtain ⟨lwg, tg⟩ := lwf.drawn haf (Kp2.kpL kf)
          refine ⟨_, rfl, _, rfl, _, _, rfl, rfl, (by show 2 ≤ sizeLine; decide), fun t1 n1 => ?_⟩
          refine ⟨_, rfl, _, rfl, _, _, rfl, rfl, (by show 2 ≤ sizeLine; decide), fun t2 n2 => ?_⟩
          refine ⟨_, rfl, _, _, rfl, rfl, (by show 2 ≤ sizeLine; decide), fun t3 n3 => ?_⟩
          refine ⟨(by show 2 ≤ sizeLine; decide), fun t4 n4 => ⟨(by show 4 ≤ sizeLine; decide), fun l1 nl1 => ?_⟩⟩
          have g1 := same_upd (o := .tup [V.str "ask", V.int (((1 + r : Nat) : Int) + (out : Int))]) n1
          have g2 := same_upd (o := .tup [V.str "see", V.int (((1 + r : Nat) : Int) + (out : Int))]) n2
          have g3 := same_upd (o := .tup [V.str "pass", V.int (1001 + (out : Int))]) n3
          have g4 := same_upd (o := .tup [V.str "pass", V.int 0]) n4
          have g5 := same_upd (o := .lst [V.ref t1, V.ref t2, V.ref t3, V.ref t4]) nl1
          refine ⟨_, rfl, 1, rfl, _, rfl, _, _, rfl, rfl, (by show 2 ≤ sizeLine; decide), fun t5 n5 => ?_⟩
          refine ⟨1, rfl, _, rfl, _, _, rfl, rfl, (by show 2 ≤ sizeLine; decide), fun t6 n6 => ?_⟩
          refine ⟨(by show 2 ≤ sizeLine; decide), fun l2 nl2 => ?_⟩
          have g6 := same_upd (o := .tup [V.str "see", V.int (-1 - (out : Int))]) n5
          have g7 := same_upd (o := .tup [V.str "ask", V.int (-1 - (out : Int))]) n6
          have g8 := same_upd (o := .lst [V.ref t5, V.ref t6]) nl2
          refine ⟨l1, l2, _, _, rfl, rfl, g8 _ _ (g7 _ _ (g6 _ _ upd_same)), upd_same, (by show 4 + 2 ≤ sizeLine; decide), fun l3 nl3 => ?_⟩
          have g9 := same_upd (o := .lst ([V.ref t1, V.ref t2, V.ref t3, V.ref t4] ++ [V.ref t5, V.ref t6])) nl3
          have q5 := ((g6.trans g7).trans g8).trans g9
          have q4 := g5.trans q5
          have q3 := g4.trans q4
          have q2 := g3.trans q3
          have q1 := g2.trans q2
          have q0 := g1.trans q1
          have lwh := lwg.same q0
          have nl3h : l3 ≠ h ∧ l3 ≠ c := by
            obtain ⟨⟨mx, pl, ns, e1, e2, _⟩, _⟩ := (lwg.same (g1.trans (g2.trans (g3.trans (g4.trans (g5.trans ((g6.trans g7).trans g8))))))).ha
            exact ⟨(ne_of_none e1 nl3).symm, (ne_of_none e2 nl3).symm⟩
          refine ⟨_, rfl, h, c, 6, rfl, by decide, by decide, lwh.ha, fun r4 Hg r4l hag kg => ?_⟩
          obtain ⟨lwi, ti⟩ := lwh.drawn hag (Kp2.kpL kg)
          have z1 := ti _ _ (q1 _ _ (show (upd Hf t1 (.tup [V.str "ask", V.int (((1 + r : Nat) : Int) + (out : Int))])) t1 = _ from upd_same))
          have z2 := ti _ _ (q2 _ _ (show (upd _ t2 (HO.tup [V.str "see", V.int (((1 + r : Nat) : Int) + (out : Int))])) t2 = _ from upd_same))
          have z3 := ti _ _ (q3 _ _ (show (upd _ t3 (HO.tup [V.str "pass", V.int (1001 + (out : Int))])) t3 = _ from upd_same))
          have z4 := ti _ _ (q4 _ _ (show (upd _ t4 (HO.tup [V.str "pass", V.int 0])) t4 = _ from upd_same))
          have z5 := ti _ _ ((g7.trans (g8.trans g9)) _ _ (show (upd _ t5 (HO.tup [V.str "see", V.int (-1 - (out : Int))])) t5 = _ from upd_same))
          have z6 := ti _ _ ((g8.trans g9) _ _ (show (upd _ t6 (HO.tup [V.str "ask", V.int (-1 - (out : Int))])) t6 = _ from upd_same))
          obtain ⟨Ty, wd', ix', eat', eTy, ow'⟩ : ∃ (Ty : Addr) (wd : Str) (ix : Int), atI ([V.ref t1, V.ref t2, V.ref t3, V.ref t4] ++ [V.ref t5, V.ref t6]) (r4 : Int) = some (.ref Ty) ∧ Hg Ty = some (.tup [.str wd, .int ix]) ∧ okWord wd := by
            have : r4 = 0 ∨ r4 = 1 ∨ r4 = 2 ∨ r4 = 3 ∨ r4 = 4 ∨ r4 = 5 := by omega
            rcases this with rfl | rfl | rfl | rfl | rfl | rfl
            · exact ⟨t1, _, _, atI_nat (j := 0) rfl, z1, .inr (.inr rfl)⟩
            · exact ⟨t2, _, _, atI_nat (j := 1) rfl, z2, .inl rfl⟩
            · exact ⟨t3, _, _, atI_nat (j := 2) rfl, z3, .inr (.inl rfl)⟩
            · exact ⟨t4, _, _, atI_nat (j := 3) rfl, z4, .inr (.inl rfl)⟩
            · exact ⟨t5, _, _, atI_nat (j := 4) rfl, z5, .inl rfl⟩
            · exact ⟨t6, _, _, atI_nat (j := 5) rfl, z6, .inr (.inr rfl)⟩
          refine ⟨l3, _, _, _, rfl, rfl, SqL.of (kg _ _ upd_same nl3h.1 nl3h.2), eat', ?_⟩
          exact hnx _ _ ⟨Ty, wd', ix', _, _, rfl, lwi, (((tall.trans tf).trans tg).trans (Same.tupK q0)).trans ti, eTy, ow'⟩
        · rintro σ' He ⟨Ty, wd, ix, x10, x11, rfl, lwf, tf, eTy, ow⟩
          -- both lists
          have lT : Ts.length ≤ 50 := by rw [sta.len]; omega
          have lv : vs.length ≤ 50 := by rw [tla.len, pn.2.2]; omega
          refine ⟨_, rfl, .inl ⟨rfl, _, SqL.of lwf.e1⟩, _, rfl, L1, _, _, rfl, rfl, lwf.e1, by rw [List.length_map]; exact small1000 (by omega), ?_⟩
          obtain ⟨lwg, tg⟩ := lwf.put ((Ts.map V.ref) ++ [.ref Ty])
          refine ⟨_, rfl, .inl ⟨rfl, _, SqL.of lwg.e2⟩, _, rfl, _, rfl, ?_⟩
          refine ⟨m, p, mm', ml, Ty, R, s, wd, ix, rfl, lwg.ma, ok, by omega, tg _ _ eTy, ow, fun Hf mm2 s2 v ma2 es2 tl2 k2' f2 => ?_⟩
          obtain ⟨lwh, th⟩ := lwg.told ma2 k2' f2
          refine ⟨L2, _, _, rfl, rfl, lwh.e2, small1000 (by omega), ?_⟩
          obtain ⟨lwi, ti⟩ := lwh.put2 (vs ++ [v])
          have eqs' : (playF R (List.replicate (1 + r) R.fin, 0) sd).2 = (s.ms, s.now) := eqs.symm
          refine ⟨s2, mm2, Ts ++ [Ty], sd ++ [(wd, ix)], vs ++ [v], _, _, _, _, rfl, ?_, ?_, ?_, ?_, by rw [List.length_append, lsd]; rfl, fun x hx => ?_⟩
          · rw [List.map_append]
            exact lwi
          · exact (sta.k (((tf.trans tg).trans th).trans ti)).snoc (((tg.trans th).trans ti) _ _ eTy)
          · rw [playF_snoc, eqs']
            exact (tla.k (((tf.trans tg).trans th).trans ti)).snoc (tl2.k ti)
          · rw [playF_snoc, eqs']
            exact es2
          · rcases List.mem_append.mp hx with hx | hx
            · exact owa x hx
            · rw [List.mem_singleton.mp hx]
              exact ow
      · rintro σ Ha ⟨s, mm', Ts, sd, vs, w8, w9, w10, w11, rfl, lwa, sta, tla, eqs, lsd, owa⟩
        have pn := playF_now R sd (List.replicate (1 + r) R.fin, 0)
        rw [← eqs] at pn
        have pn1 : s.now ≤ 0 + 1000 * sd.length := pn.1
        have pn2 : s.ms.length = 1 + r := by
          have : s.ms.length = (List.replicate (1 + r) R.fin).length := pn.2.1
          rw [List.length_replicate] at this
          exact this
        have sd50 : sd.length ≤ 50 := by omega
        have lT : Ts.length ≤ 50 := by rw [sta.len]; omega
        -- handed
        refine ⟨_, rfl, L1, _, rfl, .inl (SqL.of lwa.e1), fun Lh nLh => ?_⟩
        have sLh := same_upd (o := .lst (Ts.map V.ref)) nLh
        have lwb := lwa.same sLh
        have stb := sta.k (Same.tupK sLh)
        have tlb := tla.k (Same.tupK sLh)
        refine ⟨2, rfl, by decide, by decide, for_range (lo := 0) (n := 2) (fun j σ H' => ∃ (x13 x14 x15 : Option V), σ = [some (.ref a), some (.ref h), some (.int (0 + (i : Int))), some (.ref p), some (.int ((1 + r : Nat) : Int)), some (.ref m), some (.ref L1), some (.ref L2), w8, w9, w10, w11, some (.ref Lh), x13, x14, x15] ∧ Same (upd Ha Lh (.lst (Ts.map V.ref))) H')
          ⟨v13, v14, v15, rfl, Same.refl _⟩ ?_ ?_⟩
        · rintro j σ Hb hj ⟨x13, x14, x15, rfl, sb⟩
          have lwc := lwb.same sb
          have stc := stb.k (Same.tupK sb)
          have tlc := tlb.k (Same.tupK sb)
          have eLh := sb _ _ (show (upd Ha Lh (.lst (Ts.map V.ref))) Lh = _ from upd_same)
          refine ⟨_, rfl, _, rfl, _, rfl, p, Lh, R, 1 + r, _, Ts, sd, rfl, rfl, lwc.ma.rl, ok, by omega, by omega, eLh, stc, by omega, owa, fun Hc Tt l b am vs2 eTt el tl2 ba sc nl nb nam => ?_⟩
          rw [← eqs] at ba
          have ba' : BAt C Hc b p am R s.ms s.now := ba
          have lwd := lwc.same sc
          refine ⟨Tt, [.ref l, .ref b], rfl, SqT.of eTt, rfl, _, _, rfl, _, _, rfl, rfl, ?_⟩
          have lpl : (playF R (List.replicate (1 + r) R.fin, 0) sd).1.length = sd.length := pn.2.2
          refine ⟨_, rfl, _, rfl, .ref l, .ref L2, pdTs (playF R (List.replicate (1 + r) R.fin, 0) sd).1, rfl, .lst (SqL.of el) (dpTs tl2), .lst (SqL.of lwd.e2) (dpTs (tlc.k (Same.tupK sc))), Nat.le_trans (pdTs_d _) (by decide), pdTs_s (by rw [lpl]; omega), fun Hd sdd => ⟨_, rfl, iteF ?_⟩⟩
          have lwe := lwd.same sdd
          have ste := (stc.k (Same.tupK sc)).k (Same.tupK sdd)
          refine ⟨_, rfl, _, rfl, pdSts sd, pdSts sd, .lst (SqL.of (sdd _ _ (sc _ _ eLh))) (dpSts ste), .lst (SqL.of lwe.e1) (dpSts ste), pdSts_shaped owa, pdSts_shaped owa, _, rfl, ?_⟩
          rw [eqv_same (pdSts_shaped owa)]
          refine iteF ?_
          -- marks, now
          have bae := ba'.same sdd
          obtain ⟨dx, ob⟩ := bae.ob
          refine ⟨_, rfl, b, dx, _, rfl, ob, bfl_no _ _ _ (by decide +kernel) (by decide +kernel) (by decide +kernel), b, p, am, R, s.ms, s.now, rfl, bae, fun He l3 nl3 se el3 => ?_⟩
          have baf := bae.same se
          obtain ⟨dx2, ob2⟩ := baf.ob
          refine ⟨_, rfl, b, dx2, _, rfl, ob2, bfl_no _ _ _ (by decide +kernel) (by decide +kernel) (by decide +kernel), b, p, am, R, s.ms, s.now, rfl, baf, ?_⟩
          refine ⟨(by show 2 ≤ sizeLine; decide), fun l4 nl4 => ?_⟩
          have s4' := same_upd (o := .lst [V.ref l3, V.int (s.now : Int)]) nl4
          have lwf := (lwe.same se).same s4'
          refine ⟨_, rfl, m, _, rfl, dg lwf.ma.ob (bkv_marks _ _ _ _), _, rfl, m, _, rfl, dg lwf.ma.ob (bkv_now _ _ _ _), (by show 2 ≤ sizeLine; decide), fun l5 nl5 => ?_⟩
          have s5' := same_upd (o := .lst [V.ref mm', V.int (s.now : Int)]) nl5
          refine ⟨_, _, .list [pdMs s.ms, .int (s.now : Int)], rfl, .lst (SqL.of (s5' _ _ upd_same)) (.cons (dpMs ((s4'.trans s5') _ _ el3)) (.cons (.int _) .nil)), .lst (SqL.of upd_same) (.cons (dpMs (s5' _ _ lwf.ma.mrk)) (.cons (.int _) .nil)), ?_, ?_, fun Hg sg => ⟨_, rfl, iteF ?_⟩⟩
          · have := pdMs_d s.ms
            simp only [PyData.depth, PyData.depthAll]
            omega
          · refine szOk_l (by show 2 ≤ 1000; decide) ?_
            simp only [szAll, pdMs_s (ms := s.ms) (by omega)]
            rfl
          have sgg := ((se.trans s4').trans s5').trans sg
          have bag := bae.same sgg
          obtain ⟨dx3, ob3⟩ := bag.ob
          -- the board goes on by itself
          refine ⟨_, rfl, b, dx3, _, rfl, ob3, bfl_no _ _ _ (by decide +kernel) (by decide +kernel) (by decide +kernel), b, p, am, R, s.ms, s.now, 7, rfl, bag, .inl ⟨7, rfl, by decide, by decide, by omega, fun Hh am2 bah nam2 kh => ?_⟩⟩
          obtain ⟨dx4, ob4⟩ := bah.ob
          refine ⟨_, rfl, b, dx4, _, rfl, ob4, bfl_no _ _ _ (by decide +kernel) (by decide +kernel) (by decide +kernel), b, p, am2, R, _, _, 0, rfl, bah, .inl ⟨0, rfl, by rw [List.length_map]; omega, fun Hi bai ki => ?_⟩⟩
          have elg := (sdd.trans sgg) _ _ el
          have nbl : l ≠ b := ne_of elg ob3 (fun z => nomatch z)
          have nal : l ≠ am2 := ne_of_none elg nam2
          have eli := ki _ _ (kh _ _ elg (fun z => nbl (List.mem_singleton.mp z))) (fun z => nal (List.mem_singleton.mp z))
          refine ⟨_, rfl, .inl ⟨rfl, _, SqL.of eli⟩, l, _, _, rfl, rfl, eli, by rw [tl2.len, lpl]; exact small1000 (by omega), _, _, _, rfl, fun x o e => ?_⟩
          have e3 := (sc.trans (sdd.trans sgg)) _ _ (sb _ _ e)
          rw [upd_ne (ne_of_none (sb _ _ e) nl)]
          exact ki _ _ (kh _ _ e3 (fun z => ne_of_none (sb _ _ e) nb (List.mem_singleton.mp z))) (fun z => ne_of_none e3 nam2 (List.mem_singleton.mp z))
        · rintro σ Hb ⟨x13, x14, x15, rfl, sb⟩
          exact ⟨_, _, _, _, _, _, _, _, _, _, _, _, _, _, rfl, (lwb.same sb).ha⟩
    · rintro σ H1 _
      exact q H1
end
theorem lims_mk {K : PySem.W.Frag} {w : World} {h : Heap} {mg : Str → Option Value} {d d1 d2 d3 : Addr} {es : Array DictEntry} {n n1 n2 n3 : Nat} {od1 od2 od3 : Option Addr} {sl1 sl2 sl3 : Array (Option Value)} {x1 x2 x3 x4 x5 : Tok} (X : K.In h) (G : h.Ns mainGlobals mg)
    (aL : PySem.W.nsIn K mainGlobals "LIMITS" = some (some (.ref d))) (lL : K.lookup d = some ⟨.type "dict", none, .dict es n, #[]⟩) (kL : PySem.W.KeysLit w.params es.toList) (sL : (d == sysModules) = false)
    (e1 : PySem.W.nsIn K d "count" = some (some (.ref d1))) (t1 : K.lookup d1 = some ⟨.type "tuple", od1, .seq #[.int 6 x1, .int 20 x2] n1, sl1⟩)
    (e2 : PySem.W.nsIn K d "shift" = some (some (.ref d2))) (t2 : K.lookup d2 = some ⟨.type "tuple", od2, .seq #[.int 10 x3, .int 20 x4] n2, sl2⟩)
    (e3 : PySem.W.nsIn K d "rough" = some (some (.ref d3))) (t3 : K.lookup d3 = some ⟨.type "tuple", od3, .seq #[.int 3 x5] n3, sl3⟩) : Lims K w mg := by
  refine ⟨d, es, n, PySem.W.mg_of X G aL, ⟨lL, kL, sL⟩, fun R => ?_⟩
  cases R with
  | cnt b s => exact ⟨d1, e1, _, _, _, t1, rfl, rfl, (by show 2 ≤ sizeLine; decide), .cons ⟨_, rfl⟩ (.cons ⟨_, rfl⟩ .nil)⟩
  | shf b s => exact ⟨d2, e2, _, _, _, t2, rfl, rfl, (by show 2 ≤ sizeLine; decide), .cons ⟨_, rfl⟩ (.cons ⟨_, rfl⟩ .nil)⟩
  | rgh b => exact ⟨d3, e3, _, _, _, t3, rfl, rfl, (by show 1 ≤ sizeLine; decide), .cons ⟨_, rfl⟩ .nil⟩
theorem all_mk {l : PySem.W.OpenLaw} {w : World} {K : PySem.W.Frag} {h : Heap} {mg : Str → Option Value} {fa : Addr} (X : K.In h) (G : h.Ns mainGlobals mg) (hfa : mg "law" = some (.ref fa))
    {d dd1 dd2 dd3 : Addr} {es : Array DictEntry} {n n1 n2 n3 : Nat} {od1 od2 od3 : Option Addr} {sl1 sl2 sl3 : Array (Option Value)} {x1 x2 x3 x4 x5 : Tok}
    {tk_LAST_MOMENT : Tok}
    {tk_MOST_THINGS : Tok}
    {tk_LONGEST_PASS : Tok}
    {C : Addr}
    {cNoThing : Addr}
    {cBadMoment : Addr}
    (d_is_rule : DefAt K mg "is_rule" s_is_rule ["rule"])
    (d_check_rule : DefAt K mg "check_rule" s_check_rule ["rule"])
    (d_check_mark : DefAt K mg "check_mark" s_check_mark ["rule", "mark"])
    (d_check_moment : DefAt K mg "check_moment" s_check_moment ["moment"])
    (d_top_mark : DefAt K mg "top_mark" s_top_mark ["rule"])
    (d_end_mark : DefAt K mg "end_mark" s_end_mark ["rule"])
    (d_seen : DefAt K mg "seen" s_seen ["rule", "mark"])
    (d_aged_on : DefAt K mg "aged_on" s_aged_on ["rule", "mark", "begin", "end"])
    (d_aged_roughly : DefAt K mg "_aged_roughly" s_aged_roughly ["last", "mark", "begin", "end"])
    (d_span : DefAt K mg "span" s_span ["rule", "now", "mark"])
    (d_agings : DefAt K mg "_agings" s_agings ["rule", "mark"])
    (d_stepped_span : DefAt K mg "_stepped_span" s_stepped_span ["rule", "now", "mark"])
    (d_rough_span : DefAt K mg "_rough_span" s_rough_span ["rule", "now", "mark"])
    (d_played : DefAt K mg "played" s_played ["rule", "things", "steps"])
    (d_told : DefAt K mg "_told" s_told ["board", "word", "number"])
    (d_L_mix : DefAt K mg "_law_mix" s_L_mix ["_law_script", "_law_seed"])
    (d_L_next : DefAt K mg "_law_next" s_L_next ["_law_h", "_law_many"])
    (d_L_alike : DefAt K mg "_law_alike" s_L_alike ["_law_found", "_law_due"])
    (d_L_rule : DefAt K mg "_law_rule" s_L_rule ["_law_h", "_law_small"])
    (d_L_end : DefAt K mg "_law_end" s_L_end ["_law_rule_here"])
    (d_L_most : DefAt K mg "_law_most" s_L_most ["_law_rule_here"])
    (d_L_top : DefAt K mg "_law_top" s_L_top ["_law_rule_here"])
    (d_L_tick : DefAt K mg "_law_tick" s_L_tick ["_law_rule_here", "_law_mark", "_law_moment"])
    (d_L_aged : DefAt K mg "_law_aged" s_L_aged ["_law_rule_here", "_law_mark", "_law_begin", "_law_end_here"])
    (d_L_seen : DefAt K mg "_law_seen" s_L_seen ["_law_rule_here", "_law_mark"])
    (d_L_board : DefAt K mg "_law_board" s_L_board ["_law_rule_here", "_law_things"])
    (d_L_do : DefAt K mg "_law_do" s_L_do ["_law_m", "_law_step_here"])
    (d_L_step : DefAt K mg "_law_step" s_L_step ["_law_h", "_law_m"])
    (d_L_told : DefAt K mg "_law_told" s_L_told ["_law_m", "_law_step_here"])
    (d_law : DefAt K mg "law" s_law ["_law_script"])
    (m_len : mg "len" = none)
    (m_all : mg "all" = none)
    (m_zip : mg "zip" = none)
    (m_min : mg "min" = none)
    (m_max : mg "max" = none)
    (m_list : mg "list" = none)
    (m_range : mg "range" = none)
    (m_int : mg "int" = none)
    (m_isi : mg "isinstance" = none)
    (m_tuple : mg "tuple" = none)
    (m_str : mg "str" = none)
    (m_bool : mg "bool" = none)
    (aL : PySem.W.nsIn K mainGlobals "LIMITS" = some (some (.ref d)))
    (lL : K.lookup d = some ⟨.type "dict", none, .dict es n, #[]⟩)
    (kL : PySem.W.KeysLit w.params es.toList)
    (sL : (d == sysModules) = false)
    (e1 : PySem.W.nsIn K d "count" = some (some (.ref dd1)))
    (t1 : K.lookup dd1 = some ⟨.type "tuple", od1, .seq #[.int 6 x1, .int 20 x2] n1, sl1⟩)
    (e2 : PySem.W.nsIn K d "shift" = some (some (.ref dd2)))
    (t2 : K.lookup dd2 = some ⟨.type "tuple", od2, .seq #[.int 10 x3, .int 20 x4] n2, sl2⟩)
    (e3 : PySem.W.nsIn K d "rough" = some (some (.ref dd3)))
    (t3 : K.lookup dd3 = some ⟨.type "tuple", od3, .seq #[.int 3 x5] n3, sl3⟩)
    (c_LAST_MOMENT : PySem.W.nsIn K mainGlobals "LAST_MOMENT" = some (some (.int 1000000000 tk_LAST_MOMENT)))
    (c_MOST_THINGS : PySem.W.nsIn K mainGlobals "MOST_THINGS" = some (some (.int 8 tk_MOST_THINGS)))
    (c_LONGEST_PASS : PySem.W.nsIn K mainGlobals "LONGEST_PASS" = some (some (.int 1000 tk_LONGEST_PASS)))
    (aB : PySem.W.nsIn K mainGlobals "Board" = some (some (.ref C)))
    (pgB : PySem.W.plainGet K C Str.empty = true)
    (hdB : PySem.W.hasDictIn K C = true)
    (poB : PySem.W.plainOver K C = true)
    (saB : PySem.W.findIn K (.ref C) "__setattr__" = some (some (.builtin "object.__setattr__")))
    (mkB : PySem.W.makesIn K C = true)
    (kcB : PySem.W.keepIn K (.ref C) = true)
    (n_rule : PySem.W.findIn K (.ref C) "_rule" = some none)
    (n_marks : PySem.W.findIn K (.ref C) "_marks" = some none)
    (n_moment : PySem.W.findIn K (.ref C) "_moment" = some none)
    (dm_init : DefM K C "__init__" "Board.__init__" m_Board_init ["self", "rule", "things"])
    (dm_see : DefM K C "see" "Board.see" m_Board_see ["self", "thing"])
    (dm_pass_by : DefM K C "pass_by" "Board.pass_by" m_Board_pass_by ["self", "many"])
    (dm_marks : DefM K C "marks" "Board.marks" m_Board_marks ["self"])
    (dm_age : DefM K C "age" "Board.age" m_Board_age ["self", "thing"])
    (dm_now : DefM K C "now" "Board.now" m_Board_now ["self"])
    (dm_check_thing : DefM K C "_check_thing" "Board._check_thing" m_Board_check_thing ["self", "thing"])
    (aNoThing : PySem.W.nsIn K mainGlobals "NoThing" = some (some (.ref cNoThing)))
    (xNoThing : PySem.W.excIn K cNoThing [.type "ValueError", .type "Exception", .type "BaseException", .type "object"] "ValueError.__new__" = true)
    (kNoThing : PySem.W.keepIn K (.ref cNoThing) = true)
    (bNoThing : PySem.W.subIn K (.ref cNoThing) (.type "BaseException") = some true)
    (tNoThing : PySem.W.typeIn K (.ref cNoThing) = some (.type "type"))
    (aBadMoment : PySem.W.nsIn K mainGlobals "BadMoment" = some (some (.ref cBadMoment)))
    (xBadMoment : PySem.W.excIn K cBadMoment [.type "ValueError", .type "Exception", .type "BaseException", .type "object"] "ValueError.__new__" = true)
    (kBadMoment : PySem.W.keepIn K (.ref cBadMoment) = true)
    (bBadMoment : PySem.W.subIn K (.ref cBadMoment) (.type "BaseException") = some true)
    (tBadMoment : PySem.W.typeIn K (.ref cBadMoment) = some (.type "type"))
    (dNo : PySem.W.hasDictIn K cNoThing = true)
    (dBa : PySem.W.hasDictIn K cBadMoment = true)
    (eNN : PySem.W.subIn K (.ref cNoThing) (.ref cNoThing) = some true)
    (eMN : PySem.W.subIn K (.ref cBadMoment) (.ref cNoThing) = some false)
    (eMM : PySem.W.subIn K (.ref cBadMoment) (.ref cBadMoment) = some true)
    : ∃ fd : FuncData, (∀ (s : Shared) (v : Value), BindsTo s fd ⟨[v], []⟩ [("_law_script", v)]) ∧ ∀ base : Heap, K.In base → base.Ns mainGlobals mg → FnOk l.prog w K mg base CX0 9 fa fd ["_law_script"] (spLaw K) := by
  obtain ⟨f, fd, F, g, b⟩ := d_law
  have e := hfa.symm.trans g
  cases e
  have F' := F
  obtain ⟨⟨oc, od, kV, doc, pm, an, cdv, ct, osl, rfl, lk, hcd⟩, kp⟩ := F'
  refine ⟨PySem.W.fnOf "law" "law" (defArgs s_law) (defBody s_law) (defScope s_law) .none kV doc pm an cdv ct, fun s v => .of_eq rfl, fun base _ _ => ?_⟩
  have LI : Lims K w mg := lims_mk X G aL lL kL sL e1 t1 e2 t2 e3 t3
  have T : Bcl K mg C := ⟨⟨pgB, hdB, poB, saB⟩, n_rule, n_marks, n_moment⟩
  have gB : mg "Board" = some (.ref C) := PySem.W.mg_of X G aB
  have E_NoThing : ErrC K mg "NoThing" cNoThing := ⟨PySem.W.mg_of X G aNoThing, xNoThing, kNoThing, bNoThing, tNoThing⟩
  have E_BadMoment : ErrC K mg "BadMoment" cBadMoment := ⟨PySem.W.mg_of X G aBadMoment, xBadMoment, kBadMoment, bBadMoment, tBadMoment⟩
  have C_is : Cl l.prog w K mg base 1 "is_rule" ["rule"] spIsRule := ok_is_rule d_is_rule LI m_len m_all m_zip
  have C_cr := ok_check_rule d_check_rule C_is
  have C_tm : Cl l.prog w K mg base 1 "top_mark" ["rule"] spTopMark := ok_top_mark d_top_mark
  have C_cm := ok_check_mark d_check_mark C_tm
  have C_mo : Cl l.prog w K mg base 1 "check_moment" ["moment"] spCheckMoment := ok_check_moment d_check_moment (PySem.W.mg_of X G c_LAST_MOMENT)
  have C_ro : Cl l.prog w K mg base 1 "_aged_roughly" ["last", "mark", "begin", "end"] spRoughly := ok_roughly d_aged_roughly
  have C_ao := ok_aged_on d_aged_on m_min C_tm C_ro
  have C_em := ok_end_mark d_end_mark C_tm
  have C_se : Cl l.prog w K mg base 1 "seen" ["rule", "mark"] spSeen := ok_seen d_seen
  have C_gs := ok_agings d_agings C_se C_em
  have C_st := ok_stepped d_stepped_span m_min C_gs C_em
  have C_rs := ok_rough d_rough_span m_range C_em C_se C_ao
  have C_sp := ok_span d_span C_cr C_mo C_cm C_rs C_st
  have CI := ok_init dm_init T (PySem.W.mg_of X G c_MOST_THINGS) C_cr C_em
  obtain ⟨fI, fdI, GI, MI, bI⟩ := CI
  have MkB : Mk K C fI := ⟨mkB, MI.at_, MI.fn, kcB⟩
  have CK : ClM l.prog w K mg base (L2.CX l.prog w) 1 C "_check_thing" ["self", "thing"] (spChk C cNoThing) := ok_chk dm_check_thing T m_len E_NoThing
  have CS := ok_see dm_see T CK C_se
  have CP := ok_pass dm_pass_by T (PySem.W.mg_of X G c_LONGEST_PASS) E_BadMoment C_ao
  have CM : ClM l.prog w K mg base CX0 1 C "marks" ["self"] (spMarks C) := ok_marks dm_marks T m_list
  have CN : ClM l.prog w K mg base CX0 1 C "now" ["self"] (spNow C) := ok_now dm_now T

  have CG := ok_age dm_age T CK C_sp
  have C_t1 := ok_told1 d_told T E_NoThing.g E_BadMoment.g (PySem.W.exm_ref bNoThing dNo tNoThing eNN) (PySem.W.exm_ref bNoThing dNo tNoThing eMN) (PySem.W.exm_ref bBadMoment dBa tBadMoment eMM) CS CP CG
  have C_pl := ok_played d_played gB MkB GI bI C_t1

  have C_mix : Cl l.prog w K mg base 1 "_law_mix" ["_law_script", "_law_seed"] (spMix K) := ok_mix d_L_mix m_list
  have C_next : Cl l.prog w K mg base 1 "_law_next" ["_law_h", "_law_many"] spNext := ok_next d_L_next m_max m_len

  have C_al0 : Cl l.prog w K mg base 1 "_law_alike" ["_law_found", "_law_due"] (spAlike K 0) := ok_alike0 d_L_alike m_isi m_tuple m_list m_str m_bool m_int
  have C_al1 := ok_alikeS d_L_alike m_isi m_tuple m_list m_str m_bool m_int m_len m_range C_al0
  have C_al2 := ok_alikeS d_L_alike m_isi m_tuple m_list m_str m_bool m_int m_len m_range C_al1
  have C_al3 := ok_alikeS d_L_alike m_isi m_tuple m_list m_str m_bool m_int m_len m_range C_al2

  have C_rule := ok_rule d_L_rule m_int C_next
  have C_end : Cl l.prog w K mg base 1 "_law_end" ["_law_rule_here"] spEnd := ok_end d_L_end
  have C_most : Cl l.prog w K mg base 1 "_law_most" ["_law_rule_here"] spTopMark := ok_most d_L_most m_range m_int
  have C_tick := ok_tick d_L_tick m_int m_min C_end
  have C_la := ok_Laged d_L_aged m_range C_tick
  have C_top := ok_top d_L_top C_most
  have C_ls := ok_Lseen d_L_seen C_top

  have C_lb := ok_Lboard d_L_board C_end
  have C_do := ok_Ldo d_L_do C_ls C_la
  have C_lst := ok_Lstep d_L_step m_len C_next

  have C_lt := ok_Ltold d_L_told m_len C_do C_sp
  exact ok_law F m_range m_list T C_mix C_next C_rule C_lb C_lst (C_lt.imp fun _ _ _ _ h => told2_of h) C_al3 C_pl CS CP CM CN
end LS
open PySem PySem.W PyProof.Rows
set_option maxHeartbeats 0 in
theorem PySem.Challenge.cw_lastseen_k09_played_holds : PySem.Challenge.rw_lastseen_k09_played.Holds := by
  w_on; o_law; k_head; (case hw => w_witness2)
  k_fill
  refine L2.walk_of (l := PySem.Challenge.rw_lastseen_k09_played) (n := 63) (k := 9) (x := "_law_script") (CX := fun _ => L2.CX0) (sp := fun w => LS.spLaw _) rfl (by decide) rfl ⟨rfl, by decide, by decide⟩ (fun w h Y => PySem.W.kIn_of Y) ?F (fun _ _ a ns hl _ hS => ⟨a, ns, rfl, hS, hl, fun _ => rfl⟩) (fun _ _ _ _ _ h => h)
  case F =>
    intro w mg fa h KX G hmg
    refine' LS.all_mk KX G hmg (LS.defAt_mk (st := LS.s_is_rule) (ps := ["rule"]) KX G ?a0 ?l0 ?c0 ?k0 (fun _ _ _ _ _ _ us hl => match us, hl with | [_], _ => rfl)) (LS.defAt_mk (st := LS.s_check_rule) (ps := ["rule"]) KX G ?a1 ?l1 ?c1 ?k1 (fun _ _ _ _ _ _ us hl => match us, hl with | [_], _ => rfl)) (LS.defAt_mk (st := LS.s_check_mark) (ps := ["rule", "mark"]) KX G ?a2 ?l2 ?c2 ?k2 (fun _ _ _ _ _ _ us hl => match us, hl with | [_, _], _ => rfl)) (LS.defAt_mk (st := LS.s_check_moment) (ps := ["moment"]) KX G ?a3 ?l3 ?c3 ?k3 (fun _ _ _ _ _ _ us hl => match us, hl with | [_], _ => rfl)) (LS.defAt_mk (st := LS.s_top_mark) (ps := ["rule"]) KX G ?a4 ?l4 ?c4 ?k4 (fun _ _ _ _ _ _ us hl => match us, hl with | [_], _ => rfl)) (LS.defAt_mk (st := LS.s_end_mark) (ps := ["rule"]) KX G ?a5 ?l5 ?c5 ?k5 (fun _ _ _ _ _ _ us hl => match us, hl with | [_], _ => rfl)) (LS.defAt_mk (st := LS.s_seen) (ps := ["rule", "mark"]) KX G ?a6 ?l6 ?c6 ?k6 (fun _ _ _ _ _ _ us hl => match us, hl with | [_, _], _ => rfl)) (LS.defAt_mk (st := LS.s_aged_on) (ps := ["rule", "mark", "begin", "end"]) KX G ?a7 ?l7 ?c7 ?k7 (fun _ _ _ _ _ _ us hl => match us, hl with | [_, _, _, _], _ => rfl)) (LS.defAt_mk (st := LS.s_aged_roughly) (ps := ["last", "mark", "begin", "end"]) KX G ?a8 ?l8 ?c8 ?k8 (fun _ _ _ _ _ _ us hl => match us, hl with | [_, _, _, _], _ => rfl)) (LS.defAt_mk (st := LS.s_span) (ps := ["rule", "now", "mark"]) KX G ?a9 ?l9 ?c9 ?k9 (fun _ _ _ _ _ _ us hl => match us, hl with | [_, _, _], _ => rfl)) (LS.defAt_mk (st := LS.s_agings) (ps := ["rule", "mark"]) KX G ?a10 ?l10 ?c10 ?k10 (fun _ _ _ _ _ _ us hl => match us, hl with | [_, _], _ => rfl)) (LS.defAt_mk (st := LS.s_stepped_span) (ps := ["rule", "now", "mark"]) KX G ?a11 ?l11 ?c11 ?k11 (fun _ _ _ _ _ _ us hl => match us, hl with | [_, _, _], _ => rfl)) (LS.defAt_mk (st := LS.s_rough_span) (ps := ["rule", "now", "mark"]) KX G ?a12 ?l12 ?c12 ?k12 (fun _ _ _ _ _ _ us hl => match us, hl with | [_, _, _], _ => rfl)) (LS.defAt_mk (st := LS.s_played) (ps := ["rule", "things", "steps"]) KX G ?a13 ?l13 ?c13 ?k13 (fun _ _ _ _ _ _ us hl => match us, hl with | [_, _, _], _ => rfl)) (LS.defAt_mk (st := LS.s_told) (ps := ["board", "word", "number"]) KX G ?a14 ?l14 ?c14 ?k14 (fun _ _ _ _ _ _ us hl => match us, hl with | [_, _, _], _ => rfl)) (LS.defAt_mk (st := LS.s_L_mix) (ps := ["_law_script", "_law_seed"]) KX G ?a15 ?l15 ?c15 ?k15 (fun _ _ _ _ _ _ us hl => match us, hl with | [_, _], _ => rfl)) (LS.defAt_mk (st := LS.s_L_next) (ps := ["_law_h", "_law_many"]) KX G ?a16 ?l16 ?c16 ?k16 (fun _ _ _ _ _ _ us hl => match us, hl with | [_, _], _ => rfl)) (LS.defAt_mk (st := LS.s_L_alike) (ps := ["_law_found", "_law_due"]) KX G ?a17 ?l17 ?c17 ?k17 (fun _ _ _ _ _ _ us hl => match us, hl with | [_, _], _ => rfl)) (LS.defAt_mk (st := LS.s_L_rule) (ps := ["_law_h", "_law_small"]) KX G ?a18 ?l18 ?c18 ?k18 (fun _ _ _ _ _ _ us hl => match us, hl with | [_, _], _ => rfl)) (LS.defAt_mk (st := LS.s_L_end) (ps := ["_law_rule_here"]) KX G ?a19 ?l19 ?c19 ?k19 (fun _ _ _ _ _ _ us hl => match us, hl with | [_], _ => rfl)) (LS.defAt_mk (st := LS.s_L_most) (ps := ["_law_rule_here"]) KX G ?a20 ?l20 ?c20 ?k20 (fun _ _ _ _ _ _ us hl => match us, hl with | [_], _ => rfl)) (LS.defAt_mk (st := LS.s_L_top) (ps := ["_law_rule_here"]) KX G ?a21 ?l21 ?c21 ?k21 (fun _ _ _ _ _ _ us hl => match us, hl with | [_], _ => rfl)) (LS.defAt_mk (st := LS.s_L_tick) (ps := ["_law_rule_here", "_law_mark", "_law_moment"]) KX G ?a22 ?l22 ?c22 ?k22 (fun _ _ _ _ _ _ us hl => match us, hl with | [_, _, _], _ => rfl)) (LS.defAt_mk (st := LS.s_L_aged) (ps := ["_law_rule_here", "_law_mark", "_law_begin", "_law_end_here"]) KX G ?a23 ?l23 ?c23 ?k23 (fun _ _ _ _ _ _ us hl => match us, hl with | [_, _, _, _], _ => rfl)) (LS.defAt_mk (st := LS.s_L_seen) (ps := ["_law_rule_here", "_law_mark"]) KX G ?a24 ?l24 ?c24 ?k24 (fun _ _ _ _ _ _ us hl => match us, hl with | [_, _], _ => rfl)) (LS.defAt_mk (st := LS.s_L_board) (ps := ["_law_rule_here", "_law_things"]) KX G ?a25 ?l25 ?c25 ?k25 (fun _ _ _ _ _ _ us hl => match us, hl with | [_, _], _ => rfl)) (LS.defAt_mk (st := LS.s_L_do) (ps := ["_law_m", "_law_step_here"]) KX G ?a26 ?l26 ?c26 ?k26 (fun _ _ _ _ _ _ us hl => match us, hl with | [_, _], _ => rfl)) (LS.defAt_mk (st := LS.s_L_step) (ps := ["_law_h", "_law_m"]) KX G ?a27 ?l27 ?c27 ?k27 (fun _ _ _ _ _ _ us hl => match us, hl with | [_, _], _ => rfl)) (LS.defAt_mk (st := LS.s_L_told) (ps := ["_law_m", "_law_step_here"]) KX G ?a28 ?l28 ?c28 ?k28 (fun _ _ _ _ _ _ us hl => match us, hl with | [_, _], _ => rfl)) (LS.defAt_mk (st := LS.s_law) (ps := ["_law_script"]) KX G ?a29 ?l29 ?c29 ?k29 (fun _ _ _ _ _ _ us hl => match us, hl with | [_], _ => rfl)) (PySem.W.mg_none_of KX G ?zlen) (PySem.W.mg_none_of KX G ?zall) (PySem.W.mg_none_of KX G ?zzip) (PySem.W.mg_none_of KX G ?zmin) (PySem.W.mg_none_of KX G ?zmax) (PySem.W.mg_none_of KX G ?zlist) (PySem.W.mg_none_of KX G ?zrange) (PySem.W.mg_none_of KX G ?zint) (PySem.W.mg_none_of KX G ?zisi) (PySem.W.mg_none_of KX G ?ztuple) (PySem.W.mg_none_of KX G ?zstr) (PySem.W.mg_none_of KX G ?zbool) ?aL ?lL ?kL ?sL ?e1 ?t1 ?e2 ?t2 ?e3 ?t3 ?c_LAST_MOMENT ?c_MOST_THINGS ?c_LONGEST_PASS ?aB ?pgB ?hdB ?poB ?saB ?mkB ?kcB ?n_rule ?n_marks ?n_moment (LS.defM_mk (st := LS.m_Board_init) (ps := ["self", "rule", "things"]) ?ma0 ?mi0 ?ml0 ?mc0 ?mk0 (fun _ _ _ _ _ _ us hl => match us, hl with | [_, _, _], _ => rfl)) (LS.defM_mk (st := LS.m_Board_see) (ps := ["self", "thing"]) ?ma1 ?mi1 ?ml1 ?mc1 ?mk1 (fun _ _ _ _ _ _ us hl => match us, hl with | [_, _], _ => rfl)) (LS.defM_mk (st := LS.m_Board_pass_by) (ps := ["self", "many"]) ?ma2 ?mi2 ?ml2 ?mc2 ?mk2 (fun _ _ _ _ _ _ us hl => match us, hl with | [_, _], _ => rfl)) (LS.defM_mk (st := LS.m_Board_marks) (ps := ["self"]) ?ma3 ?mi3 ?ml3 ?mc3 ?mk3 (fun _ _ _ _ _ _ us hl => match us, hl with | [_], _ => rfl)) (LS.defM_mk (st := LS.m_Board_age) (ps := ["self", "thing"]) ?ma4 ?mi4 ?ml4 ?mc4 ?mk4 (fun _ _ _ _ _ _ us hl => match us, hl with | [_, _], _ => rfl)) (LS.defM_mk (st := LS.m_Board_now) (ps := ["self"]) ?ma5 ?mi5 ?ml5 ?mc5 ?mk5 (fun _ _ _ _ _ _ us hl => match us, hl with | [_], _ => rfl)) (LS.defM_mk (st := LS.m_Board_check_thing) (ps := ["self", "thing"]) ?ma6 ?mi6 ?ml6 ?mc6 ?mk6 (fun _ _ _ _ _ _ us hl => match us, hl with | [_, _], _ => rfl)) ?aNoThing ?xNoThing ?kNoThing ?bNoThing ?tNoThing ?aBadMoment ?xBadMoment ?kBadMoment ?bBadMoment ?tBadMoment ?dNo ?dBa ?eNN ?eMN ?eMM
    (case a0 => k_is)
    (case l0 => k_is)
    (case c0 => k_is)
    (case k0 => k_is)
    (case a1 => k_is)
    (case l1 => k_is)
    (case c1 => k_is)
    (case k1 => k_is)
    (case a2 => k_is)
    (case l2 => k_is)
    (case c2 => k_is)
    (case k2 => k_is)
    (case a3 => k_is)
    (case l3 => k_is)
    (case c3 => k_is)
    (case k3 => k_is)
    (case a4 => k_is)
    (case l4 => k_is)
    (case c4 => k_is)
    (case k4 => k_is)
    (case a5 => k_is)
    (case l5 => k_is)
    (case c5 => k_is)
    (case k5 => k_is)
    (case a6 => k_is)
    (case l6 => k_is)
    (case c6 => k_is)
    (case k6 => k_is)
    (case a7 => k_is)
    (case l7 => k_is)
    (case c7 => k_is)
    (case k7 => k_is)
    (case a8 => k_is)
    (case l8 => k_is)
    (case c8 => k_is)
    (case k8 => k_is)
    (case a9 => k_is)
    (case l9 => k_is)
    (case c9 => k_is)
    (case k9 => k_is)
    (case a10 => k_is)
    (case l10 => k_is)
    (case c10 => k_is)
    (case k10 => k_is)
    (case a11 => k_is)
    (case l11 => k_is)
    (case c11 => k_is)
    (case k11 => k_is)
    (case a12 => k_is)
    (case l12 => k_is)
    (case c12 => k_is)
    (case k12 => k_is)
    (case a13 => k_is)
    (case l13 => k_is)
    (case c13 => k_is)
    (case k13 => k_is)
    (case a14 => k_is)
    (case l14 => k_is)
    (case c14 => k_is)
    (case k14 => k_is)
    (case a15 => k_is)
    (case l15 => k_is)
    (case c15 => k_is)
    (case k15 => k_is)
    (case a16 => k_is)
    (case l16 => k_is)
    (case c16 => k_is)
    (case k16 => k_is)
    (case a17 => k_is)
    (case l17 => k_is)
    (case c17 => k_is)
    (case k17 => k_is)
    (case a18 => k_is)
    (case l18 => k_is)
    (case c18 => k_is)
    (case k18 => k_is)
    (case a19 => k_is)
    (case l19 => k_is)
    (case c19 => k_is)
    (case k19 => k_is)
    (case a20 => k_is)
    (case l20 => k_is)
    (case c20 => k_is)
    (case k20 => k_is)
    (case a21 => k_is)
    (case l21 => k_is)
    (case c21 => k_is)
    (case k21 => k_is)
    (case a22 => k_is)
    (case l22 => k_is)
    (case c22 => k_is)
    (case k22 => k_is)
    (case a23 => k_is)
    (case l23 => k_is)
    (case c23 => k_is)
    (case k23 => k_is)
    (case a24 => k_is)
    (case l24 => k_is)
    (case c24 => k_is)
    (case k24 => k_is)
    (case a25 => k_is)
    (case l25 => k_is)
    (case c25 => k_is)
    (case k25 => k_is)
    (case a26 => k_is)
    (case l26 => k_is)
    (case c26 => k_is)
    (case k26 => k_is)
    (case a27 => k_is)
    (case l27 => k_is)
    (case c27 => k_is)
    (case k27 => k_is)
    (case a28 => k_is)
    (case l28 => k_is)
    (case c28 => k_is)
    (case k28 => k_is)
    (case a29 => k_is)
    (case l29 => k_is)
    (case c29 => k_is)
    (case k29 => k_is)
    (case zlen => k_is)
    (case zall => k_is)
    (case zzip => k_is)
    (case zmin => k_is)
    (case zmax => k_is)
    (case zlist => k_is)
    (case zrange => k_is)
    (case zint => k_is)
    (case zisi => k_is)
    (case ztuple => k_is)
    (case zstr => k_is)
    (case zbool => k_is)
    (case aL => k_is)
    (case lL => k_is)
    (case kL => k_keys)
    (case sL => decide)
    (case e1 => k_is)
    (case t1 => k_is)
    (case e2 => k_is)
    (case t2 => k_is)
    (case e3 => k_is)
    (case t3 => k_is)
    (case c_LAST_MOMENT => k_is)
    (case c_MOST_THINGS => k_is)
    (case c_LONGEST_PASS => k_is)
    (case aB => k_is)
    (case pgB => k_is)
    (case hdB => k_is)
    (case poB => k_is)
    (case saB => k_is)
    (case mkB => k_is)
    (case kcB => k_is)
    (case n_rule => k_is)
    (case n_marks => k_is)
    (case n_moment => k_is)
    (case ma0 => k_is)
    (case mi0 => k_is)
    (case ml0 => k_is)
    (case mc0 => k_is)
    (case mk0 => k_is)
    (case ma1 => k_is)
    (case mi1 => k_is)
    (case ml1 => k_is)
    (case mc1 => k_is)
    (case mk1 => k_is)
    (case ma2 => k_is)
    (case mi2 => k_is)
    (case ml2 => k_is)
    (case mc2 => k_is)
    (case mk2 => k_is)
    (case ma3 => k_is)
    (case mi3 => k_is)
    (case ml3 => k_is)
    (case mc3 => k_is)
    (case mk3 => k_is)
    (case ma4 => k_is)
    (case mi4 => k_is)
    (case ml4 => k_is)
    (case mc4 => k_is)
    (case mk4 => k_is)
    (case ma5 => k_is)
    (case mi5 => k_is)
    (case ml5 => k_is)
    (case mc5 => k_is)
    (case mk5 => k_is)
    (case ma6 => k_is)
    (case mi6 => k_is)
    (case ml6 => k_is)
    (case mc6 => k_is)
    (case mk6 => k_is)
    (case aNoThing => k_is)
    (case xNoThing => k_exc)
    (case kNoThing => k_is)
    (case bNoThing => k_is)
    (case tNoThing => k_is)
    (case aBadMoment => k_is)
    (case xBadMoment => k_exc)
    (case kBadMoment => k_is)
    (case bBadMoment => k_is)
    (case tBadMoment => k_is)
    (case dNo => k_is)
    (case dBa => k_is)
    (case eNN => k_is)
    (case eMN => k_is)
    (case eMM => k_is)
