import PyProof.Rows.All
import Wide.All
import OpenK.AllK
import Wide.FinOn
import Open.SpecLaws
import KE.OsGo
import HandS.ForSpec
import HandS.Comp
import HandS.Iter
import HandS.Walk
import HandS.Evl
import HandS.Deep
import HandS.Dict
import HandS.WordsDict
import HandS.Small
import KE.KEqSeq
import PySem.Challenge.RW_rootsums_s01_answers
set_option linter.all false
set_option maxRecDepth 100000
set_option maxHeartbeats 4000000
set_option Elab.async false
namespace RsM
open Na04
/-- the characters, written out -/
def tab : Nat → List (List Nat)
  | 2 => [[0]]
  | 3 => [[0, 0], [0, 1]]
  | 4 => [[0, 0], [0, 1]]
  | 5 => [[0, 0, 0, 0], [0, 1, 3, 2], [0, 2, 2, 0], [0, 3, 1, 2]]
  | 6 => [[0, 0], [0, 1]]
  | 7 => [[0, 0, 0, 0, 0, 0], [0, 0, 3, 0, 3, 3], [0, 2, 1, 4, 5, 3], [0, 2, 4, 4, 2, 0], [0, 4, 2, 2, 4, 0], [0, 4, 5, 2, 1, 3]]
  | 8 => [[0, 0, 0, 0], [0, 0, 1, 1], [0, 1, 0, 1], [0, 1, 1, 0]]
  | 9 => [[0, 0, 0, 0, 0, 0], [0, 1, 2, 5, 4, 3], [0, 2, 4, 4, 2, 0], [0, 3, 0, 3, 0, 3], [0, 4, 2, 2, 4, 0], [0, 5, 4, 1, 2, 3]]
  | 10 => [[0, 0, 0, 0], [0, 1, 3, 2], [0, 2, 2, 0], [0, 3, 1, 2]]
  | 11 => [[0, 0, 0, 0, 0, 0, 0, 0, 0, 0], [0, 1, 8, 2, 4, 9, 7, 3, 6, 5], [0, 2, 6, 4, 8, 8, 4, 6, 2, 0], [0, 3, 4, 6, 2, 7, 1, 9, 8, 5], [0, 4, 2, 8, 6, 6, 8, 2, 4, 0], [0, 5, 0, 0, 0, 5, 5, 5, 0, 5], [0, 6, 8, 2, 4, 4, 2, 8, 6, 0], [0, 7, 6, 4, 8, 3, 9, 1, 2, 5], [0, 8, 4, 6, 2, 2, 6, 4, 8, 0], [0, 9, 2, 8, 6, 1, 3, 7, 4, 5]]
  | 12 => [[0, 0, 0, 0], [0, 0, 1, 1], [0, 1, 0, 1], [0, 1, 1, 0]]
  | 13 => [[0, 0, 0, 0, 0, 0, 0, 0, 0, 0, 0, 0], [0, 1, 4, 2, 9, 5, 11, 3, 8, 10, 7, 6], [0, 2, 8, 4, 6, 10, 10, 6, 4, 8, 2, 0], [0, 3, 0, 6, 3, 3, 9, 9, 0, 6, 9, 6], [0, 4, 4, 8, 0, 8, 8, 0, 8, 4, 4, 0], [0, 5, 8, 10, 9, 1, 7, 3, 4, 2, 11, 6], [0, 6, 0, 0, 6, 6, 6, 6, 0, 0, 6, 0], [0, 7, 4, 2, 3, 11, 5, 9, 8, 10, 1, 6], [0, 8, 8, 4, 0, 4, 4, 0, 4, 8, 8, 0], [0, 9, 0, 6, 9, 9, 3, 3, 0, 6, 3, 6], [0, 10, 4, 8, 6, 2, 2, 6, 8, 4, 10, 0], [0, 11, 8, 10, 3, 7, 1, 9, 4, 2, 5, 6]]
  | _ => []
theorem chars_2 : chars 2 = tab 2 := by decide +kernel
theorem chars_3 : chars 3 = tab 3 := by decide +kernel
theorem chars_4 : chars 4 = tab 4 := by decide +kernel
theorem chars_5 : chars 5 = tab 5 := by decide +kernel
theorem chars_6 : chars 6 = tab 6 := by decide +kernel
theorem chars_7 : chars 7 = tab 7 := by decide +kernel
theorem chars_8 : chars 8 = tab 8 := by decide +kernel
theorem chars_9 : chars 9 = tab 9 := by decide +kernel
theorem chars_10 : chars 10 = tab 10 := by decide +kernel
theorem chars_11 : chars 11 = tab 11 := by decide +kernel
theorem chars_12 : chars 12 = tab 12 := by decide +kernel
theorem chars_13 : chars 13 = tab 13 := by decide +kernel
theorem chars_tab : ∀ n, 2 ≤ n → n ≤ 13 → chars n = tab n
  | 2, _, _ => chars_2
  | 3, _, _ => chars_3
  | 4, _, _ => chars_4
  | 5, _, _ => chars_5
  | 6, _, _ => chars_6
  | 7, _, _ => chars_7
  | 8, _, _ => chars_8
  | 9, _, _ => chars_9
  | 10, _, _ => chars_10
  | 11, _, _ => chars_11
  | 12, _, _ => chars_12
  | 13, _, _ => chars_13
  | 0, h, _ => absurd h (by decide)
  | 1, h, _ => absurd h (by decide)
  | n + 14, _, h => absurd h (by omega)
/-- what holds of each of 2 to 13 -/
theorem each {P : Nat → Prop} (h : ∀ k, k < 12 → P (k + 2)) : ∀ n, 2 ≤ n → n ≤ 13 → P n := fun n h1 h2 => by
  have e : n - 2 + 2 = n := by omega
  rw [← e]
  exact h (n - 2) (by omega)
/-! ### the exponent -/
theorem expo_pos : ∀ n, 2 ≤ n → n ≤ 13 → 1 ≤ exponent n ∧ exponent n ≤ 12 := each (by decide +kernel)
theorem expo_any : ∀ n, 2 ≤ n → n ≤ 13 → ∀ e, e ≤ exponent n → 1 ≤ e → (units n).any (fun u => u ^ e % n != 1) = decide (e < exponent n) := each (P := fun n => ∀ e, e ≤ exponent n → 1 ≤ e → (units n).any (fun u => u ^ e % n != 1) = decide (e < exponent n)) fun k hk e he => by
  have b := (expo_pos (k + 2) (by omega) (by omega)).2
  have q : ∀ k, k < 12 → ∀ e, e < 13 → e ≤ exponent (k + 2) → 1 ≤ e → (units (k + 2)).any (fun u => u ^ e % (k + 2) != 1) = decide (e < exponent (k + 2)) := by decide +kernel
  exact q k hk e (by omega) he
theorem units_lt {n u : Nat} (h : u ∈ units n) : u < n := by
  unfold units at h
  exact List.mem_range.mp (List.mem_filter.mp h).1
theorem units_len (n : Nat) : (units n).length ≤ n := by
  unfold units
  have h := List.length_filter_le (fun a => Nat.gcd a n == 1) (List.range n)
  rw [List.length_range] at h
  exact h
theorem pow_step (u e n : Nat) : u ^ e % n * u % n = u ^ (e + 1) % n := by
  rw [Nat.pow_succ, Nat.mod_mul_mod]
/-! ### the laws -/
def lawAt (n i j : Nat) : List Nat := [i, j, (units n).idxOf ((units n).getD i 0 * (units n).getD j 0 % n)]
def lawsM (n : Nat) : List (List Nat) := (List.range (units n).length).flatMap fun i => (List.range (units n).length).map fun j => lawAt n i j
theorem law_in : ∀ n, 2 ≤ n → n ≤ 13 → ∀ u, u ∈ units n → ∀ v, v ∈ units n → u * v % n ∈ units n := each (by decide +kernel)
/-! ### the characters -/
def keeps (t : List Nat) (ls : List (List Nat)) (e : Nat) : Bool := ls.all fun l => (t.getD (l.getD 0 0) 0 + t.getD (l.getD 1 0) 0) % e == t.getD (l.getD 2 0) 0
def top3 (l : List Nat) : Nat := max (max (l.getD 0 0) (l.getD 1 0)) (l.getD 2 0)
def dueM (n p : Nat) : List (List Nat) := (lawsM n).filter fun l => top3 l == p
def growM (n e : Nat) : Nat → List (List Nat)
  | 0 => [[]]
  | p + 1 => (growM n e p).flatMap fun c => ((List.range e).map fun v => c ++ [v]).filter fun t => keeps t (dueM n p) e
theorem grow_2 : growM 2 (exponent 2) (units 2).length = tab 2 := by decide +kernel
theorem grow_3 : growM 3 (exponent 3) (units 3).length = tab 3 := by decide +kernel
theorem grow_4 : growM 4 (exponent 4) (units 4).length = tab 4 := by decide +kernel
theorem grow_5 : growM 5 (exponent 5) (units 5).length = tab 5 := by decide +kernel
theorem grow_6 : growM 6 (exponent 6) (units 6).length = tab 6 := by decide +kernel
theorem grow_7 : growM 7 (exponent 7) (units 7).length = tab 7 := by decide +kernel
theorem grow_8 : growM 8 (exponent 8) (units 8).length = tab 8 := by decide +kernel
theorem grow_9 : growM 9 (exponent 9) (units 9).length = tab 9 := by decide +kernel
theorem grow_10 : growM 10 (exponent 10) (units 10).length = tab 10 := by decide +kernel
theorem grow_11 : growM 11 (exponent 11) (units 11).length = tab 11 := by decide +kernel
theorem grow_12 : growM 12 (exponent 12) (units 12).length = tab 12 := by decide +kernel
theorem grow_13 : growM 13 (exponent 13) (units 13).length = tab 13 := by decide +kernel
theorem grow_tab : ∀ n, 2 ≤ n → n ≤ 13 → growM n (exponent n) (units n).length = tab n
  | 2, _, _ => grow_2
  | 3, _, _ => grow_3
  | 4, _, _ => grow_4
  | 5, _, _ => grow_5
  | 6, _, _ => grow_6
  | 7, _, _ => grow_7
  | 8, _, _ => grow_8
  | 9, _, _ => grow_9
  | 10, _, _ => grow_10
  | 11, _, _ => grow_11
  | 12, _, _ => grow_12
  | 13, _, _ => grow_13
  | 0, h, _ => absurd h (by decide)
  | 1, h, _ => absurd h (by decide)
  | n + 14, _, h => absurd h (by omega)
theorem grow_is (n : Nat) (h1 : 2 ≤ n) (h2 : n ≤ 13) : growM n (exponent n) (units n).length = chars n := (grow_tab n h1 h2).trans (chars_tab n h1 h2).symm
end RsM
set_option linter.all false
set_option maxRecDepth 100000
set_option maxHeartbeats 4000000
set_option Elab.async false
namespace RsM
open Na04
theorem small_low : ∀ k, k < 9 → ∀ p, p < 13 → p ≤ (units (k + 2)).length → (growM (k + 2) (exponent (k + 2)) p).length ≤ 200 := by decide +kernel
theorem small_12 : ∀ p, p < 13 → p ≤ (units 12).length → (growM 12 (exponent 12) p).length ≤ 200 := by decide +kernel
theorem small_11 : ∀ p, p < 13 → p ≤ (units 11).length → (growM 11 (exponent 11) p).length ≤ 200 := by decide +kernel
theorem small_13 : ∀ p, p < 13 → p ≤ (units 13).length → (growM 13 (exponent 13) p).length ≤ 200 := by decide +kernel
theorem units_len12 : ∀ n, 2 ≤ n → n ≤ 13 → (units n).length ≤ 12 := each (by decide +kernel)
theorem grow_small (n : Nat) (h1 : 2 ≤ n) (h2 : n ≤ 13) (p : Nat) (hp : p ≤ (units n).length) : (growM n (exponent n) p).length ≤ 200 := by
  have hu := units_len12 n h1 h2
  by_cases a : n = 11
  · subst a; exact small_11 p (by omega) hp
  · by_cases b : n = 12
    · subst b; exact small_12 p (by omega) hp
    · by_cases c : n = 13
      · subst c; exact small_13 p (by omega) hp
      · have e : n - 2 + 2 = n := by omega
        have := small_low (n - 2) (by omega) p (by omega)
        rw [e] at this
        exact this hp
theorem grow_len (n e : Nat) : ∀ p c, c ∈ growM n e p → c.length = p
  | 0, c, h => by
    have : c = [] := by simpa [growM] using h
    rw [this]; rfl
  | p + 1, c, h => by
    unfold growM at h
    obtain ⟨d, hd, hc⟩ := List.mem_flatMap.mp h
    obtain ⟨hc, _⟩ := List.mem_filter.mp hc
    obtain ⟨v, _, rfl⟩ := List.mem_map.mp hc
    rw [List.length_append, grow_len n e p d hd]
    rfl
theorem laws_ok : ∀ n, 2 ≤ n → n ≤ 13 → ∀ l, l ∈ lawsM n → l.length = 3 := fun n _ _ l h => by
  unfold lawsM at h
  obtain ⟨i, _, h⟩ := List.mem_flatMap.mp h
  obtain ⟨j, _, rfl⟩ := List.mem_map.mp h
  rfl
theorem laws_len : ∀ n, 2 ≤ n → n ≤ 13 → (lawsM n).length ≤ 144 := each (by decide +kernel)
/-- a law that is due at place p speaks of places up to p -/
theorem due_ok {n p : Nat} {l : List Nat} (h : l ∈ dueM n p) : l ∈ lawsM n ∧ top3 l = p := by
  obtain ⟨h1, h2⟩ := List.mem_filter.mp h
  exact ⟨h1, by simpa using h2⟩
end RsM
set_option linter.all false
set_option maxRecDepth 100000
set_option maxHeartbeats 4000000
set_option Elab.async false
namespace RsM
open Na04
theorem row_len {n : Nat} (h1 : 2 ≤ n) (h2 : n ≤ 13) {c : List Nat} (h : c ∈ chars n) : c.length = (units n).length := by
  rw [← grow_is n h1 h2] at h
  exact grow_len n _ _ c h
theorem tab_le : ∀ n, 2 ≤ n → n ≤ 13 → ∀ c, c ∈ tab n → ∀ v, v ∈ c → v < exponent n := each (by decide +kernel)
theorem row_le {n : Nat} (h1 : 2 ≤ n) (h2 : n ≤ 13) {c : List Nat} (h : c ∈ chars n) {v : Nat} (hv : v ∈ c) : v < exponent n := by
  rw [chars_tab n h1 h2] at h
  exact tab_le n h1 h2 c h v hv
theorem tab_prod : ∀ n, 2 ≤ n → n ≤ 13 → ∀ c, c ∈ tab n → ∀ d, d ∈ tab n → Na04.product n c d ∈ tab n := each (by decide +kernel)
theorem prod_in {n : Nat} (h1 : 2 ≤ n) (h2 : n ≤ 13) {c d : List Nat} (h : c ∈ chars n) (h' : d ∈ chars n) : Na04.product n c d ∈ chars n := by
  rw [chars_tab n h1 h2] at h h' ⊢
  exact tab_prod n h1 h2 c h d h'
theorem tab_inv : ∀ n, 2 ≤ n → n ≤ 13 → ∀ c, c ∈ tab n → Na04.inverse n c ∈ tab n := each (by decide +kernel)
theorem inv_in {n : Nat} (h1 : 2 ≤ n) (h2 : n ≤ 13) {c : List Nat} (h : c ∈ chars n) : Na04.inverse n c ∈ chars n := by
  rw [chars_tab n h1 h2] at h ⊢
  exact tab_inv n h1 h2 c h
theorem chars_len {n : Nat} (h1 : 2 ≤ n) (h2 : n ≤ 13) : (chars n).length ≤ 12 := by
  rw [chars_tab n h1 h2]
  exact each (P := fun n => (tab n).length ≤ 12) (by decide +kernel) n h1 h2
theorem tw_idx : ∀ (l : List Nat) (m : Nat), (l.takeWhile fun b => b != m).length = l.idxOf m
  | [], _ => rfl
  | a :: l, m => by
    rw [List.takeWhile_cons, List.idxOf_cons]
    by_cases e : a = m
    · subst e; simp
    · have h1 : (a != m) = true := by simpa using e
      have h2 : (a == m) = false := beq_eq_false_iff_ne.mpr e
      rw [h1, h2]
      simp [tw_idx l m]
end RsM
set_option linter.all false
set_option maxRecDepth 100000
set_option maxHeartbeats 4000000
set_option Elab.async false
/-! ### Sums by powers of x, told by the powers below the degree: a theory without the program -/
namespace RsP
open Na04
def sm : Nat → (Nat → Int) → Int
  | 0, _ => 0
  | n + 1, f => sm n f + f n
theorem sm_congr : ∀ {n : Nat} {f g : Nat → Int}, (∀ i, i < n → f i = g i) → sm n f = sm n g
  | 0, _, _, _ => rfl
  | n + 1, f, g, h => by
    show sm n f + f n = sm n g + g n
    rw [sm_congr fun i hi => h i (by omega), h n (by omega)]
theorem sm_zero : ∀ n, sm n (fun _ => 0) = 0
  | 0 => rfl
  | n + 1 => by
    show sm n (fun _ => 0) + 0 = 0
    rw [sm_zero n]
    rfl
theorem sm_zero' {n : Nat} {f : Nat → Int} (h : ∀ i, i < n → f i = 0) : sm n f = 0 := (sm_congr h).trans (sm_zero n)
theorem sm_add : ∀ (n : Nat) (f g : Nat → Int), sm n (fun i => f i + g i) = sm n f + sm n g
  | 0, _, _ => rfl
  | n + 1, f, g => by
    show sm n (fun i => f i + g i) + (f n + g n) = (sm n f + f n) + (sm n g + g n)
    rw [sm_add n f g]
    omega
theorem sm_sub : ∀ (n : Nat) (f g : Nat → Int), sm n (fun i => f i - g i) = sm n f - sm n g
  | 0, _, _ => rfl
  | n + 1, f, g => by
    show sm n (fun i => f i - g i) + (f n - g n) = (sm n f + f n) - (sm n g + g n)
    rw [sm_sub n f g]
    omega
theorem sm_mul : ∀ (n : Nat) (a : Int) (f : Nat → Int), sm n (fun i => a * f i) = a * sm n f
  | 0, a, _ => (Int.mul_zero a).symm
  | n + 1, a, f => by
    show sm n (fun i => a * f i) + a * f n = a * (sm n f + f n)
    rw [sm_mul n a f, Int.mul_add]
theorem sm_mulr (n : Nat) (f : Nat → Int) (a : Int) : sm n (fun i => f i * a) = sm n f * a := by
  rw [Int.mul_comm, ← sm_mul]
  exact sm_congr fun i _ => Int.mul_comm _ _
theorem sm_swap : ∀ (n m : Nat) (f : Nat → Nat → Int), sm n (fun i => sm m (fun j => f i j)) = sm m (fun j => sm n (fun i => f i j))
  | 0, m, f => (sm_zero m).symm
  | n + 1, m, f => by
    show sm n (fun i => sm m (fun j => f i j)) + sm m (fun j => f n j) = sm m (fun j => sm n (fun i => f i j) + f n j)
    rw [sm_swap n m f, ← sm_add]
theorem sm_head : ∀ (n : Nat) (f : Nat → Int), sm (n + 1) f = f 0 + sm n (fun i => f (i + 1))
  | 0, f => by
    show 0 + f 0 = f 0 + 0
    omega
  | n + 1, f => by
    show sm (n + 1) f + f (n + 1) = f 0 + (sm n (fun i => f (i + 1)) + f (n + 1))
    rw [sm_head n f]
    omega
theorem sm_more : ∀ (k n : Nat) (f : Nat → Int), sm (n + k) f = sm n f + sm k (fun i => f (n + i))
  | 0, n, f => (Int.add_zero _).symm
  | k + 1, n, f => by
    show sm (n + k) f + f (n + k) = sm n f + (sm k (fun i => f (n + i)) + f (n + k))
    rw [sm_more k n f]
    omega
theorem sm_cut {n m : Nat} {f : Nat → Int} (h : n ≤ m) (hz : ∀ i, n ≤ i → i < m → f i = 0) : sm m f = sm n f := by
  obtain ⟨k, rfl⟩ := Nat.exists_eq_add_of_le h
  rw [sm_more, sm_zero' (fun i hi => hz (n + i) (by omega) (by omega)), Int.add_zero]
theorem sm_rev : ∀ (n : Nat) (f : Nat → Int), sm n f = sm n (fun i => f (n - 1 - i))
  | 0, _ => rfl
  | n + 1, f => by
    rw [sm_head n (fun i => f (n + 1 - 1 - i))]
    show sm n f + f n = f (n + 1 - 1 - 0) + sm n (fun i => f (n + 1 - 1 - (i + 1)))
    rw [sm_rev n f, Int.add_comm]
    congr 1
    exact sm_congr fun i hi => congrArg f (by omega)
theorem sm_shift (k d : Nat) (f : Nat → Int) : sm (k + d) (fun i => if i < k then 0 else f (i - k)) = sm d f := by
  rw [sm_more, sm_zero' (fun i hi => if_pos hi), Int.zero_add]
  exact sm_congr fun i _ => by
    rw [if_neg (by omega)]
    exact congrArg f (by omega)
theorem sm_one {n k : Nat} {f : Nat → Int} (hk : k < n) (h : ∀ i, i < n → i ≠ k → f i = 0) : sm n f = f k := by
  have e : n = k + ((n - k - 1) + 1) := by omega
  rw [e, sm_more, sm_zero' (fun i hi => h i (by omega) (by omega)), sm_head, sm_zero' (fun i hi => h _ (by omega) (by omega))]
  rw [Int.zero_add, Int.add_zero]
  rfl
theorem sm_tri : ∀ (N : Nat) (f : Nat → Nat → Int), sm N (fun n => sm (n + 1) (fun i => f i (n - i))) = sm N (fun i => sm (N - i) (fun j => f i j))
  | 0, _ => rfl
  | N + 1, f => by
    show sm N (fun n => sm (n + 1) (fun i => f i (n - i))) + (sm N (fun i => f i (N - i)) + f N (N - N)) = sm N (fun i => sm (N + 1 - i) (fun j => f i j)) + sm (N + 1 - N) (fun j => f N j)
    rw [sm_tri N f]
    have e1 : sm N (fun i => sm (N + 1 - i) (fun j => f i j)) = sm N (fun i => sm (N - i) (fun j => f i j) + f i (N - i)) := sm_congr fun i hi => by
      have : N + 1 - i = (N - i) + 1 := by omega
      rw [this]
      rfl
    have e2 : N + 1 - N = 1 := by omega
    rw [e1, sm_add, e2, Nat.sub_self]
    show _ = _ + (0 + f N 0)
    omega
/-! ### the powers of x -/
section
variable (d : Nat) (c : Nat → Int)
def sh (v : Nat → Int) : Nat → Int := fun k => if k < d then (if k = 0 then 0 else v (k - 1)) - v (d - 1) * c k else 0
def R : Nat → Nat → Int
  | 0 => fun k => if k = 0 then 1 else 0
  | i + 1 => sh d c (R i)
end
section
variable {d : Nat} {c : Nat → Int}
theorem sh_zero : sh d c (fun _ => 0) = fun _ => 0 := by
  funext k
  unfold sh
  by_cases h : k < d
  · rw [if_pos h]
    show (if k = 0 then 0 else (0 : Int)) - 0 * c k = 0
    rw [Int.zero_mul]
    by_cases h0 : k = 0
    · rw [if_pos h0]; rfl
    · rw [if_neg h0]; rfl
  · rw [if_neg h]
theorem sh_lin (n : Nat) (a : Nat → Int) (v : Nat → Nat → Int) : sh d c (fun k => sm n (fun j => a j * v j k)) = fun k => sm n (fun j => a j * sh d c (v j) k) := by
  funext k
  unfold sh
  by_cases h : k < d
  · rw [if_pos h]
    have e : sm n (fun j => a j * (if k < d then (if k = 0 then 0 else v j (k - 1)) - v j (d - 1) * c k else 0)) = sm n (fun j => a j * (if k = 0 then 0 else v j (k - 1)) - a j * v j (d - 1) * c k) := sm_congr fun j _ => by
      rw [if_pos h, Int.mul_sub, Int.mul_assoc]
    rw [e, sm_sub, sm_mulr]
    by_cases h0 : k = 0
    · rw [if_pos h0, sm_zero' (fun j _ => by rw [if_pos h0, Int.mul_zero])]
    · rw [if_neg h0]
      congr 1
      exact sm_congr fun j _ => by rw [if_neg h0]
  · rw [if_neg h, sm_zero' (fun j _ => by rw [if_neg h, Int.mul_zero])]
theorem R_low : ∀ {i : Nat}, i < d → R d c i = fun k => if k = i then 1 else 0
  | 0, _ => rfl
  | i + 1, h => by
    show sh d c (R d c i) = _
    rw [R_low (by omega)]
    funext k
    unfold sh
    have e : (if d - 1 = i then (1 : Int) else 0) = 0 := if_neg (by omega)
    show (if k < d then (if k = 0 then 0 else if k - 1 = i then (1 : Int) else 0) - (if d - 1 = i then (1 : Int) else 0) * c k else 0) = if k = i + 1 then 1 else 0
    rw [e, Int.zero_mul, Int.sub_zero]
    by_cases hk : k < d
    · rw [if_pos hk]
      by_cases h0 : k = 0
      · rw [if_pos h0, if_neg (by omega)]
      · rw [if_neg h0]
        by_cases h1 : k = i + 1
        · rw [if_pos h1, if_pos (by omega)]
        · rw [if_neg h1, if_neg (by omega)]
    · rw [if_neg hk, if_neg (by omega)]
theorem R_d (hd : 1 ≤ d) : R d c d = fun k => if k < d then - c k else 0 := by
  obtain ⟨e, rfl⟩ : ∃ e, d = e + 1 := ⟨d - 1, by omega⟩
  show sh (e + 1) c (R (e + 1) c e) = _
  rw [R_low (by omega)]
  funext k
  unfold sh
  by_cases hk : k < e + 1
  · rw [if_pos hk, if_pos hk]
    show (if k = 0 then 0 else if k - 1 = e then (1 : Int) else 0) - (if e + 1 - 1 = e then (1 : Int) else 0) * c k = - c k
    have e1 : (if e + 1 - 1 = e then (1 : Int) else 0) = 1 := if_pos (by omega)
    rw [e1, Int.one_mul]
    by_cases h0 : k = 0
    · rw [if_pos h0]; omega
    · rw [if_neg h0, if_neg (show ¬ k - 1 = e by omega)]; omega
  · rw [if_neg hk, if_neg hk]
theorem R_big (hd : 1 ≤ d) : ∀ (i : Nat) {k : Nat}, d ≤ k → R d c i k = 0
  | 0, k, h => if_neg (by omega)
  | i + 1, k, h => if_neg (by omega)
theorem R_rec (hd : 1 ≤ d) (hc : c d = 1) : ∀ (i k : Nat), sm (d + 1) (fun j => c j * R d c (i + j) k) = 0
  | 0, k => by
    show sm d (fun j => c j * R d c (0 + j) k) + c d * R d c (0 + d) k = 0
    rw [Nat.zero_add, R_d hd, hc]
    by_cases hk : k < d
    · have : sm d (fun j => c j * R d c (0 + j) k) = c k * R d c (0 + k) k := sm_one hk fun i hi hne => by
        rw [Nat.zero_add, R_low hi]
        show c i * (if k = i then 1 else 0) = 0
        rw [if_neg (fun e => hne e.symm), Int.mul_zero]
      rw [this, Nat.zero_add, R_low hk]
      show c k * (if k = k then 1 else 0) + 1 * (if k < d then - c k else 0) = 0
      rw [if_pos rfl, if_pos hk]
      omega
    · rw [sm_zero' (fun i hi => by rw [Nat.zero_add, R_big hd i (by omega), Int.mul_zero])]
      show 0 + 1 * (if k < d then - c k else 0) = 0
      rw [if_neg hk]
      rfl
  | i + 1, k => by
    have e : sm (d + 1) (fun j => c j * R d c (i + 1 + j) k) = sh d c (fun k => sm (d + 1) (fun j => c j * R d c (i + j) k)) k := by
      rw [sh_lin]
      exact sm_congr fun j _ => by
        rw [show i + 1 + j = (i + j) + 1 by omega]
        rfl
    have z : (fun k => sm (d + 1) (fun j => c j * R d c (i + j) k)) = fun _ => 0 := funext fun k => R_rec hd hc i k
    rw [e, z, sh_zero]
/-- x to the power of i, told, times x to the power of j -/
theorem R_conv (hd : 1 ≤ d) (hc : c d = 1) : ∀ (i j k : Nat), sm d (fun t => R d c i t * R d c (t + j) k) = R d c (i + j) k
  | 0, j, k => by
    have : sm d (fun t => R d c 0 t * R d c (t + j) k) = R d c 0 0 * R d c (0 + j) k := sm_one (by omega) fun i hi hne => by
      show (if i = 0 then (1 : Int) else 0) * _ = 0
      rw [if_neg hne, Int.zero_mul]
    rw [this]
    show 1 * _ = _
    rw [Int.one_mul]
  | i + 1, j, k => by
    have h5 := R_conv hd hc i (j + 1) k
    obtain ⟨e, rfl⟩ : ∃ e, d = e + 1 := ⟨d - 1, by omega⟩
    have h1 : sm (e + 1) (fun t => R (e + 1) c (i + 1) t * R (e + 1) c (t + j) k) = sm (e + 1) (fun t => (if t = 0 then 0 else R (e + 1) c i (t - 1)) * R (e + 1) c (t + j) k - R (e + 1) c i e * (c t * R (e + 1) c (t + j) k)) := sm_congr fun t ht => by
      show (if t < e + 1 then (if t = 0 then 0 else R (e + 1) c i (t - 1)) - R (e + 1) c i (e + 1 - 1) * c t else 0) * _ = _
      rw [if_pos ht, Int.sub_mul, Int.mul_assoc]
      rfl
    have h2 := R_rec (d := e + 1) (c := c) hd hc j k
    have h3 : sm (e + 1) (fun t => c t * R (e + 1) c (t + j) k) = - R (e + 1) c (j + (e + 1)) k := by
      have : sm (e + 1) (fun t => c t * R (e + 1) c (j + t) k) + c (e + 1) * R (e + 1) c (j + (e + 1)) k = 0 := h2
      rw [hc, Int.one_mul] at this
      have h4 : sm (e + 1) (fun t => c t * R (e + 1) c (t + j) k) = sm (e + 1) (fun t => c t * R (e + 1) c (j + t) k) := sm_congr fun t _ => by rw [Nat.add_comm t j]
      omega
    rw [h1, sm_sub, sm_mul, h3, sm_head]
    have h6 : sm e (fun t => (if t + 1 = 0 then 0 else R (e + 1) c i (t + 1 - 1)) * R (e + 1) c (t + 1 + j) k) = sm e (fun t => R (e + 1) c i t * R (e + 1) c (t + (j + 1)) k) := sm_congr fun t _ => by
      rw [if_neg (by omega), show t + 1 + j = t + (j + 1) by omega]
      rfl
    rw [h6, if_pos rfl, Int.zero_mul, Int.zero_add, show i + 1 + j = i + (j + 1) by omega, ← h5]
    show _ = sm e (fun t => R (e + 1) c i t * R (e + 1) c (t + (j + 1)) k) + R (e + 1) c i e * R (e + 1) c (e + (j + 1)) k
    rw [show e + (j + 1) = j + (e + 1) by omega, Int.mul_neg]
    omega
/-! ### round m -/
theorem R_per {m : Nat} (hm : R d c m = R d c 0) : ∀ i, R d c (i + m) = R d c i
  | 0 => by rw [Nat.zero_add]; exact hm
  | i + 1 => by
    rw [show i + 1 + m = (i + m) + 1 by omega]
    show sh d c (R d c (i + m)) = sh d c (R d c i)
    rw [R_per hm i]
theorem R_perk {m : Nat} (hm : R d c m = R d c 0) (i : Nat) : ∀ k, R d c (i + m * k) = R d c i
  | 0 => rfl
  | k + 1 => by
    rw [Nat.mul_succ, ← Nat.add_assoc, R_per hm, R_perk hm i k]
theorem R_mod {m : Nat} (hm : R d c m = R d c 0) (i : Nat) : R d c (i % m) = R d c i := by
  have := R_perk hm (i % m) (i / m)
  rw [Nat.mod_add_div] at this
  exact this.symm
theorem R_eqm {m : Nat} (hm : R d c m = R d c 0) {i j : Nat} (h : i % m = j % m) : R d c i = R d c j := by
  rw [← R_mod hm i, ← R_mod hm j, h]
/-- gone round the other way -/
def Rm (d : Nat) (c : Nat → Int) (m i : Nat) : Nat → Int := R d c (m - i % m)
theorem Rm_next {m : Nat} (hm0 : 0 < m) (hd : 1 ≤ d) (hc : c d = 1) (hm : R d c m = R d c 0) (i k : Nat) : Rm d c m (i + 1) k = sm d (fun s => Rm d c m i s * R d c (s + (m - 1)) k) := by
  unfold Rm
  rw [R_conv hd hc]
  refine congrFun (R_eqm hm ?_) k
  have h1 := Nat.mod_lt i hm0
  by_cases h : i % m + 1 = m
  · have h2 : (i + 1) % m = 0 := by
      by_cases e : m = 1
      · subst e; exact Nat.mod_one _
      · rw [Nat.add_mod, Nat.mod_eq_of_lt (show 1 < m by omega), h, Nat.mod_self]
    rw [h2, Nat.sub_zero, Nat.mod_self, show m - i % m + (m - 1) = m by omega, Nat.mod_self]
  · have h2 : (i + 1) % m = i % m + 1 := by
      rw [Nat.add_mod, Nat.mod_eq_of_lt (show 1 < m by omega)]
      exact Nat.mod_eq_of_lt (by omega)
    rw [h2, show m - i % m + (m - 1) = (m - (i % m + 1)) + m by omega, Nat.add_mod_right]
theorem Rm_conv {m : Nat} (hm0 : 0 < m) (hd : 1 ≤ d) (hc : c d = 1) (hm : R d c m = R d c 0) (hz : ∀ k, sm (d + 1) (fun j => c j * Rm d c m j k) = 0) : ∀ (i k : Nat), sm d (fun t => R d c i t * Rm d c m t k) = Rm d c m i k
  | 0, k => by
    have : sm d (fun t => R d c 0 t * Rm d c m t k) = R d c 0 0 * Rm d c m 0 k := sm_one (by omega) fun i hi hne => by
      show (if i = 0 then (1 : Int) else 0) * _ = 0
      rw [if_neg hne, Int.zero_mul]
    rw [this]
    show 1 * _ = _
    rw [Int.one_mul]
  | i + 1, k => by
    have ih := Rm_conv hm0 hd hc hm hz i
    have key : sm d (fun t => R d c i t * Rm d c m (t + 1) k) = Rm d c m (i + 1) k := by
      have e1 : sm d (fun t => R d c i t * Rm d c m (t + 1) k) = sm d (fun t => sm d (fun s => R d c i t * (Rm d c m t s * R d c (s + (m - 1)) k))) := sm_congr fun t _ => by
        rw [Rm_next hm0 hd hc hm, ← sm_mul]
      rw [e1, sm_swap, Rm_next hm0 hd hc hm]
      exact sm_congr fun s _ => by
        rw [← ih s, ← sm_mulr]
        exact sm_congr fun t _ => (Int.mul_assoc _ _ _).symm
    obtain ⟨e, rfl⟩ : ∃ e, d = e + 1 := ⟨d - 1, by omega⟩
    have h1 : sm (e + 1) (fun t => R (e + 1) c (i + 1) t * Rm (e + 1) c m t k) = sm (e + 1) (fun t => (if t = 0 then 0 else R (e + 1) c i (t - 1)) * Rm (e + 1) c m t k - R (e + 1) c i e * (c t * Rm (e + 1) c m t k)) := sm_congr fun t ht => by
      show (if t < e + 1 then (if t = 0 then 0 else R (e + 1) c i (t - 1)) - R (e + 1) c i (e + 1 - 1) * c t else 0) * _ = _
      rw [if_pos ht, Int.sub_mul, Int.mul_assoc]
      rfl
    have h3 : sm (e + 1) (fun t => c t * Rm (e + 1) c m t k) = - Rm (e + 1) c m (e + 1) k := by
      have : sm (e + 1) (fun t => c t * Rm (e + 1) c m t k) + c (e + 1) * Rm (e + 1) c m (e + 1) k = 0 := hz k
      rw [hc, Int.one_mul] at this
      omega
    rw [h1, sm_sub, sm_mul, h3, sm_head]
    have h6 : sm e (fun t => (if t + 1 = 0 then 0 else R (e + 1) c i (t + 1 - 1)) * Rm (e + 1) c m (t + 1) k) = sm e (fun t => R (e + 1) c i t * Rm (e + 1) c m (t + 1) k) := sm_congr fun t _ => by
      rw [if_neg (by omega)]
      rfl
    rw [h6, if_pos rfl, Int.zero_mul, Int.zero_add, ← key]
    show _ = sm e (fun t => R (e + 1) c i t * Rm (e + 1) c m (t + 1) k) + R (e + 1) c i e * Rm (e + 1) c m (e + 1) k
    rw [Int.mul_neg]
    omega
end
end RsP
set_option linter.all false
set_option maxRecDepth 100000
set_option maxHeartbeats 4000000
set_option Elab.async false
namespace RsP
open Na04
theorem getD_map_range (g : Nat → Int) (n i : Nat) : ((List.range n).map g).getD i 0 = if i < n then g i else 0 := by
  rw [List.getD_eq_getElem?_getD, List.getElem?_map]
  by_cases h : i < n
  · rw [if_pos h, List.getElem?_range h]
    rfl
  · rw [if_neg h, List.getElem?_eq_none (by rw [List.length_range]; omega)]
    rfl
theorem getD_out {s : List Int} {i : Nat} (h : s.length ≤ i) : s.getD i 0 = 0 := by
  rw [List.getD_eq_getElem?_getD, List.getElem?_eq_none h]
  rfl
theorem dropLast_range (g : Nat → Int) (L : Nat) : ((List.range (L + 1)).map g).dropLast = (List.range L).map g := by
  rw [List.range_succ, List.map_append]
  exact List.dropLast_concat
theorem lastD (s : List Int) : s.getLastD 0 = s.getD (s.length - 1) 0 := by
  rw [List.getLastD_eq_getLast?, List.getLast?_eq_getElem?, List.getD_eq_getElem?_getD]
/-- what a list of numbers is, told -/
def val (d : Nat) (c : Nat → Int) (s : List Int) (k : Nat) : Int := sm s.length (fun i => s.getD i 0 * R d c i k)
theorem val_range (d : Nat) (c : Nat → Int) (g : Nat → Int) (n k : Nat) : val d c ((List.range n).map g) k = sm n (fun i => g i * R d c i k) := by
  unfold val
  rw [List.length_map, List.length_range]
  exact sm_congr fun i hi => by rw [getD_map_range, if_pos hi]
/-- a circle's polynomial -/
structure Mon (C : List Int) (d : Nat) (c : Nat → Int) : Prop where
  len : C.length = d + 1
  pos : 1 ≤ d
  cs : ∀ i, C.getD i 0 = c i
  top : c d = 1
theorem step_val {C : List Int} {d : Nat} {c : Nat → Int} (M : Mon C d c) {s : List Int} {L : Nat} (hL : s.length = L + 1) (hd : d ≤ L) (k : Nat) :
    sm L (fun i => (s.getD i 0 - (if i < L - d then 0 else s.getD L 0 * C.getD (i - (L - d)) 0)) * R d c i k) = val d c s k := by
  have e1 : sm L (fun i => (s.getD i 0 - (if i < L - d then 0 else s.getD L 0 * C.getD (i - (L - d)) 0)) * R d c i k) = sm L (fun i => s.getD i 0 * R d c i k - s.getD L 0 * (if i < L - d then 0 else c (i - (L - d)) * R d c ((L - d) + (i - (L - d))) k)) := sm_congr fun i hi => by
    rw [Int.sub_mul]
    congr 1
    by_cases h : i < L - d
    · rw [if_pos h, if_pos h, Int.zero_mul, Int.mul_zero]
    · rw [if_neg h, if_neg h, M.cs, Int.mul_assoc, show (L - d) + (i - (L - d)) = i by omega]
  have e2 : sm L (fun i => if i < L - d then 0 else c (i - (L - d)) * R d c ((L - d) + (i - (L - d))) k) = sm d (fun j => c j * R d c ((L - d) + j) k) := by
    have := sm_shift (L - d) d (fun j => c j * R d c ((L - d) + j) k)
    rw [show (L - d) + d = L by omega] at this
    exact this
  have e3 : sm d (fun j => c j * R d c ((L - d) + j) k) + c d * R d c ((L - d) + d) k = 0 := R_rec M.pos M.top (L - d) k
  rw [M.top, Int.one_mul, show (L - d) + d = L by omega] at e3
  rw [e1, sm_sub, sm_mul, e2]
  unfold val
  rw [hL]
  show _ = sm L (fun i => s.getD i 0 * R d c i k) + s.getD L 0 * R d c L k
  have e4 : sm d (fun j => c j * R d c ((L - d) + j) k) = - R d c L k := by omega
  rw [e4, Int.mul_neg]
  omega
theorem reduceFrom_val {C : List Int} {d : Nat} {c : Nat → Int} (M : Mon C d c) : ∀ (n : Nat) (s : List Int), s.length < n + C.length → (reduceFrom C n s).length ≤ d ∧ ∀ k, val d c (reduceFrom C n s) k = val d c s k
  | 0, s, h => ⟨by have := M.len; show s.length ≤ d; omega, fun _ => rfl⟩
  | n + 1, s, h => by
    have hl := M.len
    have hr : reduceFrom C (n + 1) s = if s.length < C.length then s else reduceFrom C n (((List.range s.length).map fun i => s.getD i 0 - (if i < s.length - C.length then 0 else s.getLastD 0 * C.getD (i - (s.length - C.length)) 0)).dropLast) := rfl
    by_cases hs : s.length < C.length
    · rw [hr, if_pos hs]
      exact ⟨by omega, fun _ => rfl⟩
    · obtain ⟨L, hL⟩ : ∃ L, s.length = L + 1 := ⟨s.length - 1, by omega⟩
      rw [hr, if_neg hs, hL, dropLast_range, lastD, hL, show L + 1 - 1 = L by omega, show L + 1 - C.length = L - d by omega]
      have ih := reduceFrom_val M n ((List.range L).map fun i => s.getD i 0 - (if i < L - d then 0 else s.getD L 0 * C.getD (i - (L - d)) 0)) (by rw [List.length_map, List.length_range]; omega)
      refine ⟨ih.1, fun k => (ih.2 k).trans ?_⟩
      rw [val_range]
      exact step_val M hL (by omega) k
theorem val_low {C : List Int} {d : Nat} {c : Nat → Int} (M : Mon C d c) {s : List Int} (h : s.length ≤ d) {k : Nat} (hk : k < d) : val d c s k = s.getD k 0 := by
  unfold val
  by_cases hs : k < s.length
  · have : sm s.length (fun i => s.getD i 0 * R d c i k) = s.getD k 0 * R d c k k := sm_one hs fun i hi hne => by
      rw [R_low (by omega)]
      show _ * (if k = i then (1 : Int) else 0) = 0
      rw [if_neg (fun e => hne e.symm), Int.mul_zero]
    rw [this, R_low hk]
    show _ * (if k = k then (1 : Int) else 0) = _
    rw [if_pos rfl, Int.mul_one]
  · rw [getD_out (by omega)]
    exact sm_zero' fun i hi => by
      rw [R_low (by omega)]
      show _ * (if k = i then (1 : Int) else 0) = 0
      rw [if_neg (by omega), Int.mul_zero]
/-- the list of a told sum -/
def tl (d : Nat) (f : Nat → Int) : List Int := (List.range d).map f
theorem tl_congr {d : Nat} {f g : Nat → Int} (h : ∀ k, k < d → f k = g k) : tl d f = tl d g := List.map_congr_left fun k hk => h k (List.mem_range.mp hk)
theorem tl_len (d : Nat) (f : Nat → Int) : (tl d f).length = d := by
  unfold tl
  rw [List.length_map, List.length_range]
theorem tl_get {d : Nat} {f : Nat → Int} {k : Nat} (h : k < d) : (tl d f).getD k 0 = f k := by
  unfold tl
  rw [getD_map_range, if_pos h]
theorem reduce_tl {m d : Nat} {c : Nat → Int} (M : Mon (circle m) d c) (s : List Int) : reduce m s = tl d (val d c s) := by
  have hl := M.len
  have h := reduceFrom_val M (s.length + 1) s (by omega)
  have e : reduce m s = (List.range ((circle m).length - 1)).map fun i => (reduceFrom (circle m) (s.length + 1) s).getD i 0 := rfl
  rw [e, show (circle m).length - 1 = d by omega]
  exact List.map_congr_left fun k hk => by
    rw [← val_low M h.1 (List.mem_range.mp hk)]
    exact h.2 k
/-! ### counts -/
def ls (l : List Nat) (f : Nat → Int) : Int := (l.map f).sum
theorem ls_nil (f : Nat → Int) : ls [] f = 0 := rfl
theorem ls_cons (a : Nat) (l : List Nat) (f : Nat → Int) : ls (a :: l) f = f a + ls l f := by
  unfold ls
  rw [List.map_cons, List.sum_cons]
theorem count_sum {m : Nat} (hm : 0 < m) (F : Nat → Int) : ∀ l : List Nat, sm m (fun i => (((l.filter fun k => k % m == i).length : Nat) : Int) * F i) = ls l (fun a => F (a % m))
  | [] => sm_zero' fun i _ => by
    show ((0 : Nat) : Int) * F i = 0
    rw [Int.natCast_zero, Int.zero_mul]
  | a :: l => by
    rw [ls_cons, ← count_sum hm F l]
    have e1 : sm m (fun i => ((((a :: l).filter fun k => k % m == i).length : Nat) : Int) * F i) = sm m (fun i => (if a % m = i then F i else 0) + (((l.filter fun k => k % m == i).length : Nat) : Int) * F i) := sm_congr fun i _ => by
      rw [List.filter_cons]
      by_cases h : a % m = i
      · rw [if_pos (by simpa using h), if_pos h, List.length_cons, Int.natCast_add, Int.add_mul, Int.add_comm]
        show 1 * F i + _ = _
        rw [Int.one_mul]
      · rw [if_neg (by simpa using h), if_neg h, Int.zero_add]
    have e2 : sm m (fun i => if a % m = i then F i else 0) = (if a % m = a % m then F (a % m) else 0) := sm_one (Nat.mod_lt _ hm) fun i _ hne => if_neg fun e => hne e.symm
    rw [e1, sm_add, e2, if_pos rfl]
theorem ofPowers_tl {m d : Nat} {c : Nat → Int} (hm : 0 < m) (M : Mon (circle m) d c) (l : List Nat) : ofPowers m l = tl d (fun k => ls l (fun a => R d c (a % m) k)) := by
  unfold ofPowers
  rw [reduce_tl M]
  refine tl_congr fun k _ => ?_
  rw [val_range]
  exact count_sum hm (fun i => R d c i k) l
theorem turned_tl {m d : Nat} {c : Nat → Int} (hm : 0 < m) (M : Mon (circle m) d c) (s : List Int) : turned m s = tl d (fun k => sm m (fun j => s.getD j 0 * R d c ((m - j) % m) k)) := by
  unfold turned
  rw [reduce_tl M]
  refine tl_congr fun k _ => ?_
  rw [val_range]
  obtain ⟨p, rfl⟩ : ∃ p, m = p + 1 := ⟨m - 1, by omega⟩
  rw [sm_head, sm_head p (fun j => s.getD j 0 * R d c ((p + 1 - j) % (p + 1)) k), sm_rev p (fun i => s.getD ((p + 1 - (i + 1)) % (p + 1)) 0 * R d c (i + 1) k)]
  congr 1
  · rw [Nat.sub_zero, Nat.mod_self]
  · exact sm_congr fun i hi => by
      rw [show (p + 1 - (p - 1 - i + 1)) % (p + 1) = i + 1 by rw [show p + 1 - (p - 1 - i + 1) = i + 1 by omega]; exact Nat.mod_eq_of_lt (by omega)]
      rw [show (p + 1 - (i + 1)) % (p + 1) = p - 1 - i + 1 by rw [show p + 1 - (i + 1) = p - 1 - i + 1 by omega]; exact Nat.mod_eq_of_lt (by omega)]
theorem foldr_sm (f : Nat → Int) : ∀ n, ((List.range n).map f).foldr (fun a b => a + b) 0 = sm n f
  | 0 => rfl
  | n + 1 => by
    have h : ∀ (l : List Int) (z : Int), l.foldr (fun a b => a + b) z = l.foldr (fun a b => a + b) 0 + z := fun l => by
      induction l with
      | nil => intro z; exact (Int.zero_add z).symm
      | cons a l ih =>
        intro z
        show a + l.foldr (fun a b => a + b) z = a + l.foldr (fun a b => a + b) 0 + z
        rw [ih z]
        omega
    rw [List.range_succ, List.map_append, List.foldr_append, h, foldr_sm f n]
    show sm n f + (f n + 0) = sm n f + f n
    rw [Int.add_zero]
theorem times_tl {m d : Nat} {c : Nat → Int} (M : Mon (circle m) d c) {s t : List Int} (hs : 1 ≤ s.length) (ht : 1 ≤ t.length) : times m s t = tl d (fun k => sm s.length (fun i => sm t.length (fun j => s.getD i 0 * t.getD j 0 * R d c (i + j) k))) := by
  unfold times
  rw [reduce_tl M]
  refine tl_congr fun k _ => ?_
  rw [val_range]
  have e1 : sm (s.length + t.length - 1) (fun n => ((List.range (n + 1)).map fun i => s.getD i 0 * t.getD (n - i) 0).foldr (fun a b => a + b) 0 * R d c n k) = sm (s.length + t.length - 1) (fun n => sm (n + 1) (fun i => s.getD i 0 * t.getD (n - i) 0 * R d c (i + (n - i)) k)) := sm_congr fun n _ => by
    rw [foldr_sm, ← sm_mulr]
    exact sm_congr fun i hi => by rw [show i + (n - i) = n by omega]
  rw [e1, sm_tri (s.length + t.length - 1) (fun i j => s.getD i 0 * t.getD j 0 * R d c (i + j) k)]
  rw [sm_cut (n := s.length) (by omega) (fun i h1 _ => sm_zero' fun j _ => by rw [getD_out h1, Int.zero_mul, Int.zero_mul])]
  exact sm_congr fun i hi => sm_cut (by omega) fun j h1 _ => by rw [getD_out h1, Int.mul_zero, Int.zero_mul]
/-! ### a sum's size -/
structure Cyc (m d : Nat) (c : Nat → Int) : Prop extends Mon (circle m) d c where
  mpos : 0 < m
  dm : d ≤ m
  per : R d c m = R d c 0
  back : ∀ k, sm (d + 1) (fun j => c j * Rm d c m j k) = 0
theorem ls_sm (l : List Nat) (n : Nat) (f : Nat → Nat → Int) : sm n (fun i => ls l (fun a => f a i)) = ls l (fun a => sm n (fun i => f a i)) := by
  induction l with
  | nil => exact sm_zero n
  | cons a l ih =>
    rw [ls_cons, ← ih, ← sm_add]
    exact sm_congr fun i _ => ls_cons a l _
theorem ls_mul (l : List Nat) (f : Nat → Int) (z : Int) : ls l f * z = ls l (fun a => f a * z) := by
  induction l with
  | nil => exact Int.zero_mul z
  | cons a l ih => rw [ls_cons, ls_cons, Int.add_mul, ih]
theorem ls_mull (l : List Nat) (f : Nat → Int) (z : Int) : z * ls l f = ls l (fun a => z * f a) := by
  rw [Int.mul_comm, ls_mul]
  exact congrArg (ls l) (funext fun a => Int.mul_comm _ _)
theorem turned_of {m d : Nat} {c : Nat → Int} (Y : Cyc m d c) (l : List Nat) : turned m (ofPowers m l) = tl d (fun k => ls l (fun b => Rm d c m b k)) := by
  rw [ofPowers_tl Y.mpos Y.toMon, turned_tl Y.mpos Y.toMon]
  refine tl_congr fun k _ => ?_
  rw [sm_cut (n := d) Y.dm (fun i h1 _ => by rw [getD_out (by rw [tl_len]; exact h1), Int.zero_mul])]
  have e1 : sm d (fun j => (tl d (fun k => ls l (fun a => R d c (a % m) k))).getD j 0 * R d c ((m - j) % m) k) = sm d (fun j => ls l (fun a => R d c (a % m) j * Rm d c m j k)) := sm_congr fun j hj => by
    rw [tl_get hj, ls_mul]
    have : R d c ((m - j) % m) = Rm d c m j := by
      unfold Rm
      by_cases e : j = m
      · subst e
        rw [Nat.sub_self, Nat.mod_self, Nat.sub_zero, Nat.zero_mod, Y.per]
      · have := Y.dm
        rw [R_mod Y.per, Nat.mod_eq_of_lt (show j < m by omega)]
    rw [this]
  rw [e1, ls_sm]
  refine congrArg (ls l) (funext fun a => ?_)
  rw [Rm_conv Y.mpos Y.pos Y.top Y.per Y.back]
  unfold Rm
  rw [Nat.mod_mod]
/-- the size of a sum of powers: the sum of all their quotients -/
theorem size_tl {m d : Nat} {c : Nat → Int} (Y : Cyc m d c) (l : List Nat) : times m (ofPowers m l) (turned m (ofPowers m l)) = tl d (fun k => ls l (fun a => ls l (fun b => R d c (a + (m - b % m)) k))) := by
  have hp := Y.pos
  rw [turned_of Y, ofPowers_tl Y.mpos Y.toMon, times_tl Y.toMon (by rw [tl_len]; exact hp) (by rw [tl_len]; exact hp), tl_len, tl_len]
  refine tl_congr fun k _ => ?_
  have e1 : sm d (fun i => sm d (fun j => (tl d (fun k => ls l (fun a => R d c (a % m) k))).getD i 0 * (tl d (fun k => ls l (fun b => Rm d c m b k))).getD j 0 * R d c (i + j) k)) = sm d (fun i => ls l (fun a => R d c a i * ls l (fun b => R d c ((m - b % m) + i) k))) := sm_congr fun i hi => by
    have e2 : sm d (fun j => (tl d (fun k => ls l (fun a => R d c (a % m) k))).getD i 0 * (tl d (fun k => ls l (fun b => Rm d c m b k))).getD j 0 * R d c (i + j) k) = sm d (fun j => ls l (fun a => R d c a i) * ls l (fun b => Rm d c m b j * R d c (j + i) k)) := sm_congr fun j hj => by
      have ha : ls l (fun a => R d c (a % m) i) = ls l (fun a => R d c a i) := congrArg (ls l) (funext fun a => by rw [R_mod Y.per])
      rw [tl_get hi, tl_get hj, ha, Int.mul_assoc, ls_mul l (fun b => Rm d c m b j), Nat.add_comm i j]
    rw [e2, sm_mul, ls_sm, ls_mul]
    refine congrArg (ls l) (funext fun a => ?_)
    congr 1
    refine congrArg (ls l) (funext fun b => ?_)
    exact R_conv Y.pos Y.top (m - b % m) i k
  rw [e1, ls_sm]
  refine congrArg (ls l) (funext fun a => ?_)
  have e3 : sm d (fun i => R d c a i * ls l (fun b => R d c ((m - b % m) + i) k)) = sm d (fun i => ls l (fun b => R d c a i * R d c (i + (m - b % m)) k)) := sm_congr fun i _ => by
    rw [ls_mull]
    exact congrArg (ls l) (funext fun b => by rw [Nat.add_comm (m - b % m) i])
  rw [e3, ls_sm]
  exact congrArg (ls l) (funext fun b => R_conv Y.pos Y.top a (m - b % m) k)
end RsP
set_option linter.all false
set_option maxRecDepth 100000
set_option maxHeartbeats 4000000
set_option Elab.async false
namespace RsP
open Na04
def conv (s t : List Int) : List Int := (List.range (s.length + t.length - 1)).map fun n => ((List.range (n + 1)).map fun i => s.getD i 0 * t.getD (n - i) 0).foldr (fun a b => a + b) 0
theorem conv_val {d : Nat} {c : Nat → Int} {s t : List Int} (hs : 1 ≤ s.length) (ht : 1 ≤ t.length) (k : Nat) : val d c (conv s t) k = sm s.length (fun i => sm t.length (fun j => s.getD i 0 * t.getD j 0 * R d c (i + j) k)) := by
  unfold conv
  rw [val_range]
  have e1 : sm (s.length + t.length - 1) (fun n => ((List.range (n + 1)).map fun i => s.getD i 0 * t.getD (n - i) 0).foldr (fun a b => a + b) 0 * R d c n k) = sm (s.length + t.length - 1) (fun n => sm (n + 1) (fun i => s.getD i 0 * t.getD (n - i) 0 * R d c (i + (n - i)) k)) := sm_congr fun n _ => by
    rw [foldr_sm, ← sm_mulr]
    exact sm_congr fun i hi => by rw [show i + (n - i) = n by omega]
  rw [e1, sm_tri (s.length + t.length - 1) (fun i j => s.getD i 0 * t.getD j 0 * R d c (i + j) k)]
  rw [sm_cut (n := s.length) (by omega) (fun i h1 _ => sm_zero' fun j _ => by rw [getD_out h1, Int.zero_mul, Int.zero_mul])]
  exact sm_congr fun i hi => sm_cut (by omega) fun j h1 _ => by rw [getD_out h1, Int.mul_zero, Int.zero_mul]
/-- x to the power of m, less 1 -/
def xm1 (m : Nat) : List Int := (List.range (m + 1)).map fun i => if i = 0 then -1 else if i = m then 1 else 0
theorem xm1_val {m d : Nat} {c : Nat → Int} (hm : 0 < m) (k : Nat) : val d c (xm1 m) k = R d c m k - R d c 0 k := by
  unfold xm1
  rw [val_range]
  obtain ⟨p, rfl⟩ : ∃ p, m = p + 1 := ⟨m - 1, by omega⟩
  show sm (p + 1) (fun i => (if i = 0 then (-1 : Int) else if i = p + 1 then 1 else 0) * R d c i k) + (if p + 1 = 0 then (-1 : Int) else if p + 1 = p + 1 then 1 else 0) * R d c (p + 1) k = _
  rw [sm_one (k := 0) (by omega) (fun i hi hne => by rw [if_neg hne, if_neg (by omega), Int.zero_mul]), if_pos rfl, if_neg (by omega), if_pos rfl, Int.one_mul]
  omega
theorem cyc_of {m d : Nat} {C q : List Int} (h1 : circle m = C) (h2 : C.length = d + 1) (h3 : 1 ≤ d) (h4 : C.getD d 0 = 1) (h5 : d < m) (h6 : ∀ j, j < d + 1 → C.getD j 0 = C.getD (d - j) 0) (h7 : 1 ≤ q.length) (h8 : conv q C = xm1 m) : Cyc m d (fun i => C.getD i 0) := by
  have M : Mon C d (fun i => C.getD i 0) := ⟨h2, h3, fun _ => rfl, h4⟩
  refine { toMon := by rw [h1]; exact M, mpos := by omega, dm := by omega, per := ?_, back := fun k => ?_ }
  · funext k
    have e := conv_val (d := d) (c := fun i => C.getD i 0) h7 (show 1 ≤ C.length by omega) k
    rw [h8, xm1_val (by omega)] at e
    have z : sm q.length (fun i => sm C.length (fun j => q.getD i 0 * C.getD j 0 * R d (fun i => C.getD i 0) (i + j) k)) = 0 := sm_zero' fun i _ => by
      have : sm C.length (fun j => q.getD i 0 * C.getD j 0 * R d (fun i => C.getD i 0) (i + j) k) = q.getD i 0 * sm (d + 1) (fun j => C.getD j 0 * R d (fun i => C.getD i 0) (i + j) k) := by
        rw [h2, ← sm_mul]
        exact sm_congr fun j _ => Int.mul_assoc _ _ _
      rw [this, R_rec h3 h4, Int.mul_zero]
    rw [z] at e
    omega
  · have e := R_rec (d := d) (c := fun i => C.getD i 0) h3 h4 (m - d) k
    rw [sm_rev] at e
    refine Eq.trans ?_ e
    exact sm_congr fun j hj => by
      show C.getD j 0 * Rm d (fun i => C.getD i 0) m j k = C.getD (d + 1 - 1 - j) 0 * R d (fun i => C.getD i 0) (m - d + (d + 1 - 1 - j)) k
      unfold Rm
      rw [h6 j hj, Nat.mod_eq_of_lt (show j < m by omega), show d + 1 - 1 - j = d - j by omega, show m - d + (d - j) = m - j by omega]
def C2 : List Int := [1, 1]
def Q2 : List Int := [-1, 1]
theorem circle_2 : circle 2 = C2 := by decide +kernel
theorem cyc_2 : Cyc 2 1 (fun i => C2.getD i 0) := cyc_of (q := Q2) circle_2 (by decide +kernel) (by decide) (by decide +kernel) (by decide) (by decide +kernel) (by decide +kernel) (by decide +kernel)
def C4 : List Int := [1, 0, 1]
def Q4 : List Int := [-1, 0, 1]
theorem circle_4 : circle 4 = C4 := by decide +kernel
theorem cyc_4 : Cyc 4 2 (fun i => C4.getD i 0) := cyc_of (q := Q4) circle_4 (by decide +kernel) (by decide) (by decide +kernel) (by decide) (by decide +kernel) (by decide +kernel) (by decide +kernel)
def C6 : List Int := [1, -1, 1]
def Q6 : List Int := [-1, -1, 0, 1, 1]
theorem circle_6 : circle 6 = C6 := by decide +kernel
theorem cyc_6 : Cyc 6 2 (fun i => C6.getD i 0) := cyc_of (q := Q6) circle_6 (by decide +kernel) (by decide) (by decide +kernel) (by decide) (by decide +kernel) (by decide +kernel) (by decide +kernel)
def C8 : List Int := [1, 0, 0, 0, 1]
def Q8 : List Int := [-1, 0, 0, 0, 1]
theorem circle_8 : circle 8 = C8 := by decide +kernel
theorem cyc_8 : Cyc 8 4 (fun i => C8.getD i 0) := cyc_of (q := Q8) circle_8 (by decide +kernel) (by decide) (by decide +kernel) (by decide) (by decide +kernel) (by decide +kernel) (by decide +kernel)
def C12 : List Int := [1, 0, -1, 0, 1]
def Q12 : List Int := [-1, 0, -1, 0, 0, 0, 1, 0, 1]
theorem circle_12 : circle 12 = C12 := by decide +kernel
theorem cyc_12 : Cyc 12 4 (fun i => C12.getD i 0) := cyc_of (q := Q12) circle_12 (by decide +kernel) (by decide) (by decide +kernel) (by decide) (by decide +kernel) (by decide +kernel) (by decide +kernel)
def C18 : List Int := [1, 0, 0, -1, 0, 0, 1]
def Q18 : List Int := [-1, 0, 0, -1, 0, 0, 0, 0, 0, 1, 0, 0, 1]
theorem circle_18 : circle 18 = C18 := by decide +kernel
theorem cyc_18 : Cyc 18 6 (fun i => C18.getD i 0) := cyc_of (q := Q18) circle_18 (by decide +kernel) (by decide) (by decide +kernel) (by decide) (by decide +kernel) (by decide +kernel) (by decide +kernel)
def C20 : List Int := [1, 0, -1, 0, 1, 0, -1, 0, 1]
def Q20 : List Int := [-1, 0, -1, 0, 0, 0, 0, 0, 0, 0, 1, 0, 1]
theorem circle_20 : circle 20 = C20 := by decide +kernel
theorem cyc_20 : Cyc 20 8 (fun i => C20.getD i 0) := cyc_of (q := Q20) circle_20 (by decide +kernel) (by decide) (by decide +kernel) (by decide) (by decide +kernel) (by decide +kernel) (by decide +kernel)
def C42 : List Int := [1, 1, 0, -1, -1, 0, 1, 0, -1, -1, 0, 1, 1]
def Q42 : List Int := [-1, 1, -1, 0, 0, 0, 0, -1, 1, -1, 0, 0, 0, 0, 0, 0, 0, 0, 0, 0, 0, 1, -1, 1, 0, 0, 0, 0, 1, -1, 1]
theorem circle_42 : circle 42 = C42 := by decide +kernel
theorem cyc_42 : Cyc 42 12 (fun i => C42.getD i 0) := cyc_of (q := Q42) circle_42 (by decide +kernel) (by decide) (by decide +kernel) (by decide) (by decide +kernel) (by decide +kernel) (by decide +kernel)
def C110 : List Int := [1, 1, 0, 0, 0, -1, -1, 0, 0, 0, 1, 0, -1, 0, 0, -1, 0, 1, 0, 0, 1, 0, 0, 1, 0, -1, 0, 0, -1, 0, 1, 0, 0, 0, -1, -1, 0, 0, 0, 1, 1]
def Q110 : List Int := [-1, 1, -1, 1, -1, 0, 0, 0, 0, 0, 0, -1, 1, -1, 1, -1, 0, 0, 0, 0, 0, 0, 0, 0, 0, 0, 0, 0, 0, 0, 0, 0, 0, 0, 0, 0, 0, 0, 0, 0, 0, 0, 0, 0, 0, 0, 0, 0, 0, 0, 0, 0, 0, 0, 0, 1, -1, 1, -1, 1, 0, 0, 0, 0, 0, 0, 1, -1, 1, -1, 1]
theorem circle_110 : circle 110 = C110 := by decide +kernel
theorem cyc_110 : Cyc 110 40 (fun i => C110.getD i 0) := cyc_of (q := Q110) circle_110 (by decide +kernel) (by decide) (by decide +kernel) (by decide) (by decide +kernel) (by decide +kernel) (by decide +kernel)
def C156 : List Int := [1, 0, 1, 0, 0, 0, -1, 0, -1, 0, 0, 0, 1, 0, 1, 0, 0, 0, -1, 0, -1, 0, 0, 0, 1, 0, 0, 0, -1, 0, -1, 0, 0, 0, 1, 0, 1, 0, 0, 0, -1, 0, -1, 0, 0, 0, 1, 0, 1]
def Q156 : List Int := [-1, 0, 1, 0, -1, 0, 0, 0, 0, 0, 0, 0, 0, 0, 0, 0, 0, 0, 0, 0, 0, 0, 0, 0, 0, 0, -1, 0, 1, 0, -1, 0, 0, 0, 0, 0, 0, 0, 0, 0, 0, 0, 0, 0, 0, 0, 0, 0, 0, 0, 0, 0, 0, 0, 0, 0, 0, 0, 0, 0, 0, 0, 0, 0, 0, 0, 0, 0, 0, 0, 0, 0, 0, 0, 0, 0, 0, 0, 1, 0, -1, 0, 1, 0, 0, 0, 0, 0, 0, 0, 0, 0, 0, 0, 0, 0, 0, 0, 0, 0, 0, 0, 0, 0, 1, 0, -1, 0, 1]
theorem circle_156 : circle 156 = C156 := by decide +kernel
theorem cyc_156 : Cyc 156 48 (fun i => C156.getD i 0) := cyc_of (q := Q156) circle_156 (by decide +kernel) (by decide) (by decide +kernel) (by decide) (by decide +kernel) (by decide +kernel) (by decide +kernel)
def C1 : List Int := [-1, 1]
theorem circle_1 : circle 1 = C1 := by decide +kernel
theorem mon_1 : Mon (circle 1) 1 (fun i => C1.getD i 0) := by rw [circle_1]; exact ⟨rfl, by decide, fun _ => rfl, by decide +kernel⟩
def C10 : List Int := [1, -1, 1, -1, 1]
theorem circle_10 : circle 10 = C10 := by decide +kernel
theorem mon_10 : Mon (circle 10) 4 (fun i => C10.getD i 0) := by rw [circle_10]; exact ⟨rfl, by decide, fun _ => rfl, by decide +kernel⟩
theorem fine_is : ∀ k, k < 12 → fine (k + 2) = [2, 6, 4, 20, 6, 42, 8, 18, 20, 110, 12, 156].getD k 0 := by decide +kernel
theorem expo_is : ∀ k, k < 12 → exponent (k + 2) = [1, 2, 2, 4, 2, 6, 2, 6, 4, 10, 2, 12].getD k 0 := by decide +kernel
theorem cyc_fine : ∀ n, 2 ≤ n → n ≤ 13 → ∃ d c, Cyc (fine n) d c
  | 2, _, _ => ⟨_, _, by rw [show fine 2 = 2 from fine_is 0 (by decide)]; exact cyc_2⟩
  | 3, _, _ => ⟨_, _, by rw [show fine 3 = 6 from fine_is 1 (by decide)]; exact cyc_6⟩
  | 4, _, _ => ⟨_, _, by rw [show fine 4 = 4 from fine_is 2 (by decide)]; exact cyc_4⟩
  | 5, _, _ => ⟨_, _, by rw [show fine 5 = 20 from fine_is 3 (by decide)]; exact cyc_20⟩
  | 6, _, _ => ⟨_, _, by rw [show fine 6 = 6 from fine_is 4 (by decide)]; exact cyc_6⟩
  | 7, _, _ => ⟨_, _, by rw [show fine 7 = 42 from fine_is 5 (by decide)]; exact cyc_42⟩
  | 8, _, _ => ⟨_, _, by rw [show fine 8 = 8 from fine_is 6 (by decide)]; exact cyc_8⟩
  | 9, _, _ => ⟨_, _, by rw [show fine 9 = 18 from fine_is 7 (by decide)]; exact cyc_18⟩
  | 10, _, _ => ⟨_, _, by rw [show fine 10 = 20 from fine_is 8 (by decide)]; exact cyc_20⟩
  | 11, _, _ => ⟨_, _, by rw [show fine 11 = 110 from fine_is 9 (by decide)]; exact cyc_110⟩
  | 12, _, _ => ⟨_, _, by rw [show fine 12 = 12 from fine_is 10 (by decide)]; exact cyc_12⟩
  | 13, _, _ => ⟨_, _, by rw [show fine 13 = 156 from fine_is 11 (by decide)]; exact cyc_156⟩
  | 0, h, _ => absurd h (by decide)
  | 1, h, _ => absurd h (by decide)
  | n + 14, _, h => absurd h (by omega)
theorem mon_expo : ∀ n, 2 ≤ n → n ≤ 13 → ∃ d c, Mon (circle (exponent n)) d c
  | 2, _, _ => ⟨_, _, by rw [show exponent 2 = 1 from expo_is 0 (by decide)]; exact mon_1⟩
  | 3, _, _ => ⟨_, _, by rw [show exponent 3 = 2 from expo_is 1 (by decide)]; exact cyc_2.toMon⟩
  | 4, _, _ => ⟨_, _, by rw [show exponent 4 = 2 from expo_is 2 (by decide)]; exact cyc_2.toMon⟩
  | 5, _, _ => ⟨_, _, by rw [show exponent 5 = 4 from expo_is 3 (by decide)]; exact cyc_4.toMon⟩
  | 6, _, _ => ⟨_, _, by rw [show exponent 6 = 2 from expo_is 4 (by decide)]; exact cyc_2.toMon⟩
  | 7, _, _ => ⟨_, _, by rw [show exponent 7 = 6 from expo_is 5 (by decide)]; exact cyc_6.toMon⟩
  | 8, _, _ => ⟨_, _, by rw [show exponent 8 = 2 from expo_is 6 (by decide)]; exact cyc_2.toMon⟩
  | 9, _, _ => ⟨_, _, by rw [show exponent 9 = 6 from expo_is 7 (by decide)]; exact cyc_6.toMon⟩
  | 10, _, _ => ⟨_, _, by rw [show exponent 10 = 4 from expo_is 8 (by decide)]; exact cyc_4.toMon⟩
  | 11, _, _ => ⟨_, _, by rw [show exponent 11 = 10 from expo_is 9 (by decide)]; exact mon_10⟩
  | 12, _, _ => ⟨_, _, by rw [show exponent 12 = 2 from expo_is 10 (by decide)]; exact cyc_2.toMon⟩
  | 13, _, _ => ⟨_, _, by rw [show exponent 13 = 12 from expo_is 11 (by decide)]; exact cyc_12.toMon⟩
  | 0, h, _ => absurd h (by decide)
  | 1, h, _ => absurd h (by decide)
  | n + 14, _, h => absurd h (by omega)
end RsP
set_option linter.all false
set_option maxRecDepth 100000
set_option maxHeartbeats 4000000
set_option Elab.async false
namespace RsP
open Na04
/-! ### a polynomial by one great number -/
def cf (s : List Int) (n : Nat) : Int := s.getD n 0
def ev (B : Int) (s : List Int) : Int := s.foldr (fun a r => a + B * r) 0
def l1 (s : List Int) : Nat := s.foldr (fun a r => a.natAbs + r) 0
theorem ev_cons (B a : Int) (s : List Int) : ev B (a :: s) = a + B * ev B s := rfl
theorem ev_sm (B : Int) : ∀ s : List Int, ev B s = sm s.length (fun i => s.getD i 0 * B ^ i)
  | [] => rfl
  | a :: s => by
    rw [ev_cons, ev_sm B s, List.length_cons, sm_head, ← sm_mul]
    show a + _ = a * B ^ 0 + _
    rw [Int.pow_zero, Int.mul_one]
    congr 1
    exact sm_congr fun i _ => by
      show B * (s.getD i 0 * B ^ i) = s.getD i 0 * B ^ (i + 1)
      rw [Int.pow_succ, Int.mul_left_comm, Int.mul_comm B]
theorem l1_sm : ∀ s : List Int, ((l1 s : Nat) : Int) = sm s.length (fun i => ((s.getD i 0).natAbs : Int))
  | [] => rfl
  | a :: s => by
    rw [List.length_cons, sm_head]
    show ((a.natAbs + l1 s : Nat) : Int) = (a.natAbs : Int) + sm s.length (fun i => ((s.getD i 0).natAbs : Int))
    rw [← l1_sm s, Int.natCast_add]
theorem l1_mem {s : List Int} {x : Int} (h : x ∈ s) : x.natAbs ≤ l1 s := by
  induction s with
  | nil => cases h
  | cons a s ih =>
    show x.natAbs ≤ a.natAbs + l1 s
    rcases List.mem_cons.mp h with e | h
    · rw [e]; omega
    · have := ih h; omega
theorem small_mul {B y : Int} (hB : 0 < B) (h1 : B * y < B) (h2 : -B < B * y) : y = 0 := by
  have a1 : y < 1 := by
    have : B * y < B * 1 := by rw [Int.mul_one]; exact h1
    exact Int.lt_of_mul_lt_mul_left this (by omega)
  have a2 : -1 < y := by
    have : B * (-1) < B * y := by rw [Int.mul_neg, Int.mul_one]; exact h2
    exact Int.lt_of_mul_lt_mul_left this (by omega)
  omega
theorem ev_inj {B : Nat} : ∀ {s t : List Int}, s.length = t.length → (∀ x ∈ s, 2 * x.natAbs < B) → (∀ x ∈ t, 2 * x.natAbs < B) → ev B s = ev B t → s = t
  | [], [], _, _, _, _ => rfl
  | [], _ :: _, h, _, _, _ => by cases h
  | _ :: _, [], h, _, _, _ => by cases h
  | a :: s, b :: t, h, hs, ht, he => by
    rw [ev_cons, ev_cons] at he
    have ha := hs a List.mem_cons_self
    have hb := ht b List.mem_cons_self
    have hm : (B : Int) * (ev B t - ev B s) = a - b := by rw [Int.mul_sub]; omega
    have hz : ev B t - ev B s = 0 := small_mul (B := (B : Int)) (by omega) (by rw [hm]; omega) (by rw [hm]; omega)
    rw [hz, Int.mul_zero] at hm
    have e1 : a = b := by omega
    have e2 := ev_inj (s := s) (t := t) (by simpa using h) (fun x hx => hs x (List.mem_cons_of_mem _ hx)) (fun x hx => ht x (List.mem_cons_of_mem _ hx)) (by omega)
    rw [e1, e2]
/-! ### products -/
theorem conv_len (s t : List Int) : (conv s t).length = s.length + t.length - 1 := by
  unfold conv
  rw [List.length_map, List.length_range]
theorem conv_get {s t : List Int} {n : Nat} (h : n < s.length + t.length - 1) : (conv s t).getD n 0 = sm (n + 1) (fun i => s.getD i 0 * t.getD (n - i) 0) := by
  unfold conv
  rw [getD_map_range, if_pos h, foldr_sm]
theorem conv_w {s t : List Int} (hs : 1 ≤ s.length) (ht : 1 ≤ t.length) (w : Nat → Int) : sm (conv s t).length (fun n => (conv s t).getD n 0 * w n) = sm s.length (fun i => sm t.length (fun j => s.getD i 0 * t.getD j 0 * w (i + j))) := by
  rw [conv_len]
  have e1 : sm (s.length + t.length - 1) (fun n => (conv s t).getD n 0 * w n) = sm (s.length + t.length - 1) (fun n => sm (n + 1) (fun i => s.getD i 0 * t.getD (n - i) 0 * w (i + (n - i)))) := sm_congr fun n hn => by
    rw [conv_get hn, ← sm_mulr]
    exact sm_congr fun i hi => by rw [show i + (n - i) = n by omega]
  rw [e1, sm_tri (s.length + t.length - 1) (fun i j => s.getD i 0 * t.getD j 0 * w (i + j))]
  rw [sm_cut (n := s.length) (by omega) (fun i h1 _ => sm_zero' fun j _ => by rw [getD_out h1, Int.zero_mul, Int.zero_mul])]
  exact sm_congr fun i hi => sm_cut (by omega) fun j h1 _ => by rw [getD_out h1, Int.mul_zero, Int.zero_mul]
theorem ev_conv (B : Int) {s t : List Int} (hs : 1 ≤ s.length) (ht : 1 ≤ t.length) : ev B (conv s t) = ev B s * ev B t := by
  rw [ev_sm, conv_w hs ht (fun n => B ^ n), ev_sm B s, ev_sm B t, ← sm_mulr]
  exact sm_congr fun i _ => by
    rw [← sm_mul]
    exact sm_congr fun j _ => by
      rw [Int.pow_add, Int.mul_assoc, Int.mul_assoc, Int.mul_left_comm (t.getD j 0)]
theorem sm_le {n : Nat} {f g : Nat → Int} (h : ∀ i, i < n → f i ≤ g i) : sm n f ≤ sm n g := by
  induction n with
  | zero => exact Int.le_refl _
  | succ n ih =>
    show sm n f + f n ≤ sm n g + g n
    have := ih fun i hi => h i (by omega)
    have := h n (by omega)
    omega
theorem sm_abs (n : Nat) (f : Nat → Int) : ((sm n f).natAbs : Int) ≤ sm n (fun i => ((f i).natAbs : Int)) := by
  induction n with
  | zero => exact Int.le_refl _
  | succ n ih =>
    show ((sm n f + f n).natAbs : Int) ≤ sm n (fun i => ((f i).natAbs : Int)) + ((f n).natAbs : Int)
    have := Int.natAbs_add_le (sm n f) (f n)
    omega
theorem l1_conv {s t : List Int} (hs : 1 ≤ s.length) (ht : 1 ≤ t.length) : l1 (conv s t) ≤ l1 s * l1 t := by
  have h : ((l1 (conv s t) : Nat) : Int) ≤ ((l1 s * l1 t : Nat) : Int) := by
    rw [l1_sm, conv_len, Int.natCast_mul, l1_sm s, l1_sm t]
    have e1 : sm (s.length + t.length - 1) (fun n => (((conv s t).getD n 0).natAbs : Int)) ≤ sm (s.length + t.length - 1) (fun n => sm (n + 1) (fun i => ((s.getD i 0).natAbs : Int) * ((t.getD (n - i) 0).natAbs : Int))) := sm_le fun n hn => by
      rw [conv_get hn]
      refine Int.le_trans (sm_abs _ _) (Int.le_of_eq (sm_congr fun i _ => ?_))
      rw [Int.natAbs_mul, Int.natCast_mul]
    refine Int.le_trans e1 (Int.le_of_eq ?_)
    rw [sm_tri (s.length + t.length - 1) (fun i j => ((s.getD i 0).natAbs : Int) * ((t.getD j 0).natAbs : Int))]
    rw [sm_cut (n := s.length) (by omega) (fun i h1 _ => sm_zero' fun j _ => by rw [getD_out h1]; exact Int.zero_mul _), ← sm_mulr]
    refine sm_congr fun i hi => ?_
    rw [sm_cut (n := t.length) (by omega) (fun j h1 _ => by rw [getD_out h1]; exact Int.mul_zero _), sm_mul]
  exact Int.ofNat_le.mp h
theorem ev_xm1 {m : Nat} (hm : 0 < m) (B : Int) : ev B (xm1 m) = B ^ m - 1 := by
  rw [ev_sm]
  unfold xm1
  rw [List.length_map, List.length_range]
  obtain ⟨p, rfl⟩ : ∃ p, m = p + 1 := ⟨m - 1, by omega⟩
  have e : sm (p + 1 + 1) (fun i => ((List.range (p + 1 + 1)).map fun i => if i = 0 then (-1 : Int) else if i = p + 1 then 1 else 0).getD i 0 * B ^ i) = sm (p + 1 + 1) (fun i => (if i = 0 then (-1 : Int) else if i = p + 1 then 1 else 0) * B ^ i) := sm_congr fun i hi => by rw [getD_map_range, if_pos hi]
  rw [e]
  show sm (p + 1) (fun i => (if i = 0 then (-1 : Int) else if i = p + 1 then 1 else 0) * B ^ i) + (if p + 1 = 0 then (-1 : Int) else if p + 1 = p + 1 then 1 else 0) * B ^ (p + 1) = _
  rw [sm_one (k := 0) (by omega) (fun i hi hne => by rw [if_neg hne, if_neg (by omega), Int.zero_mul]), if_pos rfl, if_neg (by omega), if_pos rfl, Int.one_mul, Int.pow_zero]
  omega
/-! ### the circles' table -/
def ctab0 : List (List Int) := [[], [-1, 1], [1, 1], [1, 1, 1], [1, 0, 1], [1, 1, 1, 1, 1], [1, -1, 1], [1, 1, 1, 1, 1, 1, 1], [1, 0, 0, 0, 1], [1, 0, 0, 1, 0, 0, 1], [1, -1, 1, -1, 1], [1, 1, 1, 1, 1, 1, 1, 1, 1, 1, 1], [1, 0, -1, 0, 1], [1, 1, 1, 1, 1, 1, 1, 1, 1, 1, 1, 1, 1], [1, -1, 1, -1, 1, -1, 1], [1, -1, 0, 1, -1, 1, 0, -1, 1], [1, 0, 0, 0, 0, 0, 0, 0, 1], [1, 1, 1, 1, 1, 1, 1, 1, 1, 1, 1, 1, 1, 1, 1, 1, 1], [1, 0, 0, -1, 0, 0, 1], [1, 1, 1, 1, 1, 1, 1, 1, 1, 1, 1, 1, 1, 1, 1, 1, 1, 1, 1]]
def ctab1 : List (List Int) := [[1, 0, -1, 0, 1, 0, -1, 0, 1], [1, -1, 0, 1, -1, 0, 1, 0, -1, 1, 0, -1, 1], [1, -1, 1, -1, 1, -1, 1, -1, 1, -1, 1], [1, 1, 1, 1, 1, 1, 1, 1, 1, 1, 1, 1, 1, 1, 1, 1, 1, 1, 1, 1, 1, 1, 1], [1, 0, 0, 0, -1, 0, 0, 0, 1], [1, 0, 0, 0, 0, 1, 0, 0, 0, 0, 1, 0, 0, 0, 0, 1, 0, 0, 0, 0, 1], [1, -1, 1, -1, 1, -1, 1, -1, 1, -1, 1, -1, 1], [1, 0, 0, 0, 0, 0, 0, 0, 0, 1, 0, 0, 0, 0, 0, 0, 0, 0, 1], [1, 0, -1, 0, 1, 0, -1, 0, 1, 0, -1, 0, 1], [1, 1, 1, 1, 1, 1, 1, 1, 1, 1, 1, 1, 1, 1, 1, 1, 1, 1, 1, 1, 1, 1, 1, 1, 1, 1, 1, 1, 1], [1, 1, 0, -1, -1, -1, 0, 1, 1], [1, 1, 1, 1, 1, 1, 1, 1, 1, 1, 1, 1, 1, 1, 1, 1, 1, 1, 1, 1, 1, 1, 1, 1, 1, 1, 1, 1, 1, 1, 1], [1, 0, 0, 0, 0, 0, 0, 0, 0, 0, 0, 0, 0, 0, 0, 0, 1], [1, -1, 0, 1, -1, 0, 1, -1, 0, 1, -1, 1, 0, -1, 1, 0, -1, 1, 0, -1, 1], [1, -1, 1, -1, 1, -1, 1, -1, 1, -1, 1, -1, 1, -1, 1, -1, 1], [1, -1, 0, 0, 0, 1, -1, 1, -1, 0, 1, -1, 1, -1, 1, 0, -1, 1, -1, 1, 0, 0, 0, -1, 1], [1, 0, 0, 0, 0, 0, -1, 0, 0, 0, 0, 0, 1], [1, 1, 1, 1, 1, 1, 1, 1, 1, 1, 1, 1, 1, 1, 1, 1, 1, 1, 1, 1, 1, 1, 1, 1, 1, 1, 1, 1, 1, 1, 1, 1, 1, 1, 1, 1, 1], [1, -1, 1, -1, 1, -1, 1, -1, 1, -1, 1, -1, 1, -1, 1, -1, 1, -1, 1], [1, -1, 0, 1, -1, 0, 1, -1, 0, 1, -1, 0, 1, 0, -1, 1, 0, -1, 1, 0, -1, 1, 0, -1, 1]]
def ctab2 : List (List Int) := [[1, 0, 0, 0, -1, 0, 0, 0, 1, 0, 0, 0, -1, 0, 0, 0, 1], [1, 1, 1, 1, 1, 1, 1, 1, 1, 1, 1, 1, 1, 1, 1, 1, 1, 1, 1, 1, 1, 1, 1, 1, 1, 1, 1, 1, 1, 1, 1, 1, 1, 1, 1, 1, 1, 1, 1, 1, 1], [1, 1, 0, -1, -1, 0, 1, 0, -1, -1, 0, 1, 1], [1, 1, 1, 1, 1, 1, 1, 1, 1, 1, 1, 1, 1, 1, 1, 1, 1, 1, 1, 1, 1, 1, 1, 1, 1, 1, 1, 1, 1, 1, 1, 1, 1, 1, 1, 1, 1, 1, 1, 1, 1, 1, 1], [1, 0, -1, 0, 1, 0, -1, 0, 1, 0, -1, 0, 1, 0, -1, 0, 1, 0, -1, 0, 1], [1, 0, 0, -1, 0, 0, 0, 0, 0, 1, 0, 0, -1, 0, 0, 1, 0, 0, 0, 0, 0, -1, 0, 0, 1], [1, -1, 1, -1, 1, -1, 1, -1, 1, -1, 1, -1, 1, -1, 1, -1, 1, -1, 1, -1, 1, -1, 1], [1, 1, 1, 1, 1, 1, 1, 1, 1, 1, 1, 1, 1, 1, 1, 1, 1, 1, 1, 1, 1, 1, 1, 1, 1, 1, 1, 1, 1, 1, 1, 1, 1, 1, 1, 1, 1, 1, 1, 1, 1, 1, 1, 1, 1, 1, 1], [1, 0, 0, 0, 0, 0, 0, 0, -1, 0, 0, 0, 0, 0, 0, 0, 1], [1, 0, 0, 0, 0, 0, 0, 1, 0, 0, 0, 0, 0, 0, 1, 0, 0, 0, 0, 0, 0, 1, 0, 0, 0, 0, 0, 0, 1, 0, 0, 0, 0, 0, 0, 1, 0, 0, 0, 0, 0, 0, 1], [1, 0, 0, 0, 0, -1, 0, 0, 0, 0, 1, 0, 0, 0, 0, -1, 0, 0, 0, 0, 1], [1, -1, 0, 1, -1, 0, 1, -1, 0, 1, -1, 0, 1, -1, 0, 1, -1, 1, 0, -1, 1, 0, -1, 1, 0, -1, 1, 0, -1, 1, 0, -1, 1], [1, 0, -1, 0, 1, 0, -1, 0, 1, 0, -1, 0, 1, 0, -1, 0, 1, 0, -1, 0, 1, 0, -1, 0, 1], [1, 1, 1, 1, 1, 1, 1, 1, 1, 1, 1, 1, 1, 1, 1, 1, 1, 1, 1, 1, 1, 1, 1, 1, 1, 1, 1, 1, 1, 1, 1, 1, 1, 1, 1, 1, 1, 1, 1, 1, 1, 1, 1, 1, 1, 1, 1, 1, 1, 1, 1, 1, 1], [1, 0, 0, 0, 0, 0, 0, 0, 0, -1, 0, 0, 0, 0, 0, 0, 0, 0, 1], [1, -1, 0, 0, 0, 1, -1, 0, 0, 0, 1, 0, -1, 0, 0, 1, 0, -1, 0, 0, 1, 0, 0, -1, 0, 1, 0, 0, -1, 0, 1, 0, 0, 0, -1, 1, 0, 0, 0, -1, 1], [1, 0, 0, 0, -1, 0, 0, 0, 1, 0, 0, 0, -1, 0, 0, 0, 1, 0, 0, 0, -1, 0, 0, 0, 1], [1, -1, 0, 1, -1, 0, 1, -1, 0, 1, -1, 0, 1, -1, 0, 1, -1, 0, 1, 0, -1, 1, 0, -1, 1, 0, -1, 1, 0, -1, 1, 0, -1, 1, 0, -1, 1], [1, -1, 1, -1, 1, -1, 1, -1, 1, -1, 1, -1, 1, -1, 1, -1, 1, -1, 1, -1, 1, -1, 1, -1, 1, -1, 1, -1, 1], [1, 1, 1, 1, 1, 1, 1, 1, 1, 1, 1, 1, 1, 1, 1, 1, 1, 1, 1, 1, 1, 1, 1, 1, 1, 1, 1, 1, 1, 1, 1, 1, 1, 1, 1, 1, 1, 1, 1, 1, 1, 1, 1, 1, 1, 1, 1, 1, 1, 1, 1, 1, 1, 1, 1, 1, 1, 1, 1]]
def ctab3 : List (List Int) := [[1, 0, 1, 0, 0, 0, -1, 0, -1, 0, -1, 0, 0, 0, 1, 0, 1], [1, 1, 1, 1, 1, 1, 1, 1, 1, 1, 1, 1, 1, 1, 1, 1, 1, 1, 1, 1, 1, 1, 1, 1, 1, 1, 1, 1, 1, 1, 1, 1, 1, 1, 1, 1, 1, 1, 1, 1, 1, 1, 1, 1, 1, 1, 1, 1, 1, 1, 1, 1, 1, 1, 1, 1, 1, 1, 1, 1, 1], [1, -1, 1, -1, 1, -1, 1, -1, 1, -1, 1, -1, 1, -1, 1, -1, 1, -1, 1, -1, 1, -1, 1, -1, 1, -1, 1, -1, 1, -1, 1], [1, 0, 0, -1, 0, 0, 0, 0, 0, 1, 0, 0, -1, 0, 0, 0, 0, 0, 1, 0, 0, 0, 0, 0, -1, 0, 0, 1, 0, 0, 0, 0, 0, -1, 0, 0, 1], [1, 0, 0, 0, 0, 0, 0, 0, 0, 0, 0, 0, 0, 0, 0, 0, 0, 0, 0, 0, 0, 0, 0, 0, 0, 0, 0, 0, 0, 0, 0, 0, 1], [1, -1, 0, 0, 0, 1, -1, 0, 0, 0, 1, -1, 0, 1, -1, 1, -1, 0, 1, -1, 1, -1, 0, 1, -1, 1, 0, -1, 1, -1, 1, 0, -1, 1, -1, 1, 0, -1, 1, 0, 0, 0, -1, 1, 0, 0, 0, -1, 1], [1, 1, 0, -1, -1, 0, 1, 1, 0, -1, -1, -1, 0, 1, 1, 0, -1, -1, 0, 1, 1], [1, 1, 1, 1, 1, 1, 1, 1, 1, 1, 1, 1, 1, 1, 1, 1, 1, 1, 1, 1, 1, 1, 1, 1, 1, 1, 1, 1, 1, 1, 1, 1, 1, 1, 1, 1, 1, 1, 1, 1, 1, 1, 1, 1, 1, 1, 1, 1, 1, 1, 1, 1, 1, 1, 1, 1, 1, 1, 1, 1, 1, 1, 1, 1, 1, 1, 1], [1, 0, -1, 0, 1, 0, -1, 0, 1, 0, -1, 0, 1, 0, -1, 0, 1, 0, -1, 0, 1, 0, -1, 0, 1, 0, -1, 0, 1, 0, -1, 0, 1], [1, -1, 0, 1, -1, 0, 1, -1, 0, 1, -1, 0, 1, -1, 0, 1, -1, 0, 1, -1, 0, 1, -1, 1, 0, -1, 1, 0, -1, 1, 0, -1, 1, 0, -1, 1, 0, -1, 1, 0, -1, 1, 0, -1, 1], [1, 1, 0, 0, 0, -1, -1, -1, -1, 0, 1, 1, 1, 1, 1, 0, -1, -1, -1, -1, 0, 0, 0, 1, 1], [1, 1, 1, 1, 1, 1, 1, 1, 1, 1, 1, 1, 1, 1, 1, 1, 1, 1, 1, 1, 1, 1, 1, 1, 1, 1, 1, 1, 1, 1, 1, 1, 1, 1, 1, 1, 1, 1, 1, 1, 1, 1, 1, 1, 1, 1, 1, 1, 1, 1, 1, 1, 1, 1, 1, 1, 1, 1, 1, 1, 1, 1, 1, 1, 1, 1, 1, 1, 1, 1, 1], [1, 0, 0, 0, 0, 0, 0, 0, 0, 0, 0, 0, -1, 0, 0, 0, 0, 0, 0, 0, 0, 0, 0, 0, 1], [1, 1, 1, 1, 1, 1, 1, 1, 1, 1, 1, 1, 1, 1, 1, 1, 1, 1, 1, 1, 1, 1, 1, 1, 1, 1, 1, 1, 1, 1, 1, 1, 1, 1, 1, 1, 1, 1, 1, 1, 1, 1, 1, 1, 1, 1, 1, 1, 1, 1, 1, 1, 1, 1, 1, 1, 1, 1, 1, 1, 1, 1, 1, 1, 1, 1, 1, 1, 1, 1, 1, 1, 1], [1, -1, 1, -1, 1, -1, 1, -1, 1, -1, 1, -1, 1, -1, 1, -1, 1, -1, 1, -1, 1, -1, 1, -1, 1, -1, 1, -1, 1, -1, 1, -1, 1, -1, 1, -1, 1], [1, 0, 0, 0, 0, -1, 0, 0, 0, 0, 0, 0, 0, 0, 0, 1, 0, 0, 0, 0, -1, 0, 0, 0, 0, 1, 0, 0, 0, 0, 0, 0, 0, 0, 0, -1, 0, 0, 0, 0, 1], [1, 0, -1, 0, 1, 0, -1, 0, 1, 0, -1, 0, 1, 0, -1, 0, 1, 0, -1, 0, 1, 0, -1, 0, 1, 0, -1, 0, 1, 0, -1, 0, 1, 0, -1, 0, 1], [1, -1, 0, 0, 0, 0, 0, 1, -1, 0, 0, 1, -1, 0, 1, -1, 0, 0, 1, -1, 0, 1, 0, -1, 0, 1, -1, 0, 1, 0, -1, 0, 1, 0, -1, 1, 0, -1, 0, 1, 0, -1, 1, 0, 0, -1, 1, 0, -1, 1, 0, 0, -1, 1, 0, 0, 0, 0, 0, -1, 1], [1, 1, 0, -1, -1, 0, 1, 1, 0, -1, -1, 0, 1, 0, -1, -1, 0, 1, 1, 0, -1, -1, 0, 1, 1], [1, 1, 1, 1, 1, 1, 1, 1, 1, 1, 1, 1, 1, 1, 1, 1, 1, 1, 1, 1, 1, 1, 1, 1, 1, 1, 1, 1, 1, 1, 1, 1, 1, 1, 1, 1, 1, 1, 1, 1, 1, 1, 1, 1, 1, 1, 1, 1, 1, 1, 1, 1, 1, 1, 1, 1, 1, 1, 1, 1, 1, 1, 1, 1, 1, 1, 1, 1, 1, 1, 1, 1, 1, 1, 1, 1, 1, 1, 1]]
def ctab4 : List (List Int) := [[1, 0, 0, 0, 0, 0, 0, 0, -1, 0, 0, 0, 0, 0, 0, 0, 1, 0, 0, 0, 0, 0, 0, 0, -1, 0, 0, 0, 0, 0, 0, 0, 1], [1, 0, 0, 0, 0, 0, 0, 0, 0, 0, 0, 0, 0, 0, 0, 0, 0, 0, 0, 0, 0, 0, 0, 0, 0, 0, 0, 1, 0, 0, 0, 0, 0, 0, 0, 0, 0, 0, 0, 0, 0, 0, 0, 0, 0, 0, 0, 0, 0, 0, 0, 0, 0, 0, 1], [1, -1, 1, -1, 1, -1, 1, -1, 1, -1, 1, -1, 1, -1, 1, -1, 1, -1, 1, -1, 1, -1, 1, -1, 1, -1, 1, -1, 1, -1, 1, -1, 1, -1, 1, -1, 1, -1, 1, -1, 1], [1, 1, 1, 1, 1, 1, 1, 1, 1, 1, 1, 1, 1, 1, 1, 1, 1, 1, 1, 1, 1, 1, 1, 1, 1, 1, 1, 1, 1, 1, 1, 1, 1, 1, 1, 1, 1, 1, 1, 1, 1, 1, 1, 1, 1, 1, 1, 1, 1, 1, 1, 1, 1, 1, 1, 1, 1, 1, 1, 1, 1, 1, 1, 1, 1, 1, 1, 1, 1, 1, 1, 1, 1, 1, 1, 1, 1, 1, 1, 1, 1, 1, 1], [1, 0, 1, 0, 0, 0, -1, 0, -1, 0, 0, 0, 1, 0, 0, 0, -1, 0, -1, 0, 0, 0, 1, 0, 1], [1, -1, 0, 0, 0, 1, -1, 0, 0, 0, 1, -1, 0, 0, 0, 1, -1, 1, -1, 0, 1, -1, 1, -1, 0, 1, -1, 1, -1, 0, 1, -1, 1, -1, 1, 0, -1, 1, -1, 1, 0, -1, 1, -1, 1, 0, -1, 1, -1, 1, 0, 0, 0, -1, 1, 0, 0, 0, -1, 1, 0, 0, 0, -1, 1], [1, -1, 1, -1, 1, -1, 1, -1, 1, -1, 1, -1, 1, -1, 1, -1, 1, -1, 1, -1, 1, -1, 1, -1, 1, -1, 1, -1, 1, -1, 1, -1, 1, -1, 1, -1, 1, -1, 1, -1, 1, -1, 1], [1, -1, 0, 1, -1, 0, 1, -1, 0, 1, -1, 0, 1, -1, 0, 1, -1, 0, 1, -1, 0, 1, -1, 0, 1, -1, 0, 1, -1, 1, 0, -1, 1, 0, -1, 1, 0, -1, 1, 0, -1, 1, 0, -1, 1, 0, -1, 1, 0, -1, 1, 0, -1, 1, 0, -1, 1], [1, 0, 0, 0, -1, 0, 0, 0, 1, 0, 0, 0, -1, 0, 0, 0, 1, 0, 0, 0, -1, 0, 0, 0, 1, 0, 0, 0, -1, 0, 0, 0, 1, 0, 0, 0, -1, 0, 0, 0, 1], [1, 1, 1, 1, 1, 1, 1, 1, 1, 1, 1, 1, 1, 1, 1, 1, 1, 1, 1, 1, 1, 1, 1, 1, 1, 1, 1, 1, 1, 1, 1, 1, 1, 1, 1, 1, 1, 1, 1, 1, 1, 1, 1, 1, 1, 1, 1, 1, 1, 1, 1, 1, 1, 1, 1, 1, 1, 1, 1, 1, 1, 1, 1, 1, 1, 1, 1, 1, 1, 1, 1, 1, 1, 1, 1, 1, 1, 1, 1, 1, 1, 1, 1, 1, 1, 1, 1, 1, 1], [1, 0, 0, 1, 0, 0, 0, 0, 0, -1, 0, 0, -1, 0, 0, -1, 0, 0, 0, 0, 0, 1, 0, 0, 1], [1, -1, 0, 0, 0, 0, 0, 1, -1, 0, 0, 0, 0, 1, 0, -1, 0, 0, 0, 0, 1, 0, -1, 0, 0, 0, 1, 0, 0, -1, 0, 0, 0, 1, 0, 0, -1, 0, 0, 1, 0, 0, 0, -1, 0, 0, 1, 0, 0, 0, -1, 0, 1, 0, 0, 0, 0, -1, 0, 1, 0, 0, 0, 0, -1, 1, 0, 0, 0, 0, 0, -1, 1], [1, 0, -1, 0, 1, 0, -1, 0, 1, 0, -1, 0, 1, 0, -1, 0, 1, 0, -1, 0, 1, 0, -1, 0, 1, 0, -1, 0, 1, 0, -1, 0, 1, 0, -1, 0, 1, 0, -1, 0, 1, 0, -1, 0, 1], [1, -1, 0, 1, -1, 0, 1, -1, 0, 1, -1, 0, 1, -1, 0, 1, -1, 0, 1, -1, 0, 1, -1, 0, 1, -1, 0, 1, -1, 0, 1, 0, -1, 1, 0, -1, 1, 0, -1, 1, 0, -1, 1, 0, -1, 1, 0, -1, 1, 0, -1, 1, 0, -1, 1, 0, -1, 1, 0, -1, 1], [1, -1, 1, -1, 1, -1, 1, -1, 1, -1, 1, -1, 1, -1, 1, -1, 1, -1, 1, -1, 1, -1, 1, -1, 1, -1, 1, -1, 1, -1, 1, -1, 1, -1, 1, -1, 1, -1, 1, -1, 1, -1, 1, -1, 1, -1, 1], [1, -1, 0, 0, 0, 1, -1, 0, 0, 0, 1, -1, 0, 0, 0, 1, -1, 0, 0, 1, 0, -1, 0, 0, 1, 0, -1, 0, 0, 1, 0, -1, 0, 0, 1, 0, -1, 0, 1, 0, 0, -1, 0, 1, 0, 0, -1, 0, 1, 0, 0, -1, 0, 1, 0, 0, -1, 1, 0, 0, 0, -1, 1, 0, 0, 0, -1, 1, 0, 0, 0, -1, 1], [1, 0, 0, 0, 0, 0, 0, 0, 0, 0, 0, 0, 0, 0, 0, 0, -1, 0, 0, 0, 0, 0, 0, 0, 0, 0, 0, 0, 0, 0, 0, 0, 1], [1, 1, 1, 1, 1, 1, 1, 1, 1, 1, 1, 1, 1, 1, 1, 1, 1, 1, 1, 1, 1, 1, 1, 1, 1, 1, 1, 1, 1, 1, 1, 1, 1, 1, 1, 1, 1, 1, 1, 1, 1, 1, 1, 1, 1, 1, 1, 1, 1, 1, 1, 1, 1, 1, 1, 1, 1, 1, 1, 1, 1, 1, 1, 1, 1, 1, 1, 1, 1, 1, 1, 1, 1, 1, 1, 1, 1, 1, 1, 1, 1, 1, 1, 1, 1, 1, 1, 1, 1, 1, 1, 1, 1, 1, 1, 1, 1], [1, 0, 0, 0, 0, 0, 0, -1, 0, 0, 0, 0, 0, 0, 1, 0, 0, 0, 0, 0, 0, -1, 0, 0, 0, 0, 0, 0, 1, 0, 0, 0, 0, 0, 0, -1, 0, 0, 0, 0, 0, 0, 1], [1, 0, 0, -1, 0, 0, 0, 0, 0, 1, 0, 0, -1, 0, 0, 0, 0, 0, 1, 0, 0, -1, 0, 0, 0, 0, 0, 1, 0, 0, -1, 0, 0, 1, 0, 0, 0, 0, 0, -1, 0, 0, 1, 0, 0, 0, 0, 0, -1, 0, 0, 1, 0, 0, 0, 0, 0, -1, 0, 0, 1]]
def ctab5 : List (List Int) := [[1, 0, 0, 0, 0, 0, 0, 0, 0, 0, -1, 0, 0, 0, 0, 0, 0, 0, 0, 0, 1, 0, 0, 0, 0, 0, 0, 0, 0, 0, -1, 0, 0, 0, 0, 0, 0, 0, 0, 0, 1], [1, 1, 1, 1, 1, 1, 1, 1, 1, 1, 1, 1, 1, 1, 1, 1, 1, 1, 1, 1, 1, 1, 1, 1, 1, 1, 1, 1, 1, 1, 1, 1, 1, 1, 1, 1, 1, 1, 1, 1, 1, 1, 1, 1, 1, 1, 1, 1, 1, 1, 1, 1, 1, 1, 1, 1, 1, 1, 1, 1, 1, 1, 1, 1, 1, 1, 1, 1, 1, 1, 1, 1, 1, 1, 1, 1, 1, 1, 1, 1, 1, 1, 1, 1, 1, 1, 1, 1, 1, 1, 1, 1, 1, 1, 1, 1, 1, 1, 1, 1, 1], [1, 1, 0, -1, -1, 0, 1, 1, 0, -1, -1, 0, 1, 1, 0, -1, -1, -1, 0, 1, 1, 0, -1, -1, 0, 1, 1, 0, -1, -1, 0, 1, 1], [1, 1, 1, 1, 1, 1, 1, 1, 1, 1, 1, 1, 1, 1, 1, 1, 1, 1, 1, 1, 1, 1, 1, 1, 1, 1, 1, 1, 1, 1, 1, 1, 1, 1, 1, 1, 1, 1, 1, 1, 1, 1, 1, 1, 1, 1, 1, 1, 1, 1, 1, 1, 1, 1, 1, 1, 1, 1, 1, 1, 1, 1, 1, 1, 1, 1, 1, 1, 1, 1, 1, 1, 1, 1, 1, 1, 1, 1, 1, 1, 1, 1, 1, 1, 1, 1, 1, 1, 1, 1, 1, 1, 1, 1, 1, 1, 1, 1, 1, 1, 1, 1, 1], [1, 0, 0, 0, -1, 0, 0, 0, 1, 0, 0, 0, -1, 0, 0, 0, 1, 0, 0, 0, -1, 0, 0, 0, 1, 0, 0, 0, -1, 0, 0, 0, 1, 0, 0, 0, -1, 0, 0, 0, 1, 0, 0, 0, -1, 0, 0, 0, 1], [1, 1, 1, 0, 0, -1, -1, -2, -1, -1, 0, 0, 1, 1, 1, 1, 1, 1, 0, 0, -1, 0, -1, 0, -1, 0, -1, 0, -1, 0, 0, 1, 1, 1, 1, 1, 1, 0, 0, -1, -1, -2, -1, -1, 0, 0, 1, 1, 1], [1, -1, 1, -1, 1, -1, 1, -1, 1, -1, 1, -1, 1, -1, 1, -1, 1, -1, 1, -1, 1, -1, 1, -1, 1, -1, 1, -1, 1, -1, 1, -1, 1, -1, 1, -1, 1, -1, 1, -1, 1, -1, 1, -1, 1, -1, 1, -1, 1, -1, 1, -1, 1], [1, 1, 1, 1, 1, 1, 1, 1, 1, 1, 1, 1, 1, 1, 1, 1, 1, 1, 1, 1, 1, 1, 1, 1, 1, 1, 1, 1, 1, 1, 1, 1, 1, 1, 1, 1, 1, 1, 1, 1, 1, 1, 1, 1, 1, 1, 1, 1, 1, 1, 1, 1, 1, 1, 1, 1, 1, 1, 1, 1, 1, 1, 1, 1, 1, 1, 1, 1, 1, 1, 1, 1, 1, 1, 1, 1, 1, 1, 1, 1, 1, 1, 1, 1, 1, 1, 1, 1, 1, 1, 1, 1, 1, 1, 1, 1, 1, 1, 1, 1, 1, 1, 1, 1, 1, 1, 1], [1, 0, 0, 0, 0, 0, 0, 0, 0, 0, 0, 0, 0, 0, 0, 0, 0, 0, -1, 0, 0, 0, 0, 0, 0, 0, 0, 0, 0, 0, 0, 0, 0, 0, 0, 0, 1], [1, 1, 1, 1, 1, 1, 1, 1, 1, 1, 1, 1, 1, 1, 1, 1, 1, 1, 1, 1, 1, 1, 1, 1, 1, 1, 1, 1, 1, 1, 1, 1, 1, 1, 1, 1, 1, 1, 1, 1, 1, 1, 1, 1, 1, 1, 1, 1, 1, 1, 1, 1, 1, 1, 1, 1, 1, 1, 1, 1, 1, 1, 1, 1, 1, 1, 1, 1, 1, 1, 1, 1, 1, 1, 1, 1, 1, 1, 1, 1, 1, 1, 1, 1, 1, 1, 1, 1, 1, 1, 1, 1, 1, 1, 1, 1, 1, 1, 1, 1, 1, 1, 1, 1, 1, 1, 1, 1, 1], [1, 1, 0, 0, 0, -1, -1, 0, 0, 0, 1, 0, -1, 0, 0, -1, 0, 1, 0, 0, 1, 0, 0, 1, 0, -1, 0, 0, -1, 0, 1, 0, 0, 0, -1, -1, 0, 0, 0, 1, 1], [1, -1, 0, 1, -1, 0, 1, -1, 0, 1, -1, 0, 1, -1, 0, 1, -1, 0, 1, -1, 0, 1, -1, 0, 1, -1, 0, 1, -1, 0, 1, -1, 0, 1, -1, 0, 1, 0, -1, 1, 0, -1, 1, 0, -1, 1, 0, -1, 1, 0, -1, 1, 0, -1, 1, 0, -1, 1, 0, -1, 1, 0, -1, 1, 0, -1, 1, 0, -1, 1, 0, -1, 1], [1, 0, 0, 0, 0, 0, 0, 0, -1, 0, 0, 0, 0, 0, 0, 0, 1, 0, 0, 0, 0, 0, 0, 0, -1, 0, 0, 0, 0, 0, 0, 0, 1, 0, 0, 0, 0, 0, 0, 0, -1, 0, 0, 0, 0, 0, 0, 0, 1], [1, 1, 1, 1, 1, 1, 1, 1, 1, 1, 1, 1, 1, 1, 1, 1, 1, 1, 1, 1, 1, 1, 1, 1, 1, 1, 1, 1, 1, 1, 1, 1, 1, 1, 1, 1, 1, 1, 1, 1, 1, 1, 1, 1, 1, 1, 1, 1, 1, 1, 1, 1, 1, 1, 1, 1, 1, 1, 1, 1, 1, 1, 1, 1, 1, 1, 1, 1, 1, 1, 1, 1, 1, 1, 1, 1, 1, 1, 1, 1, 1, 1, 1, 1, 1, 1, 1, 1, 1, 1, 1, 1, 1, 1, 1, 1, 1, 1, 1, 1, 1, 1, 1, 1, 1, 1, 1, 1, 1, 1, 1, 1, 1], [1, 1, 0, -1, -1, 0, 1, 1, 0, -1, -1, 0, 1, 1, 0, -1, -1, 0, 1, 0, -1, -1, 0, 1, 1, 0, -1, -1, 0, 1, 1, 0, -1, -1, 0, 1, 1], [1, -1, 0, 0, 0, 1, -1, 0, 0, 0, 1, -1, 0, 0, 0, 1, -1, 0, 0, 0, 1, -1, 0, 1, -1, 1, -1, 0, 1, -1, 1, -1, 0, 1, -1, 1, -1, 0, 1, -1, 1, -1, 0, 1, -1, 1, 0, -1, 1, -1, 1, 0, -1, 1, -1, 1, 0, -1, 1, -1, 1, 0, -1, 1, -1, 1, 0, -1, 1, 0, 0, 0, -1, 1, 0, 0, 0, -1, 1, 0, 0, 0, -1, 1, 0, 0, 0, -1, 1], [1, 0, -1, 0, 1, 0, -1, 0, 1, 0, -1, 0, 1, 0, -1, 0, 1, 0, -1, 0, 1, 0, -1, 0, 1, 0, -1, 0, 1, 0, -1, 0, 1, 0, -1, 0, 1, 0, -1, 0, 1, 0, -1, 0, 1, 0, -1, 0, 1, 0, -1, 0, 1, 0, -1, 0, 1], [1, 0, 0, -1, 0, 0, 0, 0, 0, 1, 0, 0, -1, 0, 0, 0, 0, 0, 1, 0, 0, -1, 0, 0, 0, 0, 0, 1, 0, 0, -1, 0, 0, 0, 0, 0, 1, 0, 0, 0, 0, 0, -1, 0, 0, 1, 0, 0, 0, 0, 0, -1, 0, 0, 1, 0, 0, 0, 0, 0, -1, 0, 0, 1, 0, 0, 0, 0, 0, -1, 0, 0, 1], [1, -1, 1, -1, 1, -1, 1, -1, 1, -1, 1, -1, 1, -1, 1, -1, 1, -1, 1, -1, 1, -1, 1, -1, 1, -1, 1, -1, 1, -1, 1, -1, 1, -1, 1, -1, 1, -1, 1, -1, 1, -1, 1, -1, 1, -1, 1, -1, 1, -1, 1, -1, 1, -1, 1, -1, 1, -1, 1], [1, -1, 0, 0, 0, 0, 0, 1, -1, 0, 0, 0, 0, 0, 1, -1, 0, 1, -1, 0, 0, 1, -1, 0, 1, -1, 0, 0, 1, -1, 0, 1, -1, 0, 1, 0, -1, 0, 1, -1, 0, 1, 0, -1, 0, 1, -1, 0, 1, 0, -1, 1, 0, -1, 0, 1, 0, -1, 1, 0, -1, 0, 1, 0, -1, 1, 0, -1, 1, 0, 0, -1, 1, 0, -1, 1, 0, 0, -1, 1, 0, -1, 1, 0, 0, 0, 0, 0, -1, 1, 0, 0, 0, 0, 0, -1, 1]]
def ctab6 : List (List Int) := [[1, 0, 0, 0, 1, 0, 0, 0, 0, 0, 0, 0, -1, 0, 0, 0, -1, 0, 0, 0, -1, 0, 0, 0, 0, 0, 0, 0, 1, 0, 0, 0, 1], [1, 0, 0, 0, 0, 0, 0, 0, 0, 0, 0, 1, 0, 0, 0, 0, 0, 0, 0, 0, 0, 0, 1, 0, 0, 0, 0, 0, 0, 0, 0, 0, 0, 1, 0, 0, 0, 0, 0, 0, 0, 0, 0, 0, 1, 0, 0, 0, 0, 0, 0, 0, 0, 0, 0, 1, 0, 0, 0, 0, 0, 0, 0, 0, 0, 0, 1, 0, 0, 0, 0, 0, 0, 0, 0, 0, 0, 1, 0, 0, 0, 0, 0, 0, 0, 0, 0, 0, 1, 0, 0, 0, 0, 0, 0, 0, 0, 0, 0, 1, 0, 0, 0, 0, 0, 0, 0, 0, 0, 0, 1], [1, -1, 1, -1, 1, -1, 1, -1, 1, -1, 1, -1, 1, -1, 1, -1, 1, -1, 1, -1, 1, -1, 1, -1, 1, -1, 1, -1, 1, -1, 1, -1, 1, -1, 1, -1, 1, -1, 1, -1, 1, -1, 1, -1, 1, -1, 1, -1, 1, -1, 1, -1, 1, -1, 1, -1, 1, -1, 1, -1, 1], [1, -1, 0, 1, -1, 0, 1, -1, 0, 1, -1, 0, 1, -1, 0, 1, -1, 0, 1, -1, 0, 1, -1, 0, 1, -1, 0, 1, -1, 0, 1, -1, 0, 1, -1, 0, 1, -1, 0, 1, -1, 1, 0, -1, 1, 0, -1, 1, 0, -1, 1, 0, -1, 1, 0, -1, 1, 0, -1, 1, 0, -1, 1, 0, -1, 1, 0, -1, 1, 0, -1, 1, 0, -1, 1, 0, -1, 1, 0, -1, 1], [1, 0, -1, 0, 1, 0, -1, 0, 1, 0, -1, 0, 1, 0, -1, 0, 1, 0, -1, 0, 1, 0, -1, 0, 1, 0, -1, 0, 1, 0, -1, 0, 1, 0, -1, 0, 1, 0, -1, 0, 1, 0, -1, 0, 1, 0, -1, 0, 1, 0, -1, 0, 1, 0, -1, 0, 1, 0, -1, 0, 1], [1, 0, 0, 0, 0, 0, 0, 0, 0, 0, 0, 0, 0, 0, 0, 0, 0, 0, 0, 0, 0, 0, 0, 0, 0, 1, 0, 0, 0, 0, 0, 0, 0, 0, 0, 0, 0, 0, 0, 0, 0, 0, 0, 0, 0, 0, 0, 0, 0, 0, 1, 0, 0, 0, 0, 0, 0, 0, 0, 0, 0, 0, 0, 0, 0, 0, 0, 0, 0, 0, 0, 0, 0, 0, 0, 1, 0, 0, 0, 0, 0, 0, 0, 0, 0, 0, 0, 0, 0, 0, 0, 0, 0, 0, 0, 0, 0, 0, 0, 0, 1], [1, 0, 0, 1, 0, 0, 0, 0, 0, -1, 0, 0, -1, 0, 0, 0, 0, 0, 1, 0, 0, 0, 0, 0, -1, 0, 0, -1, 0, 0, 0, 0, 0, 1, 0, 0, 1], [1, 1, 1, 1, 1, 1, 1, 1, 1, 1, 1, 1, 1, 1, 1, 1, 1, 1, 1, 1, 1, 1, 1, 1, 1, 1, 1, 1, 1, 1, 1, 1, 1, 1, 1, 1, 1, 1, 1, 1, 1, 1, 1, 1, 1, 1, 1, 1, 1, 1, 1, 1, 1, 1, 1, 1, 1, 1, 1, 1, 1, 1, 1, 1, 1, 1, 1, 1, 1, 1, 1, 1, 1, 1, 1, 1, 1, 1, 1, 1, 1, 1, 1, 1, 1, 1, 1, 1, 1, 1, 1, 1, 1, 1, 1, 1, 1, 1, 1, 1, 1, 1, 1, 1, 1, 1, 1, 1, 1, 1, 1, 1, 1, 1, 1, 1, 1, 1, 1, 1, 1, 1, 1, 1, 1, 1, 1], [1, 0, 0, 0, 0, 0, 0, 0, 0, 0, 0, 0, 0, 0, 0, 0, 0, 0, 0, 0, 0, 0, 0, 0, 0, 0, 0, 0, 0, 0, 0, 0, 0, 0, 0, 0, 0, 0, 0, 0, 0, 0, 0, 0, 0, 0, 0, 0, 0, 0, 0, 0, 0, 0, 0, 0, 0, 0, 0, 0, 0, 0, 0, 0, 1], [1, -1, 0, 1, -1, 0, 1, -1, 0, 1, -1, 0, 1, -1, 0, 1, -1, 0, 1, -1, 0, 1, -1, 0, 1, -1, 0, 1, -1, 0, 1, -1, 0, 1, -1, 0, 1, -1, 0, 1, -1, 0, 1, 0, -1, 1, 0, -1, 1, 0, -1, 1, 0, -1, 1, 0, -1, 1, 0, -1, 1, 0, -1, 1, 0, -1, 1, 0, -1, 1, 0, -1, 1, 0, -1, 1, 0, -1, 1, 0, -1, 1, 0, -1, 1], [1, 1, 0, 0, 0, -1, -1, 0, 0, 0, 1, 1, 0, -1, -1, -1, -1, 0, 1, 1, 1, 1, 0, -1, -1, -1, 0, 1, 1, 1, 1, 0, -1, -1, -1, -1, 0, 1, 1, 0, 0, 0, -1, -1, 0, 0, 0, 1, 1], [1, 1, 1, 1, 1, 1, 1, 1, 1, 1, 1, 1, 1, 1, 1, 1, 1, 1, 1, 1, 1, 1, 1, 1, 1, 1, 1, 1, 1, 1, 1, 1, 1, 1, 1, 1, 1, 1, 1, 1, 1, 1, 1, 1, 1, 1, 1, 1, 1, 1, 1, 1, 1, 1, 1, 1, 1, 1, 1, 1, 1, 1, 1, 1, 1, 1, 1, 1, 1, 1, 1, 1, 1, 1, 1, 1, 1, 1, 1, 1, 1, 1, 1, 1, 1, 1, 1, 1, 1, 1, 1, 1, 1, 1, 1, 1, 1, 1, 1, 1, 1, 1, 1, 1, 1, 1, 1, 1, 1, 1, 1, 1, 1, 1, 1, 1, 1, 1, 1, 1, 1, 1, 1, 1, 1, 1, 1, 1, 1, 1, 1], [1, 0, 1, 0, 0, 0, -1, 0, -1, 0, 0, 0, 1, 0, 1, 0, 0, 0, -1, 0, -1, 0, -1, 0, 0, 0, 1, 0, 1, 0, 0, 0, -1, 0, -1, 0, 0, 0, 1, 0, 1], [1, -1, 0, 0, 0, 0, 0, 1, -1, 0, 0, 0, 0, 0, 1, -1, 0, 0, 0, 1, -1, 1, -1, 0, 0, 0, 1, -1, 1, -1, 0, 0, 0, 1, -1, 1, -1, 0, 1, -1, 1, -1, 1, -1, 0, 1, -1, 1, -1, 1, -1, 0, 1, -1, 1, -1, 1, 0, -1, 1, -1, 1, -1, 1, 0, -1, 1, -1, 1, -1, 1, 0, -1, 1, -1, 1, 0, 0, 0, -1, 1, -1, 1, 0, 0, 0, -1, 1, -1, 1, 0, 0, 0, -1, 1, 0, 0, 0, 0, 0, -1, 1, 0, 0, 0, 0, 0, -1, 1], [1, -1, 1, -1, 1, -1, 1, -1, 1, -1, 1, -1, 1, -1, 1, -1, 1, -1, 1, -1, 1, -1, 1, -1, 1, -1, 1, -1, 1, -1, 1, -1, 1, -1, 1, -1, 1, -1, 1, -1, 1, -1, 1, -1, 1, -1, 1, -1, 1, -1, 1, -1, 1, -1, 1, -1, 1, -1, 1, -1, 1, -1, 1, -1, 1, -1, 1], [1, 0, 0, 0, 0, 0, 0, 0, 0, -1, 0, 0, 0, 0, 0, 0, 0, 0, 0, 0, 0, 0, 0, 0, 0, 0, 0, 1, 0, 0, 0, 0, 0, 0, 0, 0, -1, 0, 0, 0, 0, 0, 0, 0, 0, 1, 0, 0, 0, 0, 0, 0, 0, 0, 0, 0, 0, 0, 0, 0, 0, 0, 0, -1, 0, 0, 0, 0, 0, 0, 0, 0, 1], [1, 0, 0, 0, -1, 0, 0, 0, 1, 0, 0, 0, -1, 0, 0, 0, 1, 0, 0, 0, -1, 0, 0, 0, 1, 0, 0, 0, -1, 0, 0, 0, 1, 0, 0, 0, -1, 0, 0, 0, 1, 0, 0, 0, -1, 0, 0, 0, 1, 0, 0, 0, -1, 0, 0, 0, 1, 0, 0, 0, -1, 0, 0, 0, 1], [1, 1, 1, 1, 1, 1, 1, 1, 1, 1, 1, 1, 1, 1, 1, 1, 1, 1, 1, 1, 1, 1, 1, 1, 1, 1, 1, 1, 1, 1, 1, 1, 1, 1, 1, 1, 1, 1, 1, 1, 1, 1, 1, 1, 1, 1, 1, 1, 1, 1, 1, 1, 1, 1, 1, 1, 1, 1, 1, 1, 1, 1, 1, 1, 1, 1, 1, 1, 1, 1, 1, 1, 1, 1, 1, 1, 1, 1, 1, 1, 1, 1, 1, 1, 1, 1, 1, 1, 1, 1, 1, 1, 1, 1, 1, 1, 1, 1, 1, 1, 1, 1, 1, 1, 1, 1, 1, 1, 1, 1, 1, 1, 1, 1, 1, 1, 1, 1, 1, 1, 1, 1, 1, 1, 1, 1, 1, 1, 1, 1, 1, 1, 1, 1, 1, 1, 1], [1, 1, 0, -1, -1, 0, 1, 1, 0, -1, -1, 0, 1, 1, 0, -1, -1, 0, 1, 1, 0, -1, -1, -1, 0, 1, 1, 0, -1, -1, 0, 1, 1, 0, -1, -1, 0, 1, 1, 0, -1, -1, 0, 1, 1], [1, 1, 1, 1, 1, 1, 1, 1, 1, 1, 1, 1, 1, 1, 1, 1, 1, 1, 1, 1, 1, 1, 1, 1, 1, 1, 1, 1, 1, 1, 1, 1, 1, 1, 1, 1, 1, 1, 1, 1, 1, 1, 1, 1, 1, 1, 1, 1, 1, 1, 1, 1, 1, 1, 1, 1, 1, 1, 1, 1, 1, 1, 1, 1, 1, 1, 1, 1, 1, 1, 1, 1, 1, 1, 1, 1, 1, 1, 1, 1, 1, 1, 1, 1, 1, 1, 1, 1, 1, 1, 1, 1, 1, 1, 1, 1, 1, 1, 1, 1, 1, 1, 1, 1, 1, 1, 1, 1, 1, 1, 1, 1, 1, 1, 1, 1, 1, 1, 1, 1, 1, 1, 1, 1, 1, 1, 1, 1, 1, 1, 1, 1, 1, 1, 1, 1, 1, 1, 1]]
def ctab7 : List (List Int) := [[1, 0, 1, 0, 0, 0, 0, 0, 0, 0, -1, 0, -1, 0, -1, 0, -1, 0, 0, 0, 1, 0, 1, 0, 1, 0, 1, 0, 1, 0, 0, 0, -1, 0, -1, 0, -1, 0, -1, 0, 0, 0, 0, 0, 0, 0, 1, 0, 1], [1, -1, 0, 1, -1, 0, 1, -1, 0, 1, -1, 0, 1, -1, 0, 1, -1, 0, 1, -1, 0, 1, -1, 0, 1, -1, 0, 1, -1, 0, 1, -1, 0, 1, -1, 0, 1, -1, 0, 1, -1, 0, 1, -1, 0, 1, -1, 1, 0, -1, 1, 0, -1, 1, 0, -1, 1, 0, -1, 1, 0, -1, 1, 0, -1, 1, 0, -1, 1, 0, -1, 1, 0, -1, 1, 0, -1, 1, 0, -1, 1, 0, -1, 1, 0, -1, 1, 0, -1, 1, 0, -1, 1], [1, -1, 1, -1, 1, -1, 1, -1, 1, -1, 1, -1, 1, -1, 1, -1, 1, -1, 1, -1, 1, -1, 1, -1, 1, -1, 1, -1, 1, -1, 1, -1, 1, -1, 1, -1, 1, -1, 1, -1, 1, -1, 1, -1, 1, -1, 1, -1, 1, -1, 1, -1, 1, -1, 1, -1, 1, -1, 1, -1, 1, -1, 1, -1, 1, -1, 1, -1, 1, -1, 1], [1, -1, 0, 0, 0, 0, 0, 0, 0, 0, 0, 1, -1, 1, -1, 0, 0, 0, 0, 0, 0, 0, 1, -1, 1, -1, 1, -1, 0, 0, 0, 0, 0, 1, -1, 1, -1, 1, -1, 1, -1, 0, 0, 0, 1, -1, 1, -1, 1, -1, 1, -1, 1, -1, 0, 1, -1, 1, -1, 1, -1, 1, -1, 1, -1, 1, 0, -1, 1, -1, 1, -1, 1, -1, 1, -1, 1, 0, 0, 0, -1, 1, -1, 1, -1, 1, -1, 1, 0, 0, 0, 0, 0, -1, 1, -1, 1, -1, 1, 0, 0, 0, 0, 0, 0, 0, -1, 1, -1, 1, 0, 0, 0, 0, 0, 0, 0, 0, 0, -1, 1], [1, 0, 0, 0, 0, 0, 0, 0, 0, 0, 0, 0, 0, 0, 0, 0, 0, 0, 0, 0, 0, 0, 0, 0, -1, 0, 0, 0, 0, 0, 0, 0, 0, 0, 0, 0, 0, 0, 0, 0, 0, 0, 0, 0, 0, 0, 0, 0, 1], [1, -1, 0, 0, 0, 1, -1, 0, 0, 0, 1, -1, 0, 0, 0, 1, -1, 0, 0, 0, 1, -1, 0, 0, 0, 1, -1, 0, 0, 1, 0, -1, 0, 0, 1, 0, -1, 0, 0, 1, 0, -1, 0, 0, 1, 0, -1, 0, 0, 1, 0, -1, 0, 0, 1, 0, -1, 0, 1, 0, 0, -1, 0, 1, 0, 0, -1, 0, 1, 0, 0, -1, 0, 1, 0, 0, -1, 0, 1, 0, 0, -1, 0, 1, 0, 0, -1, 1, 0, 0, 0, -1, 1, 0, 0, 0, -1, 1, 0, 0, 0, -1, 1, 0, 0, 0, -1, 1, 0, 0, 0, -1, 1], [1, -1, 1, -1, 1, -1, 1, -1, 1, -1, 1, -1, 1, -1, 1, -1, 1, -1, 1, -1, 1, -1, 1, -1, 1, -1, 1, -1, 1, -1, 1, -1, 1, -1, 1, -1, 1, -1, 1, -1, 1, -1, 1, -1, 1, -1, 1, -1, 1, -1, 1, -1, 1, -1, 1, -1, 1, -1, 1, -1, 1, -1, 1, -1, 1, -1, 1, -1, 1, -1, 1, -1, 1], [1, 0, 0, 0, 0, 0, 0, -1, 0, 0, 0, 0, 0, 0, 0, 0, 0, 0, 0, 0, 0, 1, 0, 0, 0, 0, 0, 0, -1, 0, 0, 0, 0, 0, 0, 0, 0, 0, 0, 0, 0, 0, 1, 0, 0, 0, 0, 0, 0, 0, 0, 0, 0, 0, 0, 0, -1, 0, 0, 0, 0, 0, 0, 1, 0, 0, 0, 0, 0, 0, 0, 0, 0, 0, 0, 0, 0, -1, 0, 0, 0, 0, 0, 0, 1], [1, 0, -1, 0, 1, 0, -1, 0, 1, 0, -1, 0, 1, 0, -1, 0, 1, 0, -1, 0, 1, 0, -1, 0, 1, 0, -1, 0, 1, 0, -1, 0, 1, 0, -1, 0, 1, 0, -1, 0, 1, 0, -1, 0, 1, 0, -1, 0, 1, 0, -1, 0, 1, 0, -1, 0, 1, 0, -1, 0, 1, 0, -1, 0, 1, 0, -1, 0, 1, 0, -1, 0, 1], [1, 1, 1, 1, 1, 1, 1, 1, 1, 1, 1, 1, 1, 1, 1, 1, 1, 1, 1, 1, 1, 1, 1, 1, 1, 1, 1, 1, 1, 1, 1, 1, 1, 1, 1, 1, 1, 1, 1, 1, 1, 1, 1, 1, 1, 1, 1, 1, 1, 1, 1, 1, 1, 1, 1, 1, 1, 1, 1, 1, 1, 1, 1, 1, 1, 1, 1, 1, 1, 1, 1, 1, 1, 1, 1, 1, 1, 1, 1, 1, 1, 1, 1, 1, 1, 1, 1, 1, 1, 1, 1, 1, 1, 1, 1, 1, 1, 1, 1, 1, 1, 1, 1, 1, 1, 1, 1, 1, 1, 1, 1, 1, 1, 1, 1, 1, 1, 1, 1, 1, 1, 1, 1, 1, 1, 1, 1, 1, 1, 1, 1, 1, 1, 1, 1, 1, 1, 1, 1, 1, 1, 1, 1, 1, 1, 1, 1, 1, 1], [1, 0, 0, 0, 0, 1, 0, 0, 0, 0, 0, 0, 0, 0, 0, -1, 0, 0, 0, 0, -1, 0, 0, 0, 0, -1, 0, 0, 0, 0, 0, 0, 0, 0, 0, 1, 0, 0, 0, 0, 1], [1, 1, 1, 1, 1, 1, 1, 1, 1, 1, 1, 1, 1, 1, 1, 1, 1, 1, 1, 1, 1, 1, 1, 1, 1, 1, 1, 1, 1, 1, 1, 1, 1, 1, 1, 1, 1, 1, 1, 1, 1, 1, 1, 1, 1, 1, 1, 1, 1, 1, 1, 1, 1, 1, 1, 1, 1, 1, 1, 1, 1, 1, 1, 1, 1, 1, 1, 1, 1, 1, 1, 1, 1, 1, 1, 1, 1, 1, 1, 1, 1, 1, 1, 1, 1, 1, 1, 1, 1, 1, 1, 1, 1, 1, 1, 1, 1, 1, 1, 1, 1, 1, 1, 1, 1, 1, 1, 1, 1, 1, 1, 1, 1, 1, 1, 1, 1, 1, 1, 1, 1, 1, 1, 1, 1, 1, 1, 1, 1, 1, 1, 1, 1, 1, 1, 1, 1, 1, 1, 1, 1, 1, 1, 1, 1, 1, 1, 1, 1, 1, 1], [1, 0, 0, 0, -1, 0, 0, 0, 1, 0, 0, 0, -1, 0, 0, 0, 1, 0, 0, 0, -1, 0, 0, 0, 1, 0, 0, 0, -1, 0, 0, 0, 1, 0, 0, 0, -1, 0, 0, 0, 1, 0, 0, 0, -1, 0, 0, 0, 1, 0, 0, 0, -1, 0, 0, 0, 1, 0, 0, 0, -1, 0, 0, 0, 1, 0, 0, 0, -1, 0, 0, 0, 1], [1, 0, 0, -1, 0, 0, 0, 0, 0, 1, 0, 0, -1, 0, 0, 0, 0, 0, 1, 0, 0, -1, 0, 0, 0, 0, 0, 1, 0, 0, -1, 0, 0, 0, 0, 0, 1, 0, 0, -1, 0, 0, 0, 0, 0, 1, 0, 0, -1, 0, 0, 1, 0, 0, 0, 0, 0, -1, 0, 0, 1, 0, 0, 0, 0, 0, -1, 0, 0, 1, 0, 0, 0, 0, 0, -1, 0, 0, 1, 0, 0, 0, 0, 0, -1, 0, 0, 1, 0, 0, 0, 0, 0, -1, 0, 0, 1], [1, 1, 0, 0, 0, 0, 0, -1, -1, 0, 0, -1, -1, 0, 1, 1, 0, 0, 1, 1, 0, -1, 0, 1, 0, -1, -1, 0, 1, 0, -1, 0, 1, 0, -1, -1, 0, 1, 0, -1, 0, 1, 1, 0, 0, 1, 1, 0, -1, -1, 0, 0, -1, -1, 0, 0, 0, 0, 0, 1, 1], [1, -1, 0, 0, 0, 1, -1, 0, 0, 0, 1, -1, 0, 0, 0, 1, -1, 0, 0, 0, 1, -1, 0, 0, 0, 1, -1, 0, 0, 0, 1, 0, -1, 0, 0, 1, 0, -1, 0, 0, 1, 0, -1, 0, 0, 1, 0, -1, 0, 0, 1, 0, -1, 0, 0, 1, 0, -1, 0, 0, 1, 0, 0, -1, 0, 1, 0, 0, -1, 0, 1, 0, 0, -1, 0, 1, 0, 0, -1, 0, 1, 0, 0, -1, 0, 1, 0, 0, -1, 0, 1, 0, 0, 0, -1, 1, 0, 0, 0, -1, 1, 0, 0, 0, -1, 1, 0, 0, 0, -1, 1, 0, 0, 0, -1, 1, 0, 0, 0, -1, 1], [1, 0, 1, 0, 0, 0, -1, 0, -1, 0, 0, 0, 1, 0, 1, 0, 0, 0, -1, 0, -1, 0, 0, 0, 1, 0, 0, 0, -1, 0, -1, 0, 0, 0, 1, 0, 1, 0, 0, 0, -1, 0, -1, 0, 0, 0, 1, 0, 1], [1, 1, 1, 1, 1, 1, 1, 1, 1, 1, 1, 1, 1, 1, 1, 1, 1, 1, 1, 1, 1, 1, 1, 1, 1, 1, 1, 1, 1, 1, 1, 1, 1, 1, 1, 1, 1, 1, 1, 1, 1, 1, 1, 1, 1, 1, 1, 1, 1, 1, 1, 1, 1, 1, 1, 1, 1, 1, 1, 1, 1, 1, 1, 1, 1, 1, 1, 1, 1, 1, 1, 1, 1, 1, 1, 1, 1, 1, 1, 1, 1, 1, 1, 1, 1, 1, 1, 1, 1, 1, 1, 1, 1, 1, 1, 1, 1, 1, 1, 1, 1, 1, 1, 1, 1, 1, 1, 1, 1, 1, 1, 1, 1, 1, 1, 1, 1, 1, 1, 1, 1, 1, 1, 1, 1, 1, 1, 1, 1, 1, 1, 1, 1, 1, 1, 1, 1, 1, 1, 1, 1, 1, 1, 1, 1, 1, 1, 1, 1, 1, 1, 1, 1, 1, 1, 1, 1], [1, -1, 1, -1, 1, -1, 1, -1, 1, -1, 1, -1, 1, -1, 1, -1, 1, -1, 1, -1, 1, -1, 1, -1, 1, -1, 1, -1, 1, -1, 1, -1, 1, -1, 1, -1, 1, -1, 1, -1, 1, -1, 1, -1, 1, -1, 1, -1, 1, -1, 1, -1, 1, -1, 1, -1, 1, -1, 1, -1, 1, -1, 1, -1, 1, -1, 1, -1, 1, -1, 1, -1, 1, -1, 1, -1, 1, -1, 1], [1, -1, 0, 1, -1, 0, 1, -1, 0, 1, -1, 0, 1, -1, 0, 1, -1, 0, 1, -1, 0, 1, -1, 0, 1, -1, 0, 1, -1, 0, 1, -1, 0, 1, -1, 0, 1, -1, 0, 1, -1, 0, 1, -1, 0, 1, -1, 0, 1, -1, 0, 1, -1, 1, 0, -1, 1, 0, -1, 1, 0, -1, 1, 0, -1, 1, 0, -1, 1, 0, -1, 1, 0, -1, 1, 0, -1, 1, 0, -1, 1, 0, -1, 1, 0, -1, 1, 0, -1, 1, 0, -1, 1, 0, -1, 1, 0, -1, 1, 0, -1, 1, 0, -1, 1]]
def ctab8 : List (List Int) := [[1, 0, 0, 0, 0, 0, 0, 0, 0, 0, 0, 0, 0, 0, 0, 0, -1, 0, 0, 0, 0, 0, 0, 0, 0, 0, 0, 0, 0, 0, 0, 0, 1, 0, 0, 0, 0, 0, 0, 0, 0, 0, 0, 0, 0, 0, 0, 0, -1, 0, 0, 0, 0, 0, 0, 0, 0, 0, 0, 0, 0, 0, 0, 0, 1], [1, -1, 0, 0, 0, 0, 0, 1, -1, 0, 0, 0, 0, 0, 1, -1, 0, 0, 0, 0, 0, 1, -1, 1, -1, 0, 0, 0, 1, -1, 1, -1, 0, 0, 0, 1, -1, 1, -1, 0, 0, 0, 1, -1, 1, -1, 1, -1, 0, 1, -1, 1, -1, 1, -1, 0, 1, -1, 1, -1, 1, -1, 0, 1, -1, 1, -1, 1, -1, 1, 0, -1, 1, -1, 1, -1, 1, 0, -1, 1, -1, 1, -1, 1, 0, -1, 1, -1, 1, -1, 1, 0, 0, 0, -1, 1, -1, 1, 0, 0, 0, -1, 1, -1, 1, 0, 0, 0, -1, 1, -1, 1, 0, 0, 0, 0, 0, -1, 1, 0, 0, 0, 0, 0, -1, 1, 0, 0, 0, 0, 0, -1, 1], [1, 0, 0, 0, 0, 0, 0, 0, 0, 0, 0, 0, 0, 0, 0, 0, 0, 0, 0, 0, 0, 0, 0, 0, 0, 0, 0, -1, 0, 0, 0, 0, 0, 0, 0, 0, 0, 0, 0, 0, 0, 0, 0, 0, 0, 0, 0, 0, 0, 0, 0, 0, 0, 0, 1], [1, 1, 1, 1, 1, 1, 1, 1, 1, 1, 1, 1, 1, 1, 1, 1, 1, 1, 1, 1, 1, 1, 1, 1, 1, 1, 1, 1, 1, 1, 1, 1, 1, 1, 1, 1, 1, 1, 1, 1, 1, 1, 1, 1, 1, 1, 1, 1, 1, 1, 1, 1, 1, 1, 1, 1, 1, 1, 1, 1, 1, 1, 1, 1, 1, 1, 1, 1, 1, 1, 1, 1, 1, 1, 1, 1, 1, 1, 1, 1, 1, 1, 1, 1, 1, 1, 1, 1, 1, 1, 1, 1, 1, 1, 1, 1, 1, 1, 1, 1, 1, 1, 1, 1, 1, 1, 1, 1, 1, 1, 1, 1, 1, 1, 1, 1, 1, 1, 1, 1, 1, 1, 1, 1, 1, 1, 1, 1, 1, 1, 1, 1, 1, 1, 1, 1, 1, 1, 1, 1, 1, 1, 1, 1, 1, 1, 1, 1, 1, 1, 1, 1, 1, 1, 1, 1, 1, 1, 1, 1, 1, 1, 1], [1, 0, -1, 0, 1, 0, -1, 0, 1, 0, -1, 0, 1, 0, -1, 0, 1, 0, -1, 0, 1, 0, -1, 0, 1, 0, -1, 0, 1, 0, -1, 0, 1, 0, -1, 0, 1, 0, -1, 0, 1, 0, -1, 0, 1, 0, -1, 0, 1, 0, -1, 0, 1, 0, -1, 0, 1, 0, -1, 0, 1, 0, -1, 0, 1, 0, -1, 0, 1, 0, -1, 0, 1, 0, -1, 0, 1, 0, -1, 0, 1], [1, 1, 1, 0, 0, -1, -1, -1, 0, 0, 0, -1, -1, -1, 0, 1, 2, 2, 1, 0, -1, -1, -1, 0, 0, 0, -1, -1, -1, 0, 1, 2, 2, 2, 1, 0, -1, -1, -1, -1, -1, -1, -1, -1, -1, 0, 1, 2, 2, 2, 1, 0, -1, -1, -1, 0, 0, 0, -1, -1, -1, 0, 1, 2, 2, 1, 0, -1, -1, -1, 0, 0, 0, -1, -1, -1, 0, 0, 1, 1, 1], [1, -1, 1, -1, 1, -1, 1, -1, 1, -1, 1, -1, 1, -1, 1, -1, 1, -1, 1, -1, 1, -1, 1, -1, 1, -1, 1, -1, 1, -1, 1, -1, 1, -1, 1, -1, 1, -1, 1, -1, 1, -1, 1, -1, 1, -1, 1, -1, 1, -1, 1, -1, 1, -1, 1, -1, 1, -1, 1, -1, 1, -1, 1, -1, 1, -1, 1, -1, 1, -1, 1, -1, 1, -1, 1, -1, 1, -1, 1, -1, 1, -1, 1], [1, 1, 1, 1, 1, 1, 1, 1, 1, 1, 1, 1, 1, 1, 1, 1, 1, 1, 1, 1, 1, 1, 1, 1, 1, 1, 1, 1, 1, 1, 1, 1, 1, 1, 1, 1, 1, 1, 1, 1, 1, 1, 1, 1, 1, 1, 1, 1, 1, 1, 1, 1, 1, 1, 1, 1, 1, 1, 1, 1, 1, 1, 1, 1, 1, 1, 1, 1, 1, 1, 1, 1, 1, 1, 1, 1, 1, 1, 1, 1, 1, 1, 1, 1, 1, 1, 1, 1, 1, 1, 1, 1, 1, 1, 1, 1, 1, 1, 1, 1, 1, 1, 1, 1, 1, 1, 1, 1, 1, 1, 1, 1, 1, 1, 1, 1, 1, 1, 1, 1, 1, 1, 1, 1, 1, 1, 1, 1, 1, 1, 1, 1, 1, 1, 1, 1, 1, 1, 1, 1, 1, 1, 1, 1, 1, 1, 1, 1, 1, 1, 1, 1, 1, 1, 1, 1, 1, 1, 1, 1, 1, 1, 1, 1, 1, 1, 1], [1, 0, 0, 0, 1, 0, 0, 0, 0, 0, 0, 0, -1, 0, 0, 0, -1, 0, 0, 0, 0, 0, 0, 0, 1, 0, 0, 0, 0, 0, 0, 0, -1, 0, 0, 0, -1, 0, 0, 0, 0, 0, 0, 0, 1, 0, 0, 0, 1], [1, 0, 0, 0, 0, 0, 0, 0, 0, 0, 0, 0, 0, 1, 0, 0, 0, 0, 0, 0, 0, 0, 0, 0, 0, 0, 1, 0, 0, 0, 0, 0, 0, 0, 0, 0, 0, 0, 0, 1, 0, 0, 0, 0, 0, 0, 0, 0, 0, 0, 0, 0, 1, 0, 0, 0, 0, 0, 0, 0, 0, 0, 0, 0, 0, 1, 0, 0, 0, 0, 0, 0, 0, 0, 0, 0, 0, 0, 1, 0, 0, 0, 0, 0, 0, 0, 0, 0, 0, 0, 0, 1, 0, 0, 0, 0, 0, 0, 0, 0, 0, 0, 0, 0, 1, 0, 0, 0, 0, 0, 0, 0, 0, 0, 0, 0, 0, 1, 0, 0, 0, 0, 0, 0, 0, 0, 0, 0, 0, 0, 1, 0, 0, 0, 0, 0, 0, 0, 0, 0, 0, 0, 0, 1, 0, 0, 0, 0, 0, 0, 0, 0, 0, 0, 0, 0, 1], [1, 1, 0, 0, 0, -1, -1, 0, 0, 0, 1, 1, 0, 0, 0, -1, -1, -1, -1, 0, 1, 1, 1, 1, 0, -1, -1, -1, -1, 0, 1, 1, 1, 1, 1, 0, -1, -1, -1, -1, 0, 1, 1, 1, 1, 0, -1, -1, -1, -1, 0, 0, 0, 1, 1, 0, 0, 0, -1, -1, 0, 0, 0, 1, 1], [1, 0, 0, -1, 0, 0, 0, 0, 0, 1, 0, 0, -1, 0, 0, 0, 0, 0, 1, 0, 0, -1, 0, 0, 0, 0, 0, 1, 0, 0, -1, 0, 0, 0, 0, 0, 1, 0, 0, -1, 0, 0, 0, 0, 0, 1, 0, 0, -1, 0, 0, 0, 0, 0, 1, 0, 0, 0, 0, 0, -1, 0, 0, 1, 0, 0, 0, 0, 0, -1, 0, 0, 1, 0, 0, 0, 0, 0, -1, 0, 0, 1, 0, 0, 0, 0, 0, -1, 0, 0, 1, 0, 0, 0, 0, 0, -1, 0, 0, 1, 0, 0, 0, 0, 0, -1, 0, 0, 1], [1, 0, -1, 0, 1, 0, -1, 0, 1, 0, -1, 0, 1, 0, -1, 0, 1, 0, -1, 0, 1, 0, -1, 0, 1, 0, -1, 0, 1, 0, -1, 0, 1, 0, -1, 0, 1, 0, -1, 0, 1, 0, -1, 0, 1, 0, -1, 0, 1, 0, -1, 0, 1, 0, -1, 0, 1, 0, -1, 0, 1, 0, -1, 0, 1, 0, -1, 0, 1, 0, -1, 0, 1, 0, -1, 0, 1, 0, -1, 0, 1, 0, -1, 0, 1], [1, 1, 1, 1, 1, 1, 1, 1, 1, 1, 1, 1, 1, 1, 1, 1, 1, 1, 1, 1, 1, 1, 1, 1, 1, 1, 1, 1, 1, 1, 1, 1, 1, 1, 1, 1, 1, 1, 1, 1, 1, 1, 1, 1, 1, 1, 1, 1, 1, 1, 1, 1, 1, 1, 1, 1, 1, 1, 1, 1, 1, 1, 1, 1, 1, 1, 1, 1, 1, 1, 1, 1, 1, 1, 1, 1, 1, 1, 1, 1, 1, 1, 1, 1, 1, 1, 1, 1, 1, 1, 1, 1, 1, 1, 1, 1, 1, 1, 1, 1, 1, 1, 1, 1, 1, 1, 1, 1, 1, 1, 1, 1, 1, 1, 1, 1, 1, 1, 1, 1, 1, 1, 1, 1, 1, 1, 1, 1, 1, 1, 1, 1, 1, 1, 1, 1, 1, 1, 1, 1, 1, 1, 1, 1, 1, 1, 1, 1, 1, 1, 1, 1, 1, 1, 1, 1, 1, 1, 1, 1, 1, 1, 1, 1, 1, 1, 1, 1, 1, 1, 1, 1, 1], [1, 1, 0, -1, -1, 0, 1, 1, 0, -1, -1, 0, 1, 1, 0, -1, -1, 0, 1, 1, 0, -1, -1, 0, 1, 1, 0, -1, -1, -1, 0, 1, 1, 0, -1, -1, 0, 1, 1, 0, -1, -1, 0, 1, 1, 0, -1, -1, 0, 1, 1, 0, -1, -1, 0, 1, 1], [1, 0, 0, 0, 0, -1, 0, 0, 0, 0, 0, 0, 0, 0, 0, 0, 0, 0, 0, 0, 0, 0, 0, 0, 0, 1, 0, 0, 0, 0, -1, 0, 0, 0, 0, 1, 0, 0, 0, 0, -1, 0, 0, 0, 0, 0, 0, 0, 0, 0, 1, 0, 0, 0, 0, -1, 0, 0, 0, 0, 1, 0, 0, 0, 0, -1, 0, 0, 0, 0, 1, 0, 0, 0, 0, 0, 0, 0, 0, 0, -1, 0, 0, 0, 0, 1, 0, 0, 0, 0, -1, 0, 0, 0, 0, 1, 0, 0, 0, 0, 0, 0, 0, 0, 0, 0, 0, 0, 0, 0, 0, 0, 0, 0, 0, -1, 0, 0, 0, 0, 1], [1, 0, 0, 0, 0, 0, 0, 0, -1, 0, 0, 0, 0, 0, 0, 0, 1, 0, 0, 0, 0, 0, 0, 0, -1, 0, 0, 0, 0, 0, 0, 0, 1, 0, 0, 0, 0, 0, 0, 0, -1, 0, 0, 0, 0, 0, 0, 0, 1, 0, 0, 0, 0, 0, 0, 0, -1, 0, 0, 0, 0, 0, 0, 0, 1, 0, 0, 0, 0, 0, 0, 0, -1, 0, 0, 0, 0, 0, 0, 0, 1], [1, -1, 0, 1, -1, 0, 1, -1, 0, 1, -1, 0, 1, -1, 0, 1, -1, 0, 1, -1, 0, 1, -1, 0, 1, -1, 0, 1, -1, 0, 1, -1, 0, 1, -1, 0, 1, -1, 0, 1, -1, 0, 1, -1, 0, 1, -1, 0, 1, -1, 0, 1, -1, 0, 1, -1, 0, 1, -1, 1, 0, -1, 1, 0, -1, 1, 0, -1, 1, 0, -1, 1, 0, -1, 1, 0, -1, 1, 0, -1, 1, 0, -1, 1, 0, -1, 1, 0, -1, 1, 0, -1, 1, 0, -1, 1, 0, -1, 1, 0, -1, 1, 0, -1, 1, 0, -1, 1, 0, -1, 1, 0, -1, 1, 0, -1, 1], [1, -1, 1, -1, 1, -1, 1, -1, 1, -1, 1, -1, 1, -1, 1, -1, 1, -1, 1, -1, 1, -1, 1, -1, 1, -1, 1, -1, 1, -1, 1, -1, 1, -1, 1, -1, 1, -1, 1, -1, 1, -1, 1, -1, 1, -1, 1, -1, 1, -1, 1, -1, 1, -1, 1, -1, 1, -1, 1, -1, 1, -1, 1, -1, 1, -1, 1, -1, 1, -1, 1, -1, 1, -1, 1, -1, 1, -1, 1, -1, 1, -1, 1, -1, 1, -1, 1, -1, 1], [1, 1, 1, 1, 1, 1, 1, 1, 1, 1, 1, 1, 1, 1, 1, 1, 1, 1, 1, 1, 1, 1, 1, 1, 1, 1, 1, 1, 1, 1, 1, 1, 1, 1, 1, 1, 1, 1, 1, 1, 1, 1, 1, 1, 1, 1, 1, 1, 1, 1, 1, 1, 1, 1, 1, 1, 1, 1, 1, 1, 1, 1, 1, 1, 1, 1, 1, 1, 1, 1, 1, 1, 1, 1, 1, 1, 1, 1, 1, 1, 1, 1, 1, 1, 1, 1, 1, 1, 1, 1, 1, 1, 1, 1, 1, 1, 1, 1, 1, 1, 1, 1, 1, 1, 1, 1, 1, 1, 1, 1, 1, 1, 1, 1, 1, 1, 1, 1, 1, 1, 1, 1, 1, 1, 1, 1, 1, 1, 1, 1, 1, 1, 1, 1, 1, 1, 1, 1, 1, 1, 1, 1, 1, 1, 1, 1, 1, 1, 1, 1, 1, 1, 1, 1, 1, 1, 1, 1, 1, 1, 1, 1, 1, 1, 1, 1, 1, 1, 1, 1, 1, 1, 1, 1, 1, 1, 1, 1, 1]]
def ctab9 : List (List Int) := [[1, 0, 0, 0, 0, 0, 1, 0, 0, 0, 0, 0, 0, 0, 0, 0, 0, 0, -1, 0, 0, 0, 0, 0, -1, 0, 0, 0, 0, 0, -1, 0, 0, 0, 0, 0, 0, 0, 0, 0, 0, 0, 1, 0, 0, 0, 0, 0, 1], [1, 1, 1, 1, 1, 1, 1, 1, 1, 1, 1, 1, 1, 1, 1, 1, 1, 1, 1, 1, 1, 1, 1, 1, 1, 1, 1, 1, 1, 1, 1, 1, 1, 1, 1, 1, 1, 1, 1, 1, 1, 1, 1, 1, 1, 1, 1, 1, 1, 1, 1, 1, 1, 1, 1, 1, 1, 1, 1, 1, 1, 1, 1, 1, 1, 1, 1, 1, 1, 1, 1, 1, 1, 1, 1, 1, 1, 1, 1, 1, 1, 1, 1, 1, 1, 1, 1, 1, 1, 1, 1, 1, 1, 1, 1, 1, 1, 1, 1, 1, 1, 1, 1, 1, 1, 1, 1, 1, 1, 1, 1, 1, 1, 1, 1, 1, 1, 1, 1, 1, 1, 1, 1, 1, 1, 1, 1, 1, 1, 1, 1, 1, 1, 1, 1, 1, 1, 1, 1, 1, 1, 1, 1, 1, 1, 1, 1, 1, 1, 1, 1, 1, 1, 1, 1, 1, 1, 1, 1, 1, 1, 1, 1, 1, 1, 1, 1, 1, 1, 1, 1, 1, 1, 1, 1, 1, 1, 1, 1, 1, 1], [1, 1, 0, 0, 0, 0, 0, -1, -1, 0, 0, 0, 0, -1, 0, 1, 0, 0, 0, 0, 1, 0, -1, 0, 0, 0, 1, 0, 0, 1, 0, 0, 0, -1, 0, 0, -1, 0, 0, -1, 0, 0, 0, 1, 0, 0, 1, 0, 0, 0, -1, 0, 1, 0, 0, 0, 0, 1, 0, -1, 0, 0, 0, 0, -1, -1, 0, 0, 0, 0, 0, 1, 1], [1, -1, 0, 1, -1, 0, 1, -1, 0, 1, -1, 0, 1, -1, 0, 1, -1, 0, 1, -1, 0, 1, -1, 0, 1, -1, 0, 1, -1, 0, 1, -1, 0, 1, -1, 0, 1, -1, 0, 1, -1, 0, 1, -1, 0, 1, -1, 0, 1, -1, 0, 1, -1, 0, 1, -1, 0, 1, -1, 0, 1, 0, -1, 1, 0, -1, 1, 0, -1, 1, 0, -1, 1, 0, -1, 1, 0, -1, 1, 0, -1, 1, 0, -1, 1, 0, -1, 1, 0, -1, 1, 0, -1, 1, 0, -1, 1, 0, -1, 1, 0, -1, 1, 0, -1, 1, 0, -1, 1, 0, -1, 1, 0, -1, 1, 0, -1, 1, 0, -1, 1], [1, 0, 0, 0, -1, 0, 0, 0, 1, 0, 0, 0, -1, 0, 0, 0, 1, 0, 0, 0, -1, 0, 0, 0, 1, 0, 0, 0, -1, 0, 0, 0, 1, 0, 0, 0, -1, 0, 0, 0, 1, 0, 0, 0, -1, 0, 0, 0, 1, 0, 0, 0, -1, 0, 0, 0, 1, 0, 0, 0, -1, 0, 0, 0, 1, 0, 0, 0, -1, 0, 0, 0, 1, 0, 0, 0, -1, 0, 0, 0, 1, 0, 0, 0, -1, 0, 0, 0, 1], [1, -1, 0, 0, 0, 1, -1, 0, 0, 0, 1, -1, 0, 0, 0, 1, -1, 0, 0, 0, 1, -1, 0, 0, 0, 1, -1, 0, 0, 0, 1, -1, 0, 0, 0, 1, -1, 1, -1, 0, 1, -1, 1, -1, 0, 1, -1, 1, -1, 0, 1, -1, 1, -1, 0, 1, -1, 1, -1, 0, 1, -1, 1, -1, 0, 1, -1, 1, -1, 0, 1, -1, 1, -1, 1, 0, -1, 1, -1, 1, 0, -1, 1, -1, 1, 0, -1, 1, -1, 1, 0, -1, 1, -1, 1, 0, -1, 1, -1, 1, 0, -1, 1, -1, 1, 0, -1, 1, -1, 1, 0, 0, 0, -1, 1, 0, 0, 0, -1, 1, 0, 0, 0, -1, 1, 0, 0, 0, -1, 1, 0, 0, 0, -1, 1, 0, 0, 0, -1, 1, 0, 0, 0, -1, 1], [1, 1, 0, -1, -1, 0, 1, 1, 0, -1, -1, 0, 1, 1, 0, -1, -1, 0, 1, 1, 0, -1, -1, 0, 1, 1, 0, -1, -1, 0, 1, 0, -1, -1, 0, 1, 1, 0, -1, -1, 0, 1, 1, 0, -1, -1, 0, 1, 1, 0, -1, -1, 0, 1, 1, 0, -1, -1, 0, 1, 1], [1, -1, 0, 0, 0, 0, 0, 0, 0, 0, 0, 1, -1, 0, 0, 0, 0, 1, -1, 0, 0, 0, 1, -1, 0, 0, 0, 0, 1, -1, 0, 0, 0, 1, 0, -1, 0, 0, 0, 1, -1, 0, 0, 0, 1, 0, -1, 0, 0, 0, 1, 0, -1, 0, 0, 1, 0, -1, 0, 0, 0, 1, 0, -1, 0, 0, 1, 0, 0, -1, 0, 0, 1, 0, -1, 0, 0, 1, 0, 0, -1, 0, 0, 1, 0, 0, -1, 0, 1, 0, 0, -1, 0, 0, 1, 0, 0, -1, 0, 1, 0, 0, 0, -1, 0, 1, 0, 0, -1, 0, 1, 0, 0, 0, -1, 0, 1, 0, 0, 0, -1, 1, 0, 0, 0, -1, 0, 1, 0, 0, 0, -1, 1, 0, 0, 0, 0, -1, 1, 0, 0, 0, -1, 1, 0, 0, 0, 0, -1, 1, 0, 0, 0, 0, 0, 0, 0, 0, 0, -1, 1], [1, 0, -1, 0, 1, 0, -1, 0, 1, 0, -1, 0, 1, 0, -1, 0, 1, 0, -1, 0, 1, 0, -1, 0, 1, 0, -1, 0, 1, 0, -1, 0, 1, 0, -1, 0, 1, 0, -1, 0, 1, 0, -1, 0, 1, 0, -1, 0, 1, 0, -1, 0, 1, 0, -1, 0, 1, 0, -1, 0, 1, 0, -1, 0, 1, 0, -1, 0, 1, 0, -1, 0, 1, 0, -1, 0, 1, 0, -1, 0, 1, 0, -1, 0, 1, 0, -1, 0, 1, 0, -1, 0, 1], [1, 0, 0, 0, 0, 0, 0, 0, 0, -1, 0, 0, 0, 0, 0, 0, 0, 0, 0, 0, 0, 0, 0, 0, 0, 0, 0, 1, 0, 0, 0, 0, 0, 0, 0, 0, -1, 0, 0, 0, 0, 0, 0, 0, 0, 0, 0, 0, 0, 0, 0, 0, 0, 0, 1, 0, 0, 0, 0, 0, 0, 0, 0, 0, 0, 0, 0, 0, 0, 0, 0, 0, -1, 0, 0, 0, 0, 0, 0, 0, 0, 1, 0, 0, 0, 0, 0, 0, 0, 0, 0, 0, 0, 0, 0, 0, 0, 0, 0, -1, 0, 0, 0, 0, 0, 0, 0, 0, 1], [1, 1, 0, 0, 0, -1, -1, 0, 0, 0, 1, 1, 0, 0, 0, -1, -1, 0, 0, -1, 0, 1, 0, 0, 1, 0, -1, 0, 0, -1, 0, 1, 0, 0, 1, 0, -1, 0, 1, 0, 0, 1, 0, -1, 0, 0, -1, 0, 1, 0, 0, 1, 0, -1, 0, 0, -1, -1, 0, 0, 0, 1, 1, 0, 0, 0, -1, -1, 0, 0, 0, 1, 1], [1, 1, 1, 1, 1, 1, 1, 1, 1, 1, 1, 1, 1, 1, 1, 1, 1, 1, 1, 1, 1, 1, 1, 1, 1, 1, 1, 1, 1, 1, 1, 1, 1, 1, 1, 1, 1, 1, 1, 1, 1, 1, 1, 1, 1, 1, 1, 1, 1, 1, 1, 1, 1, 1, 1, 1, 1, 1, 1, 1, 1, 1, 1, 1, 1, 1, 1, 1, 1, 1, 1, 1, 1, 1, 1, 1, 1, 1, 1, 1, 1, 1, 1, 1, 1, 1, 1, 1, 1, 1, 1, 1, 1, 1, 1, 1, 1, 1, 1, 1, 1, 1, 1, 1, 1, 1, 1, 1, 1, 1, 1, 1, 1, 1, 1, 1, 1, 1, 1, 1, 1, 1, 1, 1, 1, 1, 1, 1, 1, 1, 1, 1, 1, 1, 1, 1, 1, 1, 1, 1, 1, 1, 1, 1, 1, 1, 1, 1, 1, 1, 1, 1, 1, 1, 1, 1, 1, 1, 1, 1, 1, 1, 1, 1, 1, 1, 1, 1, 1, 1, 1, 1, 1, 1, 1, 1, 1, 1, 1, 1, 1, 1, 1, 1, 1, 1, 1, 1, 1, 1, 1], [1, 0, 0, 0, 0, 0, 0, 0, 0, 0, 0, 0, 0, 0, 0, 0, 0, 0, 0, 0, 0, 0, 0, 0, 0, 0, 0, 0, 0, 0, 0, 0, -1, 0, 0, 0, 0, 0, 0, 0, 0, 0, 0, 0, 0, 0, 0, 0, 0, 0, 0, 0, 0, 0, 0, 0, 0, 0, 0, 0, 0, 0, 0, 0, 1], [1, 1, 1, 1, 1, 1, 1, 1, 1, 1, 1, 1, 1, 1, 1, 1, 1, 1, 1, 1, 1, 1, 1, 1, 1, 1, 1, 1, 1, 1, 1, 1, 1, 1, 1, 1, 1, 1, 1, 1, 1, 1, 1, 1, 1, 1, 1, 1, 1, 1, 1, 1, 1, 1, 1, 1, 1, 1, 1, 1, 1, 1, 1, 1, 1, 1, 1, 1, 1, 1, 1, 1, 1, 1, 1, 1, 1, 1, 1, 1, 1, 1, 1, 1, 1, 1, 1, 1, 1, 1, 1, 1, 1, 1, 1, 1, 1, 1, 1, 1, 1, 1, 1, 1, 1, 1, 1, 1, 1, 1, 1, 1, 1, 1, 1, 1, 1, 1, 1, 1, 1, 1, 1, 1, 1, 1, 1, 1, 1, 1, 1, 1, 1, 1, 1, 1, 1, 1, 1, 1, 1, 1, 1, 1, 1, 1, 1, 1, 1, 1, 1, 1, 1, 1, 1, 1, 1, 1, 1, 1, 1, 1, 1, 1, 1, 1, 1, 1, 1, 1, 1, 1, 1, 1, 1, 1, 1, 1, 1, 1, 1, 1, 1, 1, 1, 1, 1, 1, 1, 1, 1, 1, 1], [1, -1, 1, -1, 1, -1, 1, -1, 1, -1, 1, -1, 1, -1, 1, -1, 1, -1, 1, -1, 1, -1, 1, -1, 1, -1, 1, -1, 1, -1, 1, -1, 1, -1, 1, -1, 1, -1, 1, -1, 1, -1, 1, -1, 1, -1, 1, -1, 1, -1, 1, -1, 1, -1, 1, -1, 1, -1, 1, -1, 1, -1, 1, -1, 1, -1, 1, -1, 1, -1, 1, -1, 1, -1, 1, -1, 1, -1, 1, -1, 1, -1, 1, -1, 1, -1, 1, -1, 1, -1, 1, -1, 1, -1, 1, -1, 1], [1, 1, 1, 0, 0, -1, -1, -1, 0, 0, 0, 0, 0, -1, -1, 0, 1, 1, 1, 1, 0, -1, -1, 0, 0, 0, 0, 0, -1, -1, 0, 1, 1, 1, 1, 0, -1, -1, 0, 1, 1, 1, 0, -1, -2, -1, 0, 1, 1, 1, 0, -1, -2, -1, 0, 1, 1, 1, 0, -1, -1, 0, 1, 1, 1, 1, 0, -1, -1, 0, 0, 0, 0, 0, -1, -1, 0, 1, 1, 1, 1, 0, -1, -1, 0, 0, 0, 0, 0, -1, -1, -1, 0, 0, 1, 1, 1], [1, 0, 0, 0, 0, 0, 0, 0, 0, 0, 0, 0, 0, 0, -1, 0, 0, 0, 0, 0, 0, 0, 0, 0, 0, 0, 0, 0, 1, 0, 0, 0, 0, 0, 0, 0, 0, 0, 0, 0, 0, 0, -1, 0, 0, 0, 0, 0, 0, 0, 0, 0, 0, 0, 0, 0, 1, 0, 0, 0, 0, 0, 0, 0, 0, 0, 0, 0, 0, 0, -1, 0, 0, 0, 0, 0, 0, 0, 0, 0, 0, 0, 0, 0, 1], [1, 1, 1, 1, 1, 1, 1, 1, 1, 1, 1, 1, 1, 1, 1, 1, 1, 1, 1, 1, 1, 1, 1, 1, 1, 1, 1, 1, 1, 1, 1, 1, 1, 1, 1, 1, 1, 1, 1, 1, 1, 1, 1, 1, 1, 1, 1, 1, 1, 1, 1, 1, 1, 1, 1, 1, 1, 1, 1, 1, 1, 1, 1, 1, 1, 1, 1, 1, 1, 1, 1, 1, 1, 1, 1, 1, 1, 1, 1, 1, 1, 1, 1, 1, 1, 1, 1, 1, 1, 1, 1, 1, 1, 1, 1, 1, 1, 1, 1, 1, 1, 1, 1, 1, 1, 1, 1, 1, 1, 1, 1, 1, 1, 1, 1, 1, 1, 1, 1, 1, 1, 1, 1, 1, 1, 1, 1, 1, 1, 1, 1, 1, 1, 1, 1, 1, 1, 1, 1, 1, 1, 1, 1, 1, 1, 1, 1, 1, 1, 1, 1, 1, 1, 1, 1, 1, 1, 1, 1, 1, 1, 1, 1, 1, 1, 1, 1, 1, 1, 1, 1, 1, 1, 1, 1, 1, 1, 1, 1, 1, 1, 1, 1, 1, 1, 1, 1, 1, 1, 1, 1, 1, 1, 1, 1, 1, 1], [1, 0, 0, 1, 0, 0, 0, 0, 0, -1, 0, 0, -1, 0, 0, 0, 0, 0, 1, 0, 0, 1, 0, 0, 0, 0, 0, -1, 0, 0, -1, 0, 0, -1, 0, 0, 0, 0, 0, 1, 0, 0, 1, 0, 0, 0, 0, 0, -1, 0, 0, -1, 0, 0, 0, 0, 0, 1, 0, 0, 1], [1, 1, 1, 1, 1, 1, 1, 1, 1, 1, 1, 1, 1, 1, 1, 1, 1, 1, 1, 1, 1, 1, 1, 1, 1, 1, 1, 1, 1, 1, 1, 1, 1, 1, 1, 1, 1, 1, 1, 1, 1, 1, 1, 1, 1, 1, 1, 1, 1, 1, 1, 1, 1, 1, 1, 1, 1, 1, 1, 1, 1, 1, 1, 1, 1, 1, 1, 1, 1, 1, 1, 1, 1, 1, 1, 1, 1, 1, 1, 1, 1, 1, 1, 1, 1, 1, 1, 1, 1, 1, 1, 1, 1, 1, 1, 1, 1, 1, 1, 1, 1, 1, 1, 1, 1, 1, 1, 1, 1, 1, 1, 1, 1, 1, 1, 1, 1, 1, 1, 1, 1, 1, 1, 1, 1, 1, 1, 1, 1, 1, 1, 1, 1, 1, 1, 1, 1, 1, 1, 1, 1, 1, 1, 1, 1, 1, 1, 1, 1, 1, 1, 1, 1, 1, 1, 1, 1, 1, 1, 1, 1, 1, 1, 1, 1, 1, 1, 1, 1, 1, 1, 1, 1, 1, 1, 1, 1, 1, 1, 1, 1, 1, 1, 1, 1, 1, 1, 1, 1, 1, 1, 1, 1, 1, 1, 1, 1, 1, 1]]
def ctab10 : List (List Int) := [[1, 0, 0, 0, 0, 0, 0, 0, 0, 0, 0, 0, 0, 0, 0, 0, 0, 0, 0, 0, -1, 0, 0, 0, 0, 0, 0, 0, 0, 0, 0, 0, 0, 0, 0, 0, 0, 0, 0, 0, 1, 0, 0, 0, 0, 0, 0, 0, 0, 0, 0, 0, 0, 0, 0, 0, 0, 0, 0, 0, -1, 0, 0, 0, 0, 0, 0, 0, 0, 0, 0, 0, 0, 0, 0, 0, 0, 0, 0, 0, 1]]
def ct (m : Nat) : List Int := match m / 20 with
  | 0 => ctab0.getD (m % 20) []
  | 1 => ctab1.getD (m % 20) []
  | 2 => ctab2.getD (m % 20) []
  | 3 => ctab3.getD (m % 20) []
  | 4 => ctab4.getD (m % 20) []
  | 5 => ctab5.getD (m % 20) []
  | 6 => ctab6.getD (m % 20) []
  | 7 => ctab7.getD (m % 20) []
  | 8 => ctab8.getD (m % 20) []
  | 9 => ctab9.getD (m % 20) []
  | 10 => ctab10.getD (m % 20) []
  | _ => []
def dvs (m : Nat) : List Nat := (List.range m).filter fun d => d != 0 && m % d == 0
/-- the circle's for m, times the circles' for these -/
def nest (m : Nat) : List Nat → List Int
  | [] => ct m
  | d :: ds => conv (nest m ds) (ct d)
def nestE (B : Int) (m : Nat) : List Nat → Int
  | [] => ev B (ct m)
  | d :: ds => nestE B m ds * ev B (ct d)
def nestL (m : Nat) : List Nat → Nat
  | [] => l1 (ct m)
  | d :: ds => nestL m ds * l1 (ct d)
def nestN (m : Nat) : List Nat → Nat
  | [] => (ct m).length
  | d :: ds => nestN m ds + (ct d).length - 1
theorem ct_two : ∀ m, m < 201 → m = 0 ∨ 2 ≤ (ct m).length := by decide +kernel
theorem nest_all (B : Int) {m : Nat} (hm : 1 ≤ m) (hm2 : m ≤ 200) : ∀ ds : List Nat, (∀ d ∈ ds, 1 ≤ d ∧ d ≤ 200) → 2 ≤ (nest m ds).length ∧ (nest m ds).length = nestN m ds ∧ ev B (nest m ds) = nestE B m ds ∧ l1 (nest m ds) ≤ nestL m ds
  | [], _ => ⟨(ct_two m (by omega)).resolve_left (by omega), rfl, rfl, Nat.le_refl _⟩
  | d :: ds, h => by
    obtain ⟨h1, h2, h3, h4⟩ := nest_all B hm hm2 ds fun x hx => h x (List.mem_cons_of_mem _ hx)
    have hd := h d List.mem_cons_self
    have hc := (ct_two d (by omega)).resolve_left (by omega)
    refine ⟨?_, ?_, ?_, ?_⟩
    · show 2 ≤ (conv (nest m ds) (ct d)).length
      rw [conv_len]; omega
    · show (conv (nest m ds) (ct d)).length = nestN m ds + (ct d).length - 1
      rw [conv_len, h2]
    · show ev B (conv (nest m ds) (ct d)) = nestE B m ds * ev B (ct d)
      rw [ev_conv B (by omega) (by omega), h3]
    · show l1 (conv (nest m ds) (ct d)) ≤ nestL m ds * l1 (ct d)
      exact Nat.le_trans (l1_conv (by omega) (by omega)) (Nat.mul_le_mul_right _ h4)
theorem nest_ok : ∀ m, m < 201 → m = 0 ∨ (nestE (2 ^ 48 : Nat) m (dvs m) = (2 ^ 48 : Nat) ^ m - 1 ∧ 2 * nestL m (dvs m) < 2 ^ 48 ∧ nestN m (dvs m) = m + 1) := by decide +kernel
theorem xm1_small {m : Nat} {x : Int} (h : x ∈ xm1 m) : 2 * x.natAbs < 2 ^ 48 := by
  unfold xm1 at h
  obtain ⟨i, _, rfl⟩ := List.mem_map.mp h
  by_cases h0 : i = 0
  · rw [if_pos h0]; decide
  · rw [if_neg h0]
    by_cases h1 : i = m
    · rw [if_pos h1]; decide
    · rw [if_neg h1]; decide
/-- x to the power of m, less 1, is the product of the circles' for all divisors -/
theorem nest_xm1 {m : Nat} (hm : 1 ≤ m) (hm2 : m ≤ 200) : nest m (dvs m) = xm1 m := by
  obtain ⟨k1, k2, k3⟩ := (nest_ok m (by omega)).resolve_left (by omega)
  obtain ⟨h1, h2, h3, h4⟩ := nest_all ((2 ^ 48 : Nat) : Int) hm hm2 (dvs m) (fun d hd => by
    unfold dvs at hd
    obtain ⟨a, b⟩ := List.mem_filter.mp hd
    have := List.mem_range.mp a
    have b := (Bool.and_eq_true_iff.mp b).1
    have : d ≠ 0 := by simpa using b
    omega)
  refine ev_inj (B := 2 ^ 48) ?_ (fun x hx => ?_) (fun x hx => xm1_small hx) ?_
  · rw [h2, k3]
    unfold xm1
    rw [List.length_map, List.length_range]
  · have := l1_mem hx
    omega
  · rw [h3, k1, ev_xm1 (by omega)]
end RsP
set_option linter.all false
set_option maxRecDepth 100000
set_option maxHeartbeats 4000000
set_option Elab.async false
/-! ### the specification's circles are the table's -/
namespace RsP
open Na04
theorem tr_len (f : List Int) (d : Nat) : (timesRound f d).length = f.length + d := by
  unfold timesRound
  rw [List.length_map, List.length_range]
theorem tr_get {f : List Int} {d i : Nat} (h : i < f.length + d) : (timesRound f d).getD i 0 = (if i < d then 0 else f.getD (i - d) 0) - f.getD i 0 := by
  unfold timesRound
  rw [getD_map_range, if_pos h]
theorem tr_ev (B : Int) (f : List Int) (d : Nat) : ev B (timesRound f d) = ev B f * (B ^ d - 1) := by
  rw [ev_sm, tr_len]
  have e1 : sm (f.length + d) (fun i => (timesRound f d).getD i 0 * B ^ i) = sm (f.length + d) (fun i => (if i < d then 0 else f.getD (i - d) 0 * B ^ (d + (i - d))) - f.getD i 0 * B ^ i) := sm_congr fun i hi => by
    rw [tr_get hi, Int.sub_mul]
    congr 1
    by_cases h : i < d
    · rw [if_pos h, if_pos h, Int.zero_mul]
    · rw [if_neg h, if_neg h, show d + (i - d) = i by omega]
  have e2 : sm (f.length + d) (fun i => if i < d then 0 else f.getD (i - d) 0 * B ^ (d + (i - d))) = sm f.length (fun j => f.getD j 0 * B ^ (d + j)) := by
    have := sm_shift d f.length (fun j => f.getD j 0 * B ^ (d + j))
    rw [Nat.add_comm d f.length] at this
    exact this
  have e3 : sm (f.length + d) (fun i => f.getD i 0 * B ^ i) = sm f.length (fun i => f.getD i 0 * B ^ i) := sm_cut (by omega) fun i h1 _ => by rw [getD_out h1, Int.zero_mul]
  rw [e1, sm_sub, e2, e3, Int.mul_sub, Int.mul_one, ← ev_sm]
  congr 1
  rw [ev_sm, ← sm_mulr]
  exact sm_congr fun i _ => by rw [Nat.add_comm d i, Int.pow_add, Int.mul_assoc]
theorem tr_l1 (f : List Int) (d : Nat) : l1 (timesRound f d) ≤ 2 * l1 f := by
  have h : ((l1 (timesRound f d) : Nat) : Int) ≤ ((2 * l1 f : Nat) : Int) := by
    rw [l1_sm, tr_len, Int.natCast_mul, l1_sm]
    have e1 : sm (f.length + d) (fun i => (((timesRound f d).getD i 0).natAbs : Int)) ≤ sm (f.length + d) (fun i => (if i < d then 0 else ((f.getD (i - d) 0).natAbs : Int)) + ((f.getD i 0).natAbs : Int)) := sm_le fun i hi => by
      rw [tr_get hi]
      by_cases h : i < d
      · rw [if_pos h, if_pos h]; omega
      · rw [if_neg h, if_neg h]; omega
    refine Int.le_trans e1 ?_
    have e2 : sm (f.length + d) (fun i => if i < d then 0 else ((f.getD (i - d) 0).natAbs : Int)) = sm f.length (fun j => ((f.getD j 0).natAbs : Int)) := by
      have := sm_shift d f.length (fun j => ((f.getD j 0).natAbs : Int))
      rw [Nat.add_comm d f.length] at this
      exact this
    have e3 : sm (f.length + d) (fun i => ((f.getD i 0).natAbs : Int)) = sm f.length (fun i => ((f.getD i 0).natAbs : Int)) := sm_cut (by omega) fun i h1 _ => by rw [getD_out h1]; rfl
    rw [sm_add, e2, e3]
    omega
  exact Int.ofNat_le.mp h
theorem by_tr (g : List Int) {d : Nat} (hd : 1 ≤ d) : byRound (timesRound g d) d = g := by
  have key : ∀ n, n ≤ g.length → (List.range n).foldl (fun (q : Sum_) i => q ++ [(if i < d then 0 else q.getD (i - d) 0) - (timesRound g d).getD i 0]) [] = g.take n := by
    intro n
    induction n with
    | zero => intro _; rfl
    | succ n ih =>
      intro hn
      rw [List.range_succ, List.foldl_append, ih (by omega)]
      show g.take n ++ [(if n < d then 0 else (g.take n).getD (n - d) 0) - (timesRound g d).getD n 0] = g.take (n + 1)
      rw [List.take_add_one, tr_get (by omega)]
      congr 1
      have hg : g[n]? = some (g.getD n 0) := by
        rw [List.getD_eq_getElem?_getD, List.getElem?_eq_getElem (by omega)]
        rfl
      rw [hg]
      show [_] = [g.getD n 0]
      congr 1
      by_cases h : n < d
      · rw [if_pos h, if_pos h]; omega
      · rw [if_neg h, if_neg h]
        have : (g.take n).getD (n - d) 0 = g.getD (n - d) 0 := by
          rw [List.getD_eq_getElem?_getD, List.getD_eq_getElem?_getD, List.getElem?_take_of_lt (by omega)]
        rw [this]
        omega
  unfold byRound
  rw [tr_len, Nat.add_sub_cancel, key g.length (Nat.le_refl _), List.take_length]
def up (C : List Int) (bs : List Nat) : List Int := bs.foldr (fun d g => timesRound g d) C
theorem by_up (C : List Int) : ∀ bs : List Nat, (∀ b ∈ bs, 1 ≤ b) → bs.foldl byRound (up C bs) = C
  | [], _ => rfl
  | b :: bs, h => by
    show bs.foldl byRound (byRound (timesRound (up C bs) b) b) = C
    rw [by_tr _ (h b List.mem_cons_self)]
    exact by_up C bs fun x hx => h x (List.mem_cons_of_mem _ hx)
def evA (B : Int) (as : List Nat) (z : Int) : Int := as.foldl (fun r d => r * (B ^ d - 1)) z
def evU (B : Int) (bs : List Nat) (z : Int) : Int := bs.foldr (fun d r => r * (B ^ d - 1)) z
theorem fold_all (B : Int) : ∀ (as : List Nat) (f : List Int), ev B (as.foldl timesRound f) = evA B as (ev B f) ∧ l1 (as.foldl timesRound f) ≤ 2 ^ as.length * l1 f ∧ (as.foldl timesRound f).length = f.length + as.sum
  | [], f => ⟨rfl, by show l1 f ≤ 2 ^ 0 * l1 f; omega, rfl⟩
  | a :: as, f => by
    obtain ⟨h1, h2, h3⟩ := fold_all B as (timesRound f a)
    refine ⟨?_, ?_, ?_⟩
    · show ev B (as.foldl timesRound (timesRound f a)) = evA B as (ev B f * (B ^ a - 1))
      rw [h1, tr_ev]
    · refine Nat.le_trans h2 ?_
      rw [List.length_cons, Nat.pow_succ, Nat.mul_assoc]
      exact Nat.mul_le_mul_left _ (tr_l1 f a)
    · show (as.foldl timesRound (timesRound f a)).length = _
      rw [h3, tr_len, List.sum_cons]
      omega
theorem up_all (B : Int) (C : List Int) : ∀ bs : List Nat, ev B (up C bs) = evU B bs (ev B C) ∧ l1 (up C bs) ≤ 2 ^ bs.length * l1 C ∧ (up C bs).length = C.length + bs.sum
  | [] => ⟨rfl, by show l1 C ≤ 2 ^ 0 * l1 C; omega, rfl⟩
  | b :: bs => by
    obtain ⟨h1, h2, h3⟩ := up_all B C bs
    refine ⟨?_, ?_, ?_⟩
    · show ev B (timesRound (up C bs) b) = evU B bs (ev B C) * (B ^ b - 1)
      rw [tr_ev, h1]
    · refine Nat.le_trans (tr_l1 _ b) ?_
      rw [List.length_cons, Nat.pow_succ, Nat.mul_comm (2 ^ bs.length) 2, Nat.mul_assoc]
      exact Nat.mul_le_mul_left _ h2
    · show (timesRound (up C bs) b).length = _
      rw [tr_len, h3, List.sum_cons]
      omega
def muOf (z : Int) (m : Nat) : List Nat := ((List.range (m + 1)).filter fun d => d != 0 && m % d == 0).filter fun d => moebius (m / d) == z
theorem circle_mu (m : Nat) : circle m = (muOf (-1) m).foldl byRound ((muOf 1 m).foldl timesRound [1]) := rfl
def okC (m : Nat) : Bool := let as := muOf 1 m; let bs := muOf (-1) m
  evA (2 ^ 48 : Nat) as 1 == evU (2 ^ 48 : Nat) bs (ev (2 ^ 48 : Nat) (ct m)) && (decide (2 * 2 ^ as.length < 2 ^ 48) && (decide (2 * (2 ^ bs.length * l1 (ct m)) < 2 ^ 48) && (1 + as.sum == (ct m).length + bs.sum && bs.all fun b => decide (1 ≤ b))))
theorem circle_of {m : Nat} (h : okC m = true) : circle m = ct m := by
  have h' : (evA (2 ^ 48 : Nat) (muOf 1 m) 1 == evU (2 ^ 48 : Nat) (muOf (-1) m) (ev (2 ^ 48 : Nat) (ct m)) && (decide (2 * 2 ^ (muOf 1 m).length < 2 ^ 48) && (decide (2 * (2 ^ (muOf (-1) m).length * l1 (ct m)) < 2 ^ 48) && (1 + (muOf 1 m).sum == (ct m).length + (muOf (-1) m).sum && (muOf (-1) m).all fun b => decide (1 ≤ b))))) = true := h
  rw [Bool.and_eq_true, Bool.and_eq_true, Bool.and_eq_true, Bool.and_eq_true] at h'
  obtain ⟨k1, k2, k3, k4, k5⟩ := h'
  have k1 := eq_of_beq k1
  have k2 := of_decide_eq_true k2
  have k3 := of_decide_eq_true k3
  have k4 := eq_of_beq k4
  obtain ⟨a1, a2, a3⟩ := fold_all ((2 ^ 48 : Nat) : Int) (muOf 1 m) [1]
  obtain ⟨b1, b2, b3⟩ := up_all ((2 ^ 48 : Nat) : Int) (ct m) (muOf (-1) m)
  have e : (muOf 1 m).foldl timesRound [1] = up (ct m) (muOf (-1) m) := by
    refine ev_inj (B := 2 ^ 48) ?_ (fun x hx => ?_) (fun x hx => ?_) ?_
    · rw [a3, b3]
      exact k4
    · have := l1_mem hx
      have l : l1 [1] = 1 := rfl
      rw [l] at a2
      omega
    · have := l1_mem hx
      omega
    · rw [a1, b1]
      have : ev ((2 ^ 48 : Nat) : Int) [1] = 1 := by
        show (1 : Int) + _ * 0 = 1
        rw [Int.mul_zero]
        rfl
      rw [this]
      exact k1
  rw [circle_mu, e]
  exact by_up _ _ fun b hb => of_decide_eq_true (List.all_eq_true.mp k5 b hb)
theorem okC_0 : ∀ j, j < 40 → 0 + j = 0 ∨ okC (0 + j) = true := by decide +kernel
theorem okC_40 : ∀ j, j < 40 → 40 + j = 0 ∨ okC (40 + j) = true := by decide +kernel
theorem okC_80 : ∀ j, j < 40 → 80 + j = 0 ∨ okC (80 + j) = true := by decide +kernel
theorem okC_120 : ∀ j, j < 40 → 120 + j = 0 ∨ okC (120 + j) = true := by decide +kernel
theorem okC_160 : ∀ j, j < 40 → 160 + j = 0 ∨ okC (160 + j) = true := by decide +kernel
theorem okC_200 : ∀ j, j < 1 → 200 + j = 0 ∨ okC (200 + j) = true := by decide +kernel
theorem circle_ct {m : Nat} (h1 : 1 ≤ m) (h2 : m ≤ 200) : circle m = ct m := by
  refine circle_of ?_
  by_cases g0 : m < 40
  · have := okC_0 (m - 0) (by omega)
    rw [show 0 + (m - 0) = m by omega] at this
    exact this.resolve_left (by omega)
  by_cases g40 : m < 80
  · have := okC_40 (m - 40) (by omega)
    rw [show 40 + (m - 40) = m by omega] at this
    exact this.resolve_left (by omega)
  by_cases g80 : m < 120
  · have := okC_80 (m - 80) (by omega)
    rw [show 80 + (m - 80) = m by omega] at this
    exact this.resolve_left (by omega)
  by_cases g120 : m < 160
  · have := okC_120 (m - 120) (by omega)
    rw [show 120 + (m - 120) = m by omega] at this
    exact this.resolve_left (by omega)
  by_cases g160 : m < 200
  · have := okC_160 (m - 160) (by omega)
    rw [show 160 + (m - 160) = m by omega] at this
    exact this.resolve_left (by omega)
  by_cases g200 : m < 240
  · have := okC_200 (m - 200) (by omega)
    rw [show 200 + (m - 200) = m by omega] at this
    exact this.resolve_left (by omega)
  omega
end RsP
set_option linter.all false
set_option maxRecDepth 100000
set_option maxHeartbeats 4000000
set_option Elab.async false
/-! ### long division in its own place -/
namespace RsP
open Na04
/-- one number less: at the place p of the row, a times the divisor's at i -/
def sub1 (c : List Int) (p t : Nat) (b : List Int) (i : Nat) : List Int := b.set (p + i) (b.getD (p + i) 0 - b.getD t 0 * c.getD i 0)
theorem sub1_len (c : List Int) (p t : Nat) (b : List Int) (i : Nat) : (sub1 c p t b i).length = b.length := by
  unfold sub1
  rw [List.length_set]
theorem getD_set {b : List Int} {i j : Nat} {x : Int} (h : i < b.length) : (b.set i x).getD j 0 = if j = i then x else b.getD j 0 := by
  rw [List.getD_eq_getElem?_getD, List.getD_eq_getElem?_getD, List.getElem?_set]
  by_cases e : i = j
  · subst e
    simp [h]
  · have e2 : ¬ j = i := fun z => e z.symm
    simp [e, e2]
theorem fold_len (c : List Int) (p t : Nat) : ∀ (fs : List Nat) (b : List Int), (fs.foldl (sub1 c p t) b).length = b.length
  | [], b => rfl
  | i :: fs, b => by rw [List.foldl_cons, fold_len c p t fs, sub1_len]
theorem fold_get (c : List Int) (p D : Nat) : ∀ (fs : List Nat) (b : List Int), fs.Nodup → (∀ i ∈ fs, i < D) → p + D < b.length → ∀ j, (fs.foldl (sub1 c p (p + D)) b).getD j 0 = if p ≤ j ∧ j - p ∈ fs then b.getD j 0 - b.getD (p + D) 0 * c.getD (j - p) 0 else b.getD j 0
  | [], b, _, _, _, j => by simp
  | i :: fs, b, hn, hd, hl, j => by
    have hi := hd i List.mem_cons_self
    have hn' := List.nodup_cons.mp hn
    rw [List.foldl_cons, fold_get c p D fs _ hn'.2 (fun x hx => hd x (List.mem_cons_of_mem _ hx)) (by rw [sub1_len]; exact hl)]
    have e : ∀ k, (sub1 c p (p + D) b i).getD k 0 = if k = p + i then b.getD (p + i) 0 - b.getD (p + D) 0 * c.getD i 0 else b.getD k 0 := fun k => getD_set (by omega)
    rw [e j, e (p + D), if_neg (show ¬ p + D = p + i by omega)]
    by_cases h1 : j = p + i
    · subst h1
      have : p + i - p = i := by omega
      rw [if_pos rfl, this]
      rw [if_neg (show ¬ (p ≤ p + i ∧ i ∈ fs) from fun z => hn'.1 z.2), if_pos ⟨by omega, List.mem_cons_self⟩]
    · rw [if_neg h1]
      by_cases h2 : p ≤ j ∧ j - p ∈ fs
      · rw [if_pos h2, if_pos ⟨h2.1, List.mem_cons_of_mem _ h2.2⟩]
      · rw [if_neg h2, if_neg]
        rintro ⟨z1, z2⟩
        rcases List.mem_cons.mp z2 with z | z
        · omega
        · exact h2 ⟨z1, z⟩
/-- where the divisor isn't 0 -/
def filled (c : List Int) (D : Nat) : List Nat := (List.range D).filter fun i => c.getD i 0 != 0
theorem filled_nodup (c : List Int) (D : Nat) : (filled c D).Nodup := List.Nodup.sublist List.filter_sublist List.nodup_range
theorem filled_lt {c : List Int} {D i : Nat} (h : i ∈ filled c D) : i < D := List.mem_range.mp (List.mem_filter.mp h).1
theorem turn_get {c b : List Int} {p D : Nat} (hl : p + D < b.length) (j : Nat) : ((filled c D).foldl (sub1 c p (p + D)) b).getD j 0 = b.getD j 0 - (if j < p then 0 else if j < p + D then b.getD (p + D) 0 * c.getD (j - p) 0 else 0) := by
  rw [fold_get c p D _ b (filled_nodup c D) (fun _ h => filled_lt h) hl]
  by_cases h1 : j < p
  · rw [if_neg (by omega), if_pos h1, Int.sub_zero]
  · rw [if_neg h1]
    by_cases h2 : j < p + D
    · rw [if_pos h2]
      by_cases h3 : j - p ∈ filled c D
      · rw [if_pos ⟨by omega, h3⟩]
      · rw [if_neg (fun z => h3 z.2)]
        have : c.getD (j - p) 0 = 0 := by
          by_cases h4 : c.getD (j - p) 0 = 0
          · exact h4
          · exact absurd (List.mem_filter.mpr ⟨List.mem_range.mpr (by omega), by simpa using h4⟩) h3
        rw [this, Int.mul_zero, Int.sub_zero]
    · rw [if_neg h2, Int.sub_zero, if_neg]
      rintro ⟨_, z⟩
      have := filled_lt z
      omega
/-- so many turns, from the last number on -/
def dv (c : List Int) (D : Nat) (s : List Int) : Nat → List Int
  | 0 => s
  | t + 1 => (filled c D).foldl (sub1 c (s.length - 1 - t - D) (s.length - 1 - t)) (dv c D s t)
theorem dv_len (c : List Int) (D : Nat) (s : List Int) : ∀ t, (dv c D s t).length = s.length
  | 0 => rfl
  | t + 1 => by
    unfold dv
    rw [fold_len, dv_len c D s t]
theorem dv_step {c : List Int} {D : Nat} {s : List Int} {t : Nat} (h : t < s.length - D) (j : Nat) :
    (dv c D s (t + 1)).getD j 0 = (dv c D s t).getD j 0 - (if j < s.length - 1 - t - D then 0 else if j < s.length - 1 - t then (dv c D s t).getD (s.length - 1 - t) 0 * c.getD (j - (s.length - 1 - t - D)) 0 else 0) := by
  have e : s.length - 1 - t = s.length - 1 - t - D + D := by omega
  have := turn_get (c := c) (b := dv c D s t) (p := s.length - 1 - t - D) (D := D) (by rw [dv_len]; omega) j
  rw [← e] at this
  exact this
theorem dv_val {C : List Int} {d : Nat} {c : Nat → Int} (M : Mon C d c) (s : List Int) (k : Nat) : ∀ t, t ≤ s.length - d → sm (s.length - t) (fun i => (dv C d s t).getD i 0 * R d c i k) = val d c s k
  | 0, _ => rfl
  | t + 1, ht => by
    have ih := dv_val M s k t (by omega)
    rw [← ih]
    have hL : s.length - t = (s.length - 1 - t) + 1 := by omega
    have hL2 : s.length - (t + 1) = s.length - 1 - t := by omega
    rw [hL, hL2]
    have hst : ((dv C d s t).take (s.length - 1 - t + 1)).length = (s.length - 1 - t) + 1 := by
      rw [List.length_take, dv_len]
      omega
    have tk : ∀ i, i < s.length - 1 - t + 1 → ((dv C d s t).take (s.length - 1 - t + 1)).getD i 0 = (dv C d s t).getD i 0 := fun i hi => by
      rw [List.getD_eq_getElem?_getD, List.getElem?_take_of_lt hi, ← List.getD_eq_getElem?_getD]
    have sv := step_val M hst (show d ≤ s.length - 1 - t by omega) k
    unfold val at sv
    rw [hst] at sv
    rw [sm_congr (n := s.length - 1 - t + 1) (g := fun i => ((dv C d s t).take (s.length - 1 - t + 1)).getD i 0 * R d c i k) (fun i hi => by rw [tk i hi]), ← sv]
    refine sm_congr fun i hi => ?_
    rw [dv_step (by omega) i, tk i (by omega), tk (s.length - 1 - t) (by omega)]
    congr 2
    by_cases h1 : i < s.length - 1 - t - d
    · rw [if_pos h1, if_pos h1]
    · rw [if_neg h1, if_neg h1, if_pos hi]
/-- what is left -/
theorem dv_rest {C : List Int} {d : Nat} {c : Nat → Int} (M : Mon C d c) {s : List Int} (h : d ≤ s.length) : (dv C d s (s.length - d)).take d = tl d (val d c s) := by
  refine List.ext_getElem? fun k => ?_
  by_cases hk : k < d
  · rw [List.getElem?_take_of_lt hk]
    have e1 : (dv C d s (s.length - d))[k]? = some ((dv C d s (s.length - d)).getD k 0) := by
      rw [List.getElem?_eq_getElem (by rw [dv_len]; omega), List.getD_eq_getElem?_getD, List.getElem?_eq_getElem (by rw [dv_len]; omega)]
      rfl
    rw [e1]
    unfold tl
    rw [List.getElem?_map, List.getElem?_range hk]
    show some _ = some _
    congr 1
    have := dv_val M s k (s.length - d) (Nat.le_refl _)
    rw [← this, show s.length - (s.length - d) = d by omega]
    rw [sm_one hk (fun i hi hne => by
      rw [R_low hi]
      show _ * (if k = i then (1 : Int) else 0) = 0
      rw [if_neg (fun z => hne z.symm), Int.mul_zero])]
    rw [R_low hk]
    show _ = _ * (if k = k then (1 : Int) else 0)
    rw [if_pos rfl, Int.mul_one]
  · rw [List.getElem?_eq_none (by rw [List.length_take]; omega), List.getElem?_eq_none (by rw [tl_len]; omega)]
/-- a product, divided -/
theorem dv_conv {C q : List Int} {d : Nat} (hC : C.length = d + 1) (ht : C.getD d 0 = 1) (hq : 1 ≤ q.length) : ∀ t, t ≤ q.length →
    (∀ j, j < q.length + d - t → (dv C d (conv q C) t).getD j 0 = sm (q.length - t) (fun k => if k ≤ j then q.getD k 0 * C.getD (j - k) 0 else 0)) ∧ ∀ j, q.length + d - t ≤ j → j < q.length + d → (dv C d (conv q C) t).getD j 0 = q.getD (j - d) 0
  | 0, _ => by
    refine ⟨fun j hj => ?_, fun j h1 h2 => by omega⟩
    show (conv q C).getD j 0 = _
    rw [conv_get (by omega)]
    by_cases h : q.length ≤ j + 1
    · rw [sm_cut (n := q.length - 0) (m := j + 1) (by omega) (fun i h1 _ => by rw [getD_out (by omega), Int.zero_mul])]
      exact sm_congr fun k hk => by rw [if_pos (by omega)]
    · rw [sm_cut (n := j + 1) (m := q.length - 0) (by omega) (fun i h1 _ => if_neg (by omega))]
      exact sm_congr fun k hk => by rw [if_pos (by omega)]
  | t + 1, h => by
    obtain ⟨i1, i2⟩ := dv_conv hC ht hq t (by omega)
    have hlen : (conv q C).length = q.length + d := by rw [conv_len]; omega
    have hat : (dv C d (conv q C) t).getD (q.length + d - 1 - t) 0 = q.getD (q.length - 1 - t) 0 := by
      rw [i1 _ (by omega), sm_one (k := q.length - 1 - t) (by omega) (fun i hi hne => by
        by_cases hle : i ≤ q.length + d - 1 - t
        · rw [if_pos hle, getD_out (s := C) (by omega), Int.mul_zero]
        · rw [if_neg hle])]
      rw [if_pos (by omega), show q.length + d - 1 - t - (q.length - 1 - t) = d by omega, ht, Int.mul_one]
    have st := fun j => dv_step (c := C) (D := d) (s := conv q C) (t := t) (by omega) j
    rw [hlen] at st
    rw [hat] at st
    refine ⟨fun j hj => ?_, fun j h1 h2 => ?_⟩
    · rw [st j, i1 j (by omega), show q.length - t = (q.length - (t + 1)) + 1 by omega]
      show sm (q.length - (t + 1)) _ + (if q.length - (t + 1) ≤ j then q.getD (q.length - (t + 1)) 0 * C.getD (j - (q.length - (t + 1))) 0 else 0) - _ = _
      by_cases c1 : j < q.length + d - 1 - t - d
      · rw [if_pos c1, if_neg (by omega)]
        omega
      · rw [if_neg c1, if_pos (by omega), if_pos (by omega), show q.length - (t + 1) = q.length - 1 - t by omega, show q.length + d - 1 - t - d = q.length - 1 - t by omega]
        omega
    · rw [st j]
      by_cases c1 : j = q.length + d - 1 - t
      · rw [c1, hat, if_neg (by omega), if_neg (by omega), show q.length + d - 1 - t - d = q.length - 1 - t by omega]
        omega
      · rw [i2 j (by omega) h2, if_neg (by omega), if_neg (by omega)]
        omega
theorem dv_quot {C q : List Int} {d : Nat} (hC : C.length = d + 1) (ht : C.getD d 0 = 1) (hq : 1 ≤ q.length) : (dv C d (conv q C) ((conv q C).length - d)).drop d = q := by
  have hlen : (conv q C).length = q.length + d := by rw [conv_len]; omega
  rw [hlen, show q.length + d - d = q.length by omega]
  refine List.ext_getElem? fun k => ?_
  rw [List.getElem?_drop]
  by_cases hk : k < q.length
  · have l1 : d + k < (dv C d (conv q C) q.length).length := by rw [dv_len, hlen]; omega
    have := (dv_conv hC ht hq q.length (Nat.le_refl _)).2 (d + k) (by omega) (by omega)
    rw [List.getD_eq_getElem?_getD, List.getD_eq_getElem?_getD, List.getElem?_eq_getElem l1, show d + k - d = k by omega, List.getElem?_eq_getElem hk] at this
    rw [List.getElem?_eq_getElem l1, List.getElem?_eq_getElem hk]
    exact congrArg some this
  · rw [List.getElem?_eq_none (by rw [dv_len, hlen]; omega), List.getElem?_eq_none (by omega)]
end RsP
set_option linter.all false
set_option maxRecDepth 100000
set_option maxHeartbeats 4000000
set_option Elab.async false
namespace RsP
open Na04
theorem ct_top : ∀ m, m < 201 → m = 0 ∨ ((ct m).getD ((ct m).length - 1) 0 = 1 ∧ (ct m).length ≤ m + 1 ∧ (ct m).all (fun x => decide (x.natAbs ≤ 1000)) = true) := by decide +kernel
theorem ct_all {m : Nat} (h1 : 1 ≤ m) (h2 : m ≤ 200) : ∃ d, 1 ≤ d ∧ d ≤ m ∧ (ct m).length = d + 1 ∧ (ct m).getD d 0 = 1 ∧ ∀ x ∈ ct m, x.natAbs ≤ 1000 := by
  have h := (ct_two m (by omega)).resolve_left (by omega)
  have g := (ct_top m (by omega)).resolve_left (by omega)
  refine ⟨(ct m).length - 1, by omega, by omega, by omega, g.1, fun x hx => ?_⟩
  exact of_decide_eq_true (List.all_eq_true.mp g.2.2 x hx)
theorem mon_ct {m : Nat} (h1 : 1 ≤ m) (h2 : m ≤ 200) : ∃ d, Mon (circle m) d (fun i => (ct m).getD i 0) ∧ d ≤ m := by
  obtain ⟨d, a1, a2, a3, a4, _⟩ := ct_all h1 h2
  exact ⟨d, ⟨by rw [circle_ct h1 h2]; exact a3, a1, fun i => by rw [circle_ct h1 h2], a4⟩, a2⟩
/-- how often each power -/
def cnts (m : Nat) (l : List Nat) : List Int := (List.range m).map fun i => ((l.filter fun k => k % m == i).length : Int)
theorem cnts_len (m : Nat) (l : List Nat) : (cnts m l).length = m := by
  unfold cnts
  rw [List.length_map, List.length_range]
theorem cnts_nil (m : Nat) : cnts m [] = List.replicate m 0 := by
  unfold cnts
  refine List.ext_getElem? fun k => ?_
  by_cases hk : k < m
  · rw [List.getElem?_map, List.getElem?_range hk, List.getElem?_replicate_of_lt hk]
    rfl
  · rw [List.getElem?_eq_none (by rw [List.length_map, List.length_range]; omega), List.getElem?_eq_none (by rw [List.length_replicate]; omega)]
theorem cnts_get {m : Nat} (l : List Nat) {j : Nat} (h : j < m) : (cnts m l)[j]? = some (((l.filter fun k => k % m == j).length : Nat) : Int) := by
  unfold cnts
  rw [List.getElem?_map, List.getElem?_range h]
  rfl
theorem cnts_snoc {m : Nat} (l : List Nat) {k : Nat} (h : k < m) : cnts m (l ++ [k]) = (cnts m l).set k ((((l.filter fun z => z % m == k).length : Nat) : Int) + 1) := by
  refine List.ext_getElem? fun j => ?_
  rw [List.getElem?_set]
  by_cases hj : j < m
  · rw [cnts_get _ hj, List.filter_append]
    by_cases e : k = j
    · subst e
      rw [if_pos rfl, if_pos (by rw [cnts_len]; exact h)]
      congr 1
      have : List.filter (fun z => z % m == k) [k] = [k] := by
        rw [List.filter_cons, Nat.mod_eq_of_lt h]
        simp
      rw [this, List.length_append]
      simp
    · rw [if_neg e, cnts_get _ hj]
      congr 2
      have : List.filter (fun z => z % m == j) [k] = [] := by
        rw [List.filter_cons, Nat.mod_eq_of_lt h]
        have : (k == j) = false := beq_eq_false_iff_ne.mpr e
        rw [this]
        simp
      rw [this, List.append_nil]
  · rw [List.getElem?_eq_none (by rw [cnts_len]; omega)]
    by_cases e : k = j
    · omega
    · rw [if_neg e, List.getElem?_eq_none (by rw [cnts_len]; omega)]
theorem ofPowers_cnts (m : Nat) (l : List Nat) : ofPowers m l = reduce m (cnts m l) := rfl
/-- powers, told round m -/
def rd (m : Nat) (ps : List Int) : List Nat := ps.map fun p => (p % (m : Int)).toNat
theorem rd_nat (m : Nat) (l : List Nat) : rd m (Na04.ints l) = l.map fun k => k % m := by
  unfold rd Na04.ints
  rw [List.map_map]
  refine List.map_congr_left fun k _ => ?_
  show ((k : Int) % (m : Int)).toNat = k % m
  omega
theorem ofPowers_rd (m : Nat) (l : List Nat) : ofPowers m (rd m (Na04.ints l)) = ofPowers m l := by
  rw [rd_nat]
  unfold ofPowers
  congr 1
  refine List.map_congr_left fun i _ => ?_
  congr 1
  rw [List.filter_map, List.length_map]
  congr 2
  funext k
  show (k % m % m == i) = (k % m == i)
  rw [Nat.mod_mod]
/-- all quotients -/
def quots (l : List Nat) : List Int := l.flatMap fun (a : Nat) => l.map fun (b : Nat) => (a : Int) - (b : Int)
theorem ls_append (a b : List Nat) (f : Nat → Int) : ls (a ++ b) f = ls a f + ls b f := by
  unfold ls
  rw [List.map_append, List.sum_append]
theorem ls_map {α : Type} (g : α → Nat) (f : Nat → Int) (l : List α) : ls (l.map g) f = (l.map fun x => f (g x)).sum := by
  unfold ls
  rw [List.map_map]
  rfl
theorem rd_append (m : Nat) (a b : List Int) : rd m (a ++ b) = rd m a ++ rd m b := by
  unfold rd
  rw [List.map_append]
theorem size_rd {m d : Nat} {c : Nat → Int} (Y : Cyc m d c) (l : List Nat) : times m (ofPowers m l) (turned m (ofPowers m l)) = ofPowers m (rd m (quots l)) := by
  rw [size_tl Y, ofPowers_tl Y.mpos Y.toMon]
  refine tl_congr fun k _ => ?_
  have one : ∀ a b : Nat, R d c (((a : Int) - (b : Int)) % (m : Int)).toNat = R d c (a + (m - b % m)) := fun a b => R_eqm Y.per (by
    have hm := Y.mpos
    have hb : b % m < m := Nat.mod_lt _ hm
    have e1 : ((((a : Int) - (b : Int)) % (m : Int)).toNat : Int) = ((a : Int) - (b : Int)) % (m : Int) := Int.toNat_of_nonneg (Int.emod_nonneg _ (by omega))
    have e2 : (((((a : Int) - (b : Int)) % (m : Int)).toNat % m : Nat) : Int) = (((a + (m - b % m)) % m : Nat) : Int) := by
      rw [Int.natCast_emod, e1, Int.emod_emod, Int.natCast_emod, Int.natCast_add, Int.natCast_sub (Nat.le_of_lt hb), Int.natCast_emod]
      rw [Int.emod_def (b : Int) (m : Int)]
      have : (a : Int) + ((m : Int) - ((b : Int) - (m : Int) * ((b : Int) / (m : Int)))) = ((a : Int) - (b : Int)) + (m : Int) * (1 + (b : Int) / (m : Int)) := by
        rw [Int.mul_add, Int.mul_one]
        omega
      rw [this, Int.add_mul_emod_self_left]
    exact Int.ofNat.inj e2)
  have inner : ∀ (a : Nat) (l' : List Nat), ls (rd m (l'.map fun (b : Nat) => (a : Int) - (b : Int))) (fun z => R d c (z % m) k) = ls l' (fun b => R d c (a + (m - b % m)) k) := fun a l' => by
    unfold rd
    rw [List.map_map, ls_map]
    unfold ls
    congr 1
    refine List.map_congr_left fun b _ => ?_
    show R d c ((((a : Int) - (b : Int)) % (m : Int)).toNat % m) k = _
    rw [R_mod Y.per, one]
  have outer : ∀ l' : List Nat, ls (rd m (l'.flatMap fun (a : Nat) => l.map fun (b : Nat) => (a : Int) - (b : Int))) (fun z => R d c (z % m) k) = ls l' (fun a => ls l (fun b => R d c (a + (m - b % m)) k)) := by
    intro l'
    induction l' with
    | nil => rfl
    | cons a l' ih =>
      rw [List.flatMap_cons, rd_append, ls_append, ih, inner, ls_cons]
  exact (outer l).symm
/-- the powers of a joint sum -/
theorem filterMap_filter {α β : Type} (p : α → Bool) (f : α → Option β) : ∀ l : List α, (∀ x ∈ l, p x = false → f x = none) → l.filterMap f = (l.filter p).filterMap f
  | [], _ => rfl
  | x :: l, h => by
    have ih := filterMap_filter p f l fun y hy => h y (List.mem_cons_of_mem _ hy)
    rw [List.filter_cons]
    cases e : p x with
    | true => rw [if_pos rfl, List.filterMap_cons, List.filterMap_cons, ih]
    | false =>
      rw [if_neg (by decide), List.filterMap_cons, h x List.mem_cons_self e]
      exact ih
theorem units_cont {n x : Nat} (h : x < n) : (units n).contains (x % n) = (Nat.gcd x n == 1) := by
  rw [Nat.mod_eq_of_lt h]
  unfold units
  cases e : (Nat.gcd x n == 1) with
  | true =>
    rw [List.contains_iff_mem]
    exact List.mem_filter.mpr ⟨List.mem_range.mpr h, e⟩
  | false =>
    rw [Bool.eq_false_iff]
    intro z
    have := (List.mem_filter.mp (List.contains_iff_mem.mp z)).2
    rw [e] at this
    cases this
def jpow (n fv : Nat) (c d : List Nat) (x : Nat) : Option Nat := match at_ n c x, at_ n d (n + 1 - x) with
  | some u, some v => some ((u + v) * fv)
  | _, _ => none
theorem jacobi_units (n : Nat) (c d : List Nat) : jacobi n c d = ofPowers (fine n) ((units n).filterMap (jpow n (fine n / exponent n) c d)) := by
  show ofPowers (fine n) ((List.range n).filterMap (jpow n (fine n / exponent n) c d)) = _
  congr 1
  refine filterMap_filter (fun a => Nat.gcd a n == 1) _ (List.range n) fun x hx e => ?_
  have hx := List.mem_range.mp hx
  unfold jpow
  have : at_ n c x = none := by
    unfold at_
    rw [units_cont hx, e]
    rfl
  rw [this]
theorem fine_le : ∀ n, 2 ≤ n → n ≤ 13 → 1 ≤ fine n ∧ fine n ≤ 200 ∧ exponent n ∣ fine n ∧ n ∣ fine n ∧ 1 ≤ exponent n ∧ exponent n ≤ 200 := by
  intro n h1 h2
  have : ∀ k, k < 12 → 1 ≤ fine (k + 2) ∧ fine (k + 2) ≤ 200 ∧ exponent (k + 2) ∣ fine (k + 2) ∧ k + 2 ∣ fine (k + 2) ∧ 1 ≤ exponent (k + 2) ∧ exponent (k + 2) ≤ 200 := by decide +kernel
  have := this (n - 2) (by omega)
  rw [show n - 2 + 2 = n by omega] at this
  exact this
end RsP
set_option Elab.async false
set_option linter.all false
set_option maxRecDepth 100000
set_option maxHeartbeats 4000000
/-! ### Words of our own over the layer: readings that leave all that was known -/
namespace Rs
open PySem PySem.Spec PyProof.Rows L2 Evl
/-- a def of the top, a method of a class, as callers want them -/
structure Df (K : PySem.W.Frag) (mg : Str → Option Value) (x : Str) (ps : List Str) (f : Addr) (fd : FuncData) : Prop where
  mg : mg x = some (.ref f)
  kp : PySem.W.keepIn K (.ref f) = true
  b : Binds K fd ps []
structure Dm (K : PySem.W.Frag) (C : Addr) (m : Str) (ps : List Str) (f : Addr) (fd : FuncData) : Prop where
  m : Meth K C m f
  b : Binds K fd ps []
/-- numbers as values -/
def nV (l : List Nat) : List V := l.map fun (n : Nat) => V.int (n : Int)
theorem nV_len (l : List Nat) : (nV l).length = l.length := List.length_map ..
theorem nV_get {l : List Nat} {i : Nat} {x : Nat} (h : l[i]? = some x) : (nV l)[i]? = some (.int (x : Int)) := by
  unfold nV
  rw [List.getElem?_map, h]
  rfl
theorem nV_of {l : List Nat} {i : Nat} {v : V} (h : (nV l)[i]? = some v) : ∃ x, l[i]? = some x ∧ v = .int (x : Int) := by
  unfold nV at h
  rw [List.getElem?_map] at h
  cases e : l[i]? with
  | none => rw [e] at h; cases h
  | some x => rw [e] at h; exact ⟨x, rfl, (Option.some.inj h).symm⟩
theorem nV_flat (l : List Nat) : (nV l).all flatV = true := by
  unfold nV
  rw [List.all_map]
  exact List.all_eq_true.mpr fun _ _ => rfl
theorem eqN (a b : Nat) : decide (V.int (a : Int) = V.int (b : Int)) = (a == b) := by
  by_cases h : a = b
  · subst h
    simp
  · have z : ¬ V.int (a : Int) = V.int (b : Int) := fun e => h (by have := V.int.inj e; omega)
    rw [decide_eq_false z]
    exact (beq_eq_false_iff_ne.mpr h).symm
theorem neN (a b : Nat) : (!decide (V.int (a : Int) = V.int (b : Int))) = (a != b) := by
  rw [eqN]
  rfl
/-- a list of objects that hold rows of values -/
def Objs (H : Hp) (mk : List V → HO) : List V → List (List V) → Prop
  | [], [] => True
  | v :: vs, r :: rs => (∃ p, v = .ref p ∧ H p = some (mk r)) ∧ Objs H mk vs rs
  | _, _ => False
theorem Objs.mono {H H' : Hp} {mk : List V → HO} (e : Ex H H') : ∀ {vs : List V} {rs : List (List V)}, Objs H mk vs rs → Objs H' mk vs rs
  | [], [], _ => trivial
  | _ :: _, _ :: _, ⟨⟨p, h1, h2⟩, h⟩ => ⟨⟨p, h1, e p _ h2⟩, Objs.mono e h⟩
  | [], _ :: _, h => h
  | _ :: _, [], h => h
theorem Objs.len {H : Hp} {mk : List V → HO} : ∀ {vs : List V} {rs : List (List V)}, Objs H mk vs rs → vs.length = rs.length
  | [], [], _ => rfl
  | _ :: _, _ :: _, ⟨_, h⟩ => congrArg (· + 1) (Objs.len h)
  | [], _ :: _, h => h.elim
  | _ :: _, [], h => h.elim
theorem Objs.get {H : Hp} {mk : List V → HO} : ∀ {vs : List V} {rs : List (List V)} {i : Nat} {r : List V}, Objs H mk vs rs → rs[i]? = some r → ∃ p, vs[i]? = some (.ref p) ∧ H p = some (mk r)
  | [], [], _, _, _, h => by simp at h
  | v :: vs, s :: rs, 0, r, ⟨⟨p, h1, h2⟩, _⟩, h => by
    have e : s = r := Option.some.inj h
    subst e
    exact ⟨p, congrArg some h1, h2⟩
  | v :: vs, s :: rs, i + 1, r, ⟨_, g⟩, h => by
    have z := Objs.get (vs := vs) (rs := rs) (i := i) (r := r) g (by simpa using h)
    simpa using z
  | [], _ :: _, _, _, h, _ => h.elim
  | _ :: _, [], _, _, h, _ => h.elim
theorem Objs.of {H : Hp} {mk : List V → HO} : ∀ {vs : List V} {rs : List (List V)} {i : Nat} {v : V}, Objs H mk vs rs → vs[i]? = some v → ∃ p r, v = .ref p ∧ rs[i]? = some r ∧ H p = some (mk r)
  | [], [], _, _, _, h => by simp at h
  | w :: vs, s :: rs, 0, v, ⟨⟨p, h1, h2⟩, _⟩, h => by
    have e : w = v := Option.some.inj h
    exact ⟨p, s, e.symm.trans h1, rfl, h2⟩
  | w :: vs, s :: rs, i + 1, r, ⟨_, g⟩, h => by
    have z := Objs.of (vs := vs) (rs := rs) (i := i) (v := r) g (by simpa using h)
    simpa using z
  | [], _ :: _, _, _, h, _ => h.elim
  | _ :: _, [], _, _, h, _ => h.elim
theorem Objs.push {H : Hp} {mk : List V → HO} {p : Addr} {r : List V} (hp : H p = some (mk r)) : ∀ {vs : List V} {rs : List (List V)}, Objs H mk vs rs → Objs H mk (vs ++ [.ref p]) (rs ++ [r])
  | [], [], _ => ⟨⟨p, rfl, hp⟩, trivial⟩
  | _ :: _, _ :: _, ⟨h1, h⟩ => ⟨h1, Objs.push hp h⟩
  | [], _ :: _, h => h.elim
  | _ :: _, [], h => h.elim
/-- what is known may change at an address that none of the objects has -/
theorem Objs.upd {H : Hp} {mk : List V → HO} {q : Addr} {o : HO} (hq : ∀ r, H q ≠ some (mk r)) : ∀ {vs : List V} {rs : List (List V)}, Objs H mk vs rs → Objs (upd H q o) mk vs rs
  | [], [], _ => trivial
  | _ :: _, r :: _, ⟨⟨p, h1, h2⟩, h⟩ => ⟨⟨p, h1, by
      rw [upd_ne (fun e => hq r (by rw [← e]; exact h2))]
      exact h2⟩, Objs.upd hq h⟩
  | [], _ :: _, h => h.elim
  | _ :: _, [], h => h.elim
/-- any postcondition -/
def EvP (te : TE) (σ : L2.St) (H : Hp) (P : V → Hp → Prop) : Prop := ∀ H1, Ex H H1 → ∀ Q : VK, (∀ v H2, Ex H1 H2 → P v H2 → Q v H2) → te σ H1 Q
def SpP (sp : Sp) (vs : List V) (H : Hp) (P : V → Hp → Prop) : Prop := ∀ H1, Ex H H1 → ∀ Q : VK, (∀ v H2, Ex H1 H2 → P v H2 → Q v H2) → ∀ E : XK, sp vs H1 Q E
section
variable {K : PySem.W.Frag} {σ : L2.St} {H H' : Hp} {ta tb te : TE} {t u : TT} {x y z v : V} {r : R2} {D : Ends} {tu tw tz : TS} {g : TG}
theorem Ev.toP (h : Ev te σ H v) : EvP te σ H (fun w _ => w = v) := fun H1 e Q q => h H1 e Q fun H2 e2 => q v H2 e2 rfl
theorem EvP.mono {P : V → Hp → Prop} (e : Ex H H') (h : EvP te σ H P) : EvP te σ H' P := fun H1 a Q q => h H1 (e.trans a) Q q
theorem EvP.imp {P P' : V → Hp → Prop} (h : EvP te σ H P) (k : ∀ w H2, Ex H H2 → P w H2 → P' w H2) : EvP te σ H P' := fun H1 e Q q => h H1 e Q fun w H2 e2 p => q w H2 e2 (k w H2 (e.trans e2) p)
theorem ep_call {sp : Sp} {dvs vs : List V} {E : XK} {ta : TA} {P : V → Hp → Prop} (h : EvA ta σ H vs) (hs : SpP sp (vs ++ dvs) H P) : EvP (tCall sp dvs E ta) σ H P := fun H1 e Q q =>
  h H1 e _ fun H2 e2 => hs H2 (e.trans e2) Q (fun w H3 e3 p => q w H3 (e2.trans e3) p) E
theorem s_asgP {i : Nat} {P : V → Hp → Prop} (h : EvP te σ H P) (k : ∀ w H1, Ex H H1 → P w H1 → D.nx (σ.set i (some w)) H1) : tAsg te (gName i) D σ H := h H (Ex.refl H) _ fun w H1 e p => k w H1 e p
theorem q_asgP {i : Nat} {P : V → Hp → Prop} (h : EvP te σ H P) (k : ∀ w H1, Ex H H1 → P w H1 → tz D (σ.set i (some w)) H1) : tSeq (tAsg te (gName i)) tz D σ H := s_asgP (D := { D with nx := tz D }) h k
theorem s_retP {P : V → Hp → Prop} (h : EvP te σ H P) (k : ∀ w H1, Ex H H1 → P w H1 → D.rt w H1) : tRet te D σ H := h H (Ex.refl H) _ k
/-- a field -/
theorem ev_fld {a C dx : Addr} {fs : List (Str × V)} {f : Str} (ha : Ev ta σ H (.ref a)) (ho : H a = some (.ins C dx fs)) (c : Cls K C) (n : NoAttr K C f) (l : fs.lookup f = some v) : Ev (tFld K ta f) σ H v := fun H1 e Q q =>
  ha H1 e _ fun H2 e2 => ⟨a, C, dx, fs, v, rfl, (e.trans e2) a _ ho, c, n, l, q H2 e2⟩
/-- a call of a built-in whose answer leaves the heap -/
theorem rc_all {p : Addr} {bs : List Bool} (h : SqL K H p (bs.map V.bl)) : RC (rAll K) [.ref p] H (.bl (bs.all id)) := fun H1 e _ q => ⟨p, bs, rfl, ex_l e h, q H1 (Ex.refl H1)⟩
theorem rc_any {p : Addr} {bs : List Bool} (h : SqL K H p (bs.map V.bl)) : RC (rAny K) [.ref p] H (.bl (bs.any id)) := fun H1 e _ q => ⟨p, bs, rfl, ex_l e h, q H1 (Ex.refl H1)⟩
/-- .. of a new list -/
theorem ev_cbN {rr : List V → Hp → VK → Prop} {xs : List V} (h : EvL ta σ H xs) (hr : ∀ p H1, H1 p = some (.lst xs) → Ex H H1 → RC rr [.ref p] H1 z) : Ev (tCB rr (tCons ta tNil)) σ H z := fun H1 e Q q =>
  h H1 e _ fun p H2 _ e2 hp => hr p H2 hp (e.trans e2) H2 (Ex.refl H2) Q fun H3 e3 => q H3 (e2.trans e3)
theorem ev_all {bs : List Bool} (h : EvL ta σ H (bs.map V.bl)) : Ev (tCB (rAll K) (tCons ta tNil)) σ H (.bl (bs.all id)) := ev_cbN h fun _ _ hp _ => rc_all (sq_of hp)
theorem ev_any {bs : List Bool} (h : EvL ta σ H (bs.map V.bl)) : Ev (tCB (rAny K) (tCons ta tNil)) σ H (.bl (bs.any id)) := ev_cbN h fun _ _ hp _ => rc_any (sq_of hp)
/-- xs.index(y) of numbers -/
theorem ev_index {p : Addr} {ns : List Nat} {j m : Nat} (ha : Ev ta σ H (.ref p)) (hs : SqL K H p (nV ns)) (hb : Ev tb σ H (.int (m : Int))) (hj : ns[j]? = some m) (hno : ∀ (i : Nat) (z : Nat), i < j → ns[i]? = some z → z ≠ m) :
    Ev (tBM K "list" (rIndex K) ta (tCons tb tNil)) σ H (.int (j : Int)) := fun H1 e Q q => ha H1 e _ fun H2 e2 => ⟨Or.inl ⟨rfl, _, ex_l (e.trans e2) hs⟩, hb H2 (e.trans e2) _ fun H3 e3 =>
  ⟨p, nV ns, .int (m : Int), j, .int (m : Int), rfl, rfl, ex_l ((e.trans e2).trans e3) hs, rfl, nV_flat ns, nV_get hj, by show decide ((m : Int) = (m : Int)) = true; exact decide_eq_true rfl, fun i w hi hw => by
    obtain ⟨x, hx, rfl⟩ := nV_of hw
    show decide ((x : Int) = (m : Int)) = false
    exact decide_eq_false fun e => hno i x hi hx (Int.ofNat.inj e), q H3 (e2.trans e3)⟩⟩
/-! ### comprehensions over anything -/
theorem el_lcG {wi : TI} {vs : List Nat} (n : Nat) (hn : n ≤ 40000) (f : Nat → Bool) (v : Nat → V) (σ2 : Nat → L2.St) (Y : Nat → V → Hp → Prop)
    (hwi : ∀ H1, Ex H H1 → ∀ R : It → Hp → Prop, (∀ J H2, Ex H1 H2 → (∀ i H3, Ex H2 H3 → i < n → J.go i H3) → (∀ H3, Ex H2 H3 → J.stop n H3) →
      (∀ i H3 x H4, Ex H2 H3 → i < n → J.yld i H3 x H4 → Ex H3 H4 ∧ Y i x H4) → R J H2) → wi σ H1 R)
    (hg : ∀ i x H4 (Q : L2.St → Hp → Prop), i < n → Ex H H4 → Y i x H4 → Q (σ2 i) H4 → g x (wipe σ vs) H4 Q)
    (hw : ∀ i, i < n → wipe (σ2 i) vs = wipe σ vs) (ht : ∀ i H1, Ex H H1 → i < n → EvT t (σ2 i) H1 (f i)) (he : ∀ i H1, Ex H H1 → i < n → f i = true → Ev te (σ2 i) H1 (v i)) :
    EvL (tLc wi g t te vs) σ H (given n f v) := fun H0 e Q q => hwi H0 e _ fun J H1 e1 hgo hst hy Dl hD => by
  have w : Walk J n (Ex H1) (fun i H3 x H4 => Ex H3 H4 ∧ Y i x H4) := ⟨fun i H3 hi e3 => hgo i H3 e3 hi, fun H3 e3 => hst H3 e3, fun i H3 x H4 hi e3 h => hy i H3 x H4 e3 hi h⟩
  refine lc_it w (Cw H1 f v Dl) ⟨hD, Ex.new hD, upd_same⟩ (fun i H' _ p => p.2.1) (fun i x H3 H4 hi p h => ?_) (fun H' p => q Dl H' (fresh_back e1 p.1) (e1.trans p.2.1) p.2.2)
  have p4 : Cw H1 f v Dl i H4 := ⟨p.1, p.2.1.trans h.1, h.1 Dl _ p.2.2⟩
  exact hg i x H4 _ hi ((e.trans e1).trans p4.2.1) h.2 ⟨hw i hi, cw_turn p4 (by omega) (ht i H1 (e.trans e1) hi) fun hf => he i H1 (e.trans e1) hi hf⟩
/-- over zip of two lists, to two names -/
theorem el_lcZ {a b : Addr} {xs ys : List V} {ta : TA} {j k : Nat} {vs : List Nat} (n : Nat) (hn : n = min xs.length ys.length) (hn4 : n ≤ 40000) (f : Nat → Bool) (v : Nat → V) (X Y : Nat → V) (h : EvA ta σ H [.ref a, .ref b]) (ha : SqL K H a xs) (hb : SqL K H b ys)
    (hX : ∀ i, i < n → xs[i]? = some (X i)) (hY : ∀ i, i < n → ys[i]? = some (Y i))
    (hw : ∀ x y, wipe (((wipe σ vs).set j (some x)).set k (some y)) vs = wipe σ vs)
    (ht : ∀ i H1, Ex H H1 → i < n → EvT t (((wipe σ vs).set j (some (X i))).set k (some (Y i))) H1 (f i)) (he : ∀ i H1, Ex H H1 → i < n → f i = true → Ev te (((wipe σ vs).set j (some (X i))).set k (some (Y i))) H1 (v i)) :
    EvL (tLc (iZip K ta) (gTup K 2 (gCons (gName j) (gCons (gName k) gNil))) t te vs) σ H (given n f v) := by
  refine el_lcG n hn4 f v (fun i => ((wipe σ vs).set j (some (X i))).set k (some (Y i))) (fun i x H4 => ∃ T, x = .ref T ∧ H4 T = some (.tup [X i, Y i])) (fun H1 e R q => h H1 e _ fun H2 e2 => ?_) (fun i x H4 Q hi e4 ⟨T, hx, hT⟩ q => ?_) (fun i _ => hw _ _) ht he
  · have w := walk_zip (K := K) (a := a) (b := b) (xs := xs) (ys := ys) hn
    have G : ∀ H3, Ex H2 H3 → SqL K H3 a xs ∧ SqL K H3 b ys := fun H3 e3 => ⟨ex_l ((e.trans e2).trans e3) ha, ex_l ((e.trans e2).trans e3) hb⟩
    refine ⟨a, b, xs, ys, rfl, ex_l (e.trans e2) ha, ex_l (e.trans e2) hb, q _ H2 e2 (fun i H3 e3 hi => w.goes i H3 hi (G H3 e3)) (fun H3 e3 => w.stops H3 (G H3 e3)) fun i H3 x H4 e3 hi hy => ?_⟩
    obtain ⟨T, x1, y1, rfl, nT, rfl, h1, h2⟩ := w.yields i H3 x H4 hi (G H3 e3) hy
    have z1 := Option.some.inj ((hX i hi).symm.trans (show xs[i]? = some x1 from h1))
    have z2 := Option.some.inj ((hY i hi).symm.trans (show ys[i]? = some y1 from h2))
    subst z1
    subst z2
    exact ⟨Ex.new nT, T, rfl, upd_same⟩
  · subst hx
    exact ⟨T, [X i, Y i], rfl, st_of hT, rfl, X i, [Y i], rfl, Y i, [], rfl, rfl, q⟩
/-- over a list of triples -/
theorem el_lcT3 {a : Addr} {xs : List V} {rs : List (List V)} {tl : TE} {j k l : Nat} {vs : List Nat} (hn4 : xs.length ≤ 40000) (f : Nat → Bool) (v : Nat → V) (X Y Z : Nat → V) (h : Ev tl σ H (.ref a)) (ha : SqL K H a xs) (ho : Objs H .tup xs rs)
    (hX : ∀ i, i < xs.length → rs[i]? = some [X i, Y i, Z i])
    (hw : ∀ x y z, wipe ((((wipe σ vs).set j (some x)).set k (some y)).set l (some z)) vs = wipe σ vs)
    (ht : ∀ i H1, Ex H H1 → i < xs.length → EvT t ((((wipe σ vs).set j (some (X i))).set k (some (Y i))).set l (some (Z i))) H1 (f i)) (he : ∀ i H1, Ex H H1 → i < xs.length → f i = true → Ev te ((((wipe σ vs).set j (some (X i))).set k (some (Y i))).set l (some (Z i))) H1 (v i)) :
    EvL (tLc (iList K tl) (gTup K 3 (gCons (gName j) (gCons (gName k) (gCons (gName l) gNil)))) t te vs) σ H (given xs.length f v) := by
  refine el_lcG xs.length hn4 f v (fun i => (((wipe σ vs).set j (some (X i))).set k (some (Y i))).set l (some (Z i))) (fun i x H4 => xs[i]? = some x) (fun H1 e R q => h H1 e _ fun H2 e2 => ?_) (fun i x H4 Q hi e4 hx q => ?_) (fun i _ => hw _ _ _) ht he
  · have w := walk_list (K := K) (a := a) (xs := xs)
    have G : ∀ H3, Ex H2 H3 → SqL K H3 a xs := fun H3 e3 => ex_l ((e.trans e2).trans e3) ha
    refine ⟨a, rfl, ⟨xs, ex_l (e.trans e2) ha⟩, q _ H2 e2 (fun i H3 e3 hi => w.goes i H3 hi (G H3 e3)) (fun H3 e3 => w.stops H3 (G H3 e3)) fun i H3 x H4 e3 hi hy => ?_⟩
    obtain ⟨rfl, hx⟩ := w.yields i H3 x H4 hi (G H3 e3) hy
    exact ⟨Ex.refl _, hx⟩
  · obtain ⟨p, r, rfl, hr, hp⟩ := ho.of hx
    rw [hX i hi] at hr
    cases hr
    exact ⟨p, [X i, Y i, Z i], rfl, st_of (e4 p _ hp), rfl, X i, _, rfl, Y i, _, rfl, Z i, [], rfl, rfl, q⟩
end
theorem given_all (n : Nat) (v : Nat → V) : given n (fun _ => true) v = (List.range n).map v := by
  unfold given
  rw [List.filter_eq_self.mpr (fun _ _ => rfl)]
end Rs
set_option Elab.async false
set_option linter.all false
set_option maxRecDepth 100000
set_option maxHeartbeats 4000000
namespace Rs
open PySem PySem.Spec PyProof.Rows L2 Evl
theorem range_getD {α : Type} (ns : List α) (d : α) : (List.range ns.length).map (fun i => ns.getD i d) = ns := by
  refine List.ext_getElem (by simp) fun i h1 h2 => ?_
  simp [List.getD, h2]
theorem given_filter {α : Type} (ns : List α) (d : α) (p : α → Bool) (F : α → V) : given ns.length (fun i => p (ns.getD i d)) (fun i => F (ns.getD i d)) = (ns.filter p).map F := by
  have e := range_getD ns d
  conv => rhs; rw [← e]
  rw [List.filter_map, List.map_map]
  rfl
theorem getD_of {α : Type} {ns : List α} {d : α} {i : Nat} (h : i < ns.length) : ns[i]? = some (ns.getD i d) := by
  simp [List.getD, h]
section
variable {K : PySem.W.Frag} {σ : L2.St} {H H' : Hp} {ta tb te : TE} {t u : TT} {x y z v : V} {r : R2} {D : Ends} {tu tw tz : TS} {g : TG}
/-- [F x for x in xs if p x] -/
theorem el_lcM {α : Type} [Inhabited α] (em : α → V) {ns : List α} {a : Addr} {tl : TE} {j : Nat} {vs : List Nat} (p : α → Bool) (F : α → V) (h : Ev tl σ H (.ref a)) (hx : SqL K H a (ns.map em)) (hz : ns.length ≤ 40000) (hw : ∀ x, wipe ((wipe σ vs).set j (some x)) vs = wipe σ vs)
    (ht : ∀ (x : α) H1, Ex H H1 → x ∈ ns → EvT t ((wipe σ vs).set j (some (em x))) H1 (p x)) (he : ∀ (x : α) H1, Ex H H1 → x ∈ ns → p x = true → Ev te ((wipe σ vs).set j (some (em x))) H1 (F x)) :
    EvL (tLc (iList K tl) (gName j) t te vs) σ H ((ns.filter p).map F) := by
  rw [← given_filter ns default p F]
  have el : (ns.map em).length = ns.length := List.length_map ..
  have key : ∀ (i : Nat) (x : V), (ns.map em)[i]? = some x → ns.getD i default ∈ ns ∧ x = em (ns.getD i default) := fun i x hi => by
    have hl : i < ns.length := by have := (List.getElem?_eq_some_iff.mp hi).1; omega
    have e1 := getD_of (d := default) hl
    refine ⟨List.mem_of_getElem? e1, ?_⟩
    rw [List.getElem?_map, e1] at hi
    exact (Option.some.inj hi).symm
  have := el_lcL (K := K) (t := t) (te := te) (σ := σ) (H := H) (xs := ns.map em) (tl := tl) (j := j) (vs := vs) (fun i => p (ns.getD i default)) (fun i => F (ns.getD i default)) h hx (by omega) hw
    (fun i x H1 e hi => by obtain ⟨m, rfl⟩ := key i x hi; exact ht _ H1 e m) (fun i x H1 e hi hf => by obtain ⟨m, rfl⟩ := key i x hi; exact he _ H1 e m hf)
  rw [el] at this
  exact this
/-- [F x y for x, y in zip(xs, ys) if p x y] -/
theorem el_lcZM {α β : Type} [Inhabited α] [Inhabited β] (em : α → V) (en : β → V) {as : List α} {bs : List β} {a b : Addr} {ta : TA} {j k : Nat} {vs : List Nat} (p : α × β → Bool) (F : α × β → V) (h : EvA ta σ H [.ref a, .ref b]) (ha : SqL K H a (as.map em)) (hb : SqL K H b (bs.map en)) (hz : (as.zip bs).length ≤ 40000)
    (hw : ∀ x y, wipe (((wipe σ vs).set j (some x)).set k (some y)) vs = wipe σ vs)
    (ht : ∀ (x : α) (y : β) H1, Ex H H1 → (x, y) ∈ as.zip bs → EvT t (((wipe σ vs).set j (some (em x))).set k (some (en y))) H1 (p (x, y))) (he : ∀ (x : α) (y : β) H1, Ex H H1 → (x, y) ∈ as.zip bs → p (x, y) = true → Ev te (((wipe σ vs).set j (some (em x))).set k (some (en y))) H1 (F (x, y))) :
    EvL (tLc (iZip K ta) (gTup K 2 (gCons (gName j) (gCons (gName k) gNil))) t te vs) σ H (((as.zip bs).filter p).map F) := by
  rw [← given_filter (as.zip bs) default p F]
  have key : ∀ i, i < (as.zip bs).length → (as.zip bs).getD i default ∈ as.zip bs ∧ as[i]? = some ((as.zip bs).getD i default).1 ∧ bs[i]? = some ((as.zip bs).getD i default).2 := fun i hi => by
    have e1 := getD_of (d := (default : α × β)) hi
    refine ⟨List.mem_of_getElem? e1, ?_, ?_⟩
    · rw [List.getElem?_zip_eq_some] at e1
      exact e1.1
    · rw [List.getElem?_zip_eq_some] at e1
      exact e1.2
  refine el_lcZ (K := K) (as.zip bs).length (by rw [List.length_zip, List.length_map, List.length_map]) hz _ _ (fun i => em ((as.zip bs).getD i default).1) (fun i => en ((as.zip bs).getD i default).2) h ha hb (fun i hi => ?_) (fun i hi => ?_) hw (fun i H1 e hi => ?_) (fun i H1 e hi hf => ?_)
  · rw [List.getElem?_map, (key i hi).2.1]; rfl
  · rw [List.getElem?_map, (key i hi).2.2]; rfl
  · exact ht _ _ H1 e (key i hi).1
  · exact he _ _ H1 e (key i hi).1 hf
/-- [F l for i, j, k in laws if p l], laws a list of triples -/
theorem el_lcTM {ls : List (List Nat)} (h3 : ∀ l ∈ ls, l.length = 3) {xs : List V} {a : Addr} {tl : TE} {j k l : Nat} {vs : List Nat} (p : List Nat → Bool) (F : List Nat → V) (h : Ev tl σ H (.ref a)) (ha : SqL K H a xs) (ho : Objs H .tup xs (ls.map nV)) (hz : ls.length ≤ 40000)
    (hw : ∀ x y z, wipe ((((wipe σ vs).set j (some x)).set k (some y)).set l (some z)) vs = wipe σ vs)
    (ht : ∀ x y z H1, Ex H H1 → [x, y, z] ∈ ls → EvT t ((((wipe σ vs).set j (some (.int (x : Int)))).set k (some (.int (y : Int)))).set l (some (.int (z : Int)))) H1 (p [x, y, z]))
    (he : ∀ x y z H1, Ex H H1 → [x, y, z] ∈ ls → p [x, y, z] = true → Ev te ((((wipe σ vs).set j (some (.int (x : Int)))).set k (some (.int (y : Int)))).set l (some (.int (z : Int)))) H1 (F [x, y, z])) :
    EvL (tLc (iList K tl) (gTup K 3 (gCons (gName j) (gCons (gName k) (gCons (gName l) gNil)))) t te vs) σ H ((ls.filter p).map F) := by
  rw [← given_filter ls [] p F]
  have el : xs.length = ls.length := by rw [ho.len, List.length_map]
  have key : ∀ i, i < xs.length → ∃ x y z, ls.getD i [] = [x, y, z] ∧ [x, y, z] ∈ ls ∧ ls[i]? = some [x, y, z] := fun i hi => by
    have e1 := getD_of (d := ([] : List Nat)) (show i < ls.length by omega)
    have m := List.mem_of_getElem? e1
    have h3 := h3 _ m
    generalize ls.getD i [] = q at *
    match q, h3 with
    | [x, y, z], _ => exact ⟨x, y, z, rfl, m, e1⟩
  have := el_lcT3 (K := K) (t := t) (te := te) (σ := σ) (H := H) (xs := xs) (rs := ls.map nV) (tl := tl) (j := j) (k := k) (l := l) (vs := vs) (by omega) (fun i => p (ls.getD i [])) (fun i => F (ls.getD i [])) (fun i => .int (((ls.getD i []).getD 0 0 : Nat) : Int)) (fun i => .int (((ls.getD i []).getD 1 0 : Nat) : Int)) (fun i => .int (((ls.getD i []).getD 2 0 : Nat) : Int)) h ha ho
    (fun i hi => by obtain ⟨x, y, z, e, m, g⟩ := key i hi; rw [List.getElem?_map, g, e]; rfl) hw
    (fun i H1 e hi => by obtain ⟨x, y, z, e', m, g⟩ := key i hi; simp only [e']; exact ht x y z H1 e m) (fun i H1 e hi hf => by obtain ⟨x, y, z, e', m, g⟩ := key i hi; simp only [e'] at hf ⊢; exact he x y z H1 e m hf)
  rw [el] at this
  exact this
theorem et_yes : EvT tYes σ H true := fun H1 _ _ q => q H1 (Ex.refl H1)
/-- for i, x in enumerate(xs) -/
theorem s_forE {a : Addr} {xs : List V} {ta : TA} {j k : Nat} (h : EvA ta σ H [.ref a]) (hx : SqL K H a xs) (Pv : Nat → L2.St → Hp → Prop) (h0 : ∀ H1, Ex H H1 → Pv 0 σ H1) (hl : ∀ i σ' H', i ≤ xs.length → Pv i σ' H' → SqL K H' a xs)
    (hs : ∀ i x σ' H' H2, xs[i]? = some x → Pv i σ' H' → Ex H' H2 → tu { D with nx := Pv (i + 1), ct := Pv (i + 1), bk := D.nx } ((σ'.set j (some (.int ((i : Nat) : Int)))).set k (some x)) H2) (hd : ∀ σ' H', Pv xs.length σ' H' → D.nx σ' H') :
    tFor (iEnum K ta) (gTup K 2 (gCons (gName j) (gCons (gName k) gNil))) tu D σ H := h H (Ex.refl H) _ fun H1 e =>
  ⟨a, xs, rfl, ex_l e hx, for_it (walk_enum (K := K) (a := a) (xs := xs)) Pv (h0 H1 e) hl (fun i x σ' H' H2 hi p hy => by
    obtain ⟨T, x1, y1, rfl, nT, rfl, h1, h2⟩ := hy
    have z1 : V.int ((i : Nat) : Int) = x1 := Option.some.inj h1
    subst z1
    exact ⟨T, [.int (i : Nat), y1], rfl, st_of upd_same, rfl, _, _, rfl, y1, [], rfl, rfl, hs i y1 σ' H' _ h2 p (Ex.new nT)⟩) hd⟩
theorem q_forE {a : Addr} {xs : List V} {ta : TA} {j k : Nat} (h : EvA ta σ H [.ref a]) (hx : SqL K H a xs) (Pv : Nat → L2.St → Hp → Prop) (h0 : ∀ H1, Ex H H1 → Pv 0 σ H1) (hl : ∀ i σ' H', i ≤ xs.length → Pv i σ' H' → SqL K H' a xs)
    (hs : ∀ i x σ' H' H2, xs[i]? = some x → Pv i σ' H' → Ex H' H2 → tu { D with nx := Pv (i + 1), ct := Pv (i + 1), bk := tz D } ((σ'.set j (some (.int ((i : Nat) : Int)))).set k (some x)) H2) (hd : ∀ σ' H', Pv xs.length σ' H' → tz D σ' H') :
    tSeq (tFor (iEnum K ta) (gTup K 2 (gCons (gName j) (gCons (gName k) gNil))) tu) tz D σ H := s_forE (D := { D with nx := tz D }) h hx Pv h0 hl hs hd
end
end Rs
set_option Elab.async false
set_option linter.all false
set_option maxRecDepth 100000
set_option maxHeartbeats 4000000
/-! ### max of a tuple of ints -/
namespace Rs
open PySem PySem.Spec PyProof.Rows L2 Evl
section
variable {prog : Program} {w : World} {A : Around} {E : Value → Shared → Prop} {s : Shared} {l : Addr} {xs : Array (Int × Tok)}
theorem iter_intTup {Q : Value → Shared → Prop} (hl : s.heap.IsTuple l (intItems xs))
    (h : ∀ s₂ : Shared, s₂ = { s with heap := s.heap.push { cls := .type "tuple_iterator", data := .fields #[.ref l, .int 0 0] } } →
      (s₂.heap.IsTupleIter s.heap.objs.size l 0 ∧ s₂.heap.IsTuple l (intItems xs)) → (∀ b ∈ [s.heap.objs.size, l], b < s₂.heap.objs.size) → l ≠ s.heap.objs.size → Q (.ref s.heap.objs.size) s₂) :
    wpAny (model prog w) A (pyIter (.ref l)) Q E s := by
  have hlt : l < s.heap.objs.size := by obtain ⟨_, e, _⟩ := hl; exact Heap.lt_size e
  refine wpAny_pyIter_tuple hl (h _ rfl ⟨⟨_, Heap.get?_push_size _ rfl, rfl, rfl⟩, hl.push _⟩ (fun b hb => ?_) (Nat.ne_of_lt hlt))
  show b < (s.heap.push _).objs.size
  rw [Heap.size_push]
  rcases List.mem_cons.mp hb with rfl | hb
  · exact Nat.lt_succ_self _
  · rcases List.mem_cons.mp hb with rfl | hb
    · exact Nat.lt_succ_of_lt hlt
    · cases hb
theorem old_keptT {h' : Heap} (hk : ∀ b o, b ∉ [s.heap.objs.size] → (s.heap.push { cls := .type "tuple_iterator", data := .fields #[.ref l, .int 0 0] }).get? b = some o → h'.get? b = some o) :
    ∀ b o, s.heap.get? b = some o → h'.get? b = some o := fun b o e => by
  refine hk b o (fun hm => ?_) (Heap.get?_push_of_some _ e)
  rcases List.mem_cons.mp hm with e1 | hm
  · exact absurd (e1 ▸ Heap.lt_size e) (Nat.lt_irrefl _)
  · cases hm
theorem max_intTup {Q : Value → Shared → Prop} (hh : A.handled = none) (hl : s.heap.IsTuple l (intItems xs)) (hne : 0 < xs.size)
    (h : ∀ v h' tk, (intItems xs)[argBest (fun i j => decide (numAt xs i > numAt xs j)) (xs.size - 1)]? = some v → (∀ b o, s.heap.get? b = some o → h'.get? b = some o) → Q v { s with heap := h', toks := tk }) :
    wpAny (model prog w) A (call (.builtin "max") [.ref l]) Q E s := by
  refine call_max_walk (iter_intTup hl fun s₂ e st hfp hlI => ?_)
  subst e
  refine ⟨_, _, _, _, _, _, _, rfl, Walks.tuple (A := A.in1) hh _ l hlI (intItems xs), st, hfp, by simpa [intItems] using hne, CmpOf.ints_gt (numAt xs) (fun _ _ => intItems_at), fun v h' tk hP hk => ?_⟩
  exact h v h' tk (by simpa [intItems] using hP) (old_keptT hk)
theorem max_rawT {its : List Value} {ns : List Int} {Q : Value → Shared → Prop} (hh : A.handled = none) (hl : s.heap.IsTuple l its.toArray) (hi : IntsAre its ns) (hne : 0 < ns.length)
    (h : ∀ h' tk M t', (∀ b o, s.heap.get? b = some o → h'.get? b = some o) → M ∈ ns → (∀ a, a ∈ ns → a ≤ M) → Q (.int M t') { s with heap := h', toks := tk }) : wpAny (model prog w) A (call (.builtin "max") [.ref l]) Q E s := by
  obtain ⟨xs, e⟩ := hi.allInts.items
  have hn : numsOf (intItems xs).toList = ns := by rw [← e]; exact hi.numsOf
  rw [nums_intItems] at hn
  subst hn
  rw [e] at hl
  have hsz : 0 < xs.size := by simpa using hne
  refine max_intTup hh hl hsz fun v h' tk hv hk => ?_
  obtain ⟨t, rfl⟩ := intItems_at hv
  obtain ⟨h1, h2⟩ := argBest_gt (numAt xs) (xs.size - 1)
  refine h h' tk _ t hk ?_ fun a ha => ?_
  · rw [numAt_eq]; exact PySem.getD_mem (by rw [List.length_map, Array.length_toList]; omega)
  · obtain ⟨j, hj, rfl⟩ := mem_getD ha
    rw [List.length_map, Array.length_toList] at hj
    rw [← numAt_eq]; exact h2 j (by omega)
end
section
variable {X : Cx}
def rMaxT (K : PySem.W.Frag) : List V → Hp → VK → Prop := fun vs H Q => ∃ (a : Addr) (ns : List Int), vs = [V.ref a] ∧ SqT K H a (ns.map V.int) ∧ 0 < ns.length ∧ ∀ m, m ∈ ns → (∀ y, y ∈ ns → y ≤ m) → Q (.int m) H
theorem cr_maxT (hc : X.calm = true) : CallR X (.builtin "max") (rMaxT X.K) := by
  intro pins s σ H vs us Q I r h
  obtain ⟨a, ns, rfl, hs, hne, q⟩ := h
  obtain ⟨its, rv, hl, _⟩ := I.tuple hs
  rw [Vals.ref1 r]
  exact max_rawT (I.ok.hd hc) hl rv.ints hne fun h' tk m t' hk h1 h2 => ⟨.int _, H, I.kept hk, ⟨_, rfl⟩, q m h1 h2⟩
end
section
variable {K : PySem.W.Frag} {σ : L2.St} {H : Hp} {ta : TE}
theorem ev_maxT3 {p : Addr} {i j k : Nat} (ha : Ev ta σ H (.ref p)) (h : H p = some (.tup (nV [i, j, k]))) : Ev (tCB (rMaxT K) (tCons ta tNil)) σ H (.int ((max (max i j) k : Nat) : Int)) := fun H1 e Q q =>
  ha H1 e _ fun H2 e2 => ⟨p, [(i : Int), (j : Int), (k : Int)], rfl, st_of ((e.trans e2) _ _ h), by show 0 < 3; omega, fun m hm hle => by
    have e0 : m = ((max (max i j) k : Nat) : Int) := by
      have h1 := hle (i : Int) (by simp)
      have h2 := hle (j : Int) (by simp)
      have h3 := hle (k : Int) (by simp)
      simp at hm
      rcases hm with rfl | rfl | rfl <;> omega
    rw [e0]
    exact q H2 e2⟩
end
end Rs
set_option Elab.async false
set_option linter.all false
set_option maxRecDepth 100000
set_option maxHeartbeats 4000000
/-! ### the rules with the written part told (they stand within a comprehension's block, too) -/
namespace Rs
open PySem PySem.Spec PyProof.Rows L2 Evl
section
variable {X : Cx} (K : PySem.W.Frag)
theorem ixl (hK : X.K = K := by rfl) : IxR X (rIxL K) := by subst hK; exact ix_list
theorem ixt (hK : X.K = K := by rfl) : IxR X (rIxT K) := by subst hK; exact ix_tup
theorem lenK (hK : X.K = K := by rfl) : CallR X (.builtin "len") (rLenS K) := by subst hK; exact call_len_seq
theorem listK (hK : X.K = K := by rfl) : CallR X (.type "list") (rListS K) := by subst hK; exact call_list_of
theorem allK (hc : X.calm = true := by rfl) (hK : X.K = K := by rfl) : CallR X (.builtin "all") (rAll K) := by subst hK; exact cr_all hc
theorem anyK (hc : X.calm = true := by rfl) (hK : X.K = K := by rfl) : CallR X (.builtin "any") (rAny K) := by subst hK; exact cr_any hc
theorem sumK (hc : X.calm = true := by rfl) (hK : X.K = K := by rfl) : CallR X (.builtin "sum") (rSum K) := by subst hK; exact cr_sum hc
theorem maxK (hc : X.calm = true := by rfl) (hK : X.K = K := by rfl) : CallR X (.builtin "max") (rMax K) := by subst hK; exact cr_max hc
theorem minK (hc : X.calm = true := by rfl) (hK : X.K = K := by rfl) : CallR X (.builtin "min") (rMin K) := by subst hK; exact cr_min hc
theorem maxTK (hc : X.calm = true := by rfl) (hK : X.K = K := by rfl) : CallR X (.builtin "max") (rMaxT K) := by subst hK; exact cr_maxT hc
theorem inK (hK : X.K = K := by rfl) : OpR X (compareOp .In) (rIn K false) := by subst hK; exact op_in_seq
theorem notInK (hK : X.K = K := by rfl) : OpR X (compareOp .NotIn) (rIn K true) := by subst hK; exact op_notIn_seq
theorem indexK (hK : X.K = K := by rfl) : MtR X "list.index" (rIndex K) := by subst hK; exact mt_index
theorem indexDK (hu : X.A.units + 65 < cLine) (hK : X.K = K := by rfl) : MtR X "list.index" (rIndexD K) := by subst hK; exact mt_indexD hu
theorem slK (hK : X.K = K := by rfl) : SlR X (rSlL K) := by subst hK; exact sl_list
theorem fldK {e : Expr} {f : Str} {pos : Pos} {ta : TE} (he : PE X e ta) (hb : attributeBase e f X.env (eval e X.env) = eval e X.env := by rfl) (hK : X.K = K := by rfl) : PE X (.Attribute e f pos) (tFld K ta f) := by subst hK; exact pe_fld he hb
theorem sfldK {o value : Expr} {f : Str} {pos pos' : Pos} {ta tv : TE} (ha : PE X o ta) (hv : PE X value tv) (hs : swapsWith value (some (.Attribute o f pos')) pos.line X.env = pure false := by rfl) (hK : X.K = K := by rfl) : PS X (.Assign [.Attribute o f pos'] value pos) (sFld K ta tv f) := by subst hK; exact ps_fld ha hv hs
theorem bmK {o e : Expr} {es : List Expr} {to : TE} {t : TA} {name : Str} {apos cpos : Pos} {T id : String} {r : V → List V → Hp → VK → Prop} (pa : PlainAttrs T) (slot : Slot T name id) (hty : typeOf (.builtin id) = pure (.type "method_descriptor")) (hm : MtR X id r) (ho : PE X o to) (ha : PA X (e :: es) t)
    (hbase : attributeBase o name X.env (eval o X.env) = eval o X.env := by rfl)
    (hfew : ((backTo cpos (starEach (e :: es) X.env)).all (fun x => !x.1) && (backToKw cpos (keywordEach [] X.env)).all (fun x => x.1.isSome)
      && decide ((e :: es).length + ([] : List Keyword).length + (if ([] : List Keyword).isEmpty then 0 else 1) < 30)) = true := by rfl)
    (hline : (apos.endLine == cpos.line) = true := by rfl) (hs : starEach (e :: es) X.env = (false, eval e X.env) :: starEach es X.env := by rfl) (hplain : (backTo cpos (starEach es X.env)).any (·.1) = false := by rfl) (hK : X.K = K := by rfl) :
    PE X (.Call (.Attribute o name apos) (e :: es) [] cpos) (tBM K T r to t) := by subst hK; exact pe_bm pa slot hty hm ho ha hbase hfew hline hs hplain
theorem bm0K {o : Expr} {to : TE} {name : Str} {apos cpos : Pos} {T id : String} {r : V → List V → Hp → VK → Prop} (pa : PlainAttrs T) (slot : Slot T name id) (hty : typeOf (.builtin id) = pure (.type "method_descriptor")) (hm : MtR X id r) (ho : PE X o to)
    (hbase : attributeBase o name X.env (eval o X.env) = eval o X.env := by rfl) (hline : (apos.endLine == cpos.line) = true := by rfl) (hK : X.K = K := by rfl) : PE X (.Call (.Attribute o name apos) [] [] cpos) (tBM0 K T r to) := by subst hK; exact pe_bm0 pa slot hty hm ho hbase hline
theorem pilK {tg l : Expr} {tl : TE} (hl : PE X l tl) (hK : X.K = K := by rfl) : PI X tg l (iList K tl) := by subst hK; exact pi_list hl
end
end Rs
set_option Elab.async false
set_option linter.all false
set_option maxRecDepth 100000
set_option maxHeartbeats 4000000
/-! ### xs[i] op= e; products and quotients that grow -/
namespace Rs
open PySem PySem.Spec PyProof.Rows L2 Evl
def rGetL : V → V → Hp → VK → Prop := fun o i H Q => ∃ (p : Addr) (xs : List V) (j : Nat) (v : V), o = .ref p ∧ i = .int (j : Int) ∧ H p = some (.lst xs) ∧ xs[j]? = some v ∧ Q v H
section
variable {X : Cx}
theorem get_list : PGet X rGetL := by
  intro pins s σ H o i ov iv Q I ro ri h
  obtain ⟨p, xs, j, v, rfl, rfl, hp, hx, q⟩ := h
  cases ro
  obtain ⟨t, rfl⟩ := ri
  obtain ⟨its, r, pl, hz⟩ := I.list (sq_of (K := X.K) hp)
  obtain ⟨u, eu, ru⟩ := r.get hx
  have hj := (List.getElem?_eq_some_iff.mp hx).1
  have hs : sizeLine < 2 ^ 63 := by decide
  exact wpAny_getItem_list pl.isList (by omega) (by omega) (by simpa using eu) ⟨v, H, I, ru, q⟩
theorem ps_augL {o i e : Expr} {to ti te : TE} {tip : TIp} {op : Operator} {tpos pos : Pos} (ho : PE X o to) (hi : PE X i ti) (he : PE X e te) (hp : PIp X op tip)
    (ha : ∀ ov iv new, augStore i ov iv new = (do holding [new, ov, iv] (setItem ov iv new); release [new, ov, iv] []; pure .next) := by intros; rfl) : PS X (.AugAssign (.Subscript o i tpos) op e pos) (tAugS to ti te rGetL tip rSetL) := ps_augS ho hi get_list he hp set_list ha
end
section
variable {K : PySem.W.Frag} {σ : L2.St} {H : Hp} {to ti te : TE} {D : Ends} {tz : TS}
theorem s_augL {l : Addr} {xs : List V} {j : Nat} {a b : Int} {f : Int → Int → Int} (hl : H l = some (.lst xs)) (ho : Ev to σ H (.ref l)) (hi : Ev ti σ H (.int (j : Int))) (hx : xs[j]? = some (.int a)) (he : Ev te σ H (.int b)) (k : ∀ H1, Ex H H1 → D.nx σ (L2.upd H1 l (.lst (xs.set j (.int (f a b)))))) :
    tAugS to ti te rGetL (ipI f) rSetL D σ H := ho H (Ex.refl H) _ fun H1 e1 => hi H1 e1 _ fun H2 e2 => ⟨l, xs, j, .int a, rfl, rfl, (e1.trans e2) _ _ hl, hx, he H2 (e1.trans e2) _ fun H3 e3 => ⟨a, b, rfl, rfl, l, xs, (j : Int), j, rfl, rfl, ((e1.trans e2).trans e3) _ _ hl, ixN_nat (List.getElem?_eq_some_iff.mp hx).1, k H3 ((e1.trans e2).trans e3)⟩⟩
theorem q_augL {l : Addr} {xs : List V} {j : Nat} {a b : Int} {f : Int → Int → Int} (hl : H l = some (.lst xs)) (ho : Ev to σ H (.ref l)) (hi : Ev ti σ H (.int (j : Int))) (hx : xs[j]? = some (.int a)) (he : Ev te σ H (.int b)) (k : ∀ H1, Ex H H1 → tz D σ (L2.upd H1 l (.lst (xs.set j (.int (f a b)))))) :
    tSeq (tAugS to ti te rGetL (ipI f) rSetL) tz D σ H := s_augL (D := { D with nx := tz D }) hl ho hi hx he k
/-- [x] * k -/
theorem el_rep {l : Addr} {xs : List V} {k : Nat} (ha : EvL to σ H xs) (hb : Ev ti σ H (.int (k : Int))) (hz : xs.length * k ≤ 1000000) (hk : k ≤ 1000000) : EvL (tOp rRep to ti) σ H (List.replicate k xs).flatten := fun H1 e Q q =>
  ha H1 e _ fun p H2 hp e2 h2 => hb H2 (e.trans e2) _ fun H3 e3 => by
    refine ⟨p, (k : Int), xs, rfl, rfl, e3 _ _ h2, by omega, by omega, ?_, ?_⟩
    · rw [Int.toNat_natCast]
      exact Nat.le_trans hz (by decide)
    · intro p' hp'
      rw [Int.toNat_natCast]
      exact q p' _ (fresh_back (e2.trans e3) hp') ((e2.trans e3).trans (Ex.new hp')) upd_same
end
end Rs
set_option Elab.async false
set_option linter.all false
set_option maxRecDepth 100000
set_option maxHeartbeats 4000000
/-! ### whole numbers as values; dicts; ranges that go down; parts of new lists -/
namespace Rs
open PySem PySem.Spec PyProof.Rows L2 Evl
def iV (l : List Int) : List V := l.map V.int
theorem iV_len (l : List Int) : (iV l).length = l.length := List.length_map ..
theorem iV_getD {l : List Int} {i : Nat} (h : i < l.length) : (iV l)[i]? = some (.int (l.getD i 0)) := by
  unfold iV
  rw [List.getElem?_map, List.getElem?_eq_getElem h, List.getD_eq_getElem?_getD, List.getElem?_eq_getElem h]
  rfl
theorem iV_of {l : List Int} {i : Nat} {v : V} (h : (iV l)[i]? = some v) : ∃ x, l[i]? = some x ∧ v = .int x := by
  unfold iV at h
  rw [List.getElem?_map] at h
  cases e : l[i]? with
  | none => rw [e] at h; cases h
  | some x => rw [e] at h; exact ⟨x, rfl, (Option.some.inj h).symm⟩
theorem iV_append (a b : List Int) : iV (a ++ b) = iV a ++ iV b := List.map_append ..
theorem iV_set (l : List Int) (i : Nat) (x : Int) : iV (l.set i x) = (iV l).set i (.int x) := List.map_set ..
theorem iV_take (l : List Int) (i : Nat) : iV (l.take i) = (iV l).take i := List.map_take ..
theorem iV_drop (l : List Int) (i : Nat) : iV (l.drop i) = (iV l).drop i := List.map_drop ..
theorem iV_ints (l : List Nat) : iV (Na04.ints l) = nV l := by
  unfold iV nV Na04.ints
  rw [List.map_map]
  rfl
theorem cut_lo (xs : List V) (k : Nat) : cutV xs (some (k : Int)) none = xs.drop k := by
  unfold cutV
  rw [show HT.sIx xs.length 0 (some (k : Int)) = min k xs.length from HT.sIx_nat xs.length 0 k, show HT.sIx xs.length xs.length none = xs.length from rfl]
  by_cases h : k ≤ xs.length
  · rw [Nat.min_eq_left h]
    exact List.take_of_length_le (by rw [List.length_drop]; omega)
  · rw [Nat.min_eq_right (by omega), List.drop_eq_nil_of_le (Nat.le_refl _), List.drop_eq_nil_of_le (by omega), List.take_nil]
theorem cut_hi (xs : List V) (k : Nat) : cutV xs none (some (k : Int)) = xs.take k := by
  unfold cutV
  rw [show HT.sIx xs.length 0 none = 0 from rfl, show HT.sIx xs.length xs.length (some (k : Int)) = min k xs.length from HT.sIx_nat xs.length xs.length k]
  show List.take (min k xs.length - 0) xs = xs.take k
  rw [Nat.sub_zero]
  by_cases h : k ≤ xs.length
  · rw [Nat.min_eq_left h]
  · rw [Nat.min_eq_right (by omega), List.take_of_length_le (Nat.le_refl _), List.take_of_length_le (by omega)]
section
variable {K : PySem.W.Frag} {σ : L2.St} {H H' : Hp} {ta tb te td : TE} {t : TT} {D : Ends} {tu tz : TS} {v x y z : V} {g : TG}
/-- a part of a new list -/
theorem el_slN {tl th : TO} {xs : List V} {lo hi : Option Int} (h : EvL te σ H xs) (h1 : EvO tl σ H lo) (h2 : EvO th σ H hi) : EvL (tSl (rSlL K) te tl th) σ H (cutV xs lo hi) := fun H1 e _ q =>
  h H1 e _ fun a H2 ha e2 hx => h1 H2 (e.trans e2) _ fun H3 e3 => h2 H3 ((e.trans e2).trans e3) _ fun H4 e4 => ⟨a, xs, rfl, sq_of ((e3.trans e4) _ _ hx), fun p hp => q p _ (fresh_back ((e2.trans e3).trans e4) hp) (((e2.trans e3).trans e4).trans (Ex.new hp)) upd_same⟩
/-- two new lists, one behind another -/
theorem el_catNN {xs ys : List V} (ha : EvL ta σ H xs) (hb : EvL tb σ H ys) (hz : xs.length + ys.length ≤ 100000) : EvL (tOp rCat ta tb) σ H (xs ++ ys) := fun H1 e Q q =>
  ha H1 e _ fun l H2 hl e2 h2 => hb H2 (e.trans e2) _ fun p H3 hp e3 h3 => ⟨l, p, xs, ys, rfl, rfl, e3 _ _ h2, h3, sz_of hz, fun p' hp' => q p' _ (fresh_back (e2.trans e3) hp') ((e2.trans e3).trans (Ex.new hp')) upd_same⟩
theorem el_catNV {xs ys : List V} {b : Addr} (ha : EvL ta σ H xs) (hb : Ev tb σ H (.ref b)) (hl : H b = some (.lst ys)) (hz : xs.length + ys.length ≤ 100000) : EvL (tOp rCat ta tb) σ H (xs ++ ys) := fun H1 e Q q =>
  ha H1 e _ fun l H2 hl2 e2 h2 => hb H2 (e.trans e2) _ fun H3 e3 => ⟨l, b, xs, ys, rfl, rfl, e3 _ _ h2, ((e.trans e2).trans e3) _ _ hl, sz_of hz, fun p' hp' => q p' _ (fresh_back (e2.trans e3) hp') ((e2.trans e3).trans (Ex.new hp')) upd_same⟩
/-- for .. in range(lo, hi, -1) -/
theorem s_forD {ta : TA} {j : Nat} {lo hi : Int} (h : EvA ta σ H [.int lo, .int hi, .int (-1)]) (hl : -100000 ≤ lo ∧ lo ≤ 100000 ∧ -100000 ≤ hi ∧ hi ≤ 100000) (Pv : Nat → L2.St → Hp → Prop) (h0 : ∀ H1, Ex H H1 → Pv 0 σ H1)
    (hs : ∀ (i : Nat) σ' H', hi < lo - (i : Int) → Pv i σ' H' → tu { D with nx := Pv (i + 1), ct := Pv (i + 1), bk := D.nx } (σ'.set j (some (.int (lo - (i : Int))))) H') (hd : ∀ σ' H', Pv (lo - hi).toNat σ' H' → D.nx σ' H') : tFor (iRng3 ta) (gName j) tu D σ H :=
  h H (Ex.refl H) _ fun H1 e => ⟨lo, hi, -1, (lo - hi).toNat, rfl, RgC.neg (by omega) (by omega) (by omega) (by omega), for_rangeC Pv (h0 H1 e) (fun i σ' H' hi' p => by
    have e0 : lo + (i : Int) * (-1) = lo - (i : Int) := by omega
    show tu { D with nx := Pv (i + 1), ct := Pv (i + 1), bk := D.nx } (σ'.set j (some (.int (lo + (i : Int) * (-1))))) H'
    rw [e0]
    exact hs i σ' H' (by omega) p) hd⟩
theorem q_forD {ta : TA} {j : Nat} {lo hi : Int} (h : EvA ta σ H [.int lo, .int hi, .int (-1)]) (hl : -100000 ≤ lo ∧ lo ≤ 100000 ∧ -100000 ≤ hi ∧ hi ≤ 100000) (Pv : Nat → L2.St → Hp → Prop) (h0 : ∀ H1, Ex H H1 → Pv 0 σ H1)
    (hs : ∀ (i : Nat) σ' H', hi < lo - (i : Int) → Pv i σ' H' → tu { D with nx := Pv (i + 1), ct := Pv (i + 1), bk := tz D } (σ'.set j (some (.int (lo - (i : Int))))) H') (hd : ∀ σ' H', Pv (lo - hi).toNat σ' H' → tz D σ' H') : tSeq (tFor (iRng3 ta) (gName j) tu) tz D σ H :=
  s_forD (D := { D with nx := tz D }) h hl Pv h0 hs hd
/-- xs.extend(a new list) -/
theorem s_extN {l : Addr} {xs zs : List V} (hl : H l = some (.lst xs)) (ha : Ev ta σ H (.ref l)) (h : EvL te σ H zs) (hz : xs.length + zs.length ≤ sizeLine) (k : ∀ H1, Ex H H1 → D.nx σ (L2.upd H1 l (.lst (xs ++ zs)))) :
    tDrop (tBM K "list" rExtend ta (tCons te tNil)) D σ H := ha H (Ex.refl H) _ fun H1 e1 =>
  ⟨Or.inl ⟨rfl, xs, sq_of (e1 l _ hl)⟩, h H1 e1 _ fun b H2 hb e2 h2 => ⟨l, b, xs, zs, rfl, rfl, e2 l _ (e1 l _ hl), h2, hz, k H2 (e1.trans e2)⟩⟩
/-- d[k] -/
theorem ev_dget {a : Addr} {kvs : List (Key × V)} {k : Key} (ha : Ev ta σ H (.ref a)) (hr : Rd H a (.dK kvs)) (hb : Ev tb σ H (kV k)) (hv : valV kvs k = some v) : Ev (tDGet ta tb) σ H v := fun H1 e Q q =>
  ha H1 e _ fun H2 e2 => hb H2 (e.trans e2) _ fun H3 e3 => ⟨a, v, rfl, .inl ⟨kvs, k, ex_rd ((e.trans e2).trans e3) hr, rfl, hv.symm⟩, q H3 (e2.trans e3)⟩
/-- {} -/
theorem ep_dict : EvP tDNewK σ H (fun v H2 => ∃ a, v = .ref a ∧ H a = none ∧ H2 a = some (.dK [])) := fun H1 e Q q p hp => q _ _ (Ex.new hp) ⟨p, rfl, fresh_back e hp, upd_same⟩
/-- d[k] = a new list -/
theorem s_dputL {a : Addr} {kvs : List (Key × V)} {k : Key} {xs : List V} (h : EvL te σ H xs) (ha : Ev ta σ H (.ref a)) (hb : Ev tb σ H (kV k)) (hd : H a = some (.dK kvs)) (hz : kvs.length < 100000) (c : ∀ p H1, H p = none → Ex H H1 → H1 p = some (.lst xs) → D.nx σ (L2.upd H1 a (.dK (putK kvs k (.ref p))))) :
    sDPut ta tb te D σ H := h H (Ex.refl H) _ fun p H1 hp e1 h1 => ha H1 e1 _ fun H2 e2 => hb H2 (e1.trans e2) _ fun H3 e3 => ⟨a, _, rfl, .inl ⟨kvs, k, ((e1.trans e2).trans e3) _ _ hd, rfl, sz_lt hz, rfl⟩, c p H3 hp ((e1.trans e2).trans e3) ((e2.trans e3) _ _ h1)⟩
/-- for k in d, d locked meanwhile -/
theorem s_forK {a : Addr} {kvs : List (Key × V)} {j : Nat} (ha : ∀ H2, Ev td σ H2 (.ref a)) (hd : H a = some (.dK kvs)) (Pv : Obj → Nat → L2.St → Hp → Prop) (h0 : ∀ o H1, Ex (L2.upd H a (.frz o (.dK kvs))) H1 → Pv o 0 σ H1) (hl : ∀ o i σ' H', i ≤ kvs.length → Pv o i σ' H' → H' a = some (.frz o (.dK kvs)))
    (hs : ∀ o i k w σ' H', kvs[i]? = some (k, w) → Pv o i σ' H' → tu { D with nx := Pv o (i + 1), ct := Pv o (i + 1), rt := fun v H' => H' a = some (.frz o (.dK kvs)) ∧ D.rt v (L2.upd H' a (.dK kvs)), bk := fun σ' H' => H' a = some (.frz o (.dK kvs)) ∧ D.nx σ' (L2.upd H' a (.dK kvs)) } (σ'.set j (some (kV k))) H')
    (hx : ∀ o σ' H', Pv o kvs.length σ' H' → D.nx σ' (L2.upd H' a (.dK kvs))) :
    tLock (tFor (iKeys td) (gName j) tu) D σ H := ⟨a, .dK kvs, hd, trivial, fun o => ha _ _ (Ex.refl _) _ fun H1 e => ⟨a, o, rfl, .inl ⟨kvs, e _ _ upd_same, for_it (walk_keys (d := a) (o := o) (kvs := kvs)) (Pv o) (h0 o H1 e) (hl o) (fun i x σ' H' H2 hi p hy => by
      obtain ⟨rfl, k, w, hk, rfl⟩ := hy
      exact hs o i k w σ' _ hk p) (fun σ' H' p => ⟨hl o _ σ' H' (Nat.le_refl _) p, hx o σ' H' p⟩)⟩⟩⟩
theorem q_forK {a : Addr} {kvs : List (Key × V)} {j : Nat} (ha : ∀ H2, Ev td σ H2 (.ref a)) (hd : H a = some (.dK kvs)) (Pv : Obj → Nat → L2.St → Hp → Prop) (h0 : ∀ o H1, Ex (L2.upd H a (.frz o (.dK kvs))) H1 → Pv o 0 σ H1) (hl : ∀ o i σ' H', i ≤ kvs.length → Pv o i σ' H' → H' a = some (.frz o (.dK kvs)))
    (hs : ∀ o i k w σ' H', kvs[i]? = some (k, w) → Pv o i σ' H' → tu { D with nx := Pv o (i + 1), ct := Pv o (i + 1), rt := fun v H' => H' a = some (.frz o (.dK kvs)) ∧ D.rt v (L2.upd H' a (.dK kvs)), bk := fun σ' H' => H' a = some (.frz o (.dK kvs)) ∧ tz D σ' (L2.upd H' a (.dK kvs)) } (σ'.set j (some (kV k))) H')
    (hx : ∀ o σ' H', Pv o kvs.length σ' H' → tz D σ' (L2.upd H' a (.dK kvs))) :
    tSeq (tLock (tFor (iKeys td) (gName j) tu)) tz D σ H := s_forK (D := { D with nx := tz D }) ha hd Pv h0 hl hs hx
end
/-! ### a dict of circles -/
def kN (k : Nat) : Key := .inl (k : Int)
theorem kV_kN (k : Nat) : kV (kN k) = .int (k : Int) := rfl
theorem kN_inj {a b : Nat} (h : kN a = kN b) : a = b := by
  have := Sum.inl.inj h
  omega
def Tab (H : Hp) : List (Key × V) → List Nat → Prop
  | [], [] => True
  | kv :: r, k :: ks => (∃ p, kv = (kN k, .ref p) ∧ H p = some (.lst (iV (RsP.ct k)))) ∧ Tab H r ks
  | _, _ => False
theorem Tab.mono {H H' : Hp} (e : Ex H H') : ∀ {kvs : List (Key × V)} {ks : List Nat}, Tab H kvs ks → Tab H' kvs ks
  | [], [], _ => trivial
  | _ :: _, _ :: _, ⟨⟨p, h1, h2⟩, h⟩ => ⟨⟨p, h1, e p _ h2⟩, Tab.mono e h⟩
  | [], _ :: _, h => h
  | _ :: _, [], h => h
theorem Tab.len {H : Hp} : ∀ {kvs : List (Key × V)} {ks : List Nat}, Tab H kvs ks → kvs.length = ks.length
  | [], [], _ => rfl
  | _ :: _, _ :: _, ⟨_, h⟩ => congrArg (· + 1) (Tab.len h)
  | [], _ :: _, h => h.elim
  | _ :: _, [], h => h.elim
theorem Tab.upd {H : Hp} {q : Addr} {o : HO} (hq : ∀ xs, H q ≠ some (.lst xs)) : ∀ {kvs : List (Key × V)} {ks : List Nat}, Tab H kvs ks → Tab (L2.upd H q o) kvs ks
  | [], [], _ => trivial
  | _ :: _, k :: _, ⟨⟨p, h1, h2⟩, h⟩ => ⟨⟨p, h1, by
      rw [upd_ne (fun e => hq _ (by rw [← e]; exact h2))]
      exact h2⟩, Tab.upd hq h⟩
  | [], _ :: _, h => h.elim
  | _ :: _, [], h => h.elim
theorem Tab.key {H : Hp} : ∀ {kvs : List (Key × V)} {ks : List Nat} {i : Nat} {k : Key} {w : V}, Tab H kvs ks → kvs[i]? = some (k, w) → ∃ n, ks[i]? = some n ∧ k = kN n
  | [], [], _, _, _, _, h => by simp at h
  | kv :: r, n :: ks, 0, k, w, ⟨⟨p, h1, _⟩, _⟩, h => by
    have e : kv = (k, w) := Option.some.inj h
    rw [h1] at e
    exact ⟨n, rfl, (Prod.mk.inj e).1.symm⟩
  | _ :: r, _ :: ks, i + 1, k, w, ⟨_, g⟩, h => by
    obtain ⟨n, h1, h2⟩ := Tab.key (kvs := r) (ks := ks) (i := i) g (by simpa using h)
    exact ⟨n, by simpa using h1, h2⟩
  | [], _ :: _, _, _, _, h, _ => h.elim
  | _ :: _, [], _, _, _, h, _ => h.elim
theorem Tab.val {H : Hp} : ∀ {kvs : List (Key × V)} {ks : List Nat} {k : Nat}, Tab H kvs ks → k ∈ ks → ∃ p, valV kvs (kN k) = some (.ref p) ∧ H p = some (.lst (iV (RsP.ct k)))
  | [], [], _, _, h => by cases h
  | kv :: r, n :: ks, k, ⟨⟨p, h1, h2⟩, g⟩, h => by
    by_cases e : n = k
    · subst e
      exact ⟨p, by rw [h1]; exact valV_pos rfl, h2⟩
    · have hm : k ∈ ks := by
        rcases List.mem_cons.mp h with h | h
        · exact absurd h.symm e
        · exact h
      obtain ⟨p', h3, h4⟩ := Tab.val (kvs := r) g hm
      exact ⟨p', by rw [h1, valV_neg (fun z => e (kN_inj z))]; exact h3, h4⟩
  | [], _ :: _, _, h, _ => h.elim
  | _ :: _, [], _, h, _ => h.elim
theorem Tab.none {H : Hp} : ∀ {kvs : List (Key × V)} {ks : List Nat} {k : Nat}, Tab H kvs ks → k ∉ ks → valV kvs (kN k) = .none
  | [], [], _, _, _ => valV_nil
  | kv :: r, n :: ks, k, ⟨⟨p, h1, _⟩, g⟩, h => by
    rw [h1, valV_neg (fun z => h (by rw [kN_inj z]; exact List.mem_cons_self))]
    exact Tab.none g fun z => h (List.mem_cons_of_mem _ z)
  | [], _ :: _, _, h, _ => h.elim
  | _ :: _, [], _, h, _ => h.elim
theorem Tab.snoc {H : Hp} {k : Nat} {p : Addr} (hp : H p = some (.lst (iV (RsP.ct k)))) : ∀ {kvs : List (Key × V)} {ks : List Nat}, Tab H kvs ks → Tab H (kvs ++ [(kN k, .ref p)]) (ks ++ [k])
  | [], [], _ => ⟨⟨p, rfl, hp⟩, trivial⟩
  | _ :: _, _ :: _, ⟨h1, h⟩ => ⟨h1, Tab.snoc hp h⟩
  | [], _ :: _, h => h.elim
  | _ :: _, [], h => h.elim
end Rs
set_option Elab.async false
set_option linter.all false
set_option maxRecDepth 100000
set_option maxHeartbeats 4000000
namespace Rs
open PySem PySem.Spec PyProof.Rows L2 Evl
def topS (i : Nat) : Stmt := PySem.Challenge.pw_rootsums_s01_answers.main.body.getD i (.Pass ⟨0, 0, 0, 0⟩)
/-- what the top has left of names -/
structure Bl (mg : Str → Option Value) : Prop where
  b_range : mg "range" = none
  b_zip : mg "zip" = none
  b_enumerate : mg "enumerate" = none
  b_len : mg "len" = none
  b_list : mg "list" = none
  b_any : mg "any" = none
  b_all : mg "all" = none
  b_max : mg "max" = none
section
variable {P : Program} {w : World} {K : PySem.W.Frag} {mg : Str → Option Value} {base : Heap}
/-! ### common_divisor -/
abbrev s_common_divisor : Stmt := topS 7
abbrev N_common_divisor : List Str := ["a", "b", "rest"]
theorem sc_common_divisor : FnScope N_common_divisor ["a", "b"] (defScope s_common_divisor) := ⟨rfl, rfl, rfl, by decide +kernel, rfl, by decide +kernel, by decide +kernel⟩
def sp_common_divisor : Sp := fun vs H Q _ => ∃ a b : Nat, vs = [.int (a : Int), .int (b : Int)] ∧ RetV (.int ((Nat.gcd a b : Nat) : Int)) H Q
theorem ok_common_divisor {f : Addr} {fd : FuncData} (F : Fun K "common_divisor" "common_divisor" s_common_divisor f fd) : FnOk P w K mg base CX0 1 f fd ["a", "b"] sp_common_divisor := by
  refine F.ok sc_common_divisor (fun vs H Q E h => ?_) (fun cdv A outer s H vs Q E hr h => ?_)
  · obtain ⟨a, b, rfl, _⟩ := h
    rfl
  · obtain ⟨a, b, rfl, q⟩ := h
    refine ⟨_, (pss_cons (ps_while PassesOwn.never (pt_cmpR op_gt (pv 1) pe_int (nomark _))
    (pss_cons (ps_set (i := 2) sc_common_divisor.nd rfl (Or.inl rfl) (pe_op op_mod (pv 0) (pv 1)))
    (pss_cons (ps_set (i := 0) sc_common_divisor.nd rfl (Or.inl rfl) (pv 1))
    (pss_one (ps_set (i := 1) sc_common_divisor.nd rfl (Or.inl rfl) (pv 2))))))
    (pss_one (ps_ret (pv 0)))), ?_⟩
    refine q_while (fun m σ' H' => Ex H H' ∧ ∃ (c d : Nat) (z : Option V), m = d ∧ Nat.gcd c d = Nat.gcd a b ∧ σ' = [some (.int (c : Int)), some (.int (d : Int)), z]) b ⟨Ex.refl H, a, b, none, rfl, rfl, rfl⟩ (fun m σ' H' hW => ?_)
    obtain ⟨e, c, d, z, rfl, hg, rfl⟩ := hW
    refine ⟨decide ((0 : Int) < (m : Int)), et_test (ev_op (ev_var rfl) ev_c rv_I0), fun hb H1 e1 => ?_, fun hb H1 e1 => ?_⟩
    · have hm : 0 < m := by have := of_decide_eq_true hb; omega
      refine ⟨fun σ2 H2 => Ex H H2 ∧ σ2 = [some (.int (m : Int)), some (.int ((c % m : Nat) : Int)), some (.int ((c % m : Nat) : Int))], fun σ2 H2 ⟨e2, h2⟩ => ⟨c % m, Nat.mod_lt _ hm, e2, m, c % m, _, rfl, ?_, h2⟩, ?_⟩
      · rw [← hg, Nat.gcd_comm c m, Nat.gcd_rec m c, Nat.gcd_comm]
      · refine q_asg (ev_op (ev_var rfl) (ev_var rfl) (rv_I (by show (0 : Int) < (m : Int); omega))) fun H2 e2 => ?_
        refine q_asg (ev_var rfl) fun H3 e3 => ?_
        exact s_asg (ev_var rfl) fun H4 e4 => ⟨(((e.trans e1).trans e2).trans e3).trans e4, rfl⟩
    · have hm : m = 0 := by have := of_decide_eq_false hb; omega
      subst hm
      rw [Nat.gcd_zero_right] at hg
      subst hg
      exact s_ret (ev_var rfl) fun H2 e2 => q H2 ((e.trans e1).trans e2)
theorem spv_common_divisor {H : Hp} (a b : Nat) : SpV sp_common_divisor [.int (a : Int), .int (b : Int)] H (.int ((Nat.gcd a b : Nat) : Int)) := fun H1 e Q q E => ⟨a, b, rfl, q⟩
/-! ### common_multiple -/
abbrev s_common_multiple : Stmt := topS 8
abbrev N_common_multiple : List Str := ["a", "b"]
theorem sc_common_multiple : FnScope N_common_multiple ["a", "b"] (defScope s_common_multiple) := ⟨rfl, rfl, rfl, by decide +kernel, rfl, by decide +kernel, by decide +kernel⟩
def sp_common_multiple : Sp := fun vs H Q _ => ∃ a b : Nat, vs = [.int (a : Int), .int (b : Int)] ∧ 0 < a ∧ a < 1000000 ∧ RetV (.int ((Nat.lcm a b : Nat) : Int)) H Q
theorem ok_common_multiple {f f1 : Addr} {fd fd1 : FuncData} (F : Fun K "common_multiple" "common_multiple" s_common_multiple f fd)
    (D_common_divisor : Df K mg "common_divisor" ["a", "b"] f1 fd1) (G_common_divisor : FnOk P w K mg base CX0 1 f1 fd1 ["a", "b"] sp_common_divisor) : FnOk P w K mg base CX0 2 f fd ["a", "b"] sp_common_multiple := by
  refine F.ok sc_common_multiple (fun vs H Q E h => ?_) (fun cdv A outer s H vs Q E hr h => ?_)
  · obtain ⟨a, b, rfl, _⟩ := h
    rfl
  · obtain ⟨a, b, rfl, ha, ha2, q⟩ := h
    have R_common_divisor := hr
    refine ⟨_, (pss_one (ps_ret (pe_op op_fdiv (pe_op op_mul (pv 0) (pv 1)) (pe_call G_common_divisor R_common_divisor (by rfl) D_common_divisor.mg D_common_divisor.kp D_common_divisor.b .nil pass0 (pa_cons (pv 0) (pa_cons (pv 1) pa_nil)))))), ?_⟩
    have hg : 0 < Nat.gcd a b := Nat.gcd_pos_of_pos_left b ha
    have hg2 : Nat.gcd a b ≤ a := Nat.gcd_le_left b ha
    have ed : ((a : Int) * (b : Int)) / ((Nat.gcd a b : Nat) : Int) = ((Nat.lcm a b : Nat) : Int) := by
      show _ = ((a * b / Nat.gcd a b : Nat) : Int)
      rw [Int.natCast_ediv, Int.natCast_mul]
    refine s_ret (v := .int ((Nat.lcm a b : Nat) : Int)) (ev_is (ev_op (ev_op (ev_var rfl) (ev_var rfl) (rv_I (.inl ⟨by omega, by omega⟩))) (ev_call (ea_cons (ev_var rfl) (ea_cons (ev_var rfl) ea_nil)) (spv_common_divisor a b)) (rv_I ⟨by omega, by omega⟩)) (congrArg V.int ed)) fun H2 e2 => q H2 e2
theorem spv_common_multiple {H : Hp} (a b : Nat) (h1 : 0 < a) (h2 : a < 1000000) : SpV sp_common_multiple [.int (a : Int), .int (b : Int)] H (.int ((Nat.lcm a b : Nat) : Int)) := fun H1 e Q q E => ⟨a, b, rfl, h1, h2, q⟩
/-! ### units_of -/
abbrev s_units_of : Stmt := topS 9
abbrev N_units_of : List Str := ["n", "u"]
theorem sc_units_of : FnScope N_units_of ["n"] (defScope s_units_of) := ⟨rfl, rfl, rfl, by decide +kernel, rfl, by decide +kernel, by decide +kernel⟩
def sp_units_of : Sp := fun vs H Q _ => ∃ n : Nat, vs = [.int (n : Int)] ∧ n ≤ 1000 ∧ RetL (nV (Na04.units n)) H Q
theorem units_given (n : Nat) : given n (fun u => Nat.gcd u n == 1) (fun u => .int (u : Int)) = nV (Na04.units n) := rfl
theorem ok_units_of (T : Bl mg) {f f1 : Addr} {fd fd1 : FuncData} (F : Fun K "units_of" "units_of" s_units_of f fd)
    (D_common_divisor : Df K mg "common_divisor" ["a", "b"] f1 fd1) (G_common_divisor : FnOk P w K mg base CX0 1 f1 fd1 ["a", "b"] sp_common_divisor) : FnOk P w K mg base CX0 2 f fd ["n"] sp_units_of := by
  refine F.ok sc_units_of (fun vs H Q E h => ?_) (fun cdv A outer s H vs Q E hr h => ?_)
  · obtain ⟨n, rfl, _⟩ := h
    rfl
  · obtain ⟨n, rfl, hn, q⟩ := h
    have R_common_divisor := hr
    refine ⟨_, (pss_one (ps_ret (pe_lc (own := [("u", 1)]) (g := (gName 1)) (by rfl) sc_units_of.nd (pi_range1 (by rfl) T.b_range (pa_cons (pv 0) pa_nil)) (blkOk_by (own := [("u", 1)]) (N := N_units_of) (sc := defScope s_units_of) (by decide +kernel)) (fun _ _ _ _ _ => (pg_name (i := 1) sc_units_of.nd rfl (Or.inl rfl))) (fun _ _ _ _ _ => (pts_one (pt_cmpR op_eq (pe_call G_common_divisor R_common_divisor (by rfl) D_common_divisor.mg D_common_divisor.kp D_common_divisor.b .nil pass0 (pa_cons (pv 1) (pa_cons (pv 0) pa_nil))) pe_int (nomark _)))) (fun _ _ _ _ _ => (pv 1))))), ?_⟩
    refine s_retL (xs := nV (Na04.units n)) ?_ fun p H1 hp e h1 => q p H1 hp e h1
    rw [← units_given]
    refine el_lcR1 (n := (n : Int)) (fun u => Nat.gcd u n == 1) (fun u => .int (u : Int)) (ea_cons (ev_var rfl) ea_nil) (by omega) (fun _ => rfl) (fun i H1 e1 hi => ?_) (fun i H1 e1 hi hf => ev_var rfl)
    refine et_is (et_test (ev_op (ev_call (ea_cons (ev_var rfl) (ea_cons (ev_var rfl) ea_nil)) (spv_common_divisor i n)) ev_c (rv_eq rfl))) ?_
    exact eqN _ 1
theorem spl_units_of {H : Hp} (n : Nat) (h : n ≤ 1000) : SpL sp_units_of [.int (n : Int)] H (nV (Na04.units n)) := fun H1 e Q q E => ⟨n, rfl, h, q⟩
end
end Rs
set_option Elab.async false
set_option linter.all false
set_option maxRecDepth 100000
set_option maxHeartbeats 4000000
namespace Rs
open PySem PySem.Spec PyProof.Rows L2 Evl
section
variable {P : Program} {w : World} {K : PySem.W.Frag} {mg : Str → Option Value} {base : Heap}
/-! ### exponent_of -/
abbrev s_exponent_of : Stmt := topS 10
abbrev N_exponent_of : List Str := ["n", "units", "exponent", "powers", "power", "u"]
theorem sc_exponent_of : FnScope N_exponent_of ["n", "units"] (defScope s_exponent_of) := ⟨rfl, rfl, rfl, by decide +kernel, rfl, by decide +kernel, by decide +kernel⟩
def sp_exponent_of : Sp := fun vs H Q _ => ∃ (n : Nat) (a : Addr), vs = [.int (n : Int), .ref a] ∧ 2 ≤ n ∧ n ≤ 13 ∧ H a = some (.lst (nV (Na04.units n))) ∧ RetV (.int ((Na04.exponent n : Nat) : Int)) H Q
theorem pow_one_units (n : Nat) : (Na04.units n).map (fun u => u ^ 1 % n) = Na04.units n := by
  have h : ∀ u ∈ Na04.units n, u ^ 1 % n = u := fun u hu => by
    rw [Nat.pow_one]
    exact Nat.mod_eq_of_lt (RsM.units_lt hu)
  exact (List.map_congr_left h).trans (List.map_id' _)
theorem ok_exponent_of (T : Bl mg) {f : Addr} {fd : FuncData} (F : Fun K "exponent_of" "exponent_of" s_exponent_of f fd) : FnOk P w K mg base CX0 1 f fd ["n", "units"] sp_exponent_of := by
  refine F.ok sc_exponent_of (fun vs H Q E h => ?_) (fun cdv A outer s H vs Q E hr h => ?_)
  · obtain ⟨n, a, rfl, _⟩ := h
    rfl
  · obtain ⟨n, a, rfl, hn1, hn2, ha, q⟩ := h
    refine ⟨_, (pss_cons (ps_set (i := 2) sc_exponent_of.nd rfl (Or.inl rfl) pe_int)
    (pss_cons (ps_set (i := 3) sc_exponent_of.nd rfl (Or.inl rfl) (pe_callTy (listK K) (by rfl) T.b_list (by decide +kernel) (pa_cons (pv 1) pa_nil)))
    (pss_cons (ps_while PassesOwn.never (pt_val (pe_callB (anyK K) (by rfl) T.b_any (by decide +kernel) (pa_cons (pe_lc (own := [("power", 4)]) (g := (gName 4)) (tt := tYes) (by rfl) sc_exponent_of.nd (pilK K (pv 3)) (blkOk_by (own := [("power", 4)]) (N := N_exponent_of) (sc := defScope s_exponent_of) (by decide +kernel)) (fun _ _ _ _ _ => (pg_name (i := 4) sc_exponent_of.nd rfl (Or.inl rfl))) (fun _ _ _ _ _ => pts_nil) (fun _ _ _ _ _ => (pe_cmpR op_ne (pv 4) pe_int (nomark _)))) pa_nil)))
    (pss_cons (ps_setLc (i := 3) (own := [("power", 4), ("u", 5)]) (g := (gTup K 2 (gCons (gName 4) (gCons (gName 5) gNil)))) (tt := tYes) (by rfl) sc_exponent_of.nd rfl rfl (sw_true rfl rfl rfl (by decide +kernel)) (pi_zip (by rfl) T.b_zip (pa_cons (pv 3) (pa_cons (pv 1) pa_nil))) (blkOk_by (own := [("power", 4), ("u", 5)]) (N := N_exponent_of) (sc := defScope s_exponent_of) (by decide +kernel)) (fun _ _ _ _ _ => (pg_tup rfl (pgs_cons (pg_name (i := 4) sc_exponent_of.nd rfl (Or.inl rfl)) (pgs_cons (pg_name (i := 5) sc_exponent_of.nd rfl (Or.inl rfl)) pgs_nil)))) (fun _ _ _ _ _ => pts_nil) (fun _ _ _ _ _ => (pe_op op_mod (pe_op op_mul (pv 4) (pv 5)) (pv 0))))
    (pss_one (ps_aug (i := 2) sc_exponent_of.nd rfl (Or.inl rfl) pe_int ip_add))))
    (pss_one (ps_ret (pv 2)))))), ?_⟩
    have hE := RsM.expo_pos n hn1 hn2
    have hul := RsM.units_len n
    refine q_asg ev_c fun H1 e1 => ?_
    refine q_asgL (el_list (ev_var rfl) (sq_of (e1 a _ ha))) fun pw H2 _ e2 hpw => ?_
    refine q_while (fun m σ' H' => Ex H H' ∧ ∃ (e : Nat) (pw : Addr) (z1 z2 : Option V), 1 ≤ e ∧ e ≤ Na04.exponent n ∧ m = Na04.exponent n - e ∧ H' pw = some (.lst (nV ((Na04.units n).map fun u => u ^ e % n))) ∧
      σ' = [some (.int (n : Int)), some (.ref a), some (.int (e : Int)), some (.ref pw), z1, z2]) (Na04.exponent n - 1) ⟨e1.trans e2, 1, pw, none, none, Nat.le_refl _, hE.1, rfl, by rw [pow_one_units]; exact hpw, rfl⟩ (fun m σ' H' hW => ?_)
    obtain ⟨ex, e, pw', z1, z2, he1, he2, rfl, hpw', rfl⟩ := hW
    refine ⟨(Na04.units n).any (fun u => u ^ e % n != 1), et_is (et_B (ev_any (bs := ((Na04.units n).map fun u => u ^ e % n).map (· != 1)) ?_)) ?_, fun hb H3 e3 => ?_, fun hb H3 e3 => ?_⟩
    · have := el_lcM (K := K) (t := tYes) (te := tOp rNe (tVar 4) (tC (.int 1))) (σ := [some (.int (n : Int)), some (.ref a), some (.int (e : Int)), some (.ref pw'), z1, z2]) (H := H') (fun (n : Nat) => V.int (n : Int)) (ns := (Na04.units n).map fun u => u ^ e % n) (a := pw') (tl := tVar 3) (j := 4) (vs := [4]) (fun _ => true) (fun x => V.bl (x != 1)) (ev_var rfl) (sq_of hpw') (by rw [List.length_map]; omega) (fun _ => rfl)
        (fun x H1 e hx => et_yes) (fun x H1 e hx _ => ev_is (ev_op (ev_var rfl) ev_c (rv_ne rfl)) (congrArg V.bl (neN x 1)))
      rw [List.filter_eq_self.mpr (fun _ _ => rfl)] at this
      rw [List.map_map]
      exact this
    · rw [List.any_map, List.any_map]
      rfl
    · rw [RsM.expo_any n hn1 hn2 e he2 he1] at hb
      have hlt : e < Na04.exponent n := of_decide_eq_true hb
      refine ⟨fun σ2 H2 => Ex H H2 ∧ ∃ (pw2 : Addr) (z1 z2 : Option V), H2 pw2 = some (.lst (nV ((Na04.units n).map fun u => u ^ (e + 1) % n))) ∧ σ2 = [some (.int (n : Int)), some (.ref a), some (.int ((e + 1 : Nat) : Int)), some (.ref pw2), z1, z2], fun σ2 H2 ⟨e2, pw2, y1, y2, h2, h3⟩ => ⟨Na04.exponent n - (e + 1), by omega, e2, e + 1, pw2, y1, y2, by omega, by omega, rfl, h2, h3⟩, ?_⟩
      refine q_asgL (xs := nV ((Na04.units n).map fun u => u ^ (e + 1) % n)) ?_ fun p H4 hp e4 h4 => ?_
      · have := el_lcZM (K := K) (t := tYes) (te := tOp (rI (fun _ j => 0 < j) fun i j => .int (i % j)) (tOp (rI CMul fun i j => .int (i * j)) (tVar 4) (tVar 5)) (tVar 0)) (σ := [some (.int (n : Int)), some (.ref a), some (.int (e : Int)), some (.ref pw'), z1, z2]) (H := H3) (fun (n : Nat) => V.int (n : Int)) (fun (n : Nat) => V.int (n : Int)) (as := (Na04.units n).map fun u => u ^ e % n) (bs := Na04.units n) (a := pw') (b := a) (ta := tCons (tVar 3) (tCons (tVar 1) tNil)) (j := 4) (k := 5) (vs := [4, 5]) (fun _ => true) (fun x => V.int ((x.1 * x.2 % n : Nat) : Int))
          (ea_cons (ev_var rfl) (ea_cons (ev_var rfl) ea_nil)) (sq_of (e3 _ _ hpw')) (sq_of (e3 _ _ (ex _ _ ha))) (by rw [List.length_zip, List.length_map]; omega) (fun _ _ => rfl) (fun x y H1 e hx => et_yes)
          (fun x y H1 e hx _ => ev_is (ev_op (ev_op (ev_var rfl) (ev_var rfl) (rv_I (.inr ?_))) (ev_var rfl) (rv_I (by show (0 : Int) < (n : Int); omega))) (by show V.int (((x : Nat) : Int) * ((y : Nat) : Int) % (n : Int)) = V.int ((x * y % n : Nat) : Int); rw [Int.natCast_emod, Int.natCast_mul]))
        · rw [List.filter_eq_self.mpr (fun _ _ => rfl)] at this
          have ez : ((Na04.units n).map fun u => u ^ e % n).zip (Na04.units n) = (Na04.units n).map fun u => (u ^ e % n, u) := by
            have : ((Na04.units n).map fun u => u ^ e % n).zip ((Na04.units n).map fun u => u) = (Na04.units n).map fun u => (u ^ e % n, u) := List.zip_map'
            rw [List.map_id'] at this
            exact this
          rw [ez, List.map_map] at this
          unfold nV
          rw [List.map_map]
          refine Eq.mp (congrArg _ ?_) this
          exact List.map_congr_left fun u _ => by
            show V.int ((u ^ e % n * u % n : Nat) : Int) = V.int ((u ^ (e + 1) % n : Nat) : Int)
            rw [RsM.pow_step]
        · have := RsM.units_lt (List.of_mem_zip hx).2
          constructor <;> omega
      · refine s_aug (a := (e : Int)) (b := 1) rfl ev_c fun H5 e5 => ⟨(((ex.trans e3).trans e4).trans e5), p, z1, z2, e5 _ _ h4, rfl⟩
    · rw [RsM.expo_any n hn1 hn2 e he2 he1] at hb
      have hlt : ¬ e < Na04.exponent n := of_decide_eq_false hb
      have ee : e = Na04.exponent n := by omega
      subst ee
      exact s_ret (ev_var rfl) fun H4 e4 => q H4 ((ex.trans e3).trans e4)
theorem spv_exponent_of {H : Hp} {n : Nat} {a : Addr} (h1 : 2 ≤ n) (h2 : n ≤ 13) (ha : H a = some (.lst (nV (Na04.units n)))) : SpV sp_exponent_of [.int (n : Int), .ref a] H (.int ((Na04.exponent n : Nat) : Int)) := fun H1 e Q q E => ⟨n, a, rfl, h1, h2, e a _ ha, q⟩
end
end Rs
set_option Elab.async false
set_option linter.all false
set_option maxRecDepth 100000
set_option maxHeartbeats 4000000
namespace Rs
open PySem PySem.Spec PyProof.Rows L2 Evl
/-- a list of objects that hold these rows -/
def IsTab (mk : List V → HO) (rs : List (List V)) (v : V) (H : Hp) : Prop := ∃ p vs, v = .ref p ∧ H p = some (.lst vs) ∧ Objs H mk vs rs
theorem IsTab.mono {mk : List V → HO} {rs : List (List V)} {v : V} {H H' : Hp} (e : Ex H H') (h : IsTab mk rs v H) : IsTab mk rs v H' := by
  obtain ⟨p, vs, h1, h2, h3⟩ := h
  exact ⟨p, vs, h1, e _ _ h2, h3.mono e⟩
def RetP (P : V → Hp → Prop) (H : Hp) (Q : VK) : Prop := ∀ v H2, Ex H H2 → P v H2 → Q v H2
theorem idx_spec : ∀ (l : List Nat) (m : Nat), m ∈ l → l[l.idxOf m]? = some m ∧ ∀ i z, i < l.idxOf m → l[i]? = some z → z ≠ m
  | [], m, h => by cases h
  | a :: l, m, h => by
    rw [List.idxOf_cons]
    by_cases e : a = m
    · subst e
      simp
    · have eb : (a == m) = false := beq_eq_false_iff_ne.mpr e
      rw [eb]
      have hm : m ∈ l := by
        rcases List.mem_cons.mp h with h | h
        · exact absurd h.symm e
        · exact h
      have ih := idx_spec l m hm
      refine ⟨by simpa using ih.1, fun i z hi hz => ?_⟩
      cases i with
      | zero =>
        have : a = z := by simpa using hz
        rw [← this]
        exact e
      | succ i => exact ih.2 i z (by simpa using hi) (by simpa using hz)
theorem range_more (i : Nat) : List.range (i + 1) = List.range i ++ [i] := List.range_succ
section
variable {P : Program} {w : World} {K : PySem.W.Frag} {mg : Str → Option Value} {base : Heap}
/-! ### laws_of -/
abbrev s_laws_of : Stmt := topS 12
abbrev N_laws_of : List Str := ["n", "units", "laws", "i", "one", "j", "other"]
theorem sc_laws_of : FnScope N_laws_of ["n", "units"] (defScope s_laws_of) := ⟨rfl, rfl, rfl, by decide +kernel, rfl, by decide +kernel, by decide +kernel⟩
def lawsTo (n i : Nat) : List (List Nat) := (List.range i).flatMap fun i => (List.range (Na04.units n).length).map fun j => RsM.lawAt n i j
theorem lawsTo_more (n i : Nat) : lawsTo n (i + 1) = lawsTo n i ++ (List.range (Na04.units n).length).map fun j => RsM.lawAt n i j := by
  unfold lawsTo
  rw [range_more, List.flatMap_append, List.flatMap_singleton]
def sp_laws_of : Sp := fun vs H Q _ => ∃ (n : Nat) (a : Addr), vs = [.int (n : Int), .ref a] ∧ 2 ≤ n ∧ n ≤ 13 ∧ H a = some (.lst (nV (Na04.units n))) ∧ RetP (IsTab .tup ((RsM.lawsM n).map nV)) H Q
theorem ok_laws_of (T : Bl mg) {f : Addr} {fd : FuncData} (F : Fun K "laws_of" "laws_of" s_laws_of f fd) : FnOk P w K mg base CX0 1 f fd ["n", "units"] sp_laws_of := by
  refine F.ok sc_laws_of (fun vs H Q E h => ?_) (fun cdv A outer s H vs Q E hr h => ?_)
  · obtain ⟨n, a, rfl, _⟩ := h
    rfl
  · obtain ⟨n, a, rfl, hn1, hn2, ha, q⟩ := h
    refine ⟨_, (pss_cons (ps_set (i := 2) sc_laws_of.nd rfl (Or.inl rfl) (pe_lst pa_nil))
    (pss_cons (ps_for PassesOwn.never rfl (pi_enum (by rfl) T.b_enumerate (pa_cons (pv 1) pa_nil)) (pg_tup rfl (pgs_cons (pg_name (i := 3) sc_laws_of.nd rfl (Or.inl rfl)) (pgs_cons (pg_name (i := 4) sc_laws_of.nd rfl (Or.inl rfl)) pgs_nil)))
    (pss_one (ps_for PassesOwn.never rfl (pi_enum (by rfl) T.b_enumerate (pa_cons (pv 1) pa_nil)) (pg_tup rfl (pgs_cons (pg_name (i := 5) sc_laws_of.nd rfl (Or.inl rfl)) (pgs_cons (pg_name (i := 6) sc_laws_of.nd rfl (Or.inl rfl)) pgs_nil)))
    (pss_one (ps_expr (bmK K PySem.F.plainAttrs_list PySem.F.slot_list_append PySem.F.type_list_append mt_append (pv 2) (pa_cons (pe_tup (pa_cons (pv 3) (pa_cons (pv 5) (pa_cons (bmK K PySem.F.plainAttrs_list PySem.F.slot_list_index PySem.F.type_list_index (indexK K) (pv 1) (pa_cons (pe_op op_mod (pe_op op_mul (pv 4) (pv 6)) (pv 0)) pa_nil)) pa_nil)))) pa_nil)))))))
    (pss_one (ps_ret (pv 2))))), ?_⟩
    have hul := RsM.units_len n
    have hll : (nV (Na04.units n)).length = (Na04.units n).length := nV_len _
    refine q_asgL (el_lst ea_nil (by show 0 ≤ 100000; omega)) fun L H1 hL e1 h1 => ?_
    refine q_forE (K := K) (xs := nV (Na04.units n)) (ea_cons (ev_var rfl) ea_nil) (sq_of (e1 a _ ha)) (fun i σ' H' => Ex H H' ∧ ∃ (vs : List V) (z3 z4 z5 z6 : Option V), i ≤ (Na04.units n).length ∧ H' L = some (.lst vs) ∧ Objs H' .tup vs ((lawsTo n i).map nV) ∧ vs.length ≤ i * 13 ∧
      σ' = [some (.int (n : Int)), some (.ref a), some (.ref L), z3, z4, z5, z6]) (fun H2 e2 => ⟨e1.trans e2, [], none, none, none, none, by omega, e2 _ _ h1, trivial, by simp, rfl⟩) (fun i σ' H' _ hP => sq_of (hP.1 _ _ ha)) (fun i x σ' H' H2 hx hP e2 => ?_) (fun σ' H' hP => ?_)
    · obtain ⟨e', vs, z3, z4, z5, z6, hi', hL', ho, hlen, rfl⟩ := hP
      obtain ⟨u, hu, rfl⟩ := nV_of hx
      have hi : i < (Na04.units n).length := by have := (List.getElem?_eq_some_iff.mp hu).1; omega
      refine s_forE (K := K) (xs := nV (Na04.units n)) (ea_cons (ev_var rfl) ea_nil) (sq_of (e2 _ _ (e' _ _ ha))) (fun j σ' H' => Ex H H' ∧ ∃ (vs : List V) (z5 z6 : Option V), j ≤ (Na04.units n).length ∧ H' L = some (.lst vs) ∧ Objs H' .tup vs ((lawsTo n i ++ (List.range j).map fun j => RsM.lawAt n i j).map nV) ∧ vs.length ≤ i * 13 + j ∧
        σ' = [some (.int (n : Int)), some (.ref a), some (.ref L), some (.int (i : Int)), some (.int (u : Int)), z5, z6]) (fun H3 e3 => ⟨(e'.trans e2).trans e3, vs, z5, z6, by omega, e3 _ _ (e2 _ _ hL'), by
          rw [List.range_zero, List.map_nil, List.append_nil]
          exact (ho.mono e2).mono e3, by omega, rfl⟩) (fun j σ' H' _ hP => sq_of (hP.1 _ _ ha)) (fun j y σ' H3 H4 hy hP e4 => ?_) (fun σ' H3 hP => ?_)
      · obtain ⟨e3, vs3, y5, y6, hj', hL3, ho3, hlen3, rfl⟩ := hP
        obtain ⟨v, hv, rfl⟩ := nV_of hy
        have hj : j < (Na04.units n).length := by have := (List.getElem?_eq_some_iff.mp hv).1; omega
        have eu : (Na04.units n).getD i 0 = u := by rw [List.getD_eq_getElem?_getD, hu]; rfl
        have ev : (Na04.units n).getD j 0 = v := by rw [List.getD_eq_getElem?_getD, hv]; rfl
        have mu := List.mem_of_getElem? hu
        have mv := List.mem_of_getElem? hv
        have ix := idx_spec _ _ (RsM.law_in n hn1 hn2 u mu v mv)
        have lu := RsM.units_lt mu
        refine s_appU (K := K) (xs := vs3) (ys := nV (RsM.lawAt n i j)) (e4 _ _ hL3) (ev_var rfl) (eu_tup ?_ (by show 3 ≤ 100000; omega)) (by omega) fun p H5 hp e5 h5 => ?_
        · unfold RsM.lawAt
          rw [eu, ev]
          refine ea_cons (ev_var rfl) (ea_cons (ev_var rfl) (ea_cons (ev_index (ns := Na04.units n) (ev_var rfl) (sq_of (e4 _ _ (e3 _ _ ha))) (ev_is (ev_op (ev_op (ev_var rfl) (ev_var rfl) (rv_I (.inl ⟨by omega, by omega⟩))) (ev_var rfl) (rv_I (by show (0 : Int) < (n : Int); omega))) (by
            show V.int (((u : Nat) : Int) * ((v : Nat) : Int) % (n : Int)) = V.int ((u * v % n : Nat) : Int)
            rw [Int.natCast_emod, Int.natCast_mul])) ix.1 ix.2) ea_nil))
        · refine ⟨Ex.mut ((e3.trans e4).trans e5) hL, vs3 ++ [.ref p], _, _, by omega, upd_same, ?_, by rw [List.length_append]; show vs3.length + 1 ≤ _; omega, rfl⟩
          have em : (lawsTo n i ++ (List.range (j + 1)).map fun j => RsM.lawAt n i j).map nV = (lawsTo n i ++ (List.range j).map fun j => RsM.lawAt n i j).map nV ++ [nV (RsM.lawAt n i j)] := by
            simp only [range_more, List.map_append, List.map_cons, List.map_nil, List.append_assoc]
          rw [em]
          have hL5 : H5 L = some (.lst vs3) := e5 _ _ (e4 _ _ hL3)
          exact ((ho3.mono (e4.trans e5)).push h5).upd fun r z => by rw [hL5] at z; cases z
      · obtain ⟨e3, vs3, y5, y6, hj', hL3, ho3, hlen3, rfl⟩ := hP
        rw [hll] at ho3 hlen3
        refine ⟨e3, vs3, _, _, _, _, by omega, hL3, ?_, by omega, rfl⟩
        rw [lawsTo_more]
        exact ho3
    · obtain ⟨e', vs, z3, z4, z5, z6, hi', hL', ho, hlen, rfl⟩ := hP
      rw [hll] at ho
      exact s_ret (ev_var rfl) fun H4 e4 => q _ H4 (e'.trans e4) ⟨L, vs, rfl, e4 _ _ hL', ho.mono e4⟩
theorem spp_laws_of {H : Hp} {n : Nat} {a : Addr} (h1 : 2 ≤ n) (h2 : n ≤ 13) (ha : H a = some (.lst (nV (Na04.units n)))) : SpP sp_laws_of [.int (n : Int), .ref a] H (IsTab .tup ((RsM.lawsM n).map nV)) := fun H1 e Q q E => ⟨n, a, rfl, h1, h2, e a _ ha, q⟩
end
end Rs
set_option Elab.async false
set_option linter.all false
set_option maxRecDepth 100000
set_option maxHeartbeats 4000000
namespace Rs
open PySem PySem.Spec PyProof.Rows L2 Evl
section
variable {P : Program} {w : World} {K : PySem.W.Frag} {mg : Str → Option Value} {base : Heap}
theorem ixN_of {ns : List Nat} {i : Nat} (h : i < ns.length) : atI (nV ns) (i : Int) = some (.int ((ns.getD i 0 : Nat) : Int)) := atI_nat (nV_get (getD_of h))
/-! ### keeps_laws -/
abbrev s_keeps_laws : Stmt := topS 13
abbrev N_keeps_laws : List Str := ["numbers", "laws", "exponent", "i", "j", "k"]
theorem sc_keeps_laws : FnScope N_keeps_laws ["numbers", "laws", "exponent"] (defScope s_keeps_laws) := ⟨rfl, rfl, rfl, by decide +kernel, rfl, by decide +kernel, by decide +kernel⟩
def sp_keeps_laws : Sp := fun vs H Q _ => ∃ (ns : List Nat) (ls : List (List Nat)) (e : Nat) (a b : Addr) (lv : List V), vs = [.ref a, .ref b, .int (e : Int)] ∧ H a = some (.lst (nV ns)) ∧ H b = some (.lst lv) ∧ Objs H .tup lv (ls.map nV) ∧ ls.length ≤ 1000 ∧ 0 < e ∧
  (∀ l ∈ ls, l.length = 3 ∧ RsM.top3 l < ns.length) ∧ RetV (.bl (RsM.keeps ns ls e)) H Q
theorem ok_keeps_laws (T : Bl mg) {f : Addr} {fd : FuncData} (F : Fun K "keeps_laws" "keeps_laws" s_keeps_laws f fd) : FnOk P w K mg base CX0 1 f fd ["numbers", "laws", "exponent"] sp_keeps_laws := by
  refine F.ok sc_keeps_laws (fun vs H Q E h => ?_) (fun cdv A outer s H vs Q E hr h => ?_)
  · obtain ⟨ns, ls, e, a, b, lv, rfl, _⟩ := h
    rfl
  · obtain ⟨ns, ls, e, a, b, lv, rfl, ha, hb, ho, hl, he, h3, q⟩ := h
    refine ⟨_, (pss_one (ps_ret (pe_callB (allK K) (by rfl) T.b_all (by decide +kernel) (pa_cons (pe_lc (own := [("i", 3), ("j", 4), ("k", 5)]) (g := (gTup K 3 (gCons (gName 3) (gCons (gName 4) (gCons (gName 5) gNil))))) (tt := tYes) (by rfl) sc_keeps_laws.nd (pilK K (pv 1)) (blkOk_by (own := [("i", 3), ("j", 4), ("k", 5)]) (N := N_keeps_laws) (sc := defScope s_keeps_laws) (by decide +kernel)) (fun _ _ _ _ _ => (pg_tup rfl (pgs_cons (pg_name (i := 3) sc_keeps_laws.nd rfl (Or.inl rfl)) (pgs_cons (pg_name (i := 4) sc_keeps_laws.nd rfl (Or.inl rfl)) (pgs_cons (pg_name (i := 5) sc_keeps_laws.nd rfl (Or.inl rfl)) pgs_nil))))) (fun _ _ _ _ _ => pts_nil) (fun _ _ _ _ _ => (pe_cmpR op_eq (pe_op op_mod (pe_op op_add (pe_ix (ixl K) (pv 0) (pv 3) (fun _ _ => rfl)) (pe_ix (ixl K) (pv 0) (pv 4) (fun _ _ => rfl))) (pv 2)) (pe_ix (ixl K) (pv 0) (pv 5) (fun _ _ => rfl)) (nomark _)))) pa_nil)))), ?_⟩
    refine s_ret (v := .bl (RsM.keeps ns ls e)) (ev_is (ev_all (bs := ls.map fun l => (ns.getD (l.getD 0 0) 0 + ns.getD (l.getD 1 0) 0) % e == ns.getD (l.getD 2 0) 0) ?_) (congrArg V.bl (List.all_map ..))) fun H1 e1 => q H1 e1
    rw [List.map_map]
    have := el_lcTM (K := K) (t := tYes) (te := tOp rEq (tOp (rI (fun _ j => 0 < j) fun i j => .int (i % j)) (tOp (rI0 fun i j => .int (i + j)) (tOp (rIxL K) (tVar 0) (tVar 3)) (tOp (rIxL K) (tVar 0) (tVar 4))) (tVar 2)) (tOp (rIxL K) (tVar 0) (tVar 5)))
      (σ := [some (.ref a), some (.ref b), some (.int (e : Int)), none, none, none]) (H := H) (ls := ls) (fun l hl => (h3 l hl).1) (xs := lv) (a := b) (tl := tVar 1) (j := 3) (k := 4) (l := 5) (vs := [3, 4, 5]) (fun _ => true) (fun l => V.bl ((ns.getD (l.getD 0 0) 0 + ns.getD (l.getD 1 0) 0) % e == ns.getD (l.getD 2 0) 0))
      (ev_var rfl) (sq_of hb) ho (by omega) (fun _ _ _ => rfl) (fun x y z H1 e1 hm => et_yes) (fun x y z H1 e1 hm _ => ?_)
    · rw [List.filter_eq_self.mpr (fun _ _ => rfl)] at this
      exact this
    · have ht : max (max x y) z < ns.length := (h3 _ hm).2
      refine ev_is (ev_op (ev_op (ev_op (ev_op (ev_var rfl) (ev_var rfl) (rv_ixL (sq_of (e1 _ _ ha)) (ixN_of (ns := ns) (i := x) (by omega)))) (ev_op (ev_var rfl) (ev_var rfl) (rv_ixL (sq_of (e1 _ _ ha)) (ixN_of (ns := ns) (i := y) (by omega)))) rv_I0) (ev_var rfl) (rv_I (by show (0 : Int) < (e : Int); omega))) (ev_op (ev_var rfl) (ev_var rfl) (rv_ixL (sq_of (e1 _ _ ha)) (ixN_of (ns := ns) (i := z) (by omega)))) (rv_eq rfl)) ?_
      exact congrArg V.bl (eqN ((ns.getD x 0 + ns.getD y 0) % e) (ns.getD z 0))
theorem spv_keeps_laws {H : Hp} {ns : List Nat} {ls : List (List Nat)} {e : Nat} {a b : Addr} {lv : List V} (ha : H a = some (.lst (nV ns))) (hb : H b = some (.lst lv)) (ho : Objs H .tup lv (ls.map nV)) (hl : ls.length ≤ 1000) (he : 0 < e) (h3 : ∀ l ∈ ls, l.length = 3 ∧ RsM.top3 l < ns.length) :
    SpV sp_keeps_laws [.ref a, .ref b, .int (e : Int)] H (.bl (RsM.keeps ns ls e)) := fun H1 ex Q q E => ⟨ns, ls, e, a, b, lv, rfl, ex _ _ ha, ex _ _ hb, ho.mono ex, hl, he, h3, q⟩
end
end Rs
set_option Elab.async false
set_option linter.all false
set_option maxRecDepth 100000
set_option maxHeartbeats 4000000
namespace Rs
open PySem PySem.Spec PyProof.Rows L2 Evl
instance instV : Inhabited V := ⟨.non⟩
theorem nV_append (a b : List Nat) : nV (a ++ b) = nV a ++ nV b := List.map_append ..
theorem Objs.updNe {H : Hp} {mk : List V → HO} {q : Addr} {o : HO} : ∀ {vs : List V} {rs : List (List V)}, (∀ p, V.ref p ∈ vs → p ≠ q) → Objs H mk vs rs → Objs (L2.upd H q o) mk vs rs
  | [], [], _, _ => trivial
  | _ :: _, r :: _, hq, ⟨⟨p, h1, h2⟩, h⟩ => ⟨⟨p, h1, by
      rw [upd_ne (hq p (by rw [h1]; exact List.mem_cons_self))]
      exact h2⟩, Objs.updNe (fun p hp => hq p (List.mem_cons_of_mem _ hp)) h⟩
  | [], _ :: _, _, h => h.elim
  | _ :: _, [], _, h => h.elim
theorem Objs.zipped {H : Hp} {mk : List V → HO} {vs : List V} {ls : List (List Nat)} (h : Objs H mk vs (ls.map nV)) : ∀ {v : V} {l : List Nat}, (v, l) ∈ vs.zip ls → ∃ p, v = .ref p ∧ H p = some (mk (nV l)) := fun {v l} hm => by
  obtain ⟨i, hi⟩ := List.getElem?_of_mem hm
  rw [List.getElem?_zip_eq_some] at hi
  obtain ⟨p, hp, h2⟩ := h.get (i := i) (r := nV l) (by rw [List.getElem?_map, hi.2]; rfl)
  rw [hi.1] at hp
  exact ⟨p, Option.some.inj hp, h2⟩
theorem Objs.kept {H : Hp} {mk : List V → HO} (p : List Nat → Bool) : ∀ {vs : List V} {ls : List (List Nat)}, Objs H mk vs (ls.map nV) → Objs H mk (((vs.zip ls).filter fun x => p x.2).map fun x => x.1) ((ls.filter p).map nV)
  | [], [], _ => trivial
  | v :: vs, l :: ls, ⟨h1, h⟩ => by
    have ih := Objs.kept p h
    rw [List.zip_cons_cons, List.filter_cons, List.filter_cons]
    cases p l with
    | true => exact ⟨h1, ih⟩
    | false => exact ih
  | [], _ :: _, h => h.elim
  | _ :: _, [], h => h.elim
/-- what is new -/
def sub (H' H : Hp) : Hp := fun b => if H b = none then H' b else none
theorem sub_of {H H' : Hp} {b : Addr} {o : HO} (h : H b = none) (h' : H' b = some o) : sub H' H b = some o := by
  unfold sub
  rw [if_pos h]
  exact h'
theorem of_sub {H H' : Hp} {b : Addr} {o : HO} (h : sub H' H b = some o) : H b = none ∧ H' b = some o := by
  unfold sub at h
  by_cases e : H b = none
  · rw [if_pos e] at h; exact ⟨e, h⟩
  · rw [if_neg e] at h; cases h
theorem Ex.sub (H' H : Hp) : Ex (Rs.sub H' H) H' := fun _ _ h => (of_sub h).2
theorem sub_mono {H H1 H2 : Hp} (e : Ex H1 H2) : Ex (Rs.sub H1 H) (Rs.sub H2 H) := fun _ _ h => sub_of (of_sub h).1 (e _ _ (of_sub h).2)
theorem sub_anti {H0 H H' : Hp} (e : Ex H0 H) : Ex (Rs.sub H' H) (Rs.sub H' H0) := fun _ _ h => sub_of (fresh_back e (of_sub h).1) (of_sub h).2
theorem sub_upd {H H' : Hp} {q : Addr} {o : HO} (h : H q = none) : Rs.sub (L2.upd H' q o) H = L2.upd (Rs.sub H' H) q o := by
  funext b
  by_cases e : b = q
  · rw [e, upd_same]
    exact sub_of h upd_same
  · rw [upd_ne e]
    unfold Rs.sub
    rw [upd_ne e]
section
variable {K : PySem.W.Frag} {σ : L2.St} {H H' : Hp} {ta tb te : TE}
theorem ep_nest : EvP (tLst (tCons (tLst tNil) tNil)) σ H (fun v H2 => IsTab .lst [[]] v (sub H2 H)) := fun H1 e Q q => ⟨Nat.zero_le _, fun p hp => ⟨by show 1 ≤ sizeLine; decide, fun p' hp' => by
  have ne : p' ≠ p := fun e => by
    rw [e, upd_same] at hp'
    cases hp'
  have hp1 : H1 p' = none := by rw [upd_ne ne] at hp'; exact hp'
  exact q _ _ ((Ex.new hp).trans (Ex.new hp')) ⟨p', [.ref p], rfl, sub_of (fresh_back e hp1) upd_same, ⟨p, rfl, sub_of (fresh_back e hp) (by rw [upd_ne ne.symm]; exact upd_same)⟩, trivial⟩⟩⟩
theorem el_cat {l : Addr} {xs ys : List V} (ha : Ev ta σ H (.ref l)) (hl : H l = some (.lst xs)) (hb : EvL tb σ H ys) (hz : xs.length + ys.length ≤ 100000) : EvL (tOp rCat ta tb) σ H (xs ++ ys) := fun H1 e Q q =>
  ha H1 e _ fun H2 e2 => hb H2 (e.trans e2) _ fun p H3 hp e3 h3 => ⟨l, p, xs, ys, rfl, rfl, ((e.trans e2).trans e3) _ _ hl, h3, sz_of hz, fun p' hp' => q p' _ (fresh_back (e2.trans e3) hp') ((e2.trans e3).trans (Ex.new hp')) upd_same⟩
end
/-- one place more -/
def extM (n e p : Nat) (c : List Nat) : List (List Nat) := ((List.range e).map fun v => c ++ [v]).filter fun t => RsM.keeps t (RsM.dueM n p) e
theorem extM_def (n e p : Nat) : RsM.growM n e (p + 1) = (RsM.growM n e p).flatMap (extM n e p) := rfl
def partM (n e p i : Nat) : List (List Nat) := ((RsM.growM n e p).take i).flatMap (extM n e p)
theorem partM_more {n e p i : Nat} {c : List Nat} (h : (RsM.growM n e p)[i]? = some c) : partM n e p (i + 1) = partM n e p i ++ extM n e p c := by
  unfold partM
  rw [List.take_add_one, h, List.flatMap_append]
  show _ ++ List.flatMap (extM n e p) [c] = _
  rw [List.flatMap_singleton]
section
variable {P : Program} {w : World} {K : PySem.W.Frag} {mg : Str → Option Value} {base : Heap}
abbrev s_characters_of : Stmt := topS 14
abbrev N_characters_of : List Str := ["n", "units", "exponent", "laws", "begun", "place", "due", "longer", "numbers", "v", "tried", "law"]
theorem sc_characters_of : FnScope N_characters_of ["n", "units", "exponent"] (defScope s_characters_of) := ⟨rfl, rfl, rfl, by decide +kernel, rfl, by decide +kernel, by decide +kernel⟩
def sp_characters_of : Sp := fun vs H Q _ => ∃ (n : Nat) (a : Addr), vs = [.int (n : Int), .ref a, .int ((Na04.exponent n : Nat) : Int)] ∧ 2 ≤ n ∧ n ≤ 13 ∧ H a = some (.lst (nV (Na04.units n))) ∧ RetP (fun v H2 => IsTab .lst ((Na04.chars n).map nV) v (sub H2 H)) H Q
theorem spp_characters_of {H : Hp} {n : Nat} {a : Addr} (h1 : 2 ≤ n) (h2 : n ≤ 13) (ha : H a = some (.lst (nV (Na04.units n)))) : SpP sp_characters_of [.int (n : Int), .ref a, .int ((Na04.exponent n : Nat) : Int)] H (fun v H2 => IsTab .lst ((Na04.chars n).map nV) v (sub H2 H)) := fun H1 e Q q E => ⟨n, a, rfl, h1, h2, e a _ ha, fun v H2 e2 h => q v H2 e2 (h.mono (sub_anti e))⟩
theorem ok_characters_of (T : Bl mg) {f f1 f2 : Addr} {fd fd1 fd2 : FuncData} (F : Fun K "characters_of" "characters_of" s_characters_of f fd)
    (D_laws_of : Df K mg "laws_of" ["n", "units"] f1 fd1) (G_laws_of : FnOk P w K mg base CX0 1 f1 fd1 ["n", "units"] sp_laws_of)
    (D_keeps_laws : Df K mg "keeps_laws" ["numbers", "laws", "exponent"] f2 fd2) (G_keeps_laws : FnOk P w K mg base CX0 1 f2 fd2 ["numbers", "laws", "exponent"] sp_keeps_laws) : FnOk P w K mg base CX0 2 f fd ["n", "units", "exponent"] sp_characters_of := by
  refine F.ok sc_characters_of (fun vs H Q E h => ?_) (fun cdv A outer s H vs Q E hr h => ?_)
  · obtain ⟨n, a, rfl, _⟩ := h
    rfl
  · obtain ⟨n, a, rfl, hn1, hn2, ha, q⟩ := h
    have R_laws_of := hr
    have R_keeps_laws := hr
    refine ⟨_, (pss_cons (ps_set (i := 3) sc_characters_of.nd rfl (Or.inl rfl) (pe_call G_laws_of R_laws_of (by rfl) D_laws_of.mg D_laws_of.kp D_laws_of.b .nil pass0 (pa_cons (pv 0) (pa_cons (pv 1) pa_nil))))
    (pss_cons (ps_set (i := 4) sc_characters_of.nd rfl (Or.inl rfl) (pe_lst (pa_cons (pe_lst pa_nil) pa_nil)))
    (pss_cons (ps_for PassesOwn.never rfl (pi_range1 (by rfl) T.b_range (pa_cons (pe_callB (lenK K) (by rfl) T.b_len (by decide +kernel) (pa_cons (pv 1) pa_nil)) pa_nil)) (pg_name (i := 5) sc_characters_of.nd rfl (Or.inr rfl))
    (pss_cons (ps_setLc (i := 6) (own := [("law", 11)]) (g := (gName 11)) (by rfl) sc_characters_of.nd rfl rfl (sw_true rfl rfl rfl (by decide +kernel)) (pilK K (pv 3)) (blkOk_by (own := [("law", 11)]) (N := N_characters_of) (sc := defScope s_characters_of) (by decide +kernel)) (fun _ _ _ _ _ => (pg_name (i := 11) sc_characters_of.nd rfl (Or.inl rfl))) (fun _ _ _ _ _ => (pts_one (pt_cmpR op_eq (pe_callB (maxTK K) (by rfl) T.b_max (by decide +kernel) (pa_cons (pv 11) pa_nil)) (pv 5) (nomark _)))) (fun _ _ _ _ _ => (pv 11)))
    (pss_cons (ps_set (i := 7) sc_characters_of.nd rfl (Or.inl rfl) (pe_lst pa_nil))
    (pss_cons (ps_for PassesOwn.never rfl (pilK K (pv 4)) (pg_name (i := 8) sc_characters_of.nd rfl (Or.inl rfl))
    (pss_one (ps_for PassesOwn.never rfl (pi_range1 (by rfl) T.b_range (pa_cons (pv 2) pa_nil)) (pg_name (i := 9) sc_characters_of.nd rfl (Or.inl rfl))
    (pss_cons (ps_set (i := 10) sc_characters_of.nd rfl (Or.inl rfl) (pe_op op_cat (pv 8) (pe_lst (pa_cons (pv 9) pa_nil))))
    (pss_one (ps_if (pt_val (pe_call G_keeps_laws R_keeps_laws (by rfl) D_keeps_laws.mg D_keeps_laws.kp D_keeps_laws.b .nil pass0 (pa_cons (pv 10) (pa_cons (pv 6) (pa_cons (pv 2) pa_nil)))))
    (pss_one (ps_expr (bmK K PySem.F.plainAttrs_list PySem.F.slot_list_append PySem.F.type_list_append mt_append (pv 7) (pa_cons (pv 10) pa_nil))))
    pss_nil))))))
    (pss_one (ps_set (i := 4) sc_characters_of.nd rfl (Or.inl rfl) (pv 7)))))))
    (pss_one (ps_ret (pv 4)))))), ?_⟩
    have hul := RsM.units_len12 n hn1 hn2
    have hE := RsM.expo_pos n hn1 hn2
    have hsm := RsM.grow_small n hn1 hn2
    have hfin := RsM.grow_is n hn1 hn2
    generalize hEe : Na04.exponent n = ex at *
    have hll : (nV (Na04.units n)).length = (Na04.units n).length := nV_len _
    refine q_asgP (ep_call (ea_cons (ev_var rfl) (ea_cons (ev_var rfl) ea_nil)) (spp_laws_of hn1 hn2 ha)) fun lwv Hl el hlw => ?_
    obtain ⟨lw, lv, rfl, hlw, hlo⟩ := hlw
    refine q_asgP ep_nest fun bgv H2 e2 hbg => ?_
    obtain ⟨bg, bv, rfl, hbg, hbo⟩ := hbg
    have hbg := sub_anti (H' := H2) el _ _ hbg
    have hbo := hbo.mono (sub_anti (H' := H2) el)
    refine q_forR1 (n := ((nV (Na04.units n)).length : Int)) (ea_cons (ev_len (K := K) (ev_var rfl) (sq_of (e2 _ _ (el _ _ ha)))) ea_nil) (by omega) (fun p σ' H' => Ex Hl H' ∧ ∃ (bg : Addr) (bv : List V) (z5 z6 z7 z8 z9 z10 z11 : Option V), p ≤ (Na04.units n).length ∧ sub H' H bg = some (.lst bv) ∧ Objs (sub H' H) .lst bv ((RsM.growM n ex p).map nV) ∧
      σ' = [some (.int (n : Int)), some (.ref a), some (.int (ex : Int)), some (.ref lw), some (.ref bg), z5, z6, z7, z8, z9, z10, z11]) (fun H3 e3 => ⟨e2.trans e3, bg, bv, none, none, none, none, none, none, none, by omega, sub_mono e3 _ _ hbg, hbo.mono (sub_mono e3), rfl⟩) (fun p σ' H' hp hP => ?_) (fun σ' H' hP => ?_)
    · obtain ⟨e', bg, bv, z5, z6, z7, z8, z9, z10, z11, hp', hbg, hbo, rfl⟩ := hP
      have hpl : p < (Na04.units n).length := by omega
      have hbgs := hbg
      have hbos := hbo
      have hbg := (of_sub hbg).2
      have hbo := hbo.mono (Ex.sub _ _)
      have hgl := hsm p (by omega)
      have hbl : bv.length = (RsM.growM n ex p).length := by rw [hbo.len, List.length_map]
      have zl : lv.length = (RsM.lawsM n).length := by rw [hlo.len, List.length_map]
      have hzf : (lv.zip (RsM.lawsM n)).map (fun x => x.1) = lv := List.map_fst_zip (by omega)
      have h144 := RsM.laws_len n hn1 hn2
      -- due
      refine q_asgL (xs := ((lv.zip (RsM.lawsM n)).filter fun x => RsM.top3 x.2 == p).map fun x => x.1) (el_lcM (K := K) (fun (x : V × List Nat) => x.1) (ns := lv.zip (RsM.lawsM n)) (a := lw) (fun x => RsM.top3 x.2 == p) (fun x => x.1) (ev_var rfl) (by rw [hzf]; exact sq_of (e' _ _ hlw)) (by rw [List.length_zip]; omega) (fun _ => rfl) (fun x H1 e1 hx => ?_) (fun x H1 e1 hx _ => ev_var rfl)) fun du H3 hdu e3 h3 => ?_
      · obtain ⟨v, l⟩ := x
        obtain ⟨q, rfl, hq⟩ := hlo.zipped hx
        have h3 := RsM.laws_ok n hn1 hn2 l (List.of_mem_zip hx).2
        match l, h3 with
        | [i, j, k], _ =>
          exact et_is (et_test (ev_op (ev_maxT3 (ev_var rfl) (e1 _ _ (e' _ _ hq))) (ev_var rfl) (rv_eq rfl))) (eqN _ p)
      have hduo : Objs H3 .tup (((lv.zip (RsM.lawsM n)).filter fun x => RsM.top3 x.2 == p).map fun x => x.1) ((RsM.dueM n p).map nV) := (hlo.mono (e'.trans e3)).kept fun l => RsM.top3 l == p
      have hdl : (RsM.dueM n p).length ≤ 1000 := Nat.le_trans (List.length_filter_le _ _) (by omega)
      -- longer
      refine q_asgL (el_lst ea_nil (by show 0 ≤ 100000; omega)) fun L H4 hL e4 h4 => ?_
      have hLH : H L = none := fresh_back ((el.trans e').trans e3) hL
      have hbg3 := e3 _ _ hbg
      have hbo3 := hbo.mono e3
      refine q_forLn (K := K) (xs := bv) (ev_var rfl) (sq_of (e4 _ _ hbg3)) (fun i σ' H' => Ex H3 H' ∧ ∃ (nv : List V) (z8 z9 z10 z11 : Option V), i ≤ bv.length ∧ H' L = some (.lst nv) ∧ Objs (sub H' H) .lst nv ((partM n ex p i).map nV) ∧ (∀ r, V.ref r ∈ nv → r ≠ L) ∧ nv.length ≤ i * 12 ∧
        σ' = [some (.int (n : Int)), some (.ref a), some (.int (ex : Int)), some (.ref lw), some (.ref bg), some (.int (p : Int)), some (.ref du), some (.ref L), z8, z9, z10, z11]) (fun H5 e5 => ⟨e4.trans e5, [], _, _, _, _, Nat.zero_le _, e5 _ _ h4, trivial, (fun _ h => by cases h), by simp, rfl⟩) (fun i σ' H' _ hP => sq_of (hP.1 _ _ hbg3)) (fun i x σ' H5 hx hP => ?_) (fun σ' H5 hP => ?_)
      · obtain ⟨e5, nv, z8, z9, z10, z11, hi, hL5, hno, hav, hnl, rfl⟩ := hP
        obtain ⟨cp, cr, rfl, hcr, hcp⟩ := hbo3.of hx
        rw [List.getElem?_map] at hcr
        cases hc : (RsM.growM n ex p)[i]? with
        | none => rw [hc] at hcr; cases hcr
        | some c =>
          rw [hc] at hcr
          have hcr : nV c = cr := Option.some.inj hcr
          subst hcr
          have hclen := RsM.grow_len n ex p c (List.mem_of_getElem? hc)
          have hil : i < bv.length := (List.getElem?_eq_some_iff.mp hx).1
          refine s_forR1 (n := (ex : Int)) (ea_cons (ev_var rfl) ea_nil) (by omega) (fun v σ' H' => Ex H3 H' ∧ ∃ (nv : List V) (z9 z10 : Option V), v ≤ ex ∧ H' L = some (.lst nv) ∧ Objs (sub H' H) .lst nv ((partM n ex p i ++ ((List.range v).map fun v => c ++ [v]).filter fun t => RsM.keeps t (RsM.dueM n p) ex).map nV) ∧ (∀ r, V.ref r ∈ nv → r ≠ L) ∧ nv.length ≤ i * 12 + v ∧
            σ' = [some (.int (n : Int)), some (.ref a), some (.int (ex : Int)), some (.ref lw), some (.ref bg), some (.int (p : Int)), some (.ref du), some (.ref L), some (.ref cp), z9, z10, z11]) (fun H6 e6 => ⟨e5.trans e6, nv, _, _, Nat.zero_le _, e6 _ _ hL5, by
              rw [List.range_zero, List.map_nil, List.filter_nil, List.append_nil]
              exact hno.mono (sub_mono e6), hav, by omega, rfl⟩) (fun v σ' H6 hv hP => ?_) (fun σ' H6 hP => ?_)
          · obtain ⟨e6, nv6, z9, z10, hv6, hL6, hno6, hav6, hnl6, rfl⟩ := hP
            refine q_asgL (xs := nV (c ++ [v])) (by
              rw [nV_append]
              exact el_cat (ev_var rfl) (e6 _ _ hcp) (el_lst (ea_cons (ev_var rfl) ea_nil) (by show 1 ≤ 100000; omega)) (by rw [nV_len]; show _ + 1 ≤ _; omega)) fun t H7 ht e7 h7 => ?_
            have htL : t ≠ L := fun e => by rw [e, hL6] at ht; cases ht
            have erow : ((List.range (v + 1)).map fun v => c ++ [v]).filter (fun t => RsM.keeps t (RsM.dueM n p) ex) = ((List.range v).map fun v => c ++ [v]).filter (fun t => RsM.keeps t (RsM.dueM n p) ex) ++ (if RsM.keeps (c ++ [v]) (RsM.dueM n p) ex = true then [c ++ [v]] else []) := by
              rw [range_more, List.map_append, List.filter_append]
              congr 1
              show List.filter _ [c ++ [v]] = _
              rw [List.filter_cons, List.filter_nil]
            refine s_when (et_B (ev_call (ea_cons (ev_var rfl) (ea_cons (ev_var rfl) (ea_cons (ev_var rfl) ea_nil))) (spv_keeps_laws (ns := c ++ [v]) (ls := RsM.dueM n p) (e := ex) h7 (e7 _ _ (e6 _ _ h3)) (hduo.mono (e6.trans e7)) hdl (by omega) (fun l hl => ?_)))) (fun hb H8 e8 => ?_) (fun hb H8 e8 => ?_)
            · obtain ⟨hl1, hl2⟩ := RsM.due_ok hl
              refine ⟨RsM.laws_ok n hn1 hn2 l hl1, ?_⟩
              rw [hl2, List.length_append, hclen]
              show p < p + 1
              omega
            · refine s_app (K := K) (xs := nv6) (e8 _ _ (e7 _ _ hL6)) (ev_var rfl) (ev_var rfl) (by omega) fun H9 e9 => ?_
              refine ⟨Ex.mut (((e6.trans e7).trans e8).trans e9) hL, nv6 ++ [.ref t], _, _, by omega, upd_same, ?_, ?_, by rw [List.length_append]; show nv6.length + 1 ≤ _; omega, rfl⟩
              · rw [erow, if_pos hb, ← List.append_assoc, List.map_append (f := nV)]
                have htH : H t = none := fresh_back ((el.trans (e'.trans e3)).trans e6) ht
                have h9 := (hno6.mono (sub_mono ((e7.trans e8).trans e9))).push (sub_of htH (e9 _ _ (e8 _ _ h7)))
                rw [sub_upd hLH]
                exact h9.updNe fun r hr => by
                  rcases List.mem_append.mp hr with hr | hr
                  · exact hav6 r hr
                  · have : r = t := by simpa using hr
                    rw [this]
                    exact htL
              · intro r hr
                rcases List.mem_append.mp hr with hr | hr
                · exact hav6 r hr
                · have : r = t := by simpa using hr
                  rw [this]
                  exact htL
            · refine ⟨((e6.trans e7).trans e8), nv6, _, _, by omega, e8 _ _ (e7 _ _ hL6), ?_, hav6, by omega, rfl⟩
              rw [erow, if_neg (by rw [hb]; decide), List.append_nil]
              exact hno6.mono (sub_mono (e7.trans e8))
          · obtain ⟨e6, nv6, z9, z10, hv6, hL6, hno6, hav6, hnl6, rfl⟩ := hP
            refine ⟨e6, nv6, _, _, _, _, by omega, hL6, ?_, hav6, ?_, rfl⟩
            · rw [partM_more hc]
              exact hno6
            · have : ((ex : Int)).toNat = ex := by omega
              rw [this] at hnl6
              omega
      · obtain ⟨e5, nv, z8, z9, z10, z11, hi, hL5, hno, hav, hnl, rfl⟩ := hP
        refine s_asg (ev_var rfl) fun H6 e6 => ⟨((e'.trans e3).trans e5).trans e6, L, nv, _, _, _, _, _, _, _, by omega, sub_of hLH (e6 _ _ hL5), ?_, rfl⟩
        rw [extM_def]
        have : partM n ex p bv.length = (RsM.growM n ex p).flatMap (extM n ex p) := by
          unfold partM
          rw [hbl, List.take_length]
        rw [this] at hno
        exact hno.mono (sub_mono e6)
    · obtain ⟨e', bg, bv, z5, z6, z7, z8, z9, z10, z11, hp', hbg, hbo, rfl⟩ := hP
      have : ((((nV (Na04.units n)).length : Int))).toNat = (Na04.units n).length := by omega
      rw [this, hfin] at hbo
      exact s_ret (ev_var rfl) fun H4 e4 => q _ H4 ((el.trans e').trans e4) ⟨bg, bv, rfl, sub_mono e4 _ _ hbg, hbo.mono (sub_mono e4)⟩
end
end Rs
set_option Elab.async false
set_option linter.all false
set_option maxRecDepth 100000
set_option maxHeartbeats 4000000
namespace Rs
open PySem PySem.Spec PyProof.Rows L2 Evl
theorem filter_all {α : Type} (p q : α → Bool) : ∀ l : List α, ((l.filter p).map q).all id = l.all fun x => !p x || q x
  | [] => rfl
  | x :: l => by
    rw [List.filter_cons]
    have ih := filter_all p q l
    cases h : p x with
    | true =>
      show ((x :: l.filter p).map q).all id = _
      rw [List.map_cons, List.all_cons, List.all_cons, ih, h]
      rfl
    | false =>
      show ((l.filter p).map q).all id = _
      rw [List.all_cons, ih, h]
      rfl
theorem find_first {P : Nat → Bool} : ∀ {m d : Nat}, (∀ k, k < d → P k = false) → P d = true → d < m → (List.range m).find? P = some d
  | 0, d, _, _, h => absurd h (Nat.not_lt_zero _)
  | m + 1, d, h1, h2, h3 => by
    rw [range_more, List.find?_append]
    by_cases e : d < m
    · rw [find_first h1 h2 e]
      rfl
    · have e : d = m := by omega
      subst e
      rw [List.find?_eq_none.mpr (fun k hk => by rw [h1 k (List.mem_range.mp hk)]; decide)]
      show List.find? P [d] = some d
      rw [List.find?_cons, h2]
theorem find_none {P : Nat → Bool} {n : Nat} (h : ∀ k, k < n → P k = false) : ((List.range (n + 1)).find? P).getD n = n := by
  rw [range_more, List.find?_append, List.find?_eq_none.mpr (fun k hk => by rw [h k (List.mem_range.mp hk)]; decide)]
  show (List.find? P [n]).getD n = n
  rw [List.find?_cons]
  cases P n with
  | true => rfl
  | false => rfl
section
variable {P : Program} {w : World} {K : PySem.W.Frag} {mg : Str → Option Value} {base : Heap}
/-! ### product_of -/
abbrev s_product_of : Stmt := topS 15
abbrev N_product_of : List Str := ["one", "other", "exponent", "v", "w"]
theorem sc_product_of : FnScope N_product_of ["one", "other", "exponent"] (defScope s_product_of) := ⟨rfl, rfl, rfl, by decide +kernel, rfl, by decide +kernel, by decide +kernel⟩
def sp_product_of : Sp := fun vs H Q _ => ∃ (xs ys : List Nat) (e : Nat) (a b : Addr), vs = [.ref a, .ref b, .int (e : Int)] ∧ H a = some (.lst (nV xs)) ∧ H b = some (.lst (nV ys)) ∧ 0 < e ∧ xs.length ≤ 1000 ∧ RetL (nV ((xs.zip ys).map fun x => (x.1 + x.2) % e)) H Q
theorem ok_product_of (T : Bl mg) {f : Addr} {fd : FuncData} (F : Fun K "product_of" "product_of" s_product_of f fd) : FnOk P w K mg base CX0 1 f fd ["one", "other", "exponent"] sp_product_of := by
  refine F.ok sc_product_of (fun vs H Q E h => ?_) (fun cdv A outer s H vs Q E hr h => ?_)
  · obtain ⟨xs, ys, e, a, b, rfl, _⟩ := h
    rfl
  · obtain ⟨xs, ys, e, a, b, rfl, ha, hb, he, hl, q⟩ := h
    refine ⟨_, (pss_one (ps_ret (pe_lc (own := [("v", 3), ("w", 4)]) (g := (gTup K 2 (gCons (gName 3) (gCons (gName 4) gNil)))) (tt := tYes) (by rfl) sc_product_of.nd (pi_zip (by rfl) T.b_zip (pa_cons (pv 0) (pa_cons (pv 1) pa_nil))) (blkOk_by (own := [("v", 3), ("w", 4)]) (N := N_product_of) (sc := defScope s_product_of) (by decide +kernel)) (fun _ _ _ _ _ => (pg_tup rfl (pgs_cons (pg_name (i := 3) sc_product_of.nd rfl (Or.inl rfl)) (pgs_cons (pg_name (i := 4) sc_product_of.nd rfl (Or.inl rfl)) pgs_nil)))) (fun _ _ _ _ _ => pts_nil) (fun _ _ _ _ _ => (pe_op op_mod (pe_op op_add (pv 3) (pv 4)) (pv 2)))))), ?_⟩
    refine s_retL (xs := nV ((xs.zip ys).map fun (x : Nat × Nat) => (x.1 + x.2) % e)) ?_ q
    have := el_lcZM (K := K) (t := tYes) (te := tOp (rI (fun _ j => 0 < j) fun i j => .int (i % j)) (tOp (rI0 fun i j => .int (i + j)) (tVar 3) (tVar 4)) (tVar 2)) (σ := [some (.ref a), some (.ref b), some (.int (e : Int)), none, none]) (H := H) (fun (n : Nat) => V.int (n : Int)) (fun (n : Nat) => V.int (n : Int)) (as := xs) (bs := ys) (a := a) (b := b) (ta := tCons (tVar 0) (tCons (tVar 1) tNil)) (j := 3) (k := 4) (vs := [3, 4]) (fun _ => true) (fun x => V.int (((x.1 + x.2) % e : Nat) : Int))
      (ea_cons (ev_var rfl) (ea_cons (ev_var rfl) ea_nil)) (sq_of ha) (sq_of hb) (by rw [List.length_zip]; omega) (fun _ _ => rfl) (fun x y H1 e1 hx => et_yes)
      (fun x y H1 e1 hx _ => ev_is (ev_op (ev_op (ev_var rfl) (ev_var rfl) rv_I0) (ev_var rfl) (rv_I (by show (0 : Int) < (e : Int); omega))) (by show V.int ((((x : Nat) : Int) + ((y : Nat) : Int)) % (e : Int)) = V.int (((x + y) % e : Nat) : Int); rw [Int.natCast_emod, Int.natCast_add]))
    rw [List.filter_eq_self.mpr (fun _ _ => rfl)] at this
    unfold nV
    rw [List.map_map]
    exact this
theorem spl_product_of {H : Hp} {xs ys : List Nat} {e : Nat} {a b : Addr} (ha : H a = some (.lst (nV xs))) (hb : H b = some (.lst (nV ys))) (he : 0 < e) (hl : xs.length ≤ 1000) : SpL sp_product_of [.ref a, .ref b, .int (e : Int)] H (nV ((xs.zip ys).map fun x => (x.1 + x.2) % e)) :=
  fun H1 ex Q q E => ⟨xs, ys, e, a, b, rfl, ex _ _ ha, ex _ _ hb, he, hl, q⟩
/-! ### inverse_of -/
abbrev s_inverse_of : Stmt := topS 16
abbrev N_inverse_of : List Str := ["numbers", "exponent", "v"]
theorem sc_inverse_of : FnScope N_inverse_of ["numbers", "exponent"] (defScope s_inverse_of) := ⟨rfl, rfl, rfl, by decide +kernel, rfl, by decide +kernel, by decide +kernel⟩
def sp_inverse_of : Sp := fun vs H Q _ => ∃ (xs : List Nat) (e : Nat) (a : Addr), vs = [.ref a, .int (e : Int)] ∧ H a = some (.lst (nV xs)) ∧ 0 < e ∧ xs.length ≤ 1000 ∧ (∀ v ∈ xs, v ≤ e) ∧ RetL (nV (xs.map fun v => (e - v) % e)) H Q
theorem ok_inverse_of (T : Bl mg) {f : Addr} {fd : FuncData} (F : Fun K "inverse_of" "inverse_of" s_inverse_of f fd) : FnOk P w K mg base CX0 1 f fd ["numbers", "exponent"] sp_inverse_of := by
  refine F.ok sc_inverse_of (fun vs H Q E h => ?_) (fun cdv A outer s H vs Q E hr h => ?_)
  · obtain ⟨xs, e, a, rfl, _⟩ := h
    rfl
  · obtain ⟨xs, e, a, rfl, ha, he, hl, hv, q⟩ := h
    refine ⟨_, (pss_one (ps_ret (pe_lc (own := [("v", 2)]) (g := (gName 2)) (tt := tYes) (by rfl) sc_inverse_of.nd (pilK K (pv 0)) (blkOk_by (own := [("v", 2)]) (N := N_inverse_of) (sc := defScope s_inverse_of) (by decide +kernel)) (fun _ _ _ _ _ => (pg_name (i := 2) sc_inverse_of.nd rfl (Or.inl rfl))) (fun _ _ _ _ _ => pts_nil) (fun _ _ _ _ _ => (pe_op op_mod (pe_op op_sub (pv 1) (pv 2)) (pv 1)))))), ?_⟩
    refine s_retL (xs := nV (xs.map fun v => (e - v) % e)) ?_ q
    have := el_lcM (K := K) (t := tYes) (te := tOp (rI (fun _ j => 0 < j) fun i j => .int (i % j)) (tOp (rI0 fun i j => .int (i - j)) (tVar 1) (tVar 2)) (tVar 1)) (σ := [some (.ref a), some (.int (e : Int)), none]) (H := H) (fun (n : Nat) => V.int (n : Int)) (ns := xs) (a := a) (tl := tVar 0) (j := 2) (vs := [2]) (fun _ => true) (fun x => V.int (((e - x) % e : Nat) : Int))
      (ev_var rfl) (sq_of ha) (by omega) (fun _ => rfl) (fun x H1 e1 hx => et_yes)
      (fun x H1 e1 hx _ => ev_is (ev_op (ev_op (ev_var rfl) (ev_var rfl) rv_I0) (ev_var rfl) (rv_I (by show (0 : Int) < (e : Int); omega))) (by show V.int ((((e : Nat) : Int) - ((x : Nat) : Int)) % (e : Int)) = V.int (((e - x) % e : Nat) : Int); rw [Int.natCast_emod, Int.natCast_sub (hv x hx)]))
    rw [List.filter_eq_self.mpr (fun _ _ => rfl)] at this
    unfold nV
    rw [List.map_map]
    exact this
theorem spl_inverse_of {H : Hp} {xs : List Nat} {e : Nat} {a : Addr} (ha : H a = some (.lst (nV xs))) (he : 0 < e) (hl : xs.length ≤ 1000) (hv : ∀ v ∈ xs, v ≤ e) : SpL sp_inverse_of [.ref a, .int (e : Int)] H (nV (xs.map fun v => (e - v) % e)) :=
  fun H1 ex Q q E => ⟨xs, e, a, rfl, ex _ _ ha, he, hl, hv, q⟩
/-! ### comes_from -/
abbrev s_comes_from : Stmt := topS 17
abbrev N_comes_from : List Str := ["d", "units", "numbers", "u", "v"]
theorem sc_comes_from : FnScope N_comes_from ["d", "units", "numbers"] (defScope s_comes_from) := ⟨rfl, rfl, rfl, by decide +kernel, rfl, by decide +kernel, by decide +kernel⟩
def cfM (us c : List Nat) (d : Nat) : Bool := (us.zip c).all fun x => x.1 % d != 1 % d || x.2 == 0
def sp_comes_from : Sp := fun vs H Q _ => ∃ (d : Nat) (us c : List Nat) (a b : Addr), vs = [.int (d : Int), .ref a, .ref b] ∧ H a = some (.lst (nV us)) ∧ H b = some (.lst (nV c)) ∧ 0 < d ∧ us.length ≤ 1000 ∧ RetV (.bl (cfM us c d)) H Q
theorem ok_comes_from (T : Bl mg) {f : Addr} {fd : FuncData} (F : Fun K "comes_from" "comes_from" s_comes_from f fd) : FnOk P w K mg base CX0 1 f fd ["d", "units", "numbers"] sp_comes_from := by
  refine F.ok sc_comes_from (fun vs H Q E h => ?_) (fun cdv A outer s H vs Q E hr h => ?_)
  · obtain ⟨d, us, c, a, b, rfl, _⟩ := h
    rfl
  · obtain ⟨d, us, c, a, b, rfl, ha, hb, hd, hl, q⟩ := h
    refine ⟨_, (pss_one (ps_ret (pe_callB (allK K) (by rfl) T.b_all (by decide +kernel) (pa_cons (pe_lc (own := [("u", 3), ("v", 4)]) (g := (gTup K 2 (gCons (gName 3) (gCons (gName 4) gNil)))) (by rfl) sc_comes_from.nd (pi_zip (by rfl) T.b_zip (pa_cons (pv 1) (pa_cons (pv 2) pa_nil))) (blkOk_by (own := [("u", 3), ("v", 4)]) (N := N_comes_from) (sc := defScope s_comes_from) (by decide +kernel)) (fun _ _ _ _ _ => (pg_tup rfl (pgs_cons (pg_name (i := 3) sc_comes_from.nd rfl (Or.inl rfl)) (pgs_cons (pg_name (i := 4) sc_comes_from.nd rfl (Or.inl rfl)) pgs_nil)))) (fun _ _ _ _ _ => (pts_one (pt_cmpR op_eq (pe_op op_mod (pv 3) (pv 0)) (pe_op op_mod pe_int (pv 0)) (nomark _)))) (fun _ _ _ _ _ => (pe_cmpR op_eq (pv 4) pe_int (nomark _)))) pa_nil)))), ?_⟩
    refine s_ret (v := .bl (cfM us c d)) (ev_is (ev_all (bs := ((us.zip c).filter fun x => x.1 % d == 1 % d).map fun x => x.2 == 0) ?_) (congrArg V.bl (filter_all _ _ _))) q
    rw [List.map_map]
    refine el_lcZM (K := K) (fun (n : Nat) => V.int (n : Int)) (fun (n : Nat) => V.int (n : Int)) (as := us) (bs := c) (fun x => x.1 % d == 1 % d) (fun x => V.bl (x.2 == 0)) (ea_cons (ev_var rfl) (ea_cons (ev_var rfl) ea_nil)) (sq_of ha) (sq_of hb) (by rw [List.length_zip]; omega) (fun _ _ => rfl) (fun x y H1 e1 hx => ?_)
      (fun x y H1 e1 hx _ => ev_is (ev_op (ev_var rfl) ev_c (rv_eq rfl)) (congrArg V.bl (eqN y 0)))
    exact et_is (et_test (ev_op (ev_op (ev_var rfl) (ev_var rfl) (rv_I (by show (0 : Int) < (d : Int); omega))) (ev_op ev_c (ev_var rfl) (rv_I (by show (0 : Int) < (d : Int); omega))) (rv_eq rfl))) (eqN (x % d) (1 % d))
theorem spv_comes_from {H : Hp} {d : Nat} {us c : List Nat} {a b : Addr} (ha : H a = some (.lst (nV us))) (hb : H b = some (.lst (nV c))) (hd : 0 < d) (hl : us.length ≤ 1000) : SpV sp_comes_from [.int (d : Int), .ref a, .ref b] H (.bl (cfM us c d)) :=
  fun H1 ex Q q E => ⟨d, us, c, a, b, rfl, ex _ _ ha, ex _ _ hb, hd, hl, q⟩
/-! ### origin_of -/
abbrev s_origin_of : Stmt := topS 18
abbrev N_origin_of : List Str := ["n", "units", "numbers", "d"]
theorem sc_origin_of : FnScope N_origin_of ["n", "units", "numbers"] (defScope s_origin_of) := ⟨rfl, rfl, rfl, by decide +kernel, rfl, by decide +kernel, by decide +kernel⟩
def orP (n : Nat) (c : List Nat) (d : Nat) : Bool := d != 0 && (n % d == 0 && cfM (Na04.units n) c d)
theorem orP_spec (n : Nat) (c : List Nat) : Na04.comesFrom n c = ((List.range (n + 1)).find? (orP n c)).getD n := rfl
def sp_origin_of : Sp := fun vs H Q _ => ∃ (n : Nat) (c : List Nat) (a b : Addr), vs = [.int (n : Int), .ref a, .ref b] ∧ H a = some (.lst (nV (Na04.units n))) ∧ H b = some (.lst (nV c)) ∧ 2 ≤ n ∧ n ≤ 1000 ∧ RetV (.int ((Na04.comesFrom n c : Nat) : Int)) H Q
theorem ok_origin_of (T : Bl mg) {f f1 : Addr} {fd fd1 : FuncData} (F : Fun K "origin_of" "origin_of" s_origin_of f fd)
    (D_comes_from : Df K mg "comes_from" ["d", "units", "numbers"] f1 fd1) (G_comes_from : FnOk P w K mg base CX0 1 f1 fd1 ["d", "units", "numbers"] sp_comes_from) : FnOk P w K mg base CX0 2 f fd ["n", "units", "numbers"] sp_origin_of := by
  refine F.ok sc_origin_of (fun vs H Q E h => ?_) (fun cdv A outer s H vs Q E hr h => ?_)
  · obtain ⟨n, c, a, b, rfl, _⟩ := h
    rfl
  · obtain ⟨n, c, a, b, rfl, ha, hb, hn1, hn2, q⟩ := h
    have R_comes_from := hr
    refine ⟨_, (pss_cons (ps_for PassesOwn.never rfl (pi_range2 (by rfl) T.b_range (pa_cons pe_int (pa_cons (pv 0) pa_nil))) (pg_name (i := 3) sc_origin_of.nd rfl (Or.inl rfl))
    (pss_one (ps_if (PW.pt (pw_and (pt_cmpR op_eq (pe_op op_mod (pv 0) (pv 3)) pe_int (nomark _)) (pw_and1 (pt_val (pe_call G_comes_from R_comes_from (by rfl) D_comes_from.mg D_comes_from.kp D_comes_from.b .nil pass0 (pa_cons (pv 3) (pa_cons (pv 1) (pa_cons (pv 2) pa_nil))))))))
    (pss_one (ps_ret (pv 3)))
    pss_nil)))
    (pss_one (ps_ret (pv 0)))), ?_⟩
    have hul := RsM.units_len n
    refine q_forR2 (lo := 1) (n := (n : Int)) (ea_cons ev_c (ea_cons (ev_var rfl) ea_nil)) (by omega) (fun i σ' H' => Ex H H' ∧ (∀ k, k < 1 + i → orP n c k = false) ∧ ∃ z : Option V, σ' = [some (.int (n : Int)), some (.ref a), some (.ref b), z])
      (fun H1 e1 => ⟨e1, fun k hk => (by rw [show k = 0 by omega]; rfl), none, rfl⟩) (fun i σ' H1 hi hP => ?_) (fun σ' H1 hP => ?_)
    · obtain ⟨e1, hno, z, rfl⟩ := hP
      have hc1 : V.int (1 + (i : Int)) = V.int ((1 + i : Nat) : Int) := by rw [Int.natCast_add]; rfl
      rw [hc1]
      refine s_when (b := orP n c (1 + i)) (et_is (et_and (a := n % (1 + i) == 0) (b := cfM (Na04.units n) c (1 + i)) (et_is (et_test (ev_op (ev_op (ev_var rfl) (ev_var rfl) (rv_I (by show (0 : Int) < ((1 + i : Nat) : Int); omega))) ev_c (rv_eq rfl))) (eqN (n % (1 + i)) 0)) (fun _ => et_B (ev_call (ea_cons (ev_var rfl) (ea_cons (ev_var rfl) (ea_cons (ev_var rfl) ea_nil))) (spv_comes_from (e1 _ _ ha) (e1 _ _ hb) (by omega) (by omega))))) ?_) (fun hb' H2 e2 => ?_) (fun hb' H2 e2 => ?_)
      · unfold orP
        have : (1 + i != 0) = true := by simp
        rw [this]
        rfl
      · refine s_ret (v := .int ((Na04.comesFrom n c : Nat) : Int)) (ev_is (ev_var rfl) ?_) fun H3 e3 => q H3 ((e1.trans e2).trans e3)
        rw [orP_spec, find_first hno hb' (by omega)]
        rfl
      · exact ⟨e1.trans e2, fun k hk => by
          by_cases e : k < 1 + i
          · exact hno k e
          · have : k = 1 + i := by omega
            rw [this]
            exact hb', _, rfl⟩
    · obtain ⟨e1, hno, z, rfl⟩ := hP
      refine s_ret (v := .int ((Na04.comesFrom n c : Nat) : Int)) (ev_is (ev_var rfl) ?_) fun H3 e3 => q H3 (e1.trans e3)
      rw [orP_spec, find_none (fun k hk => hno k (by omega))]
theorem spv_origin_of {H : Hp} {n : Nat} {c : List Nat} {a b : Addr} (ha : H a = some (.lst (nV (Na04.units n)))) (hb : H b = some (.lst (nV c))) (h1 : 2 ≤ n) (h2 : n ≤ 1000) : SpV sp_origin_of [.int (n : Int), .ref a, .ref b] H (.int ((Na04.comesFrom n c : Nat) : Int)) :=
  fun H1 ex Q q E => ⟨n, c, a, b, rfl, ex _ _ ha, ex _ _ hb, h1, h2, q⟩
end
end Rs
set_option Elab.async false
set_option linter.all false
set_option maxRecDepth 100000
set_option maxHeartbeats 4000000
namespace Rs
open PySem PySem.Spec PyProof.Rows L2 Evl
section
variable {P : Program} {w : World} {K : PySem.W.Frag} {mg : Str → Option Value} {base : Heap}
/-! ### divided -/
abbrev s_divided : Stmt := topS 1
abbrev N_divided : List Str := ["numbers", "divisor", "degree", "both", "filled", "at", "i"]
theorem sc_divided : FnScope N_divided ["numbers", "divisor"] (defScope s_divided) := ⟨rfl, rfl, rfl, by decide +kernel, rfl, by decide +kernel, by decide +kernel⟩
def sp_divided : Sp := fun vs H Q _ => ∃ (a b : Addr) (s c : List Int) (d : Nat), vs = [.ref a, .ref b] ∧ H a = some (.lst (iV s)) ∧ H b = some (.lst (iV c)) ∧ c.length = d + 1 ∧ s.length ≤ 1000 ∧ d ≤ 1000 ∧ (∀ x ∈ c, x.natAbs ≤ 1000) ∧ RetL (iV (RsP.dv c d s (s.length - d))) H Q
theorem filled_given (c : List Int) (d : Nat) : given d (fun i => c.getD i 0 != 0) (fun u => .int (u : Int)) = nV (RsP.filled c d) := rfl
theorem neI (a : Int) : (!decide (V.int a = V.int 0)) = (a != 0) := by
  by_cases h : a = 0
  · subst h
    rfl
  · have z : ¬ V.int a = V.int 0 := fun e => h (V.int.inj e)
    rw [decide_eq_false z]
    exact (bne_iff_ne.mpr h).symm
theorem ok_divided (T : Bl mg) {f : Addr} {fd : FuncData} (F : Fun K "divided" "divided" s_divided f fd) : FnOk P w K mg base CX0 1 f fd ["numbers", "divisor"] sp_divided := by
  refine F.ok sc_divided (fun vs H Q E h => ?_) (fun cdv A outer s H vs Q E hr h => ?_)
  · obtain ⟨a, b, s, c, d, rfl, _⟩ := h
    rfl
  · obtain ⟨a, b, s, c, d, rfl, ha, hb, hc, hs, hd, hsm, q⟩ := h
    refine ⟨_, (pss_cons (ps_set (i := 2) sc_divided.nd rfl (Or.inl rfl) (pe_op op_sub (pe_callB (lenK K) (by rfl) T.b_len (by decide +kernel) (pa_cons (pv 1) pa_nil)) pe_int))
    (pss_cons (ps_set (i := 3) sc_divided.nd rfl (Or.inl rfl) (pe_callTy (listK K) (by rfl) T.b_list (by decide +kernel) (pa_cons (pv 0) pa_nil)))
    (pss_cons (ps_setLc (i := 4) (own := [("i", 6)]) (g := (gName 6)) (by rfl) sc_divided.nd rfl rfl (sw_true rfl rfl rfl (by decide +kernel)) (pi_range1 (by rfl) T.b_range (pa_cons (pv 2) pa_nil)) (blkOk_by (own := [("i", 6)]) (N := N_divided) (sc := defScope s_divided) (by decide +kernel)) (fun _ _ _ _ _ => (pg_name (i := 6) sc_divided.nd rfl (Or.inl rfl))) (fun _ _ _ _ _ => (pts_one (pt_cmpR op_ne (pe_ix (ixl K) (pv 1) (pv 6) (fun _ _ => rfl)) pe_int (nomark _)))) (fun _ _ _ _ _ => (pv 6)))
    (pss_cons (ps_for PassesOwn.never rfl (pi_range3 (by rfl) T.b_range (pa_cons (pe_op op_sub (pe_callB (lenK K) (by rfl) T.b_len (by decide +kernel) (pa_cons (pv 0) pa_nil)) pe_int) (pa_cons (pe_op op_sub (pv 2) pe_int) (pa_cons (pe_un un_neg pe_int) pa_nil)))) (pg_name (i := 5) sc_divided.nd rfl (Or.inl rfl))
    (pss_one (ps_for PassesOwn.never rfl (pilK K (pv 4)) (pg_name (i := 6) sc_divided.nd rfl (Or.inl rfl))
    (pss_one (ps_augL (pv 3) (pe_op op_add (pe_op op_sub (pv 5) (pv 2)) (pv 6)) (pe_op op_mul (pe_ix (ixl K) (pv 3) (pv 5) (fun _ _ => rfl)) (pe_ix (ixl K) (pv 1) (pv 6) (fun _ _ => rfl))) ip_sub)))))
    (pss_one (ps_ret (pv 3))))))), ?_⟩
    refine q_asg (v := .int (d : Int)) (ev_is (ev_op (ev_len (ev_var rfl) (sq_of hb)) ev_c rv_I0) (by rw [iV_len, hc]; show V.int (((d + 1 : Nat) : Int) - 1) = _; congr 1; omega)) fun H1 e1 => ?_
    refine q_asgL (el_list (ev_var rfl) (sq_of (e1 _ _ ha))) fun bo H2 hbo e2 h2 => ?_
    have hboH := fresh_back e1 hbo
    have hb2 := (e1.trans e2) _ _ hb
    refine q_asgL (xs := nV (RsP.filled c d)) ?_ fun fi H3 hfi e3 h3 => ?_
    · rw [← filled_given]
      refine el_lcR1 (n := (d : Int)) (fun i => c.getD i 0 != 0) (fun u => .int (u : Int)) (ea_cons (ev_var rfl) ea_nil) (by omega) (fun _ => rfl) (fun i H4 e4 hi => ?_) (fun i H4 e4 hi hf => ev_var rfl)
      exact et_is (et_test (ev_op (ev_op (ev_var rfl) (ev_var rfl) (rv_ixL (sq_of (e4 _ _ hb2)) (atI_nat (iV_getD (by omega))))) ev_c (rv_ne rfl))) (neI _)
    have hfb : fi ≠ bo := fun e => by rw [e, h2] at hfi; cases hfi
    have hbb : b ≠ bo := fun e => by rw [e, hboH] at hb; cases hb
    have hb3 := e3 _ _ hb2
    have a3 := (e1.trans (e2.trans e3)) _ _ ha
    refine q_forD (lo := (s.length : Int) - 1) (hi := (d : Int) - 1) (ea_cons (ev_is (ev_op (ev_len (ev_var rfl) (sq_of a3)) ev_c rv_I0) (by rw [iV_len])) (ea_cons (ev_op (ev_var rfl) ev_c rv_I0) (ea_cons (ev_un ev_c ru_neg) ea_nil))) (by omega)
      (fun t σ' H' => Ex H H' ∧ ∃ z5 z6 : Option V, H' bo = some (.lst (iV (RsP.dv c d s t))) ∧ H' fi = some (.lst (nV (RsP.filled c d))) ∧ σ' = [some (.ref a), some (.ref b), some (.int (d : Int)), some (.ref bo), some (.ref fi), z5, z6])
      (fun H4 e4 => ⟨(e1.trans (e2.trans e3)).trans e4, none, none, (e3.trans e4) _ _ h2, e4 _ _ h3, rfl⟩) (fun t σ' H' ht hP => ?_) (fun σ' H' hP => ?_)
    · obtain ⟨e', z5, z6, hbo', hfi', rfl⟩ := hP
      have htl : t < s.length - d := by omega
      have hat : (s.length : Int) - 1 - (t : Int) = ((s.length - 1 - t : Nat) : Int) := by omega
      rw [hat]
      refine s_forLn (K := K) (xs := nV (RsP.filled c d)) (ev_var rfl) (sq_of hfi') (fun k σ2 H2' => Ex H H2' ∧ ∃ z6 : Option V, H2' bo = some (.lst (iV (((RsP.filled c d).take k).foldl (RsP.sub1 c (s.length - 1 - t - d) (s.length - 1 - t)) (RsP.dv c d s t)))) ∧ H2' fi = some (.lst (nV (RsP.filled c d))) ∧ σ2 = [some (.ref a), some (.ref b), some (.int (d : Int)), some (.ref bo), some (.ref fi), some (.int ((s.length - 1 - t : Nat) : Int)), z6])
        (fun H4 e4 => ⟨e'.trans e4, _, e4 _ _ hbo', e4 _ _ hfi', rfl⟩) (fun k σ2 H2' _ hP => sq_of hP.2.choose_spec.2.1) (fun k x σ2 H2' hx hP => ?_) (fun σ2 H2' hP => ?_)
      · obtain ⟨e2', z6, hbo2, hfi2, rfl⟩ := hP
        obtain ⟨i, hi, rfl⟩ := nV_of hx
        have him := List.mem_of_getElem? hi
        have hid := RsP.filled_lt him
        have hbd : H2' b = some (.lst (iV c)) := e2' _ _ hb
        generalize hcur : ((RsP.filled c d).take k).foldl (RsP.sub1 c (s.length - 1 - t - d) (s.length - 1 - t)) (RsP.dv c d s t) = cur at hbo2
        have hcl : cur.length = s.length := by rw [← hcur, RsP.fold_len, RsP.dv_len]
        have hci : (c.getD i 0).natAbs ≤ 1000 := hsm _ (by
          rw [List.getD_eq_getElem?_getD, List.getElem?_eq_getElem (show i < c.length by omega)]
          exact List.getElem_mem _)
        refine s_augL (j := s.length - 1 - t - d + i) (a := cur.getD (s.length - 1 - t - d + i) 0) (b := cur.getD (s.length - 1 - t) 0 * c.getD i 0) hbo2 (ev_var rfl) (ev_is (ev_op (ev_op (ev_var rfl) (ev_var rfl) rv_I0) (ev_var rfl) rv_I0) (by
          show V.int (((s.length - 1 - t : Nat) : Int) - (d : Int) + (i : Int)) = _
          congr 1
          omega)) (iV_getD (by omega)) (ev_op (ev_op (ev_var rfl) (ev_var rfl) (rv_ixL (sq_of hbo2) (atI_nat (iV_getD (by omega))))) (ev_op (ev_var rfl) (ev_var rfl) (rv_ixL (sq_of hbd) (atI_nat (iV_getD (by omega))))) (rv_I (.inr ⟨by omega, by omega⟩))) fun H5 e5 => ⟨Ex.mut (e2'.trans e5) hboH, _, ?_, ?_, rfl⟩
        · rw [upd_same, List.take_add_one, hi]
          show _ = some (HO.lst (iV (List.foldl _ _ (_ ++ [i]))))
          rw [List.foldl_append, hcur]
          show _ = some (HO.lst (iV (RsP.sub1 c _ _ cur i)))
          unfold RsP.sub1
          rw [iV_set]
        · rw [upd_ne hfb]
          exact e5 _ _ hfi2
      · obtain ⟨e2', z6, hbo2, hfi2, rfl⟩ := hP
        rw [nV_len, List.take_length] at hbo2
        exact ⟨e2', _, _, hbo2, hfi2, rfl⟩
    · obtain ⟨e', z5, z6, hbo', hfi', rfl⟩ := hP
      rw [show ((s.length : Int) - 1 - ((d : Int) - 1)).toNat = s.length - d by omega] at hbo'
      exact s_ret (ev_var rfl) fun H4 e4 => q bo H4 hboH (e'.trans e4) (e4 _ _ hbo')
theorem spl_divided {H : Hp} {a b : Addr} {s c : List Int} {d : Nat} (ha : H a = some (.lst (iV s))) (hb : H b = some (.lst (iV c))) (hc : c.length = d + 1) (hs : s.length ≤ 1000) (hd : d ≤ 1000) (hx : ∀ x ∈ c, x.natAbs ≤ 1000) : SpL sp_divided [.ref a, .ref b] H (iV (RsP.dv c d s (s.length - d))) :=
  fun H1 e Q q E => ⟨a, b, s, c, d, rfl, e _ _ ha, e _ _ hb, hc, hs, hd, hx, q⟩
/-! ### quotient_of, rest_of -/
abbrev s_quotient_of : Stmt := topS 2
abbrev N_quotient_of : List Str := ["numbers", "divisor"]
theorem sc_quotient_of : FnScope N_quotient_of ["numbers", "divisor"] (defScope s_quotient_of) := ⟨rfl, rfl, rfl, by decide +kernel, rfl, by decide +kernel, by decide +kernel⟩
def sp_quotient_of : Sp := fun vs H Q _ => ∃ (a b : Addr) (g c : List Int) (d : Nat), vs = [.ref a, .ref b] ∧ H a = some (.lst (iV (RsP.conv g c))) ∧ H b = some (.lst (iV c)) ∧ c.length = d + 1 ∧ c.getD d 0 = 1 ∧ 1 ≤ g.length ∧ (RsP.conv g c).length ≤ 1000 ∧ d ≤ 1000 ∧ (∀ x ∈ c, x.natAbs ≤ 1000) ∧ RetL (iV g) H Q
theorem ok_quotient_of (T : Bl mg) {f f1 : Addr} {fd fd1 : FuncData} (F : Fun K "quotient_of" "quotient_of" s_quotient_of f fd)
    (D_divided : Df K mg "divided" ["numbers", "divisor"] f1 fd1) (G_divided : FnOk P w K mg base CX0 1 f1 fd1 ["numbers", "divisor"] sp_divided) : FnOk P w K mg base CX0 2 f fd ["numbers", "divisor"] sp_quotient_of := by
  refine F.ok sc_quotient_of (fun vs H Q E h => ?_) (fun cdv A outer s H vs Q E hr h => ?_)
  · obtain ⟨a, b, g, c, d, rfl, _⟩ := h
    rfl
  · obtain ⟨a, b, g, c, d, rfl, ha, hb, hc, ht, hg, hs, hd, hx, q⟩ := h
    have R_divided := hr
    refine ⟨_, (pss_one (ps_ret (pe_slice (slK K) (pe_call G_divided R_divided (by rfl) D_divided.mg D_divided.kp D_divided.b .nil pass0 (pa_cons (pv 0) (pa_cons (pv 1) pa_nil))) (po_some (pe_op op_sub (pe_callB (lenK K) (by rfl) T.b_len (by decide +kernel) (pa_cons (pv 1) pa_nil)) pe_int)) po_none))), ?_⟩
    refine s_retL (xs := iV g) ?_ fun p H1 hp e h1 => q p H1 hp e h1
    have e1 : iV g = cutV (iV (RsP.dv c d (RsP.conv g c) ((RsP.conv g c).length - d))) (some (d : Int)) none := by
      rw [cut_lo, ← iV_drop, RsP.dv_quot hc ht hg]
    rw [e1]
    exact el_slN (el_call (ea_cons (ev_var rfl) (ea_cons (ev_var rfl) ea_nil)) (spl_divided ha hb hc hs hd hx)) (eo_some (ev_is (ev_op (ev_len (ev_var rfl) (sq_of hb)) ev_c rv_I0) (by rw [iV_len, hc]; show V.int (((d + 1 : Nat) : Int) - 1) = _; congr 1; omega))) eo_none
theorem spl_quotient_of {H : Hp} {a b : Addr} {g c : List Int} {d : Nat} (ha : H a = some (.lst (iV (RsP.conv g c)))) (hb : H b = some (.lst (iV c))) (hc : c.length = d + 1) (ht : c.getD d 0 = 1) (hg : 1 ≤ g.length) (hs : (RsP.conv g c).length ≤ 1000) (hd : d ≤ 1000) (hx : ∀ x ∈ c, x.natAbs ≤ 1000) : SpL sp_quotient_of [.ref a, .ref b] H (iV g) :=
  fun H1 e Q q E => ⟨a, b, g, c, d, rfl, e _ _ ha, e _ _ hb, hc, ht, hg, hs, hd, hx, q⟩
abbrev s_rest_of : Stmt := topS 3
abbrev N_rest_of : List Str := ["numbers", "divisor"]
theorem sc_rest_of : FnScope N_rest_of ["numbers", "divisor"] (defScope s_rest_of) := ⟨rfl, rfl, rfl, by decide +kernel, rfl, by decide +kernel, by decide +kernel⟩
def sp_rest_of : Sp := fun vs H Q _ => ∃ (a b : Addr) (s c : List Int) (d : Nat) (cf : Nat → Int), vs = [.ref a, .ref b] ∧ H a = some (.lst (iV s)) ∧ H b = some (.lst (iV c)) ∧ RsP.Mon c d cf ∧ d ≤ s.length ∧ s.length ≤ 1000 ∧ (∀ x ∈ c, x.natAbs ≤ 1000) ∧ RetL (iV (RsP.tl d (RsP.val d cf s))) H Q
theorem ok_rest_of (T : Bl mg) {f f1 : Addr} {fd fd1 : FuncData} (F : Fun K "rest_of" "rest_of" s_rest_of f fd)
    (D_divided : Df K mg "divided" ["numbers", "divisor"] f1 fd1) (G_divided : FnOk P w K mg base CX0 1 f1 fd1 ["numbers", "divisor"] sp_divided) : FnOk P w K mg base CX0 2 f fd ["numbers", "divisor"] sp_rest_of := by
  refine F.ok sc_rest_of (fun vs H Q E h => ?_) (fun cdv A outer s H vs Q E hr h => ?_)
  · obtain ⟨a, b, s, c, d, cf, rfl, _⟩ := h
    rfl
  · obtain ⟨a, b, s, c, d, cf, rfl, ha, hb, M, hds, hs, hx, q⟩ := h
    have R_divided := hr
    refine ⟨_, (pss_one (ps_ret (pe_slice (slK K) (pe_call G_divided R_divided (by rfl) D_divided.mg D_divided.kp D_divided.b .nil pass0 (pa_cons (pv 0) (pa_cons (pv 1) pa_nil))) po_none (po_some (pe_op op_sub (pe_callB (lenK K) (by rfl) T.b_len (by decide +kernel) (pa_cons (pv 1) pa_nil)) pe_int))))), ?_⟩
    refine s_retL (xs := iV (RsP.tl d (RsP.val d cf s))) ?_ fun p H1 hp e h1 => q p H1 hp e h1
    have e1 : iV (RsP.tl d (RsP.val d cf s)) = cutV (iV (RsP.dv c d s (s.length - d))) none (some (d : Int)) := by
      rw [cut_hi, ← iV_take, RsP.dv_rest M hds]
    rw [e1]
    have hc := M.len
    exact el_slN (el_call (ea_cons (ev_var rfl) (ea_cons (ev_var rfl) ea_nil)) (spl_divided ha hb hc hs (by omega) hx)) eo_none (eo_some (ev_is (ev_op (ev_len (ev_var rfl) (sq_of hb)) ev_c rv_I0) (by rw [iV_len, hc]; show V.int (((d + 1 : Nat) : Int) - 1) = _; congr 1; omega)))
theorem spl_rest_of {H : Hp} {a b : Addr} {s c : List Int} {d : Nat} {cf : Nat → Int} (ha : H a = some (.lst (iV s))) (hb : H b = some (.lst (iV c))) (M : RsP.Mon c d cf) (hds : d ≤ s.length) (hs : s.length ≤ 1000) (hx : ∀ x ∈ c, x.natAbs ≤ 1000) : SpL sp_rest_of [.ref a, .ref b] H (iV (RsP.tl d (RsP.val d cf s))) :=
  fun H1 e Q q E => ⟨a, b, s, c, d, cf, rfl, e _ _ ha, e _ _ hb, M, hds, hs, hx, q⟩
end
end Rs
set_option Elab.async false
set_option linter.all false
set_option maxRecDepth 100000
set_option maxHeartbeats 4000000
namespace Rs
open PySem PySem.Spec PyProof.Rows L2 Evl
theorem rep_one (x : V) : ∀ k, (List.replicate k [x]).flatten = List.replicate k x
  | 0 => rfl
  | k + 1 => by rw [List.replicate_succ, List.flatten_cons, rep_one x k, List.replicate_succ]; rfl
theorem xm1_parts {m : Nat} (h : 1 ≤ m) : iV (RsP.xm1 m) = [V.int (-1)] ++ List.replicate (m - 1) (V.int 0) ++ [V.int 1] := by
  obtain ⟨k, rfl⟩ : ∃ k, m = k + 1 := ⟨m - 1, by omega⟩
  unfold iV RsP.xm1
  rw [List.range_succ, List.range_succ_eq_map, List.map_append, List.map_append, List.map_cons, List.map_cons]
  rw [show k + 1 - 1 = k by omega]
  have e1 : List.map V.int (List.map (fun i => if i = 0 then (-1 : Int) else if i = k + 1 then 1 else 0) (List.map Nat.succ (List.range k))) = List.replicate k (V.int 0) := by
    rw [List.map_map, List.map_map]
    refine List.eq_replicate_iff.mpr ⟨by rw [List.length_map, List.length_range], fun b hb => ?_⟩
    obtain ⟨i, hi, rfl⟩ := List.mem_map.mp hb
    have := List.mem_range.mp hi
    show V.int (if i + 1 = 0 then (-1 : Int) else if i + 1 = k + 1 then 1 else 0) = V.int 0
    rw [if_neg (by omega), if_neg (by omega)]
  rw [e1, List.map_cons, List.map_nil, List.map_cons, List.map_nil]
  rw [if_pos rfl, if_neg (by omega), if_pos rfl]
  rfl
/-- m's divisors below d -/
def dvK (m d : Nat) : List Nat := (List.range d).filter fun e => e != 0 && m % e == 0
theorem dvK_dvs {m d : Nat} (h : m % d = 0) : (dvK m d).filter (fun e => d % e == 0) = RsP.dvs d := by
  unfold dvK RsP.dvs
  rw [List.filter_filter]
  refine List.filter_congr fun e _ => ?_
  cases h1 : (e != 0) with
  | false => simp
  | true =>
    cases h2 : (d % e == 0) with
    | false => simp
    | true =>
      have : m % e = 0 := Nat.mod_eq_zero_of_dvd (Nat.dvd_trans (Nat.dvd_of_mod_eq_zero (by simpa using h2)) (Nat.dvd_of_mod_eq_zero h))
      simp [this]
theorem dvK_yes {m d : Nat} (hd : 1 ≤ d) (h : m % d = 0) : dvK m (d + 1) = dvK m d ++ [d] := by
  unfold dvK
  rw [List.range_succ, List.filter_append]
  congr 1
  have : (d != 0 && m % d == 0) = true := by
    have : d ≠ 0 := by omega
    simp [this, h]
  rw [List.filter_cons, if_pos this]
  rfl
theorem dvK_no {m d : Nat} (h : ¬ m % d = 0) : dvK m (d + 1) = dvK m d := by
  unfold dvK
  rw [List.range_succ, List.filter_append]
  have : (d != 0 && m % d == 0) = false := by
    rw [beq_eq_false_iff_ne.mpr h, Bool.and_false]
  rw [List.filter_cons, this]
  simp
theorem dvK_mem {m d e : Nat} (h : e ∈ dvK m d) : 1 ≤ e ∧ e < d := by
  obtain ⟨h1, h2⟩ := List.mem_filter.mp h
  have := List.mem_range.mp h1
  have h3 := (Bool.and_eq_true_iff.mp h2).1
  have : e ≠ 0 := by simpa using h3
  omega
theorem dvK_len (m d : Nat) : (dvK m d).length ≤ d := by
  unfold dvK
  exact Nat.le_trans (List.length_filter_le _ _) (by rw [List.length_range]; omega)
section
variable {P : Program} {w : World} {K : PySem.W.Frag} {mg : Str → Option Value} {base : Heap}
abbrev s_circle_from : Stmt := topS 4
abbrev N_circle_from : List Str := ["m", "lower", "numbers", "d"]
theorem sc_circle_from : FnScope N_circle_from ["m", "lower"] (defScope s_circle_from) := ⟨rfl, rfl, rfl, by decide +kernel, rfl, by decide +kernel, by decide +kernel⟩
def sp_circle_from : Sp := fun vs H Q _ => ∃ (a : Addr) (m : Nat) (ks : List Nat) (kvs : List (Key × V)), vs = [.int (m : Int), .ref a] ∧ H a = some (.dK kvs) ∧ Tab H kvs ks ∧ 1 ≤ m ∧ m ≤ 200 ∧ ks.filter (fun e => m % e == 0) = RsP.dvs m ∧ (∀ k ∈ ks, 1 ≤ k ∧ k ≤ 200) ∧ RetL (iV (RsP.ct m)) H Q
theorem ok_circle_from (T : Bl mg) {f f1 : Addr} {fd fd1 : FuncData} (F : Fun K "circle_from" "circle_from" s_circle_from f fd)
    (D_quotient_of : Df K mg "quotient_of" ["numbers", "divisor"] f1 fd1) (G_quotient_of : FnOk P w K mg base CX0 2 f1 fd1 ["numbers", "divisor"] sp_quotient_of) : FnOk P w K mg base CX0 3 f fd ["m", "lower"] sp_circle_from := by
  refine F.ok sc_circle_from (fun vs H Q E h => ?_) (fun cdv A outer s H vs Q E hr h => ?_)
  · obtain ⟨a, m, ks, kvs, rfl, _⟩ := h
    rfl
  · obtain ⟨a, m, ks, kvs, rfl, ha, tb, hm1, hm2, hks, hkb, q⟩ := h
    have R_quotient_of := hr
    have hu65 := hr.un
    have hu2 : (A.deeper (envOfC "circle_from" (defScope s_circle_from) s.heap.objs.size f cdv)).units + 1 < cLine := by omega
    refine ⟨_, (pss_cons (ps_set (i := 2) sc_circle_from.nd rfl (Or.inl rfl) (pe_op op_cat (pe_op op_cat (pe_lst (pa_cons (pe_un un_neg pe_int) pa_nil)) (pe_op op_rep (pe_lst (pa_cons pe_int pa_nil)) (pe_op op_sub (pv 0) pe_int))) (pe_lst (pa_cons pe_int pa_nil))))
    (pss_cons (ps_lock (ps_for PassesOwn.never rfl (pi_keys (pv 1)) (pg_name (i := 3) sc_circle_from.nd rfl (Or.inl rfl))
    (pss_one (ps_if (pt_cmpR op_eq (pe_op op_mod (pv 0) (pv 3)) pe_int (nomark _))
    (pss_one (ps_set (i := 2) sc_circle_from.nd rfl (Or.inl rfl) (pe_call G_quotient_of R_quotient_of (by rfl) D_quotient_of.mg D_quotient_of.kp D_quotient_of.b .nil pass0 (pa_cons (pv 2) (pa_cons (pe_dget hu2 (pv 1) (pv 3) (fun _ _ => rfl)) pa_nil)))))
    pss_nil))))
    (pss_one (ps_ret (pv 2))))), ?_⟩
    refine q_asgL (xs := iV (RsP.xm1 m)) ?_ fun p0 H1 hp0 e1 h1 => ?_
    · rw [xm1_parts hm1]
      refine el_catNN (el_catNN (el_lst (ea_cons (ev_un ev_c ru_neg) ea_nil) (by show 1 ≤ 100000; omega)) ?_ ?_) (el_lst (ea_cons ev_c ea_nil) (by show 1 ≤ 100000; omega)) ?_
      · rw [← rep_one]
        exact el_rep (l := a) (xs := [V.int 0]) (el_lst (ea_cons ev_c ea_nil) (by show 1 ≤ 100000; omega)) (ev_is (ev_op (ev_var rfl) ev_c rv_I0) (by show V.int ((m : Int) - 1) = _; congr 1; omega)) (by show 1 * (m - 1) ≤ 1000000; omega) (by omega)
      · rw [List.length_replicate]
        show 1 + (m - 1) ≤ 100000
        omega
      · rw [List.length_append, List.length_replicate]
        show 1 + (m - 1) + 1 ≤ 100000
        omega
    have hp0a : p0 ≠ a := fun e => by rw [e, ha] at hp0; cases hp0
    have back : ∀ (o : Obj) (H' : Hp), Ex (L2.upd H1 a (.frz o (.dK kvs))) H' → Ex H (L2.upd H' a (.dK kvs)) := fun o H' e b u hb => by
      by_cases eb : b = a
      · subst eb
        rw [ha] at hb
        rw [upd_same]
        exact hb
      · rw [upd_ne eb]
        exact e _ _ (by rw [upd_ne eb]; exact e1 _ _ hb)
    have nl := RsP.nest_all (2 ^ 48 : Nat) hm1 hm2
    refine q_forK (kvs := kvs) (fun _ => ev_var rfl) (e1 _ _ ha) (fun o i σ' H' => H' a = some (.frz o (.dK kvs)) ∧ Ex (L2.upd H1 a (.frz o (.dK kvs))) H' ∧ ∃ (p : Addr) (z : Option V), H p = none ∧ (RsP.nest m ((ks.drop i).filter fun e => m % e == 0)).length ≤ 201 ∧ H' p = some (.lst (iV (RsP.nest m ((ks.drop i).filter fun e => m % e == 0)))) ∧ σ' = [some (.int (m : Int)), some (.ref a), some (.ref p), z])
      (fun o H2 e2 => ⟨e2 _ _ upd_same, e2, p0, none, hp0, ?_, ?_, rfl⟩) (fun o i σ' H' _ hP => hP.1) (fun o i k w' σ' H' hk hP => ?_) (fun o σ' H' hP => ?_)
    · rw [List.drop_zero, hks, RsP.nest_xm1 hm1 hm2]
      unfold RsP.xm1
      rw [List.length_map, List.length_range]
      omega
    · rw [List.drop_zero, hks, RsP.nest_xm1 hm1 hm2]
      exact e2 _ _ (by rw [upd_ne hp0a]; exact h1)
    · obtain ⟨hfz, ex, p, z, hpH, hlen, hp, rfl⟩ := hP
      obtain ⟨n, hn, rfl⟩ := tb.key hk
      have hnm := List.mem_of_getElem? hn
      have hnb := hkb n hnm
      have hdr : ks.drop i = n :: ks.drop (i + 1) := by
        obtain ⟨hil, hge⟩ := List.getElem?_eq_some_iff.mp hn
        rw [List.drop_eq_getElem_cons hil, hge]
      rw [hdr, List.filter_cons] at hlen hp
      refine s_when (b := m % n == 0) (et_is (et_test (ev_op (ev_op (ev_var rfl) (ev_var rfl) (rv_I (by show (0 : Int) < (n : Int); omega))) ev_c (rv_eq rfl))) (by
        show decide (V.int ((m : Int) % (n : Int)) = V.int 0) = _
        rw [← Int.natCast_emod]
        exact eqN (m % n) 0)) (fun hb H3 e3 => ?_) (fun hb H3 e3 => ?_)
      · rw [if_pos hb] at hlen hp
        obtain ⟨d, d1, d2, d3, d4, d5⟩ := RsP.ct_all hnb.1 hnb.2
        have hrest := nl ((ks.drop (i + 1)).filter fun e => m % e == 0) (fun x hx => hkb x (List.mem_of_mem_drop (List.mem_filter.mp hx).1))
        have hlen' : (RsP.conv (RsP.nest m ((ks.drop (i + 1)).filter fun e => m % e == 0)) (RsP.ct n)).length ≤ 201 := hlen
        have tb' : Tab (L2.upd H1 a (.frz o (.dK kvs))) kvs ks := (tb.mono e1).upd (fun xs z => by rw [e1 _ _ ha] at z; cases z)
        obtain ⟨cp, hcv, hcp⟩ := (tb'.mono (ex.trans e3)).val hnm
        refine s_asgL (el_call (ea_cons (ev_var rfl) (ea_cons (ev_dget (k := kN n) (ev_var rfl) (.inr ⟨o, e3 _ _ hfz⟩) (ev_var rfl) hcv) ea_nil)) (spl_quotient_of (g := RsP.nest m ((ks.drop (i + 1)).filter fun e => m % e == 0)) (c := RsP.ct n) (e3 _ _ hp) hcp d3 d4 (by omega) (by omega) (by omega) d5)) fun p' H4 hp' e4 h4 => ?_
        have hp'H : H p' = none := by
          have := fresh_back (ex.trans e3) hp'
          by_cases eb : p' = a
          · rw [eb, upd_same] at this
            cases this
          · rw [upd_ne eb] at this
            exact fresh_back e1 this
        refine ⟨e4 _ _ (e3 _ _ hfz), (ex.trans e3).trans e4, p', _, hp'H, ?_, h4, rfl⟩
        rw [RsP.conv_len] at hlen'
        omega
      · rw [if_neg (by rw [hb]; decide)] at hlen hp
        exact ⟨e3 _ _ hfz, ex.trans e3, p, _, hpH, hlen, e3 _ _ hp, rfl⟩
    · obtain ⟨hfz, ex, p, z, hpH, hlen, hp, rfl⟩ := hP
      rw [tb.len, List.drop_length] at hp
      have hpa : p ≠ a := fun e => by rw [e, hfz] at hp; cases hp
      refine s_ret (ev_var rfl) fun H3 e3 => q p H3 hpH ((back o H' ex).trans e3) (e3 _ _ ?_)
      rw [upd_ne hpa]
      exact hp
theorem spl_circle_from {H : Hp} {a : Addr} {m : Nat} {ks : List Nat} {kvs : List (Key × V)} (ha : H a = some (.dK kvs)) (tb : Tab H kvs ks) (h1 : 1 ≤ m) (h2 : m ≤ 200) (hf : ks.filter (fun e => m % e == 0) = RsP.dvs m) (hk : ∀ k ∈ ks, 1 ≤ k ∧ k ≤ 200) : SpL sp_circle_from [.int (m : Int), .ref a] H (iV (RsP.ct m)) :=
  fun H1 e Q q E => ⟨a, m, ks, kvs, rfl, e _ _ ha, tb.mono e, h1, h2, hf, hk, q⟩
abbrev s_circle_of : Stmt := topS 5
abbrev N_circle_of : List Str := ["m", "found", "d"]
theorem sc_circle_of : FnScope N_circle_of ["m"] (defScope s_circle_of) := ⟨rfl, rfl, rfl, by decide +kernel, rfl, by decide +kernel, by decide +kernel⟩
def sp_circle_of : Sp := fun vs H Q _ => ∃ (m : Nat), vs = [.int (m : Int)] ∧ 1 ≤ m ∧ m ≤ 200 ∧ RetL (iV (Na04.circle m)) H Q
theorem ok_circle_of (T : Bl mg) {f f1 : Addr} {fd fd1 : FuncData} (F : Fun K "circle_of" "circle_of" s_circle_of f fd)
    (D_circle_from : Df K mg "circle_from" ["m", "lower"] f1 fd1) (G_circle_from : FnOk P w K mg base CX0 3 f1 fd1 ["m", "lower"] sp_circle_from) : FnOk P w K mg base CX0 4 f fd ["m"] sp_circle_of := by
  refine F.ok sc_circle_of (fun vs H Q E h => ?_) (fun cdv A outer s H vs Q E hr h => ?_)
  · obtain ⟨m, rfl, _⟩ := h
    rfl
  · obtain ⟨m, rfl, hm1, hm2, q⟩ := h
    have R_circle_from := hr
    have hu65 := hr.un
    have hu2 : (A.deeper (envOfC "circle_of" (defScope s_circle_of) s.heap.objs.size f cdv)).units + 1 < cLine := by omega
    refine ⟨_, (pss_cons (ps_set (i := 1) sc_circle_of.nd rfl (Or.inl rfl) pe_dnewK)
    (pss_cons (ps_for PassesOwn.never rfl (pi_range2 (by rfl) T.b_range (pa_cons pe_int (pa_cons (pe_op op_add (pv 0) pe_int) pa_nil))) (pg_name (i := 2) sc_circle_of.nd rfl (Or.inl rfl))
    (pss_one (ps_if (pt_cmpR op_eq (pe_op op_mod (pv 0) (pv 2)) pe_int (nomark _))
    (pss_one (ps_dput hu2 (pv 1) (pv 2) (pe_call G_circle_from R_circle_from (by rfl) D_circle_from.mg D_circle_from.kp D_circle_from.b .nil pass0 (pa_cons (pv 2) (pa_cons (pv 1) pa_nil))) (by rfl)))
    pss_nil)))
    (pss_one (ps_ret (pe_dget hu2 (pv 1) (pv 0) (fun _ _ => rfl)))))), ?_⟩
    refine q_asgP ep_dict fun w0 H1 e1 hw => ?_
    obtain ⟨fo, rfl, hfoH, hfo⟩ := hw
    refine q_forR2 (lo := 1) (n := (m : Int) + 1) (ea_cons ev_c (ea_cons (ev_op (ev_var rfl) ev_c rv_I0) ea_nil)) (by omega)
      (fun t σ' H' => Ex H H' ∧ ∃ (kvs : List (Key × V)) (z : Option V), H' fo = some (.dK kvs) ∧ Tab (sub H' H) kvs (dvK m (1 + t)) ∧ σ' = [some (.int (m : Int)), some (.ref fo), z])
      (fun H2 e2 => ⟨e1.trans e2, [], none, e2 _ _ hfo, trivial, rfl⟩) (fun t σ' H' ht hP => ?_) (fun σ' H' hP => ?_)
    · obtain ⟨e', kvs, z, hd, tb, rfl⟩ := hP
      have hd1 : (1 : Int) + (t : Int) = ((1 + t : Nat) : Int) := by omega
      rw [hd1]
      have hdm : 1 + t ≤ m := by omega
      generalize hde : 1 + t = d at *
      have hnx : 1 + (t + 1) = d + 1 := by omega
      refine s_when (b := m % d == 0) (et_is (et_test (ev_op (ev_op (ev_var rfl) (ev_var rfl) (rv_I (by show (0 : Int) < (d : Int); omega))) ev_c (rv_eq rfl))) (by
        show decide (V.int ((m : Int) % (d : Int)) = V.int 0) = _
        rw [← Int.natCast_emod]
        exact eqN (m % d) 0)) (fun hb H3 e3 => ?_) (fun hb H3 e3 => ?_)
      · have hb : m % d = 0 := by simpa using hb
        have hkl : kvs.length ≤ 200 := by
          have := dvK_len m d
          rw [tb.len]
          omega
        refine s_dputL (k := kN d) (el_call (ea_cons (ev_var rfl) (ea_cons (ev_var rfl) ea_nil)) (spl_circle_from (m := d) (e3 _ _ hd) ((tb.mono (Ex.sub _ _)).mono e3) (by omega) (by omega) (dvK_dvs hb) (fun k hk => by have := dvK_mem hk; omega))) (ev_var rfl) (ev_var rfl) (e3 _ _ hd) (by omega) fun p H4 hp e4 h4 => ?_
        have hpH := fresh_back (e'.trans e3) hp
        rw [putK_new _ (tb.none fun z => by have := dvK_mem z; omega)]
        refine ⟨Ex.mut ((e'.trans e3).trans e4) hfoH, _, _, upd_same, ?_, rfl⟩
        rw [hnx, dvK_yes (by omega) hb, sub_upd hfoH]
        refine Tab.upd (fun xs z => ?_) (Tab.snoc (sub_of hpH h4) (tb.mono (sub_mono (e3.trans e4))))
        have := (of_sub z).2
        rw [(e3.trans e4) _ _ hd] at this
        cases this
      · have hb : ¬ m % d = 0 := by simpa using hb
        refine ⟨e'.trans e3, kvs, _, e3 _ _ hd, ?_, rfl⟩
        rw [hnx, dvK_no hb]
        exact tb.mono (sub_mono e3)
    · obtain ⟨e', kvs, z, hd, tb, rfl⟩ := hP
      rw [show ((m : Int) + 1 - 1).toNat = m by omega] at tb
      obtain ⟨p, hv, hp⟩ := tb.val (k := m) (by
        rw [show 1 + m = m + 1 by omega, dvK_yes hm1 (Nat.mod_self m)]
        exact List.mem_append_right _ List.mem_cons_self)
      obtain ⟨hpH, hp'⟩ := of_sub hp
      refine s_ret (ev_dget (k := kN m) (ev_var rfl) (.inl hd) (ev_var rfl) hv) fun H3 e3 => q p H3 hpH (e'.trans e3) ?_
      rw [RsP.circle_ct hm1 hm2]
      exact e3 _ _ hp'
theorem spl_circle_of {H : Hp} {m : Nat} (h1 : 1 ≤ m) (h2 : m ≤ 200) : SpL sp_circle_of [.int (m : Int)] H (iV (Na04.circle m)) := fun H1 e Q q E => ⟨m, rfl, h1, h2, q⟩
end
end Rs
set_option Elab.async false
set_option linter.all false
set_option maxRecDepth 100000
set_option maxHeartbeats 4000000
namespace Rs
open PySem PySem.Spec PyProof.Rows L2 Evl
/-! ### the heap without one object; fields -/
def del (H : Hp) (a : Addr) : Hp := fun b => if b = a then none else H b
theorem del_some {H : Hp} {a b : Addr} {o : HO} (h : del H a b = some o) : H b = some o ∧ b ≠ a := by
  unfold del at h
  by_cases e : b = a
  · rw [if_pos e] at h; cases h
  · rw [if_neg e] at h; exact ⟨h, e⟩
theorem del_of {H : Hp} {a b : Addr} {o : HO} (h : H b = some o) (e : b ≠ a) : del H a b = some o := by
  unfold del
  rw [if_neg e]
  exact h
theorem del_self {H : Hp} {a : Addr} : del H a a = none := if_pos rfl
theorem Ex.del (H : Hp) (a : Addr) : Ex (del H a) H := fun _ _ h => (del_some h).1
theorem Ex.del2 {H H' : Hp} (e : Ex H H') (a : Addr) : Ex (Rs.del H a) H' := (Ex.del H a).trans e
theorem lk_here {k : Str} {v : V} {r : List (Str × V)} : List.lookup k ((k, v) :: r) = some v := by
  have e : (k == k) = true := beq_self_eq_true k
  simp only [List.lookup, e]
theorem lk_past {k g : Str} {v : V} {r : List (Str × V)} (h : (k == g) = false) : List.lookup k ((g, v) :: r) = List.lookup k r := by
  simp only [List.lookup, h]
theorem put_nil {f : Str} {v : V} : putF f v [] = [(f, v)] := rfl
theorem put_here {f : Str} {v x : V} {r : List (Str × V)} : putF f v ((f, x) :: r) = (f, v) :: r := if_pos rfl
theorem put_past {f g : Str} {v x : V} {r : List (Str × V)} (h : ¬ g = f) : putF f v ((g, x) :: r) = (g, x) :: putF f v r := if_neg h
section
variable {K : PySem.W.Frag} {σ : L2.St} {H H' : Hp} {ta tb te : TE} {D : Ends} {tz : TS} {v : V}
theorem EvL.toP {xs : List V} (h : EvL te σ H xs) : EvP te σ H (fun v H2 => ∃ p, v = .ref p ∧ H2 p = some (.lst xs) ∧ H p = none) := fun H1 e Q q => h H1 e Q fun p H2 hn e2 hp => q _ H2 e2 ⟨p, rfl, hp, fresh_back e hn⟩
theorem s_fldP {a C dx : Addr} {fs : List (Str × V)} {f : Str} {P : V → Hp → Prop} (h : EvP te σ H P) (ha : Ev ta σ H (.ref a)) (ho : H a = some (.ins C dx fs)) (c : Cls K C) (n : NoAttr K C f) (l : fs.length < 1000) (hP : ∀ y H1 H2, Ex H1 H2 → P y H1 → P y H2)
    (k : ∀ y H1, Ex H H1 → P y H1 → D.nx σ (L2.upd H1 a (.ins C dx (putF f y fs)))) : sFld K ta te f D σ H := h H (Ex.refl H) _ fun y H1 e1 p => ha H1 e1 _ fun H2 e2 => ⟨a, C, dx, fs, rfl, (e1.trans e2) a _ ho, c, n, l, k y H2 (e1.trans e2) (hP y H1 H2 e2 p)⟩
theorem q_fldP {a C dx : Addr} {fs : List (Str × V)} {f : Str} {P : V → Hp → Prop} (h : EvP te σ H P) (ha : Ev ta σ H (.ref a)) (ho : H a = some (.ins C dx fs)) (c : Cls K C) (n : NoAttr K C f) (l : fs.length < 1000) (hP : ∀ y H1 H2, Ex H1 H2 → P y H1 → P y H2)
    (k : ∀ y H1, Ex H H1 → P y H1 → tz D σ (L2.upd H1 a (.ins C dx (putF f y fs)))) : tSeq (sFld K ta te f) tz D σ H := s_fldP (D := { D with nx := tz D }) h ha ho c n l hP k
end
theorem ne_kinds {H : Hp} {a b : Addr} {o u : HO} (h1 : H a = some o) (h2 : H b = some u) (h : o ≠ u) : a ≠ b := fun e => by
  rw [e, h2] at h1
  exact h (Option.some.inj h1).symm
/-- what the top has left -/
def cvOf (mg : Str → Option Value) (x : Str) : Value := (mg x).getD .none
structure Txt (K : PySem.W.Frag) (mg : Str → Option Value) (CR CL TH : Addr) : Prop extends Bl mg where
  cl_Ring : Cls K CR
  na_n : NoAttr K CR "n"
  na_units : NoAttr K CR "units"
  na_exponent : NoAttr K CR "exponent"
  na_parts : NoAttr K CR "parts"
  na_characters : NoAttr K CR "characters"
  na_polynomial : NoAttr K CR "polynomial"
  g_Ring : mg "Ring" = some (.ref CR)
  cl_Line : Cls K CL
  na_ring : NoAttr K CL "ring"
  g_Line : mg "Line" = some (.ref CL)
  g_FIRST_ROUND : mg "FIRST_ROUND" = some (cvOf mg "FIRST_ROUND")
  r_FIRST_ROUND : RelV (.int 2) (cvOf mg "FIRST_ROUND")
  g_LAST_ROUND : mg "LAST_ROUND" = some (cvOf mg "LAST_ROUND")
  r_LAST_ROUND : RelV (.int 13) (cvOf mg "LAST_ROUND")
  g_NO_SUCH_ROUND : mg "NO_SUCH_ROUND" = some (cvOf mg "NO_SUCH_ROUND")
  r_NO_SUCH_ROUND : RelV (.int (-1)) (cvOf mg "NO_SUCH_ROUND")
  g_NO_SUCH_CHARACTER : mg "NO_SUCH_CHARACTER" = some (cvOf mg "NO_SUCH_CHARACTER")
  r_NO_SUCH_CHARACTER : RelV (.int (-2)) (cvOf mg "NO_SUCH_CHARACTER")
  g_NOT_A_UNIT : mg "NOT_A_UNIT" = some (cvOf mg "NOT_A_UNIT")
  r_NOT_A_UNIT : RelV (.int (-3)) (cvOf mg "NOT_A_UNIT")
  g_ROUND_OF : mg "ROUND_OF" = some (cvOf mg "ROUND_OF")
  r_ROUND_OF : RelV (.int 0) (cvOf mg "ROUND_OF")
  g_CHARS : mg "CHARS" = some (cvOf mg "CHARS")
  r_CHARS : RelV (.int 1) (cvOf mg "CHARS")
  g_CHAR : mg "CHAR" = some (cvOf mg "CHAR")
  r_CHAR : RelV (.int 2) (cvOf mg "CHAR")
  g_VALUE : mg "VALUE" = some (cvOf mg "VALUE")
  r_VALUE : RelV (.int 3) (cvOf mg "VALUE")
  g_PRODUCT : mg "PRODUCT" = some (cvOf mg "PRODUCT")
  r_PRODUCT : RelV (.int 4) (cvOf mg "PRODUCT")
  g_INVERSE : mg "INVERSE" = some (cvOf mg "INVERSE")
  r_INVERSE : RelV (.int 5) (cvOf mg "INVERSE")
  g_FIRST_CIRCLE : mg "FIRST_CIRCLE" = some (cvOf mg "FIRST_CIRCLE")
  r_FIRST_CIRCLE : RelV (.int 1) (cvOf mg "FIRST_CIRCLE")
  g_LAST_CIRCLE : mg "LAST_CIRCLE" = some (cvOf mg "LAST_CIRCLE")
  r_LAST_CIRCLE : RelV (.int 200) (cvOf mg "LAST_CIRCLE")
  g_NO_SUCH_CIRCLE : mg "NO_SUCH_CIRCLE" = some (cvOf mg "NO_SUCH_CIRCLE")
  r_NO_SUCH_CIRCLE : RelV (.int (-1)) (cvOf mg "NO_SUCH_CIRCLE")
  g_FROM_WHAT : mg "FROM_WHAT" = some (cvOf mg "FROM_WHAT")
  r_FROM_WHAT : RelV (.int 6) (cvOf mg "FROM_WHAT")
  g_GAUSS : mg "GAUSS" = some (cvOf mg "GAUSS")
  r_GAUSS : RelV (.int 7) (cvOf mg "GAUSS")
  g_SIZE : mg "SIZE" = some (cvOf mg "SIZE")
  r_SIZE : RelV (.int 8) (cvOf mg "SIZE")
  g_JACOBI : mg "JACOBI" = some (cvOf mg "JACOBI")
  r_JACOBI : RelV (.int 9) (cvOf mg "JACOBI")
  g_CIRCLE : mg "CIRCLE" = some (cvOf mg "CIRCLE")
  r_CIRCLE : RelV (.int 10) (cvOf mg "CIRCLE")
  g_EVEN : mg "EVEN" = some (cvOf mg "EVEN")
  r_EVEN : RelV (.int 11) (cvOf mg "EVEN")
  g_HANDED_OVER : mg "HANDED_OVER" = some (cvOf mg "HANDED_OVER")
  r_HANDED_OVER : RelV (.ref TH) (cvOf mg "HANDED_OVER")
  t_HANDED_OVER : ∀ H, SqT K H TH (nV [1, 0, 1, 2, 2, 1, 1, 2, 2, 2, 1, 1, 0])
/-! ### the ring -/
def ringF (n : Nat) (u c pl : Addr) : List (Str × V) := [("n", .int (n : Int)), ("units", .ref u), ("exponent", .int ((Na04.exponent n : Nat) : Int)), ("parts", .int ((Na04.fine n : Nat) : Int)), ("polynomial", .ref pl), ("characters", .ref c)]
structure RingAt (CR : Addr) (H : Hp) (a : Addr) (n : Nat) (dx u c pl : Addr) (cv : List V) : Prop where
  o : H a = some (.ins CR dx (ringF n u c pl))
  u : H u = some (.lst (nV (Na04.units n)))
  c : H c = some (.lst cv)
  pl : H pl = some (.lst (iV (Na04.circle (Na04.fine n))))
  cs : Objs H .lst cv ((Na04.chars n).map nV)
  lo : 2 ≤ n
  hi : n ≤ 13
theorem RingAt.mono {CR : Addr} {H H' : Hp} {a dx u c pl : Addr} {n : Nat} {cv : List V} (r : RingAt CR H a n dx u c pl cv) (e : Ex H H') : RingAt CR H' a n dx u c pl cv := ⟨e _ _ r.o, e _ _ r.u, e _ _ r.c, e _ _ r.pl, r.cs.mono e, r.lo, r.hi⟩
def IsRing (CR : Addr) (H : Hp) (a : Addr) (n : Nat) : Prop := ∃ dx u c pl cv, RingAt CR H a n dx u c pl cv
theorem IsRing.mono {CR : Addr} {H H' : Hp} {a : Addr} {n : Nat} (r : IsRing CR H a n) (e : Ex H H') : IsRing CR H' a n := by
  obtain ⟨dx, u, c, pl, cv, r⟩ := r
  exact ⟨dx, u, c, pl, cv, r.mono e⟩
theorem lkR_n (n : Nat) (u c pl : Addr) : (ringF n u c pl).lookup ("n" : Str) = some (V.int (n : Int)) := lk_here
theorem lkR_units (n : Nat) (u c pl : Addr) : (ringF n u c pl).lookup ("units" : Str) = some (.ref u) := (lk_past (by decide +kernel)).trans lk_here
theorem lkR_exponent (n : Nat) (u c pl : Addr) : (ringF n u c pl).lookup ("exponent" : Str) = some (.int ((Na04.exponent n : Nat) : Int)) := (lk_past (by decide +kernel)).trans ((lk_past (by decide +kernel)).trans lk_here)
theorem lkR_parts (n : Nat) (u c pl : Addr) : (ringF n u c pl).lookup ("parts" : Str) = some (.int ((Na04.fine n : Nat) : Int)) := (lk_past (by decide +kernel)).trans ((lk_past (by decide +kernel)).trans ((lk_past (by decide +kernel)).trans lk_here))
theorem lkR_polynomial (n : Nat) (u c pl : Addr) : (ringF n u c pl).lookup ("polynomial" : Str) = some (.ref pl) := ((lk_past (by decide +kernel)).trans ((lk_past (by decide +kernel)).trans ((lk_past (by decide +kernel)).trans ((lk_past (by decide +kernel)).trans lk_here))))
theorem lkR_characters (n : Nat) (u c pl : Addr) : (ringF n u c pl).lookup ("characters" : Str) = some (.ref c) := ((lk_past (by decide +kernel)).trans ((lk_past (by decide +kernel)).trans ((lk_past (by decide +kernel)).trans ((lk_past (by decide +kernel)).trans ((lk_past (by decide +kernel)).trans lk_here)))))
theorem lkR_lacks (n : Nat) (u c pl : Addr) : (ringF n u c pl).lookup ("lacks" : Str) = none := ((lk_past (by decide +kernel)).trans ((lk_past (by decide +kernel)).trans ((lk_past (by decide +kernel)).trans ((lk_past (by decide +kernel)).trans ((lk_past (by decide +kernel)).trans ((lk_past (by decide +kernel)).trans rfl))))))
theorem lkR_number_of (n : Nat) (u c pl : Addr) : (ringF n u c pl).lookup ("number_of" : Str) = none := ((lk_past (by decide +kernel)).trans ((lk_past (by decide +kernel)).trans ((lk_past (by decide +kernel)).trans ((lk_past (by decide +kernel)).trans ((lk_past (by decide +kernel)).trans ((lk_past (by decide +kernel)).trans rfl))))))
theorem lkR_given (n : Nat) (u c pl : Addr) : (ringF n u c pl).lookup ("given" : Str) = none := ((lk_past (by decide +kernel)).trans ((lk_past (by decide +kernel)).trans ((lk_past (by decide +kernel)).trans ((lk_past (by decide +kernel)).trans ((lk_past (by decide +kernel)).trans ((lk_past (by decide +kernel)).trans rfl))))))
section
variable {P : Program} {w : World} {K : PySem.W.Frag} {mg : Str → Option Value} {base : Heap} {CR CL TH : Addr}
abbrev s_Ring___init__ : Stmt := inClass (topS 20) 0
abbrev N_Ring___init__ : List Str := ["self", "n"]
theorem sc_Ring___init__ : FnScope N_Ring___init__ ["self", "n"] (defScope s_Ring___init__) := ⟨rfl, rfl, rfl, by decide +kernel, rfl, by decide +kernel, by decide +kernel⟩
def sp_Ring___init__ (CR : Addr) : Sp := fun vs H Q _ => ∃ (p dx : Addr) (n : Nat), vs = [.ref p, .int (n : Int)] ∧ H p = some (.ins CR dx []) ∧ 2 ≤ n ∧ n ≤ 13 ∧ ∀ H', IsRing CR (sub H' (del H p)) p n → Ex (del H p) H' → Q .non H'
theorem ok_Ring___init__ (T : Txt K mg CR CL TH) {f f1 f2 f3 f4 f5 : Addr} {fd fd1 fd2 fd3 fd4 fd5 : FuncData} (F : Fun K "__init__" "Ring.__init__" s_Ring___init__ f fd)
    (D_units_of : Df K mg "units_of" ["n"] f1 fd1) (G_units_of : FnOk P w K mg base CX0 2 f1 fd1 ["n"] sp_units_of)
    (D_exponent_of : Df K mg "exponent_of" ["n", "units"] f2 fd2) (G_exponent_of : FnOk P w K mg base CX0 1 f2 fd2 ["n", "units"] sp_exponent_of)
    (D_common_multiple : Df K mg "common_multiple" ["a", "b"] f3 fd3) (G_common_multiple : FnOk P w K mg base CX0 2 f3 fd3 ["a", "b"] sp_common_multiple)
    (D_characters_of : Df K mg "characters_of" ["n", "units", "exponent"] f4 fd4) (G_characters_of : FnOk P w K mg base CX0 2 f4 fd4 ["n", "units", "exponent"] sp_characters_of)
    (D_circle_of : Df K mg "circle_of" ["m"] f5 fd5) (G_circle_of : FnOk P w K mg base CX0 4 f5 fd5 ["m"] sp_circle_of) :
    FnOk P w K mg base CX0 5 f fd ["self", "n"] (sp_Ring___init__ CR) := by
  refine F.ok sc_Ring___init__ (fun vs H Q E h => ?_) (fun cdv A outer s H vs Q E hr h => ?_)
  · obtain ⟨p, dx, n, rfl, _⟩ := h
    rfl
  · obtain ⟨p, dx, n, rfl, hp, hn1, hn2, q⟩ := h
    have R_units_of := hr.mono (j := 2) (by decide)
    have R_exponent_of := hr.mono (j := 1) (by decide)
    have R_common_multiple := hr.mono (j := 2) (by decide)
    have R_characters_of := hr.mono (j := 2) (by decide)
    have R_circle_of := hr
    have hfl := RsP.fine_le n hn1 hn2
    refine ⟨_, (pss_cons (sfldK K (pv 0) (pv 1))
    (pss_cons (sfldK K (pv 0) (pe_call G_units_of R_units_of (by rfl) D_units_of.mg D_units_of.kp D_units_of.b .nil pass0 (pa_cons (pv 1) pa_nil)))
    (pss_cons (sfldK K (pv 0) (pe_call G_exponent_of R_exponent_of (by rfl) D_exponent_of.mg D_exponent_of.kp D_exponent_of.b .nil pass0 (pa_cons (pv 1) (pa_cons (fldK K (pv 0)) pa_nil))))
    (pss_cons (sfldK K (pv 0) (pe_call G_common_multiple R_common_multiple (by rfl) D_common_multiple.mg D_common_multiple.kp D_common_multiple.b .nil pass0 (pa_cons (pv 1) (pa_cons (fldK K (pv 0)) pa_nil))))
    (pss_cons (sfldK K (pv 0) (pe_call G_circle_of R_circle_of (by rfl) D_circle_of.mg D_circle_of.kp D_circle_of.b .nil pass0 (pa_cons (fldK K (pv 0)) pa_nil)))
    (pss_one (sfldK K (pv 0) (pe_call G_characters_of R_characters_of (by rfl) D_characters_of.mg D_characters_of.kp D_characters_of.b .nil pass0 (pa_cons (pv 1) (pa_cons (fldK K (pv 0)) (pa_cons (fldK K (pv 0)) pa_nil))))))))))), ?_⟩
    have hE := RsM.expo_pos n hn1 hn2
    have d0 := Ex.del H p
    refine q_fldP (Ev.toP (ev_var (v := .int (n : Int)) rfl)) (ev_var rfl) hp T.cl_Ring T.na_n (by show 0 < 1000; omega) (fun _ _ _ _ h => h) fun y H1 e1 hy => ?_
    subst hy
    rw [put_nil]
    have d1 : Ex (del H p) (L2.upd H1 p (.ins CR dx [("n", .int (n : Int))])) := Ex.mut (d0.trans e1) del_self
    generalize hH1 : L2.upd H1 p (.ins CR dx [("n", .int (n : Int))]) = H1' at d1 ⊢
    have o1 : H1' p = some (.ins CR dx [("n", .int (n : Int))]) := by rw [← hH1]; exact upd_same
    refine q_fldP (EvL.toP (el_call (ea_cons (ev_var rfl) ea_nil) (spl_units_of n (by omega)))) (ev_var rfl) o1 T.cl_Ring T.na_units (by show 1 < 1000; omega) (fun _ _ _ e ⟨p, h1, h2, h3⟩ => ⟨p, h1, e _ _ h2, h3⟩) fun y H2 e2 hy => ?_
    obtain ⟨u, rfl, hu, hun⟩ := hy
    have hun := fresh_back d1 hun
    rw [put_past (by decide +kernel), put_nil]
    have d2 : Ex (del H p) (L2.upd H2 p (.ins CR dx [("n", .int (n : Int)), ("units", .ref u)])) := Ex.mut (d1.trans e2) del_self
    have nu : u ≠ p := ne_kinds hu (e2 _ _ o1) (fun z => by cases z)
    generalize hH2 : L2.upd H2 p (.ins CR dx [("n", .int (n : Int)), ("units", .ref u)]) = H2' at d2 ⊢
    have o2 : H2' p = some (.ins CR dx [("n", .int (n : Int)), ("units", .ref u)]) := by rw [← hH2]; exact upd_same
    have hu2 : H2' u = some (.lst (nV (Na04.units n))) := by rw [← hH2, upd_ne nu]; exact hu
    refine q_fldP (Ev.toP (ev_call (ea_cons (ev_var rfl) (ea_cons (ev_fld (ev_var rfl) o2 T.cl_Ring T.na_units ((lk_past (by decide +kernel)).trans lk_here)) ea_nil)) (spv_exponent_of hn1 hn2 hu2))) (ev_var rfl) o2 T.cl_Ring T.na_exponent (by show 2 < 1000; omega) (fun _ _ _ _ h => h) fun y H3 e3 hy => ?_
    subst hy
    rw [put_past (by decide +kernel), put_past (by decide +kernel), put_nil]
    have d3 : Ex (del H p) (L2.upd H3 p (.ins CR dx [("n", .int (n : Int)), ("units", .ref u), ("exponent", .int ((Na04.exponent n : Nat) : Int))])) := Ex.mut (d2.trans e3) del_self
    generalize hH3 : L2.upd H3 p (.ins CR dx [("n", .int (n : Int)), ("units", .ref u), ("exponent", .int ((Na04.exponent n : Nat) : Int))]) = H3' at d3 ⊢
    have o3 : H3' p = some (.ins CR dx [("n", .int (n : Int)), ("units", .ref u), ("exponent", .int ((Na04.exponent n : Nat) : Int))]) := by rw [← hH3]; exact upd_same
    have hu3 : H3' u = some (.lst (nV (Na04.units n))) := by rw [← hH3, upd_ne nu]; exact e3 _ _ hu2
    refine q_fldP (Ev.toP (ev_call (ea_cons (ev_var rfl) (ea_cons (ev_fld (ev_var rfl) o3 T.cl_Ring T.na_exponent ((lk_past (by decide +kernel)).trans ((lk_past (by decide +kernel)).trans lk_here))) ea_nil)) (spv_common_multiple n (Na04.exponent n) (by omega) (by omega)))) (ev_var rfl) o3 T.cl_Ring T.na_parts (by show 3 < 1000; omega) (fun _ _ _ _ h => h) fun y H4 e4 hy => ?_
    subst hy
    rw [put_past (by decide +kernel), put_past (by decide +kernel), put_past (by decide +kernel), put_nil]
    have d4 : Ex (del H p) (L2.upd H4 p (.ins CR dx [("n", .int (n : Int)), ("units", .ref u), ("exponent", .int ((Na04.exponent n : Nat) : Int)), ("parts", .int ((Nat.lcm n (Na04.exponent n) : Nat) : Int))])) := Ex.mut (d3.trans e4) del_self
    generalize hH4 : L2.upd H4 p (.ins CR dx [("n", .int (n : Int)), ("units", .ref u), ("exponent", .int ((Na04.exponent n : Nat) : Int)), ("parts", .int ((Nat.lcm n (Na04.exponent n) : Nat) : Int))]) = H4' at d4 ⊢
    have o4 : H4' p = some (.ins CR dx [("n", .int (n : Int)), ("units", .ref u), ("exponent", .int ((Na04.exponent n : Nat) : Int)), ("parts", .int ((Nat.lcm n (Na04.exponent n) : Nat) : Int))]) := by rw [← hH4]; exact upd_same
    have hu4 : H4' u = some (.lst (nV (Na04.units n))) := by rw [← hH4, upd_ne nu]; exact e4 _ _ hu3
    refine q_fldP (EvL.toP (el_call (ea_cons (ev_fld (ev_var rfl) o4 T.cl_Ring T.na_parts ((lk_past (by decide +kernel)).trans ((lk_past (by decide +kernel)).trans ((lk_past (by decide +kernel)).trans lk_here)))) ea_nil) (spl_circle_of (m := Nat.lcm n (Na04.exponent n)) hfl.1 hfl.2.1))) (ev_var rfl) o4 T.cl_Ring T.na_polynomial (by show 4 < 1000; omega) (fun _ _ _ e ⟨p, h1, h2, h3⟩ => ⟨p, h1, e _ _ h2, h3⟩) fun y H5 e5 hy => ?_
    obtain ⟨pl, rfl, hpl, hpln⟩ := hy
    have hpln := fresh_back d4 hpln
    rw [put_past (by decide +kernel), put_past (by decide +kernel), put_past (by decide +kernel), put_past (by decide +kernel), put_nil]
    have d5 : Ex (del H p) (L2.upd H5 p (.ins CR dx [("n", .int (n : Int)), ("units", .ref u), ("exponent", .int ((Na04.exponent n : Nat) : Int)), ("parts", .int ((Nat.lcm n (Na04.exponent n) : Nat) : Int)), ("polynomial", .ref pl)])) := Ex.mut (d4.trans e5) del_self
    have npl : pl ≠ p := ne_kinds hpl (e5 _ _ o4) (fun z => by cases z)
    generalize hH5 : L2.upd H5 p (.ins CR dx [("n", .int (n : Int)), ("units", .ref u), ("exponent", .int ((Na04.exponent n : Nat) : Int)), ("parts", .int ((Nat.lcm n (Na04.exponent n) : Nat) : Int)), ("polynomial", .ref pl)]) = H5' at d5 ⊢
    have o5 : H5' p = some (.ins CR dx [("n", .int (n : Int)), ("units", .ref u), ("exponent", .int ((Na04.exponent n : Nat) : Int)), ("parts", .int ((Nat.lcm n (Na04.exponent n) : Nat) : Int)), ("polynomial", .ref pl)]) := by rw [← hH5]; exact upd_same
    have hu5 : H5' u = some (.lst (nV (Na04.units n))) := by rw [← hH5, upd_ne nu]; exact e5 _ _ hu4
    have hpl5 : H5' pl = some (.lst (iV (Na04.circle (Na04.fine n)))) := by rw [← hH5, upd_ne npl]; exact hpl
    refine s_fldP (ep_call (ea_cons (ev_var rfl) (ea_cons (ev_fld (ev_var rfl) o5 T.cl_Ring T.na_units ((lk_past (by decide +kernel)).trans lk_here)) (ea_cons (ev_fld (ev_var rfl) o5 T.cl_Ring T.na_exponent ((lk_past (by decide +kernel)).trans ((lk_past (by decide +kernel)).trans lk_here))) ea_nil))) (spp_characters_of hn1 hn2 hu5)) (ev_var rfl) o5 T.cl_Ring T.na_characters (by show 5 < 1000; omega) (fun _ _ _ e h => h.mono (sub_mono e)) fun y H6 e6 hy => ?_
    obtain ⟨c, cv, rfl, hc, hcs⟩ := hy
    have hcs := hcs.mono (sub_anti (H' := H6) d5)
    have hcn := (of_sub (sub_anti (H' := H6) d5 _ _ hc)).1
    have hc := (of_sub hc).2
    rw [put_past (by decide +kernel), put_past (by decide +kernel), put_past (by decide +kernel), put_past (by decide +kernel), put_past (by decide +kernel), put_nil]
    have nc : c ≠ p := ne_kinds hc (e6 _ _ o5) (fun z => by cases z)
    refine q _ ⟨dx, u, c, pl, cv, sub_of del_self upd_same, sub_of hun ?_, sub_of hcn ?_, sub_of hpln ?_, ?_, hn1, hn2⟩ (Ex.mut (d5.trans e6) del_self)
    · rw [upd_ne nu]; exact e6 _ _ hu5
    · rw [upd_ne nc]; exact hc
    · rw [upd_ne npl]; exact e6 _ _ hpl5
    · rw [sub_upd del_self]
      exact hcs.upd fun r z => by
        have z := (of_sub z).2
        rw [e6 _ _ o5] at z
        cases z
theorem len_chars (n : Nat) (h1 : 2 ≤ n) (h2 : n ≤ 13) : (Na04.chars n).length ≤ 12 := by
  rw [RsM.chars_tab n h1 h2]
  exact RsM.each (P := fun n => (RsM.tab n).length ≤ 12) (by decide +kernel) n h1 h2
abbrev s_Ring_lacks : Stmt := inClass (topS 20) 1
abbrev N_Ring_lacks : List Str := ["self", "i"]
theorem sc_Ring_lacks : FnScope N_Ring_lacks ["self", "i"] (defScope s_Ring_lacks) := ⟨rfl, rfl, rfl, by decide +kernel, rfl, by decide +kernel, by decide +kernel⟩
def sp_Ring_lacks (CR : Addr) : Sp := fun vs H Q _ => ∃ (p : Addr) (n i : Nat), vs = [.ref p, .int (i : Int)] ∧ IsRing CR H p n ∧ RetV (.bl (decide ((Na04.chars n).length ≤ i))) H Q
theorem ok_Ring_lacks (T : Txt K mg CR CL TH) {f : Addr} {fd : FuncData} (F : Fun K "lacks" "Ring.lacks" s_Ring_lacks f fd) : FnOk P w K mg base CX0 1 f fd ["self", "i"] (sp_Ring_lacks CR) := by
  refine F.ok sc_Ring_lacks (fun vs H Q E h => ?_) (fun cdv A outer s H vs Q E hr h => ?_)
  · obtain ⟨p, n, i, rfl, _⟩ := h
    rfl
  · obtain ⟨p, n, i, rfl, ⟨dx, u, c, pl, cv, r⟩, q⟩ := h
    refine ⟨_, (pss_one (ps_ret (pe_cmpR op_ge (pv 1) (pe_callB (lenK K) (by rfl) T.b_len (by decide +kernel) (pa_cons (fldK K (pv 0)) pa_nil)) (nomark _)))), ?_⟩
    refine s_ret (v := .bl (decide ((Na04.chars n).length ≤ i))) (ev_is (ev_op (ev_var rfl) (ev_len (ev_fld (ev_var rfl) r.o T.cl_Ring T.na_characters (lkR_characters n u c pl)) (sq_of r.c)) rv_I0) ?_) q
    have : cv.length = (Na04.chars n).length := by rw [r.cs.len, List.length_map]
    rw [this]
    exact congrArg V.bl (decide_eq_decide.mpr (by omega))
theorem spv_Ring_lacks {H : Hp} {p : Addr} {n i : Nat} (r : IsRing CR H p n) : SpV (sp_Ring_lacks CR) [.ref p, .int (i : Int)] H (.bl (decide ((Na04.chars n).length ≤ i))) := fun H1 e Q q E => ⟨p, n, i, rfl, r.mono e, q⟩
end
end Rs
set_option Elab.async false
set_option linter.all false
set_option maxRecDepth 100000
set_option maxHeartbeats 4000000
namespace Rs
open PySem PySem.Spec PyProof.Rows L2 Evl
/-! ### rows as data -/
def nD (l : List Nat) : List PyData := l.map fun (n : Nat) => PyData.int (n : Int)
theorem eqv_nD : ∀ a b : List Nat, PyData.eqvAll (nD a) (nD b) = (a == b)
  | [], [] => by simp [nD, PyData.eqvAll]
  | [], _ :: _ => by simp [nD, PyData.eqvAll]
  | _ :: _, [] => by simp [nD, PyData.eqvAll]
  | a :: r, b :: t => by
    have ih := eqv_nD r t
    unfold nD at ih ⊢
    simp only [List.map_cons, PyData.eqvAll, PyData.eqv, ih]
    rw [List.cons_beq_cons]
    congr 1
    by_cases h : a = b
    · subst h; simp
    · have : ¬ ((a : Int) = (b : Int)) := by omega
      rw [beq_eq_false_iff_ne.mpr this, beq_eq_false_iff_ne.mpr h]
theorem lay_nD : ∀ l : List Nat, PyData.canLayAll0 (nD l) = true
  | [] => rfl
  | _ :: r => by
    have := lay_nD r
    unfold nD at this ⊢
    simp [PyData.canLayAll0, PyData.canLay0, this]
theorem dep_nD : ∀ l : List Nat, PyData.depthAll (nD l) = 0
  | [] => rfl
  | _ :: r => by
    have := dep_nD r
    unfold nD at this ⊢
    simp [PyData.depthAll, PyData.depth, this]
def nDD (l : List (List Nat)) : List PyData := l.map fun r => PyData.list (nD r)
theorem lay_nDD : ∀ l : List (List Nat), PyData.canLayAll0 (nDD l) = true
  | [] => rfl
  | r :: l => by
    have := lay_nDD l
    unfold nDD at this ⊢
    simp [PyData.canLayAll0, PyData.canLay0, this, lay_nD]
theorem dep_nDD : ∀ l : List (List Nat), PyData.depthAll (nDD l) ≤ 1
  | [] => Nat.zero_le _
  | r :: l => by
    have := dep_nDD l
    unfold nDD at this ⊢
    simp only [List.map_cons, PyData.depthAll, PyData.depth, dep_nD]
    omega
theorem shaped_nD (l : List Nat) : SeqAt.shaped (.list (nD l)) = true := by
  simp [SeqAt.shaped, PyData.canLay0, PyData.depth, lay_nD, dep_nD]
theorem shaped_nDD (l : List (List Nat)) : SeqAt.shaped (.list (nDD l)) = true := by
  have := dep_nDD l
  have h2 : (PyData.list (nDD l)).depth ≤ 64 := by
    rw [PyData.depth]
    omega
  have h3 : (PyData.list (nDD l)).canLay0 = true := by
    rw [PyData.canLay0]
    exact lay_nDD l
  unfold SeqAt.shaped
  rw [h3, decide_eq_true h2]
  rfl
theorem dp_nD {K : PySem.W.Frag} {H : Hp} : ∀ l : List Nat, DpAll K H (nV l) (nD l)
  | [] => .nil
  | n :: r => .cons (.int _) (dp_nD r)
theorem dp_nDD {K : PySem.W.Frag} {H : Hp} : ∀ {vs : List V} {l : List (List Nat)}, Objs H .lst vs (l.map nV) → DpAll K H vs (nDD l)
  | [], [], _ => .nil
  | v :: vs, r :: l, ⟨⟨p, h1, h2⟩, h⟩ => by
    subst h1
    exact .cons (.lst (sq_of h2) (dp_nD r)) (dp_nDD h)
  | [], _ :: _, h => h.elim
  | _ :: _, [], h => h.elim
theorem tw_spec {α : Type} [BEq α] [LawfulBEq α] : ∀ (l : List α) (c : α), c ∈ l → l[(l.takeWhile fun d => d != c).length]? = some c ∧ ∀ m z, m < (l.takeWhile fun d => d != c).length → l[m]? = some z → z ≠ c
  | [], c, h => by cases h
  | a :: l, c, h => by
    rw [List.takeWhile_cons]
    by_cases e : a = c
    · subst e
      have : (a != a) = false := by simp
      rw [this]
      simp
    · have eb : (a != c) = true := by simpa using e
      rw [eb]
      have hm : c ∈ l := by
        rcases List.mem_cons.mp h with h | h
        · exact absurd h.symm e
        · exact h
      have ih := tw_spec l c hm
      refine ⟨by simpa using ih.1, fun i z hi hz => ?_⟩
      cases i with
      | zero =>
        have : a = z := by simpa using hz
        rw [← this]
        exact e
      | succ i => exact ih.2 i z (by simpa using hi) (by simpa using hz)
section
variable {K : PySem.W.Frag} {σ : L2.St} {H H' : Hp} {ta tb te : TE} {D : Ends} {tz : TS} {v : V}
theorem ev_indexD {p a : Addr} {cv : List V} {l : List (List Nat)} {c : List Nat} (ha : Ev ta σ H (.ref p)) (hp : H p = some (.lst cv)) (hc : Objs H .lst cv (l.map nV)) (hb : Ev tb σ H (.ref a)) (hr : H a = some (.lst (nV c))) (hm : c ∈ l) :
    Ev (tBM K "list" (rIndexD K) ta (tCons tb tNil)) σ H (.int (((l.takeWhile fun d => d != c).length : Nat) : Int)) := fun H1 e Q q => ha H1 e _ fun H2 e2 => ⟨Or.inl ⟨rfl, _, sq_of ((e.trans e2) _ _ hp)⟩, hb H2 (e.trans e2) _ fun H3 e3 => by
  have e13 := (e.trans e2).trans e3
  obtain ⟨h1, h2⟩ := tw_spec l c hm
  refine ⟨p, .ref a, .list (nD c), nDD l, _, .list (nD c), rfl, rfl, .lst (sq_of (e13 _ _ hp)) (dp_nDD (hc.mono e13)), .lst (sq_of (e13 _ _ hr)) (dp_nD c), shaped_nDD l, shaped_nD c, ?_, ?_, fun m z' hm' hz => ?_, q H3 (e2.trans e3)⟩
  · unfold nDD
    rw [List.getElem?_map, h1]
    rfl
  · show PyData.eqvAll (nD c) (nD c) = true
    rw [eqv_nD]
    simp
  · unfold nDD at hz
    rw [List.getElem?_map] at hz
    cases hd : l[m]? with
    | none => rw [hd] at hz; cases hz
    | some d =>
      rw [hd] at hz
      have := Option.some.inj hz
      subst this
      show PyData.eqvAll (nD d) (nD c) = false
      rw [eqv_nD]
      exact beq_eq_false_iff_ne.mpr (h2 m d hm' hd)⟩
/-- xs.extend(ys) -/
theorem s_ext {l b : Addr} {xs zs : List V} (hl : H l = some (.lst xs)) (ha : Ev ta σ H (.ref l)) (h : Ev te σ H (.ref b)) (hb : H b = some (.lst zs)) (hz : xs.length + zs.length ≤ sizeLine) (k : ∀ H1, Ex H H1 → D.nx σ (L2.upd H1 l (.lst (xs ++ zs)))) :
    tDrop (tBM K "list" rExtend ta (tCons te tNil)) D σ H := ha H (Ex.refl H) _ fun H1 e1 =>
  ⟨Or.inl ⟨rfl, xs, sq_of (e1 l _ hl)⟩, h H1 e1 _ fun H2 e2 => ⟨l, b, xs, zs, rfl, rfl, e2 l _ (e1 l _ hl), (e1.trans e2) _ _ hb, hz, k H2 (e1.trans e2)⟩⟩
theorem q_ext {l b : Addr} {xs zs : List V} (hl : H l = some (.lst xs)) (ha : Ev ta σ H (.ref l)) (h : Ev te σ H (.ref b)) (hb : H b = some (.lst zs)) (hz : xs.length + zs.length ≤ sizeLine) (k : ∀ H1, Ex H H1 → tz D σ (L2.upd H1 l (.lst (xs ++ zs)))) :
    tSeq (tDrop (tBM K "list" rExtend ta (tCons te tNil))) tz D σ H := s_ext (D := { D with nx := tz D }) hl ha h hb hz k
/-- o.m(e) that leaves the heap but for what is new -/
def SpMV (sp : Sp) (vs : List V) (H : Hp) (z : V) : Prop := SpV sp vs H z
theorem ev_meth {C a dx : Addr} {m : Str} {fs : List (Str × V)} {sp : Sp} {E : XK} {t : TA} {vs : List V} {z : V} (ha : Ev ta σ H (.ref a)) (ho : H a = some (.ins C dx fs)) (l : fs.lookup m = none) (h : EvA t σ H vs) (hs : SpV sp (.ref a :: (vs ++ [])) H z) : Ev (tMeth C m sp [] E ta t) σ H z := fun H1 e Q q =>
  ha H1 e _ fun H2 e2 => ⟨a, dx, fs, rfl, (e.trans e2) _ _ ho, l, h H2 (e.trans e2) _ fun H3 e3 => hs H3 ((e.trans e2).trans e3) Q (fun H4 e4 => q H4 ((e2.trans e3).trans e4)) E⟩
end
/-! ### the line -/
structure LineAt (CL CR : Addr) (H : Hp) (l : Addr) (n : Nat) (dl r : Addr) : Prop where
  o : H l = some (.ins CL dl [("ring", .ref r)])
  r : IsRing CR H r n
def IsLine (CL CR : Addr) (H : Hp) (l : Addr) (n : Nat) : Prop := ∃ dl r, LineAt CL CR H l n dl r
theorem IsLine.mono {CL CR : Addr} {H H' : Hp} {l : Addr} {n : Nat} (h : IsLine CL CR H l n) (e : Ex H H') : IsLine CL CR H' l n := by
  obtain ⟨dl, r, h⟩ := h
  exact ⟨dl, r, e _ _ h.o, h.r.mono e⟩
theorem del_mono {H H' : Hp} (e : Ex H H') (t : Addr) : Ex (del H t) (del H' t) := fun b o h => del_of (e _ _ (del_some h).1) (del_some h).2
/-- what a call promises: the line stands about its new n, what else was known stands, the answer is a new list -/
def RetC (CL CR : Addr) (c : Na04.Call) (l : Addr) (n : Nat) (H : Hp) (Q : VK) : Prop := ∀ p H', IsLine CL CR H' l (Na04.step ⟨n⟩ c).1.n → (∀ t, H t ≠ none → IsLine CL CR (del H t) l n → IsLine CL CR (del H' t) l (Na04.step ⟨n⟩ c).1.n) → Ex (del H l) H' → H p = none → H' p = some (.lst ((Na04.step ⟨n⟩ c).2.map V.int)) → Q (.ref p) H'
theorem RetC.pure {CL CR : Addr} {c : Na04.Call} {l : Addr} {n : Nat} {H : Hp} {Q : VK} (k : RetC CL CR c l n H Q) (hL : IsLine CL CR H l n) (hs : (Na04.step ⟨n⟩ c).1 = ⟨n⟩) {xs : List V} (he : (Na04.step ⟨n⟩ c).2.map V.int = xs) :
    RetL xs H Q := fun p H1 hp e h1 => k p H1 (by rw [hs]; exact hL.mono e) (fun t _ h => by rw [hs]; exact h.mono (del_mono e t)) (Ex.del2 e l) hp (by rw [he]; exact h1)
theorem map_ints (l : List Nat) : (Na04.ints l).map V.int = nV l := by
  unfold Na04.ints nV
  rw [List.map_map]
  rfl
section
variable {P : Program} {w : World} {K : PySem.W.Frag} {mg : Str → Option Value} {base : Heap} {CR CL TH : Addr}
abbrev s_Ring_number_of : Stmt := inClass (topS 20) 2
abbrev N_Ring_number_of : List Str := ["self", "numbers"]
theorem sc_Ring_number_of : FnScope N_Ring_number_of ["self", "numbers"] (defScope s_Ring_number_of) := ⟨rfl, rfl, rfl, by decide +kernel, rfl, by decide +kernel, by decide +kernel⟩
def sp_Ring_number_of (CR : Addr) : Sp := fun vs H Q _ => ∃ (p a : Addr) (n : Nat) (c : List Nat), vs = [.ref p, .ref a] ∧ IsRing CR H p n ∧ H a = some (.lst (nV c)) ∧ c ∈ Na04.chars n ∧ RetV (.int ((Na04.number ⟨n⟩ c : Nat) : Int)) H Q
theorem ok_Ring_number_of (T : Txt K mg CR CL TH) {f : Addr} {fd : FuncData} (F : Fun K "number_of" "Ring.number_of" s_Ring_number_of f fd) : FnOk P w K mg base CX0 1 f fd ["self", "numbers"] (sp_Ring_number_of CR) := by
  refine F.ok sc_Ring_number_of (fun vs H Q E h => ?_) (fun cdv A outer s H vs Q E hr h => ?_)
  · obtain ⟨p, a, n, c, rfl, _⟩ := h
    rfl
  · obtain ⟨p, a, n, c, rfl, ⟨dx, u, cc, pl, cv, r⟩, ha, hc, q⟩ := h
    have hu65 := hr.un
    have hu65 : (A.deeper (envOfC "Ring.number_of" (defScope s_Ring_number_of) s.heap.objs.size f cdv)).units + 65 < cLine := by omega
    refine ⟨_, (pss_one (ps_ret (bmK K PySem.F.plainAttrs_list PySem.F.slot_list_index PySem.F.type_list_index (indexDK K hu65) (fldK K (pv 0)) (pa_cons (pv 1) pa_nil)))), ?_⟩
    exact s_ret (ev_indexD (ev_fld (ev_var rfl) r.o T.cl_Ring T.na_characters (lkR_characters n u cc pl)) r.c r.cs (ev_var rfl) ha hc) q
theorem spv_Ring_number_of {H : Hp} {p a : Addr} {n : Nat} {c : List Nat} (r : IsRing CR H p n) (ha : H a = some (.lst (nV c))) (hc : c ∈ Na04.chars n) : SpV (sp_Ring_number_of CR) [.ref p, .ref a] H (.int ((Na04.number ⟨n⟩ c : Nat) : Int)) := fun H1 e Q q E => ⟨p, a, n, c, rfl, r.mono e, e _ _ ha, hc, q⟩
abbrev s_Ring_given : Stmt := inClass (topS 20) 3
abbrev N_Ring_given : List Str := ["self", "numbers", "unit"]
theorem sc_Ring_given : FnScope N_Ring_given ["self", "numbers", "unit"] (defScope s_Ring_given) := ⟨rfl, rfl, rfl, by decide +kernel, rfl, by decide +kernel, by decide +kernel⟩
def sp_Ring_given (CR : Addr) : Sp := fun vs H Q _ => ∃ (p a : Addr) (n x : Nat) (c : List Nat), vs = [.ref p, .ref a, .int (x : Int)] ∧ IsRing CR H p n ∧ H a = some (.lst (nV c)) ∧ c.length = (Na04.units n).length ∧ x ∈ Na04.units n ∧ RetV (.int ((c.getD ((Na04.units n).idxOf x) 0 : Nat) : Int)) H Q
theorem ok_Ring_given (T : Txt K mg CR CL TH) {f : Addr} {fd : FuncData} (F : Fun K "given" "Ring.given" s_Ring_given f fd) : FnOk P w K mg base CX0 1 f fd ["self", "numbers", "unit"] (sp_Ring_given CR) := by
  refine F.ok sc_Ring_given (fun vs H Q E h => ?_) (fun cdv A outer s H vs Q E hr h => ?_)
  · obtain ⟨p, a, n, x, c, rfl, _⟩ := h
    rfl
  · obtain ⟨p, a, n, x, c, rfl, ⟨dx, u, cc, pl, cv, r⟩, ha, hlen, hx, q⟩ := h
    refine ⟨_, (pss_one (ps_ret (pe_ix (ixl K) (pv 1) (bmK K PySem.F.plainAttrs_list PySem.F.slot_list_index PySem.F.type_list_index (indexK K) (fldK K (pv 0)) (pa_cons (pv 2) pa_nil)) (fun _ _ => rfl)))), ?_⟩
    have ix := idx_spec _ _ hx
    have hix : (Na04.units n).idxOf x < c.length := by
      have := (List.getElem?_eq_some_iff.mp ix.1).1
      omega
    exact s_ret (ev_op (ev_var rfl) (ev_index (ev_fld (ev_var rfl) r.o T.cl_Ring T.na_units (lkR_units n u cc pl)) (sq_of r.u) (ev_var rfl) ix.1 ix.2) (rv_ixL (sq_of ha) (ixN_of hix))) q
theorem spv_Ring_given {H : Hp} {p a : Addr} {n x : Nat} {c : List Nat} (r : IsRing CR H p n) (ha : H a = some (.lst (nV c))) (hl : c.length = (Na04.units n).length) (hx : x ∈ Na04.units n) : SpV (sp_Ring_given CR) [.ref p, .ref a, .int (x : Int)] H (.int ((c.getD ((Na04.units n).idxOf x) 0 : Nat) : Int)) := fun H1 e Q q E => ⟨p, a, n, x, c, rfl, r.mono e, e _ _ ha, hl, hx, q⟩
end
end Rs
set_option Elab.async false
set_option linter.all false
set_option maxRecDepth 100000
set_option maxHeartbeats 4000000
namespace Rs
open PySem PySem.Spec PyProof.Rows L2 Evl
theorem inV_nV (m : Nat) (l : List Nat) : inV (.int (m : Int)) (nV l) = l.contains m := by
  unfold inV nV
  rw [List.any_map, List.contains_eq_any_beq]
  congr 1
  funext x
  show decide ((x : Int) = (m : Int)) = (m == x)
  by_cases h : x = m
  · subst h; simp
  · have h2 : ¬ (m = x) := fun e => h e.symm
    rw [beq_eq_false_iff_ne.mpr h2]
    exact decide_eq_false (by omega)
theorem wc_none {n i : Nat} {f : Na04.Char_ → List Int} (h : (Na04.chars n).length ≤ i) : Na04.withChar ⟨n⟩ i f = [-2] := by
  unfold Na04.withChar Na04.char?
  rw [List.getElem?_eq_none h]
theorem wc_some {n i : Nat} {f : Na04.Char_ → List Int} {c : List Nat} (h : (Na04.chars n)[i]? = some c) : Na04.withChar ⟨n⟩ i f = f c := by
  unfold Na04.withChar Na04.char?
  rw [h]
theorem row_of {n i : Nat} (h : ¬ (Na04.chars n).length ≤ i) : ∃ c, (Na04.chars n)[i]? = some c ∧ c ∈ Na04.chars n := by
  have hi : i < (Na04.chars n).length := by omega
  exact ⟨_, List.getElem?_eq_getElem hi, List.getElem_mem hi⟩
section
variable {K : PySem.W.Frag} {σ : L2.St} {H H' : Hp} {ta tb te : TE} {D : Ends} {tz : TS} {v : V}
theorem ev_methL {C a dx : Addr} {m : Str} {fs : List (Str × V)} {sp : Sp} {E : XK} {tl : TE} {xs : List V} {z : V} (ha : Ev ta σ H (.ref a)) (ho : H a = some (.ins C dx fs)) (l : fs.lookup m = none) (h : EvL tl σ H xs)
    (hs : ∀ p H1, Ex H H1 → H1 p = some (.lst xs) → SpV sp [.ref a, .ref p] H1 z) : Ev (tMeth C m sp [] E ta (tCons tl tNil)) σ H z := fun H1 e Q q =>
  ha H1 e _ fun H2 e2 => ⟨a, dx, fs, rfl, (e.trans e2) _ _ ho, l, h H2 (e.trans e2) _ fun p H3 _ e3 hp => hs p H3 ((e.trans e2).trans e3) hp H3 (Ex.refl _) Q (fun H4 e4 => q H4 ((e2.trans e3).trans e4)) E⟩
/-- a new ring -/
theorem ep_ring {CR : Addr} {E : XK} {n : Nat} (h : Ev ta σ H (.int (n : Int))) (h1 : 2 ≤ n) (h2 : n ≤ 13) : EvP (tMake CR (sp_Ring___init__ CR) [] E (tCons ta tNil)) σ H (fun v H2 => ∃ r, v = .ref r ∧ IsRing CR (sub H2 H) r n) := fun H1 e Q q =>
  h H1 e _ fun H2 e2 => fun x dx nx nd ne => ⟨x, dx, n, rfl, upd_same, h1, h2, fun H3 hR e3 => by
    have e4 : Ex H2 (del (L2.upd (L2.upd H2 dx (.own x)) x (.ins CR dx [])) x) := fun b o hb => del_of (by
      rw [upd_ne (ne_of_none hb nx), upd_ne (ne_of_none hb nd)]
      exact hb) (ne_of_none hb nx)
    exact ⟨rfl, q _ H3 (e2.trans (e4.trans e3)) ⟨x, rfl, hR.mono (sub_anti ((e.trans e2).trans e4))⟩⟩⟩
end
theorem RingAt.upd {CL CR : Addr} {H : Hp} {a dx u c pl l dl : Addr} {n : Nat} {cv : List V} {x : V} {o : HO} (r : RingAt CR H a n dx u c pl cv) (hl : H l = some (.ins CL dl [("ring", x)])) : RingAt CR (L2.upd H l o) a n dx u c pl cv := by
  have n1 : a ≠ l := ne_kinds r.o hl (fun z => by
    injection z with _ _ z3
    have := congrArg List.length z3
    simp [ringF] at this)
  have n2 : u ≠ l := ne_kinds r.u hl (fun z => by cases z)
  have n3 : c ≠ l := ne_kinds r.c hl (fun z => by cases z)
  have n4 : pl ≠ l := ne_kinds r.pl hl (fun z => by cases z)
  exact ⟨by rw [upd_ne n1]; exact r.o, by rw [upd_ne n2]; exact r.u, by rw [upd_ne n3]; exact r.c, by rw [upd_ne n4]; exact r.pl, r.cs.upd (fun _ z => by rw [hl] at z; cases z), r.lo, r.hi⟩
section
variable {P : Program} {w : World} {K : PySem.W.Frag} {mg : Str → Option Value} {base : Heap} {CR CL TH : Addr}
/-! ### Line -/
abbrev s_Line___init__ : Stmt := inClass (topS 35) 0
abbrev N_Line___init__ : List Str := ["self"]
theorem sc_Line___init__ : FnScope N_Line___init__ ["self"] (defScope s_Line___init__) := ⟨rfl, rfl, rfl, by decide +kernel, rfl, by decide +kernel, by decide +kernel⟩
def sp_Line___init__ (CL CR : Addr) : Sp := fun vs H Q _ => ∃ (p dx : Addr), vs = [.ref p] ∧ H p = some (.ins CL dx []) ∧ ∀ H', IsLine CL CR (sub H' (del H p)) p 2 → Ex (del H p) H' → Q .non H'
theorem ok_Line___init__ (T : Txt K mg CR CL TH) {f f1 : Addr} {fd fd1 : FuncData} (F : Fun K "__init__" "Line.__init__" s_Line___init__ f fd)
    (M_Ring : Mk K CR f1) (b_Ring___init__ : Binds K fd1 ["self", "n"] []) (G_Ring___init__ : FnOk P w K mg base CX0 5 f1 fd1 ["self", "n"] (sp_Ring___init__ CR)) : FnOk P w K mg base CX0 7 f fd ["self"] (sp_Line___init__ CL CR) := by
  refine F.ok sc_Line___init__ (fun vs H Q E h => ?_) (fun cdv A outer s H vs Q E hr h => ?_)
  · obtain ⟨p, dx, rfl, _⟩ := h
    rfl
  · obtain ⟨p, dx, rfl, hp, q⟩ := h
    have R_Ring := hr
    refine ⟨_, (pss_one (sfldK K (pv 0) (pe_make M_Ring G_Ring___init__ R_Ring (by rfl) T.g_Ring b_Ring___init__ .nil pass0 (pa_cons (pe_glob (by rfl) T.g_FIRST_ROUND T.r_FIRST_ROUND) pa_nil)))), ?_⟩
    refine s_fldP (ep_ring (n := 2) (CR := CR) ev_c (by omega) (by omega)) (ev_var rfl) hp T.cl_Line T.na_ring (by show 0 < 1000; omega) (fun _ _ _ e ⟨r, h1, h2⟩ => ⟨r, h1, h2.mono (sub_mono e)⟩) fun y H1 e1 hy => ?_
    obtain ⟨r, rfl, dx', u, c, pl, cv, hr'⟩ := hy
    have hr' := hr'.mono (sub_anti (H' := H1) (Ex.del H p))
    rw [put_nil]
    refine q _ ⟨dx, r, sub_of del_self upd_same, dx', u, c, pl, cv, ?_⟩ (Ex.mut ((Ex.del H p).trans e1) del_self)
    rw [sub_upd del_self]
    have hp1 : sub H1 (del H p) p = some (.ins CL dx []) := sub_of del_self (e1 _ _ hp)
    have n1 : r ≠ p := ne_kinds hr'.o hp1 (fun z => by
      injection z with _ _ z3
      have := congrArg List.length z3
      simp [ringF] at this)
    have n2 : u ≠ p := ne_kinds hr'.u hp1 (fun z => by cases z)
    have n3 : c ≠ p := ne_kinds hr'.c hp1 (fun z => by cases z)
    have n4 : pl ≠ p := ne_kinds hr'.pl hp1 (fun z => by cases z)
    exact ⟨by rw [upd_ne n1]; exact hr'.o, by rw [upd_ne n2]; exact hr'.u, by rw [upd_ne n3]; exact hr'.c, by rw [upd_ne n4]; exact hr'.pl, hr'.cs.upd (fun _ z => by rw [hp1] at z; cases z), hr'.lo, hr'.hi⟩
/-- the parts of a line, read -/
structure Got (K : PySem.W.Frag) (CR : Addr) (σ : L2.St) (H : Hp) (n : Nat) (r dx u c pl : Addr) (cv : List V) : Prop where
  ra : RingAt CR H r n dx u c pl cv
  ring : Ev (tFld K (tVar 0) "ring") σ H (.ref r)
  nn : Ev (tFld K (tFld K (tVar 0) "ring") "n") σ H (.int (n : Int))
  units : Ev (tFld K (tFld K (tVar 0) "ring") "units") σ H (.ref u)
  exponent : Ev (tFld K (tFld K (tVar 0) "ring") "exponent") σ H (.int ((Na04.exponent n : Nat) : Int))
  parts : Ev (tFld K (tFld K (tVar 0) "ring") "parts") σ H (.int ((Na04.fine n : Nat) : Int))
  characters : Ev (tFld K (tFld K (tVar 0) "ring") "characters") σ H (.ref c)
  polynomial : Ev (tFld K (tFld K (tVar 0) "ring") "polynomial") σ H (.ref pl)
theorem got (T : Txt K mg CR CL TH) {σ : L2.St} {H : Hp} {l dl r dx u c pl : Addr} {n : Nat} {cv : List V} (h0 : σ[0]? = some (some (.ref l))) (ho : H l = some (.ins CL dl [("ring", .ref r)])) (ra : RingAt CR H r n dx u c pl cv) : Got K CR σ H n r dx u c pl cv := by
  have h : Ev (tFld K (tVar 0) "ring") σ H (.ref r) := ev_fld (ev_var h0) ho T.cl_Line T.na_ring lk_here
  exact ⟨ra, h, ev_fld h ra.o T.cl_Ring T.na_n (lkR_n n u c pl), ev_fld h ra.o T.cl_Ring T.na_units (lkR_units n u c pl), ev_fld h ra.o T.cl_Ring T.na_exponent (lkR_exponent n u c pl), ev_fld h ra.o T.cl_Ring T.na_parts (lkR_parts n u c pl), ev_fld h ra.o T.cl_Ring T.na_characters (lkR_characters n u c pl), ev_fld h ra.o T.cl_Ring T.na_polynomial (lkR_polynomial n u c pl)⟩
theorem Got.mono {σ : L2.St} {H H' : Hp} {r dx u c pl : Addr} {n : Nat} {cv : List V} (g : Got K CR σ H n r dx u c pl cv) (e : Ex H H') : Got K CR σ H' n r dx u c pl cv :=
  ⟨g.ra.mono e, g.ring.mono e, g.nn.mono e, g.units.mono e, g.exponent.mono e, g.parts.mono e, g.characters.mono e, g.polynomial.mono e⟩
/-- self.ring.characters[i] -/
theorem Got.row {σ : L2.St} {H : Hp} {r dx u cc pl : Addr} {n : Nat} {cv : List V} (g : Got K CR σ H n r dx u cc pl cv) {i : Nat} {c : List Nat} {ti : TE} (hi : Ev ti σ H (.int (i : Int))) (h : (Na04.chars n)[i]? = some c) :
    ∃ p, H p = some (.lst (nV c)) ∧ Ev (tOp (rIxL K) (tFld K (tFld K (tVar 0) "ring") "characters") ti) σ H (.ref p) := by
  obtain ⟨p, h1, h2⟩ := g.ra.cs.get (i := i) (r := nV c) (by rw [List.getElem?_map, h]; rfl)
  exact ⟨p, h2, ev_op g.characters hi (rv_ixL (sq_of g.ra.c) (atI_nat h1))⟩
/-- self.ring.lacks(i) -/
theorem Got.lacks {σ : L2.St} {H : Hp} {r dx u cc pl : Addr} {n : Nat} {cv : List V} (g : Got K CR σ H n r dx u cc pl cv) {i : Nat} {ti : TE} {E : XK} (hi : Ev ti σ H (.int (i : Int))) :
    EvT (tB (tMeth CR "lacks" (sp_Ring_lacks CR) [] E (tFld K (tVar 0) "ring") (tCons ti tNil))) σ H (decide ((Na04.chars n).length ≤ i)) :=
  et_B (ev_meth g.ring g.ra.o (lkR_lacks n u cc pl) (ea_cons hi ea_nil) (spv_Ring_lacks ⟨dx, u, cc, pl, cv, g.ra⟩))
abbrev s_Line_char : Stmt := inClass (topS 35) 3
abbrev N_Line_char : List Str := ["self", "i"]
theorem sc_Line_char : FnScope N_Line_char ["self", "i"] (defScope s_Line_char) := ⟨rfl, rfl, rfl, by decide +kernel, rfl, by decide +kernel, by decide +kernel⟩
def sp_Line_char (CL CR : Addr) : Sp := fun vs H Q _ => ∃ (l : Addr) (n i : Nat), vs = [.ref l, .int (i : Int)] ∧ IsLine CL CR H l n ∧ RetC CL CR (.char i) l n H Q
theorem ok_Line_char (T : Txt K mg CR CL TH) {f f1 : Addr} {fd fd1 : FuncData} (F : Fun K "char" "Line.char" s_Line_char f fd)
    (D_Ring_lacks : Dm K CR "lacks" ["self", "i"] f1 fd1) (G_Ring_lacks : FnOk P w K mg base CX0 1 f1 fd1 ["self", "i"] (sp_Ring_lacks CR)) : FnOk P w K mg base CX0 2 f fd ["self", "i"] (sp_Line_char CL CR) := by
  refine F.ok sc_Line_char (fun vs H Q E h => ?_) (fun cdv A outer s H vs Q E hr h => ?_)
  · obtain ⟨l, n, i, rfl, _⟩ := h
    rfl
  · obtain ⟨l, n, i, rfl, hL, q⟩ := h
    have R_Ring_lacks := hr
    refine ⟨_, (pss_cons (ps_if (pt_val (pe_meth (fldK K (pv 0)) T.cl_Ring D_Ring_lacks.m G_Ring_lacks R_Ring_lacks D_Ring_lacks.b .nil pass0 (pa_cons (pv 1) pa_nil)))
    (pss_one (ps_ret (pe_lst (pa_cons (pe_glob (by rfl) T.g_NO_SUCH_CHARACTER T.r_NO_SUCH_CHARACTER) pa_nil))))
    pss_nil)
    (pss_one (ps_ret (pe_callTy (listK K) (by rfl) T.b_list (by decide +kernel) (pa_cons (pe_ix (ixl K) (fldK K (fldK K (pv 0))) (pv 1) (fun _ _ => rfl)) pa_nil))))), ?_⟩
    obtain ⟨dl, r, hl⟩ := id hL
    obtain ⟨dx, u, c, pl, cv, ra⟩ := hl.r
    have g := got T (σ := start N_Line_char [.ref l, .int (i : Int)]) rfl hl.o ra
    refine q_when (g.lacks (ev_var rfl)) (fun hb H1 e1 => ?_) (fun hb H1 e1 => ?_)
    · have hb := of_decide_eq_true hb
      exact s_retL (el_lst (ea_cons ev_c ea_nil) (by show 1 ≤ 100000; omega)) fun p H2 hp e2 h2 => q.pure hL rfl (xs := [.int (-2)]) (by show (Na04.withChar ⟨n⟩ i Na04.ints).map V.int = _; rw [wc_none hb]; rfl) p H2 (fresh_back e1 hp) (e1.trans e2) h2
    · obtain ⟨row, hrow, hmem⟩ := row_of (of_decide_eq_false hb)
      obtain ⟨rp, h1, h2⟩ := (g.mono e1).row (ti := tVar 1) (ev_var rfl) hrow
      exact s_retL (el_list h2 (sq_of h1)) fun p H2 hp e2 h3 => q.pure hL rfl (xs := nV row) (by show (Na04.withChar ⟨n⟩ i Na04.ints).map V.int = _; rw [wc_some hrow, map_ints]) p H2 (fresh_back e1 hp) (e1.trans e2) h3
abbrev s_Line_value : Stmt := inClass (topS 35) 4
abbrev N_Line_value : List Str := ["self", "i", "a", "rest"]
theorem sc_Line_value : FnScope N_Line_value ["self", "i", "a"] (defScope s_Line_value) := ⟨rfl, rfl, rfl, by decide +kernel, rfl, by decide +kernel, by decide +kernel⟩
def sp_Line_value (CL CR : Addr) : Sp := fun vs H Q _ => ∃ (l : Addr) (n i a : Nat), vs = [.ref l, .int (i : Int), .int (a : Int)] ∧ IsLine CL CR H l n ∧ RetC CL CR (.value i a) l n H Q
theorem ok_Line_value (T : Txt K mg CR CL TH) {f f1 f2 : Addr} {fd fd1 fd2 : FuncData} (F : Fun K "value" "Line.value" s_Line_value f fd)
    (D_Ring_given : Dm K CR "given" ["self", "numbers", "unit"] f2 fd2) (G_Ring_given : FnOk P w K mg base CX0 1 f2 fd2 ["self", "numbers", "unit"] (sp_Ring_given CR))
    (D_Ring_lacks : Dm K CR "lacks" ["self", "i"] f1 fd1) (G_Ring_lacks : FnOk P w K mg base CX0 1 f1 fd1 ["self", "i"] (sp_Ring_lacks CR)) : FnOk P w K mg base CX0 2 f fd ["self", "i", "a"] (sp_Line_value CL CR) := by
  refine F.ok sc_Line_value (fun vs H Q E h => ?_) (fun cdv A outer s H vs Q E hr h => ?_)
  · obtain ⟨l, n, i, a, rfl, _⟩ := h
    rfl
  · obtain ⟨l, n, i, a, rfl, hL, q⟩ := h
    have R_Ring_lacks := hr
    have R_Ring_given := hr
    refine ⟨_, (pss_cons (ps_if (pt_val (pe_meth (fldK K (pv 0)) T.cl_Ring D_Ring_lacks.m G_Ring_lacks R_Ring_lacks D_Ring_lacks.b .nil pass0 (pa_cons (pv 1) pa_nil)))
    (pss_one (ps_ret (pe_lst (pa_cons (pe_glob (by rfl) T.g_NO_SUCH_CHARACTER T.r_NO_SUCH_CHARACTER) pa_nil))))
    pss_nil)
    (pss_cons (ps_set (i := 3) sc_Line_value.nd rfl (Or.inl rfl) (pe_op op_mod (pv 2) (fldK K (fldK K (pv 0)))))
    (pss_cons (ps_if (pt_cmpR (notInK K) (pv 3) (fldK K (fldK K (pv 0))) (by rfl))
    (pss_one (ps_ret (pe_lst (pa_cons (pe_glob (by rfl) T.g_NOT_A_UNIT T.r_NOT_A_UNIT) pa_nil))))
    pss_nil)
    (pss_one (ps_ret (pe_lst (pa_cons (pe_meth (fldK K (pv 0)) T.cl_Ring D_Ring_given.m G_Ring_given R_Ring_given D_Ring_given.b .nil pass0 (pa_cons (pe_ix (ixl K) (fldK K (fldK K (pv 0))) (pv 1) (fun _ _ => rfl)) (pa_cons (pv 3) pa_nil))) pa_nil))))))), ?_⟩
    obtain ⟨dl, r, hl⟩ := id hL
    obtain ⟨dx, u, c, pl, cv, ra⟩ := hl.r
    have g := got T (σ := start N_Line_value [.ref l, .int (i : Int), .int (a : Int)]) rfl hl.o ra
    have lo := ra.lo
    refine q_when (g.lacks (ev_var rfl)) (fun hb H1 e1 => ?_) (fun hb H1 e1 => ?_)
    · have hb := of_decide_eq_true hb
      exact s_retL (el_lst (ea_cons ev_c ea_nil) (by show 1 ≤ 100000; omega)) fun p H2 hp e2 h2 => q.pure hL rfl (xs := [.int (-2)]) (by show (Na04.withChar ⟨n⟩ i _).map V.int = _; rw [wc_none hb]; rfl) p H2 (fresh_back e1 hp) (e1.trans e2) h2
    · obtain ⟨row, hrow, hmem⟩ := row_of (of_decide_eq_false hb)
      have hlen := RsM.row_len ra.lo ra.hi hmem
      refine q_asg (v := .int ((a % n : Nat) : Int)) (ev_is (ev_op (ev_var rfl) (g.mono e1).nn (rv_I (by show (0 : Int) < (n : Int); omega))) (by show V.int ((a : Int) % (n : Int)) = _; rw [Int.natCast_emod])) fun H2 e2 => ?_
      have g2 := got T (σ := [some (.ref l), some (.int (i : Int)), some (.int (a : Int)), some (.int ((a % n : Nat) : Int))]) rfl ((e1.trans e2) _ _ hl.o) (ra.mono (e1.trans e2))
      refine q_when (et_test (ev_op (ev_var rfl) g2.units (rv_niL (sq_of g2.ra.u) rfl (nV_flat _)))) (fun hb2 H3 e3 => ?_) (fun hb2 H3 e3 => ?_)
      · rw [inV_nV] at hb2
        have hb3 : (Na04.units n).contains (a % n) = false := by simpa using hb2
        exact s_retL (el_lst (ea_cons ev_c ea_nil) (by show 1 ≤ 100000; omega)) fun p H4 hp e4 h4 => q.pure hL rfl (xs := [.int (-3)]) (by
          show (Na04.withChar ⟨n⟩ i _).map V.int = _
          rw [wc_some hrow]
          simp only [Na04.at_, hb3]
          rfl) p H4 (fresh_back ((e1.trans e2).trans e3) hp) (((e1.trans e2).trans e3).trans e4) h4
      · rw [inV_nV] at hb2
        have hb3 : (Na04.units n).contains (a % n) = true := by simpa using hb2
        have hmu : a % n ∈ Na04.units n := by simpa using hb3
        have ix := idx_spec _ _ hmu
        have g3 := g2.mono e3
        obtain ⟨rp, h1, h2⟩ := g3.row (ti := tVar 1) (ev_var rfl) hrow
        have hix : (Na04.units n).idxOf (a % n) < row.length := by
          have := (List.getElem?_eq_some_iff.mp ix.1).1
          omega
        exact s_retL (el_lst (ea_cons (ev_meth g3.ring g3.ra.o (lkR_given n u c pl) (ea_cons h2 (ea_cons (ev_var rfl) ea_nil)) (spv_Ring_given ⟨dx, u, c, pl, cv, g3.ra⟩ h1 hlen hmu)) ea_nil) (by show 1 ≤ 100000; omega)) fun p H4 hp e4 h4 => q.pure hL rfl (xs := [.int ((row.getD ((Na04.units n).idxOf (a % n)) 0 : Nat) : Int)]) (by
          show (Na04.withChar ⟨n⟩ i _).map V.int = _
          rw [wc_some hrow]
          simp only [Na04.at_, hb3, if_true, RsM.tw_idx]
          rfl) p H4 (fresh_back ((e1.trans e2).trans e3) hp) (((e1.trans e2).trans e3).trans e4) h4
end
end Rs
set_option Elab.async false
set_option linter.all false
set_option maxRecDepth 100000
set_option maxHeartbeats 4000000
namespace Rs
open PySem PySem.Spec PyProof.Rows L2 Evl
section
variable {P : Program} {w : World} {K : PySem.W.Frag} {mg : Str → Option Value} {base : Heap} {CR CL TH : Addr}
abbrev s_Line_product : Stmt := inClass (topS 35) 5
abbrev N_Line_product : List Str := ["self", "i", "j", "both"]
theorem sc_Line_product : FnScope N_Line_product ["self", "i", "j"] (defScope s_Line_product) := ⟨rfl, rfl, rfl, by decide +kernel, rfl, by decide +kernel, by decide +kernel⟩
def sp_Line_product (CL CR : Addr) : Sp := fun vs H Q _ => ∃ (l : Addr) (n i j : Nat), vs = [.ref l, .int (i : Int), .int (j : Int)] ∧ IsLine CL CR H l n ∧ RetC CL CR (.product i j) l n H Q
theorem ok_Line_product (T : Txt K mg CR CL TH) {f f1 f2 f3 : Addr} {fd fd1 fd2 fd3 : FuncData} (F : Fun K "product" "Line.product" s_Line_product f fd)
    (D_Ring_lacks : Dm K CR "lacks" ["self", "i"] f1 fd1) (G_Ring_lacks : FnOk P w K mg base CX0 1 f1 fd1 ["self", "i"] (sp_Ring_lacks CR))
    (D_Ring_number_of : Dm K CR "number_of" ["self", "numbers"] f2 fd2) (G_Ring_number_of : FnOk P w K mg base CX0 1 f2 fd2 ["self", "numbers"] (sp_Ring_number_of CR))
    (D_product_of : Df K mg "product_of" ["one", "other", "exponent"] f3 fd3) (G_product_of : FnOk P w K mg base CX0 1 f3 fd3 ["one", "other", "exponent"] sp_product_of) : FnOk P w K mg base CX0 2 f fd ["self", "i", "j"] (sp_Line_product CL CR) := by
  refine F.ok sc_Line_product (fun vs H Q E h => ?_) (fun cdv A outer s H vs Q E hr h => ?_)
  · obtain ⟨l, n, i, j, rfl, _⟩ := h
    rfl
  · obtain ⟨l, n, i, j, rfl, hL, q⟩ := h
    have R_Ring_lacks := hr
    have R_Ring_number_of := hr
    have R_product_of := hr
    refine ⟨_, (pss_cons (ps_if (PW.pt (pw_or (pt_val (pe_meth (fldK K (pv 0)) T.cl_Ring D_Ring_lacks.m G_Ring_lacks R_Ring_lacks D_Ring_lacks.b .nil pass0 (pa_cons (pv 1) pa_nil))) (pw_or1 (pt_val (pe_meth (fldK K (pv 0)) T.cl_Ring D_Ring_lacks.m G_Ring_lacks R_Ring_lacks D_Ring_lacks.b .nil pass0 (pa_cons (pv 2) pa_nil))))))
    (pss_one (ps_ret (pe_lst (pa_cons (pe_glob (by rfl) T.g_NO_SUCH_CHARACTER T.r_NO_SUCH_CHARACTER) pa_nil))))
    pss_nil)
    (pss_cons (ps_set (i := 3) sc_Line_product.nd rfl (Or.inl rfl) (pe_call G_product_of R_product_of (by rfl) D_product_of.mg D_product_of.kp D_product_of.b .nil pass0 (pa_cons (pe_ix (ixl K) (fldK K (fldK K (pv 0))) (pv 1) (fun _ _ => rfl)) (pa_cons (pe_ix (ixl K) (fldK K (fldK K (pv 0))) (pv 2) (fun _ _ => rfl)) (pa_cons (fldK K (fldK K (pv 0))) pa_nil)))))
    (pss_one (ps_ret (pe_lst (pa_cons (pe_meth (fldK K (pv 0)) T.cl_Ring D_Ring_number_of.m G_Ring_number_of R_Ring_number_of D_Ring_number_of.b .nil pass0 (pa_cons (pv 3) pa_nil)) pa_nil)))))), ?_⟩
    obtain ⟨dl, r, hl⟩ := id hL
    obtain ⟨dx, u, c, pl, cv, ra⟩ := hl.r
    have g := got T (σ := start N_Line_product [.ref l, .int (i : Int), .int (j : Int)]) rfl hl.o ra
    have hE := RsM.expo_pos n ra.lo ra.hi
    have hul := RsM.units_len12 n ra.lo ra.hi
    refine q_when (et_or (g.lacks (ev_var rfl)) (fun _ => g.lacks (ev_var rfl))) (fun hb H1 e1 => ?_) (fun hb H1 e1 => ?_)
    · refine s_retL (el_lst (ea_cons ev_c ea_nil) (by show 1 ≤ 100000; omega)) fun p H2 hp e2 h2 => q.pure hL rfl (xs := [.int (-2)]) ?_ p H2 (fresh_back e1 hp) (e1.trans e2) h2
      show (Na04.withChar ⟨n⟩ i _).map V.int = _
      by_cases hi : (Na04.chars n).length ≤ i
      · rw [wc_none hi]; rfl
      · obtain ⟨row, hrow, _⟩ := row_of hi
        rw [wc_some hrow]
        have hj : (Na04.chars n).length ≤ j := by
          rw [decide_eq_false hi, Bool.false_or] at hb
          exact of_decide_eq_true hb
        rw [wc_none hj]
        rfl
    · have hb := Bool.or_eq_false_iff.mp hb
      obtain ⟨row, hrow, hmem⟩ := row_of (of_decide_eq_false hb.1)
      obtain ⟨row2, hrow2, hmem2⟩ := row_of (of_decide_eq_false hb.2)
      have hlen := RsM.row_len ra.lo ra.hi hmem
      have g1 := g.mono e1
      obtain ⟨rp, h1, h2⟩ := g1.row (ti := tVar 1) (ev_var rfl) hrow
      obtain ⟨rp2, h12, h22⟩ := g1.row (ti := tVar 2) (ev_var rfl) hrow2
      refine q_asgL (el_call (ea_cons h2 (ea_cons h22 (ea_cons g1.exponent ea_nil))) (spl_product_of h1 h12 (by omega) (by omega))) fun b H2 hb2 e2 h3 => ?_
      have g2 := got T (σ := [some (.ref l), some (.int (i : Int)), some (.int (j : Int)), some (.ref b)]) rfl ((e1.trans e2) _ _ hl.o) (ra.mono (e1.trans e2))
      refine s_retL (el_lst (ea_cons (ev_meth g2.ring g2.ra.o (lkR_number_of n u c pl) (ea_cons (ev_var rfl) ea_nil) (spv_Ring_number_of ⟨dx, u, c, pl, cv, g2.ra⟩ h3 (RsM.prod_in ra.lo ra.hi hmem hmem2))) ea_nil) (by show 1 ≤ 100000; omega)) fun p H4 hp e4 h4 => q.pure hL rfl ?_ p H4 (fresh_back (e1.trans e2) hp) ((e1.trans e2).trans e4) h4
      show (Na04.withChar ⟨n⟩ i _).map V.int = _
      rw [wc_some hrow, wc_some hrow2]
      rfl
abbrev s_Line_inverse : Stmt := inClass (topS 35) 6
abbrev N_Line_inverse : List Str := ["self", "i"]
theorem sc_Line_inverse : FnScope N_Line_inverse ["self", "i"] (defScope s_Line_inverse) := ⟨rfl, rfl, rfl, by decide +kernel, rfl, by decide +kernel, by decide +kernel⟩
def sp_Line_inverse (CL CR : Addr) : Sp := fun vs H Q _ => ∃ (l : Addr) (n i : Nat), vs = [.ref l, .int (i : Int)] ∧ IsLine CL CR H l n ∧ RetC CL CR (.inverse i) l n H Q
theorem ok_Line_inverse (T : Txt K mg CR CL TH) {f f1 f2 f3 : Addr} {fd fd1 fd2 fd3 : FuncData} (F : Fun K "inverse" "Line.inverse" s_Line_inverse f fd)
    (D_Ring_lacks : Dm K CR "lacks" ["self", "i"] f1 fd1) (G_Ring_lacks : FnOk P w K mg base CX0 1 f1 fd1 ["self", "i"] (sp_Ring_lacks CR))
    (D_Ring_number_of : Dm K CR "number_of" ["self", "numbers"] f2 fd2) (G_Ring_number_of : FnOk P w K mg base CX0 1 f2 fd2 ["self", "numbers"] (sp_Ring_number_of CR))
    (D_inverse_of : Df K mg "inverse_of" ["numbers", "exponent"] f3 fd3) (G_inverse_of : FnOk P w K mg base CX0 1 f3 fd3 ["numbers", "exponent"] sp_inverse_of) : FnOk P w K mg base CX0 2 f fd ["self", "i"] (sp_Line_inverse CL CR) := by
  refine F.ok sc_Line_inverse (fun vs H Q E h => ?_) (fun cdv A outer s H vs Q E hr h => ?_)
  · obtain ⟨l, n, i, rfl, _⟩ := h
    rfl
  · obtain ⟨l, n, i, rfl, hL, q⟩ := h
    have R_Ring_lacks := hr
    have R_Ring_number_of := hr
    have R_inverse_of := hr
    refine ⟨_, (pss_cons (ps_if (pt_val (pe_meth (fldK K (pv 0)) T.cl_Ring D_Ring_lacks.m G_Ring_lacks R_Ring_lacks D_Ring_lacks.b .nil pass0 (pa_cons (pv 1) pa_nil)))
    (pss_one (ps_ret (pe_lst (pa_cons (pe_glob (by rfl) T.g_NO_SUCH_CHARACTER T.r_NO_SUCH_CHARACTER) pa_nil))))
    pss_nil)
    (pss_one (ps_ret (pe_lst (pa_cons (pe_meth (fldK K (pv 0)) T.cl_Ring D_Ring_number_of.m G_Ring_number_of R_Ring_number_of D_Ring_number_of.b .nil pass0 (pa_cons (pe_call G_inverse_of R_inverse_of (by rfl) D_inverse_of.mg D_inverse_of.kp D_inverse_of.b .nil pass0 (pa_cons (pe_ix (ixl K) (fldK K (fldK K (pv 0))) (pv 1) (fun _ _ => rfl)) (pa_cons (fldK K (fldK K (pv 0))) pa_nil))) pa_nil)) pa_nil))))), ?_⟩
    obtain ⟨dl, r, hl⟩ := id hL
    obtain ⟨dx, u, c, pl, cv, ra⟩ := hl.r
    have g := got T (σ := start N_Line_inverse [.ref l, .int (i : Int)]) rfl hl.o ra
    have hE := RsM.expo_pos n ra.lo ra.hi
    have hul := RsM.units_len12 n ra.lo ra.hi
    refine q_when (g.lacks (ev_var rfl)) (fun hb H1 e1 => ?_) (fun hb H1 e1 => ?_)
    · have hb := of_decide_eq_true hb
      exact s_retL (el_lst (ea_cons ev_c ea_nil) (by show 1 ≤ 100000; omega)) fun p H2 hp e2 h2 => q.pure hL rfl (xs := [.int (-2)]) (by show (Na04.withChar ⟨n⟩ i _).map V.int = _; rw [wc_none hb]; rfl) p H2 (fresh_back e1 hp) (e1.trans e2) h2
    · obtain ⟨row, hrow, hmem⟩ := row_of (of_decide_eq_false hb)
      have hlen := RsM.row_len ra.lo ra.hi hmem
      have g1 := g.mono e1
      obtain ⟨rp, h1, h2⟩ := g1.row (ti := tVar 1) (ev_var rfl) hrow
      refine s_retL (el_lst (ea_cons (ev_methL g1.ring g1.ra.o (lkR_number_of n u c pl) (el_call (ea_cons h2 (ea_cons g1.exponent ea_nil)) (spl_inverse_of h1 (by omega) (by omega) (fun v hv => Nat.le_of_lt (RsM.row_le ra.lo ra.hi hmem hv)))) (fun p H2 e2 h3 => spv_Ring_number_of ⟨dx, u, c, pl, cv, g1.ra.mono e2⟩ h3 (RsM.inv_in ra.lo ra.hi hmem))) ea_nil) (by show 1 ≤ 100000; omega)) fun p H4 hp e4 h4 => q.pure hL rfl ?_ p H4 (fresh_back e1 hp) (e1.trans e4) h4
      show (Na04.withChar ⟨n⟩ i _).map V.int = _
      rw [wc_some hrow]
      rfl
abbrev s_Line_from_what : Stmt := inClass (topS 35) 7
abbrev N_Line_from_what : List Str := ["self", "i"]
theorem sc_Line_from_what : FnScope N_Line_from_what ["self", "i"] (defScope s_Line_from_what) := ⟨rfl, rfl, rfl, by decide +kernel, rfl, by decide +kernel, by decide +kernel⟩
def sp_Line_from_what (CL CR : Addr) : Sp := fun vs H Q _ => ∃ (l : Addr) (n i : Nat), vs = [.ref l, .int (i : Int)] ∧ IsLine CL CR H l n ∧ RetC CL CR (.from_ i) l n H Q
theorem ok_Line_from_what (T : Txt K mg CR CL TH) {f f1 f3 : Addr} {fd fd1 fd3 : FuncData} (F : Fun K "from_what" "Line.from_what" s_Line_from_what f fd)
    (D_Ring_lacks : Dm K CR "lacks" ["self", "i"] f1 fd1) (G_Ring_lacks : FnOk P w K mg base CX0 1 f1 fd1 ["self", "i"] (sp_Ring_lacks CR))
    (D_origin_of : Df K mg "origin_of" ["n", "units", "numbers"] f3 fd3) (G_origin_of : FnOk P w K mg base CX0 2 f3 fd3 ["n", "units", "numbers"] sp_origin_of) : FnOk P w K mg base CX0 3 f fd ["self", "i"] (sp_Line_from_what CL CR) := by
  refine F.ok sc_Line_from_what (fun vs H Q E h => ?_) (fun cdv A outer s H vs Q E hr h => ?_)
  · obtain ⟨l, n, i, rfl, _⟩ := h
    rfl
  · obtain ⟨l, n, i, rfl, hL, q⟩ := h
    have R_Ring_lacks := hr.mono (j := 1) (by decide)
    have R_origin_of := hr
    refine ⟨_, (pss_cons (ps_if (pt_val (pe_meth (fldK K (pv 0)) T.cl_Ring D_Ring_lacks.m G_Ring_lacks R_Ring_lacks D_Ring_lacks.b .nil pass0 (pa_cons (pv 1) pa_nil)))
    (pss_one (ps_ret (pe_lst (pa_cons (pe_glob (by rfl) T.g_NO_SUCH_CHARACTER T.r_NO_SUCH_CHARACTER) pa_nil))))
    pss_nil)
    (pss_one (ps_ret (pe_lst (pa_cons (pe_call G_origin_of R_origin_of (by rfl) D_origin_of.mg D_origin_of.kp D_origin_of.b .nil pass0 (pa_cons (fldK K (fldK K (pv 0))) (pa_cons (fldK K (fldK K (pv 0))) (pa_cons (pe_ix (ixl K) (fldK K (fldK K (pv 0))) (pv 1) (fun _ _ => rfl)) pa_nil)))) pa_nil))))), ?_⟩
    obtain ⟨dl, r, hl⟩ := id hL
    obtain ⟨dx, u, c, pl, cv, ra⟩ := hl.r
    have g := got T (σ := start N_Line_from_what [.ref l, .int (i : Int)]) rfl hl.o ra
    have lo := ra.lo
    have hi := ra.hi
    refine q_when (g.lacks (ev_var rfl)) (fun hb H1 e1 => ?_) (fun hb H1 e1 => ?_)
    · have hb := of_decide_eq_true hb
      exact s_retL (el_lst (ea_cons ev_c ea_nil) (by show 1 ≤ 100000; omega)) fun p H2 hp e2 h2 => q.pure hL rfl (xs := [.int (-2)]) (by show (Na04.withChar ⟨n⟩ i _).map V.int = _; rw [wc_none hb]; rfl) p H2 (fresh_back e1 hp) (e1.trans e2) h2
    · obtain ⟨row, hrow, hmem⟩ := row_of (of_decide_eq_false hb)
      have g1 := g.mono e1
      obtain ⟨rp, h1, h2⟩ := g1.row (ti := tVar 1) (ev_var rfl) hrow
      refine s_retL (el_lst (ea_cons (ev_call (ea_cons g1.nn (ea_cons g1.units (ea_cons h2 ea_nil))) (spv_origin_of g1.ra.u h1 (by omega) (by omega))) ea_nil) (by show 1 ≤ 100000; omega)) fun p H4 hp e4 h4 => q.pure hL rfl ?_ p H4 (fresh_back e1 hp) (e1.trans e4) h4
      show (Na04.withChar ⟨n⟩ i _).map V.int = _
      rw [wc_some hrow]
      rfl
abbrev s_Line_chars : Stmt := inClass (topS 35) 2
abbrev N_Line_chars : List Str := ["self", "answer", "numbers"]
theorem sc_Line_chars : FnScope N_Line_chars ["self"] (defScope s_Line_chars) := ⟨rfl, rfl, rfl, by decide +kernel, rfl, by decide +kernel, by decide +kernel⟩
def sp_Line_chars (CL CR : Addr) : Sp := fun vs H Q _ => ∃ (l : Addr) (n : Nat), vs = [.ref l] ∧ IsLine CL CR H l n ∧ RetC CL CR .chars l n H Q
theorem ok_Line_chars (T : Txt K mg CR CL TH) {f : Addr} {fd : FuncData} (F : Fun K "chars" "Line.chars" s_Line_chars f fd) : FnOk P w K mg base CX0 1 f fd ["self"] (sp_Line_chars CL CR) := by
  refine F.ok sc_Line_chars (fun vs H Q E h => ?_) (fun cdv A outer s H vs Q E hr h => ?_)
  · obtain ⟨l, n, rfl, _⟩ := h
    rfl
  · obtain ⟨l, n, rfl, hL, q⟩ := h
    refine ⟨_, (pss_cons (ps_set (i := 1) sc_Line_chars.nd rfl (Or.inl rfl) (pe_lst (pa_cons (pe_callB (lenK K) (by rfl) T.b_len (by decide +kernel) (pa_cons (fldK K (fldK K (pv 0))) pa_nil)) pa_nil)))
    (pss_cons (ps_for PassesOwn.never rfl (pilK K (fldK K (fldK K (pv 0)))) (pg_name (i := 2) sc_Line_chars.nd rfl (Or.inl rfl))
    (pss_one (ps_expr (bmK K PySem.F.plainAttrs_list PySem.F.slot_list_extend PySem.F.type_list_extend mt_extend (pv 1) (pa_cons (pv 2) pa_nil)))))
    (pss_one (ps_ret (pv 1))))), ?_⟩
    obtain ⟨dl, r, hl⟩ := id hL
    obtain ⟨dx, u, c, pl, cv, ra⟩ := hl.r
    have g := got T (σ := start N_Line_chars [.ref l]) rfl hl.o ra
    have hcl := RsM.chars_len ra.lo ra.hi
    have hul := RsM.units_len12 n ra.lo ra.hi
    have hcv : cv.length = (Na04.chars n).length := by rw [ra.cs.len, List.length_map]
    refine q_asgL (xs := [.int (((Na04.chars n).length : Nat) : Int)]) (el_lst (ea_cons (ev_is (ev_len g.characters (sq_of ra.c)) (by rw [hcv])) ea_nil) (by show 1 ≤ 100000; omega)) fun L H1 hL1 e1 h1 => ?_
    have g1 := got T (σ := [some (.ref l), some (.ref L), none]) rfl (e1 _ _ hl.o) (ra.mono e1)
    refine q_forLn (K := K) (xs := cv) g1.characters (sq_of g1.ra.c) (fun i σ' H' => Ex H H' ∧ ∃ z : Option V, i ≤ cv.length ∧ H' L = some (.lst (nV ((Na04.chars n).length :: ((Na04.chars n).take i).flatten))) ∧ ((Na04.chars n).take i).flatten.length ≤ i * 12 ∧ σ' = [some (.ref l), some (.ref L), z])
      (fun H2 e2 => ⟨e1.trans e2, none, Nat.zero_le _, e2 _ _ h1, by simp, rfl⟩) (fun i σ' H' _ hP => sq_of (hP.1 _ _ ra.c)) (fun i x σ' H2 hx hP => ?_) (fun σ' H2 hP => ?_)
    · obtain ⟨e2, z, hi, hL2, hfl, rfl⟩ := hP
      obtain ⟨cp, cr, rfl, hcr, hcp⟩ := ra.cs.of hx
      rw [List.getElem?_map] at hcr
      cases hc : (Na04.chars n)[i]? with
      | none => rw [hc] at hcr; cases hcr
      | some row =>
        rw [hc] at hcr
        have hcr : nV row = cr := Option.some.inj hcr
        subst hcr
        have hlen := RsM.row_len ra.lo ra.hi (List.mem_of_getElem? hc)
        have hil : i < cv.length := (List.getElem?_eq_some_iff.mp hx).1
        have etk : ((Na04.chars n).take (i + 1)).flatten = ((Na04.chars n).take i).flatten ++ row := by
          rw [List.take_add_one, hc, List.flatten_append]
          simp
        refine s_ext (K := K) hL2 (ev_var rfl) (ev_var rfl) (e2 _ _ hcp) ?_ fun H3 e3 => ⟨Ex.mut (e2.trans e3) hL1, _, by omega, ?_, ?_, rfl⟩
        · rw [nV_len, nV_len, List.length_cons]
          exact Nat.le_trans (show _ ≤ 100000 by omega) (by decide)
        · rw [etk, ← List.cons_append, nV_append]
          exact upd_same
        · rw [etk, List.length_append]
          omega
    · obtain ⟨e2, z, hi, hL2, hfl, rfl⟩ := hP
      rw [hcv, List.take_length] at hL2
      refine s_ret (ev_var rfl) fun H3 e3 => q.pure hL rfl ?_ L H3 hL1 (e2.trans e3) (e3 _ _ hL2)
      show (Na04.ints ((Na04.chars n).length :: (Na04.chars n).flatten)).map V.int = _
      rw [map_ints]
abbrev s_Line_round_of : Stmt := inClass (topS 35) 1
abbrev N_Line_round_of : List Str := ["self", "n"]
theorem sc_Line_round_of : FnScope N_Line_round_of ["self", "n"] (defScope s_Line_round_of) := ⟨rfl, rfl, rfl, by decide +kernel, rfl, by decide +kernel, by decide +kernel⟩
def sp_Line_round_of (CL CR : Addr) : Sp := fun vs H Q _ => ∃ (l : Addr) (n m : Nat), vs = [.ref l, .int (m : Int)] ∧ IsLine CL CR H l n ∧ RetC CL CR (.round m) l n H Q
theorem ok_Line_round_of (T : Txt K mg CR CL TH) {f f1 : Addr} {fd fd1 : FuncData} (F : Fun K "round_of" "Line.round_of" s_Line_round_of f fd)
    (M_Ring : Mk K CR f1) (b_Ring___init__ : Binds K fd1 ["self", "n"] []) (G_Ring___init__ : FnOk P w K mg base CX0 5 f1 fd1 ["self", "n"] (sp_Ring___init__ CR)) : FnOk P w K mg base CX0 7 f fd ["self", "n"] (sp_Line_round_of CL CR) := by
  refine F.ok sc_Line_round_of (fun vs H Q E h => ?_) (fun cdv A outer s H vs Q E hr h => ?_)
  · obtain ⟨l, n, m, rfl, _⟩ := h
    rfl
  · obtain ⟨l, n, m, rfl, hL, q⟩ := h
    have R_Ring := hr
    refine ⟨_, (pss_cons (ps_if (PW.pt (pw_or (pt_cmpR op_lt (pv 1) (pe_glob (by rfl) T.g_FIRST_ROUND T.r_FIRST_ROUND) (nomark _)) (pw_or1 (pt_cmpR op_gt (pv 1) (pe_glob (by rfl) T.g_LAST_ROUND T.r_LAST_ROUND) (nomark _)))))
    (pss_one (ps_ret (pe_lst (pa_cons (pe_glob (by rfl) T.g_NO_SUCH_ROUND T.r_NO_SUCH_ROUND) pa_nil))))
    pss_nil)
    (pss_cons (sfldK K (pv 0) (pe_make M_Ring G_Ring___init__ R_Ring (by rfl) T.g_Ring b_Ring___init__ .nil pass0 (pa_cons (pv 1) pa_nil)))
    (pss_one (ps_ret (pe_lst (pa_cons (pe_callB (lenK K) (by rfl) T.b_len (by decide +kernel) (pa_cons (fldK K (fldK K (pv 0))) pa_nil)) (pa_cons (fldK K (fldK K (pv 0))) (pa_cons (fldK K (fldK K (pv 0))) pa_nil)))))))), ?_⟩
    obtain ⟨dl, r, hl⟩ := id hL
    refine q_when (et_or (et_test (ev_op (ev_var rfl) ev_c rv_I0)) (fun _ => et_test (ev_op (ev_var rfl) ev_c rv_I0))) (fun hb H1 e1 => ?_) (fun hb H1 e1 => ?_)
    · have hm : m < 2 ∨ 13 < m := by
        rcases Bool.or_eq_true_iff.mp hb with h | h
        · have := of_decide_eq_true h; omega
        · have := of_decide_eq_true h; omega
      have est : Na04.step ⟨n⟩ (.round m) = (⟨n⟩, [-1]) := if_pos hm
      exact s_retL (el_lst (ea_cons ev_c ea_nil) (by show 1 ≤ 100000; omega)) fun p H2 hp e2 h2 => q.pure hL (by rw [est]) (xs := [.int (-1)]) (by rw [est]; rfl) p H2 (fresh_back e1 hp) (e1.trans e2) h2
    · have hb := Bool.or_eq_false_iff.mp hb
      have h1 := of_decide_eq_false hb.1
      have h2 := of_decide_eq_false hb.2
      have hm : ¬ (m < 2 ∨ 13 < m) := by omega
      have est : Na04.step ⟨n⟩ (.round m) = (⟨m⟩, Na04.ints [(Na04.units m).length, Na04.exponent m, Na04.fine m]) := if_neg hm
      refine q_fldP (ep_ring (n := m) (CR := CR) (ev_var rfl) (by omega) (by omega)) (ev_var rfl) (e1 _ _ hl.o) T.cl_Line T.na_ring (by show 1 < 1000; omega) (fun _ _ _ e ⟨r, h1, h2⟩ => ⟨r, h1, h2.mono (sub_mono e)⟩) fun y H2 e2 hy => ?_
      obtain ⟨r2, rfl, dx, u, c, pl, cv, ras⟩ := hy
      have ra := ras.mono (Ex.sub _ _)
      rw [put_here]
      have hl2 := e2 _ _ (e1 _ _ hl.o)
      have ra2 := ra.upd (o := .ins CL dl [("ring", .ref r2)]) hl2
      have d2 : Ex (del H l) (L2.upd H2 l (.ins CL dl [("ring", .ref r2)])) := Ex.mut ((Ex.del2 e1 l).trans e2) del_self
      have o2 : (L2.upd H2 l (.ins CL dl [("ring", .ref r2)])) l = some (.ins CL dl [("ring", .ref r2)]) := upd_same
      have sep : ∀ t, H t ≠ none → t ≠ l → RingAt CR (del (L2.upd H2 l (.ins CL dl [("ring", .ref r2)])) t) r2 m dx u c pl cv := fun t ht htl => by
        have hs := ras.mono (sub_anti (H' := H2) e1)
        refine hs.mono fun b o hb => ?_
        obtain ⟨hb1, hb2⟩ := of_sub hb
        have n1 : b ≠ t := fun e => ht (by rw [← e]; exact hb1)
        have n2 : b ≠ l := fun e => by rw [e, hl.o] at hb1; cases hb1
        exact del_of (by rw [upd_ne n2]; exact hb2) n1
      have fr : ∀ p, (L2.upd H2 l (.ins CL dl [("ring", .ref r2)])) p = none → H p = none := fun p hp => by
        by_cases e : p = l
        · rw [e, o2] at hp; cases hp
        · rw [upd_ne e] at hp
          exact fresh_back (e1.trans e2) hp
      generalize L2.upd H2 l (.ins CL dl [("ring", .ref r2)]) = H2' at *
      have g := got T (σ := start N_Line_round_of [.ref l, .int (m : Int)]) rfl o2 ra2
      refine s_retL (xs := nV [(Na04.units m).length, Na04.exponent m, Na04.fine m]) (el_lst (ea_cons (ev_is (ev_len g.units (sq_of g.ra.u)) (by rw [nV_len])) (ea_cons g.exponent (ea_cons g.parts ea_nil))) (by show 3 ≤ 100000; omega)) fun p H3 hp e3 h3 => ?_
      refine q p H3 (by rw [est]; exact ⟨dl, r2, e3 _ _ o2, dx, u, c, pl, cv, ra2.mono e3⟩) (fun t ht hLt => ?_) (d2.trans e3) (fr p hp) ?_
      · rw [est]
        have htl : t ≠ l := fun e => by
          obtain ⟨dl', r', hl'⟩ := hLt
          have := hl'.o
          rw [e, del_self] at this
          cases this
        exact ⟨dl, r2, del_of (e3 _ _ o2) (fun e => htl e.symm), dx, u, c, pl, cv, (sep t ht htl).mono (del_mono e3 t)⟩
      rw [est, map_ints]
      exact h3
end
end Rs
set_option Elab.async false
set_option linter.all false
set_option maxRecDepth 100000
set_option maxHeartbeats 4000000
namespace Rs
open PySem PySem.Spec PyProof.Rows L2 Evl
def gpow (n : Nat) (row : List Nat) (a : Nat) : List Nat := ((Na04.units n).zip row).map fun x => x.2 * (Na04.fine n / Na04.exponent n) + a * x.1 % n * (Na04.fine n / n)
theorem gauss_gpow (n : Nat) (row : List Nat) (a : Nat) : Na04.gauss n row a = Na04.ofPowers (Na04.fine n) (gpow n row a) := rfl
theorem filter_true {α : Type} (l : List α) : l.filter (fun _ => true) = l := List.filter_eq_self.mpr fun _ _ => rfl
section
variable {P : Program} {w : World} {K : PySem.W.Frag} {mg : Str → Option Value} {base : Heap} {CR CL TH : Addr}
theorem ev_quo (T : Txt K mg CR CL TH) {σ : L2.St} {H : Hp} {ta tb : TE} {a b : Nat} (ha : Ev ta σ H (.int (a : Int))) (hb : Ev tb σ H (.int (b : Int))) (h1 : 1 ≤ b) (h2 : b ≤ 1000) : Ev (tOp (rI CDiv fun i j => .int (i / j)) ta tb) σ H (.int ((a / b : Nat) : Int)) :=
  ev_is (ev_op ha hb (rv_I ⟨by omega, by omega⟩)) (by show V.int ((a : Int) / (b : Int)) = _; rw [Int.natCast_ediv])
/-! ### gauss_powers -/
abbrev s_gauss_powers : Stmt := topS 22
abbrev N_gauss_powers : List Str := ["ring", "numbers", "a", "for_value", "for_rest", "u", "v"]
theorem sc_gauss_powers : FnScope N_gauss_powers ["ring", "numbers", "a"] (defScope s_gauss_powers) := ⟨rfl, rfl, rfl, by decide +kernel, rfl, by decide +kernel, by decide +kernel⟩
def sp_gauss_powers (CR : Addr) : Sp := fun vs H Q _ => ∃ (p rp : Addr) (n a : Nat) (row : List Nat), vs = [.ref p, .ref rp, .int (a : Int)] ∧ IsRing CR H p n ∧ H rp = some (.lst (nV row)) ∧ RetL (nV (gpow n row a)) H Q
theorem ok_gauss_powers (T : Txt K mg CR CL TH) {f : Addr} {fd : FuncData} (F : Fun K "gauss_powers" "gauss_powers" s_gauss_powers f fd) : FnOk P w K mg base CX0 1 f fd ["ring", "numbers", "a"] (sp_gauss_powers CR) := by
  refine F.ok sc_gauss_powers (fun vs H Q E h => ?_) (fun cdv A outer s H vs Q E hr h => ?_)
  · obtain ⟨p, rp, n, a, row, rfl, _⟩ := h
    rfl
  · obtain ⟨p, rp, n, a, row, rfl, ⟨dx, u, c, pl, cv, r⟩, hrow, q⟩ := h
    refine ⟨_, (pss_cons (ps_set (i := 3) sc_gauss_powers.nd rfl (Or.inr rfl) (pe_op op_fdiv (fldK K (pv 0)) (fldK K (pv 0))))
    (pss_cons (ps_set (i := 4) sc_gauss_powers.nd rfl (Or.inr rfl) (pe_op op_fdiv (fldK K (pv 0)) (fldK K (pv 0))))
    (pss_one (ps_ret (pe_lc (own := [("u", 5), ("v", 6)]) (g := (gTup K 2 (gCons (gName 5) (gCons (gName 6) gNil)))) (tt := tYes) (by rfl) sc_gauss_powers.nd (pi_zip (by rfl) T.b_zip (pa_cons (fldK K (pv 0)) (pa_cons (pv 1) pa_nil))) (blkOk_by (own := [("u", 5), ("v", 6)]) (N := N_gauss_powers) (sc := defScope s_gauss_powers) (by decide +kernel)) (fun _ _ _ _ _ => (pg_tup rfl (pgs_cons (pg_name (i := 5) sc_gauss_powers.nd rfl (Or.inl rfl)) (pgs_cons (pg_name (i := 6) sc_gauss_powers.nd rfl (Or.inl rfl)) pgs_nil)))) (fun _ _ _ _ _ => pts_nil) (fun _ _ _ _ _ => (pe_op op_add (pe_op op_mul (pv 6) (pv 3)) (pe_op op_mul (pe_op op_mod (pe_op op_mul (pv 2) (pv 5)) (fldK K (pv 0))) (pv 4))))))))), ?_⟩
    have lo := r.lo
    have hi := r.hi
    have hfl := RsP.fine_le n lo hi
    have hul := RsM.units_len12 n lo hi
    have b1 : Na04.fine n / Na04.exponent n ≤ 200 := Nat.le_trans (Nat.div_le_self _ _) hfl.2.1
    have b2 : Na04.fine n / n ≤ 200 := Nat.le_trans (Nat.div_le_self _ _) hfl.2.1
    refine q_asg (ev_quo T (ev_fld (ev_var rfl) r.o T.cl_Ring T.na_parts (lkR_parts n u c pl)) (ev_fld (ev_var rfl) r.o T.cl_Ring T.na_exponent (lkR_exponent n u c pl)) (by omega) (by omega)) fun H1 e1 => ?_
    have r1 := r.mono e1
    refine q_asg (ev_quo T (ev_fld (ev_var rfl) r1.o T.cl_Ring T.na_parts (lkR_parts n u c pl)) (ev_fld (ev_var rfl) r1.o T.cl_Ring T.na_n (lkR_n n u c pl)) (by omega) (by omega)) fun H2 e2 => ?_
    have r2 := r1.mono e2
    generalize hfv : Na04.fine n / Na04.exponent n = fv at *
    generalize hfr : Na04.fine n / n = fr at *
    have hrow2 := (e1.trans e2) _ _ hrow
    refine s_retL (xs := nV (gpow n row a)) ?_ fun p' H3 hp' e3 h3 => q p' H3 (fresh_back (e1.trans e2) hp') ((e1.trans e2).trans e3) h3
    have eg : nV (gpow n row a) = (((Na04.units n).zip row).filter fun _ => true).map fun x => V.int ((x.2 * fv + a * x.1 % n * fr : Nat) : Int) := by
      rw [filter_true]
      unfold nV gpow
      rw [List.map_map, hfv, hfr]
      rfl
    rw [eg]
    refine el_lcZM (K := K) (fun (n : Nat) => V.int (n : Int)) (fun (n : Nat) => V.int (n : Int)) (as := Na04.units n) (bs := row) (fun _ => true) _ (ea_cons (ev_fld (ev_var rfl) r2.o T.cl_Ring T.na_units (lkR_units n u c pl)) (ea_cons (ev_var rfl) ea_nil)) (sq_of r2.u) (sq_of hrow2) (by rw [List.length_zip]; omega) (fun _ _ => rfl) (fun x y H3 e3 hm => et_yes) (fun x y H3 e3 hm _ => ?_)
    have hx := RsM.units_lt (List.of_mem_zip hm).1
    refine ev_is (ev_op (ev_op (ev_var rfl) (ev_var rfl) (rv_I (.inr ⟨by omega, by omega⟩))) (ev_op (ev_op (ev_op (ev_var rfl) (ev_var rfl) (rv_I (.inr ⟨by omega, by omega⟩))) (ev_fld (ev_var rfl) (e3 _ _ r2.o) T.cl_Ring T.na_n (lkR_n n u c pl)) (rv_I (by show (0 : Int) < (n : Int); omega))) (ev_var rfl) (rv_I (.inr ⟨by omega, by omega⟩))) rv_I0) ?_
    show V.int ((y : Int) * (fv : Int) + (a : Int) * (x : Int) % (n : Int) * (fr : Int)) = V.int ((y * fv + a * x % n * fr : Nat) : Int)
    rw [Int.natCast_add, Int.natCast_mul, Int.natCast_mul, Int.natCast_emod, Int.natCast_mul]
theorem spl_gauss_powers {H : Hp} {p rp : Addr} {n a : Nat} {row : List Nat} (r : IsRing CR H p n) (h : H rp = some (.lst (nV row))) : SpL (sp_gauss_powers CR) [.ref p, .ref rp, .int (a : Int)] H (nV (gpow n row a)) := fun H1 e Q q E => ⟨p, rp, n, a, row, rfl, r.mono e, e _ _ h, q⟩
/-! ### size_powers -/
abbrev s_size_powers : Stmt := topS 23
abbrev N_size_powers : List Str := ["powers", "longer", "power", "back"]
theorem sc_size_powers : FnScope N_size_powers ["powers"] (defScope s_size_powers) := ⟨rfl, rfl, rfl, by decide +kernel, rfl, by decide +kernel, by decide +kernel⟩
def sp_size_powers : Sp := fun vs H Q _ => ∃ (p : Addr) (l : List Nat), vs = [.ref p] ∧ H p = some (.lst (nV l)) ∧ l.length ≤ 100 ∧ RetL (iV (RsP.quots l)) H Q
theorem ok_size_powers (T : Txt K mg CR CL TH) {f : Addr} {fd : FuncData} (F : Fun K "size_powers" "size_powers" s_size_powers f fd) : FnOk P w K mg base CX0 1 f fd ["powers"] sp_size_powers := by
  refine F.ok sc_size_powers (fun vs H Q E h => ?_) (fun cdv A outer s H vs Q E hr h => ?_)
  · obtain ⟨p, l, rfl, _⟩ := h
    rfl
  · obtain ⟨p, l, rfl, hp, hl, q⟩ := h
    refine ⟨_, (pss_cons (ps_set (i := 1) sc_size_powers.nd rfl (Or.inl rfl) (pe_lst pa_nil))
    (pss_cons (ps_for PassesOwn.never rfl (pilK K (pv 0)) (pg_name (i := 2) sc_size_powers.nd rfl (Or.inr rfl))
    (pss_one (ps_expr (bmK K PySem.F.plainAttrs_list PySem.F.slot_list_extend PySem.F.type_list_extend mt_extend (pv 1) (pa_cons (pe_lc (own := [("back", 3)]) (g := (gName 3)) (tt := tYes) (by rfl) sc_size_powers.nd (pilK K (pv 0)) (blkOk_by (own := [("back", 3)]) (N := N_size_powers) (sc := defScope s_size_powers) (by decide +kernel)) (fun _ _ _ _ _ => (pg_name (i := 3) sc_size_powers.nd rfl (Or.inl rfl))) (fun _ _ _ _ _ => pts_nil) (fun _ _ _ _ _ => (pe_op op_sub (pv 2) (pv 3)))) pa_nil)))))
    (pss_one (ps_ret (pv 1))))), ?_⟩
    refine q_asgL (xs := []) (el_lst ea_nil (Nat.zero_le _)) fun L H1 hL e1 h1 => ?_
    refine q_forLn (K := K) (xs := nV l) (ev_var rfl) (sq_of (e1 _ _ hp)) (fun i σ' H' => Ex H H' ∧ ∃ z : Option V, i ≤ l.length ∧ H' L = some (.lst (iV ((l.take i).flatMap fun (a : Nat) => l.map fun (b : Nat) => (a : Int) - (b : Int)))) ∧ ((l.take i).flatMap fun (a : Nat) => l.map fun (b : Nat) => (a : Int) - (b : Int)).length = i * l.length ∧ σ' = [some (.ref p), some (.ref L), z, none])
      (fun H2 e2 => ⟨e1.trans e2, none, Nat.zero_le _, e2 _ _ h1, by simp, rfl⟩) (fun i σ' H' _ hP => sq_of (hP.1 _ _ hp)) (fun i x σ' H2 hx hP => ?_) (fun σ' H2 hP => ?_)
    · obtain ⟨e2, z, hi, hL2, hfl, rfl⟩ := hP
      obtain ⟨a, ha, rfl⟩ := nV_of hx
      have hil := (List.getElem?_eq_some_iff.mp ha).1
      have etk : ((l.take (i + 1)).flatMap fun (a : Nat) => l.map fun (b : Nat) => (a : Int) - (b : Int)) = ((l.take i).flatMap fun (a : Nat) => l.map fun (b : Nat) => (a : Int) - (b : Int)) ++ l.map fun (b : Nat) => (a : Int) - (b : Int) := by
        rw [List.take_add_one, ha, List.flatMap_append]
        simp
      have hmul : i * l.length ≤ 100 * 100 := Nat.mul_le_mul (by omega) hl
      have enew : EvL (tLc (iList K (tVar 0)) (gName 3) tYes (tOp (rI0 fun i j => .int (i - j)) (tVar 2) (tVar 3)) [3]) [some (.ref p), some (.ref L), some (.int (a : Int)), none] H2 (iV (l.map fun (b : Nat) => (a : Int) - (b : Int))) := by
        have eg : iV (l.map fun (b : Nat) => (a : Int) - (b : Int)) = (l.filter fun _ => true).map fun (b : Nat) => V.int ((a : Int) - (b : Int)) := by
          rw [filter_true]
          unfold iV
          rw [List.map_map]
          rfl
        rw [eg]
        exact el_lcM (K := K) (fun (n : Nat) => V.int (n : Int)) (ns := l) (fun _ => true) _ (ev_var rfl) (sq_of (e2 _ _ hp)) (by omega) (fun _ => rfl) (fun x H3 e3 hm => et_yes) (fun x H3 e3 hm _ => ev_op (ev_var rfl) (ev_var rfl) rv_I0)
      refine s_extN (K := K) hL2 (ev_var rfl) enew ?_ fun H3 e3 => ⟨Ex.mut (e2.trans e3) hL, _, by omega, ?_, ?_, rfl⟩
      · rw [iV_len, iV_len, List.length_map, hfl]
        exact Nat.le_trans (show _ ≤ 100000 by omega) (by decide)
      · rw [etk, iV_append]
        exact upd_same
      · rw [etk, List.length_append, hfl, List.length_map, Nat.succ_mul]
    · obtain ⟨e2, z, hi, hL2, hfl, rfl⟩ := hP
      rw [nV_len, List.take_length] at hL2
      exact s_ret (ev_var rfl) fun H3 e3 => q L H3 hL (e2.trans e3) (e3 _ _ hL2)
theorem spl_size_powers {H : Hp} {p : Addr} {l : List Nat} (h : H p = some (.lst (nV l))) (hl : l.length ≤ 100) : SpL sp_size_powers [.ref p] H (iV (RsP.quots l)) := fun H1 e Q q E => ⟨p, l, rfl, e _ _ h, hl, q⟩
/-! ### told_sum -/
abbrev s_told_sum : Stmt := topS 25
abbrev N_told_sum : List Str := ["powers", "m", "polynomial", "numbers", "power", "left"]
theorem sc_told_sum : FnScope N_told_sum ["powers", "m", "polynomial"] (defScope s_told_sum) := ⟨rfl, rfl, rfl, by decide +kernel, rfl, by decide +kernel, by decide +kernel⟩
def sp_told_sum : Sp := fun vs H Q _ => ∃ (p pl : Addr) (ps : List Int) (m d : Nat) (cf : Nat → Int), vs = [.ref p, .int (m : Int), .ref pl] ∧ H p = some (.lst (iV ps)) ∧ H pl = some (.lst (iV (Na04.circle m))) ∧ RsP.Mon (Na04.circle m) d cf ∧ d ≤ m ∧ 1 ≤ m ∧ m ≤ 200 ∧ RetL (iV (Na04.shown (Na04.ofPowers m (RsP.rd m ps)))) H Q
theorem ok_told_sum (T : Txt K mg CR CL TH) {f f1 : Addr} {fd fd1 : FuncData} (F : Fun K "told_sum" "told_sum" s_told_sum f fd)
    (D_rest_of : Df K mg "rest_of" ["numbers", "divisor"] f1 fd1) (G_rest_of : FnOk P w K mg base CX0 2 f1 fd1 ["numbers", "divisor"] sp_rest_of) : FnOk P w K mg base CX0 3 f fd ["powers", "m", "polynomial"] sp_told_sum := by
  refine F.ok sc_told_sum (fun vs H Q E h => ?_) (fun cdv A outer s H vs Q E hr h => ?_)
  · obtain ⟨p, pl, ps, m, d, cf, rfl, _⟩ := h
    rfl
  · obtain ⟨p, pl, ps, m, d, cf, rfl, hp, hpl, M, hdm, hm1, hm2, q⟩ := h
    have R_rest_of := hr
    refine ⟨_, (pss_cons (ps_set (i := 3) sc_told_sum.nd rfl (Or.inl rfl) (pe_op op_rep (pe_lst (pa_cons pe_int pa_nil)) (pv 1)))
    (pss_cons (ps_for PassesOwn.never rfl (pilK K (pv 0)) (pg_name (i := 4) sc_told_sum.nd rfl (Or.inl rfl))
    (pss_one (ps_augL (pv 3) (pe_op op_mod (pv 4) (pv 1)) pe_int ip_add)))
    (pss_cons (ps_set (i := 5) sc_told_sum.nd rfl (Or.inl rfl) (pe_call G_rest_of R_rest_of (by rfl) D_rest_of.mg D_rest_of.kp D_rest_of.b .nil pass0 (pa_cons (pv 3) (pa_cons (pv 2) pa_nil))))
    (pss_one (ps_ret (pe_op op_cat (pe_lst (pa_cons (pe_callB (lenK K) (by rfl) T.b_len (by decide +kernel) (pa_cons (pv 5) pa_nil)) pa_nil)) (pv 5))))))), ?_⟩
    have hsm : ∀ x ∈ Na04.circle m, x.natAbs ≤ 1000 := by
      rw [RsP.circle_ct hm1 hm2]
      obtain ⟨_, _, _, _, _, h⟩ := RsP.ct_all hm1 hm2
      exact h
    refine q_asgL (xs := iV (RsP.cnts m [])) ?_ fun N H1 hN e1 h1 => ?_
    · have : iV (RsP.cnts m []) = (List.replicate m [V.int 0]).flatten := by
        rw [RsP.cnts_nil, rep_one]
        unfold iV
        rw [List.map_replicate]
      rw [this]
      exact el_rep (l := p) (xs := [V.int 0]) (el_lst (ea_cons ev_c ea_nil) (by show 1 ≤ 100000; omega)) (ev_var rfl) (by show 1 * m ≤ 1000000; omega) (by omega)
    refine q_forLn (K := K) (xs := iV ps) (ev_var rfl) (sq_of (e1 _ _ hp)) (fun i σ' H' => Ex H H' ∧ ∃ z : Option V, H' N = some (.lst (iV (RsP.cnts m (RsP.rd m (ps.take i))))) ∧ σ' = [some (.ref p), some (.int (m : Int)), some (.ref pl), some (.ref N), z, none])
      (fun H2 e2 => ⟨e1.trans e2, none, e2 _ _ h1, rfl⟩) (fun i σ' H' _ hP => sq_of (hP.1 _ _ hp)) (fun i x σ' H2 hx hP => ?_) (fun σ' H2 hP => ?_)
    · obtain ⟨e2, z, hN2, rfl⟩ := hP
      obtain ⟨v, hv, rfl⟩ := iV_of hx
      have hv0 : 0 ≤ v % (m : Int) := Int.emod_nonneg _ (by omega)
      have hv1 : v % (m : Int) < (m : Int) := Int.emod_lt_of_pos _ (by omega)
      generalize hk : (v % (m : Int)).toNat = k
      have hk1 : ((k : Nat) : Int) = v % (m : Int) := by rw [← hk]; exact Int.toNat_of_nonneg hv0
      have hkm : k < m := by omega
      have etk : RsP.rd m (ps.take (i + 1)) = RsP.rd m (ps.take i) ++ [k] := by
        rw [List.take_add_one, hv, RsP.rd_append]
        congr 1
        show [(v % (m : Int)).toNat] = [k]
        rw [hk]
      have hget : (iV (RsP.cnts m (RsP.rd m (ps.take i))))[k]? = some (.int ((((RsP.rd m (ps.take i)).filter fun z => z % m == k).length : Nat) : Int)) := by
        unfold iV
        rw [List.getElem?_map, RsP.cnts_get _ hkm]
        rfl
      refine s_augL (j := k) hN2 (ev_var rfl) (ev_is (ev_op (ev_var rfl) (ev_var rfl) (rv_I (by show (0 : Int) < (m : Int); omega))) (by show V.int (v % (m : Int)) = _; rw [hk1])) hget ev_c fun H3 e3 => ⟨Ex.mut (e2.trans e3) hN, _, ?_, rfl⟩
      rw [etk, RsP.cnts_snoc _ hkm, iV_set]
      exact upd_same
    · obtain ⟨e2, z, hN2, rfl⟩ := hP
      rw [iV_len, List.take_length] at hN2
      refine q_asgL (el_call (ea_cons (ev_var rfl) (ea_cons (ev_var rfl) ea_nil)) (spl_rest_of hN2 (e2 _ _ hpl) M (by rw [RsP.cnts_len]; exact hdm) (by rw [RsP.cnts_len]; omega) hsm)) fun le H3 hle e3 h3 => ?_
      rw [← RsP.reduce_tl M, ← RsP.ofPowers_cnts] at h3
      have hlen : (Na04.ofPowers m (RsP.rd m ps)).length = d := by rw [RsP.ofPowers_cnts, RsP.reduce_tl M, RsP.tl_len]
      refine s_retL (xs := iV (Na04.shown (Na04.ofPowers m (RsP.rd m ps)))) ?_ fun p' H4 hp' e4 h4 => q p' H4 (fresh_back (e2.trans e3) hp') ((e2.trans e3).trans e4) h4
      exact el_catNV (xs := [V.int (((Na04.ofPowers m (RsP.rd m ps)).length : Nat) : Int)]) (ys := iV (Na04.ofPowers m (RsP.rd m ps))) (el_lst (ea_cons (ev_is (ev_len (ev_var rfl) (sq_of h3)) (by rw [iV_len])) ea_nil) (by show 1 ≤ 100000; omega)) (ev_var rfl) h3 (by rw [iV_len, hlen]; show 1 + d ≤ 100000; omega)
theorem spl_told_sum {H : Hp} {p pl : Addr} {ps : List Int} {m d : Nat} {cf : Nat → Int} (hp : H p = some (.lst (iV ps))) (hpl : H pl = some (.lst (iV (Na04.circle m)))) (M : RsP.Mon (Na04.circle m) d cf) (hd : d ≤ m) (h1 : 1 ≤ m) (h2 : m ≤ 200) : SpL sp_told_sum [.ref p, .int (m : Int), .ref pl] H (iV (Na04.shown (Na04.ofPowers m (RsP.rd m ps)))) :=
  fun H1 e Q q E => ⟨p, pl, ps, m, d, cf, rfl, e _ _ hp, e _ _ hpl, M, hd, h1, h2, q⟩
end
end Rs
set_option Elab.async false
set_option linter.all false
set_option maxRecDepth 100000
set_option maxHeartbeats 4000000
namespace Rs
open PySem PySem.Spec PyProof.Rows L2 Evl
section
variable {K : PySem.W.Frag} {σ : L2.St} {H H' : Hp} {ta tb te tl tc : TE} {D : Ends} {tz : TS} {v x y z : V}
/-- f(a new list, b, c) -/
theorem el_call1L {sp : Sp} {E : XK} {xs ys : List V} (h : EvL tl σ H xs) (hb : Ev tb σ H y) (hc : Ev tc σ H z) (hs : ∀ p H1, Ex H H1 → H1 p = some (.lst xs) → SpL sp [.ref p, y, z] H1 ys) : EvL (tCall sp [] E (tCons tl (tCons tb (tCons tc tNil)))) σ H ys := fun H1 e Q q =>
  h H1 e _ fun p H2 _ e2 hp => hb H2 (e.trans e2) _ fun H3 e3 => hc H3 ((e.trans e2).trans e3) _ fun H4 e4 => hs p H4 (((e.trans e2).trans e3).trans e4) ((e3.trans e4) _ _ hp) H4 (Ex.refl _) Q (fun p' H5 hp' e5 h5 => q p' H5 (fresh_back ((e2.trans e3).trans e4) hp') (((e2.trans e3).trans e4).trans e5) h5) E
end
theorem at_yes {n x : Nat} {c : List Nat} (h : x % n ∈ Na04.units n) : Na04.at_ n c x = some (c.getD ((Na04.units n).idxOf (x % n)) 0) := by
  unfold Na04.at_
  rw [if_pos (List.contains_iff_mem.mpr h), RsM.tw_idx]
theorem at_no {n x : Nat} {c : List Nat} (h : ¬ x % n ∈ Na04.units n) : Na04.at_ n c x = none := by
  unfold Na04.at_
  rw [if_neg (fun z => h (List.contains_iff_mem.mp z))]
theorem last_unit : ∀ n, 2 ≤ n → n ≤ 13 → n - 1 ∈ Na04.units n := RsM.each (by decide +kernel)
section
variable {P : Program} {w : World} {K : PySem.W.Frag} {mg : Str → Option Value} {base : Heap} {CR CL TH : Addr}
abbrev s_joint_powers : Stmt := topS 24
abbrev N_joint_powers : List Str := ["ring", "one", "other", "for_value", "powers", "y", "less"]
theorem sc_joint_powers : FnScope N_joint_powers ["ring", "one", "other"] (defScope s_joint_powers) := ⟨rfl, rfl, rfl, by decide +kernel, rfl, by decide +kernel, by decide +kernel⟩
def sp_joint_powers (CR : Addr) : Sp := fun vs H Q _ => ∃ (p r1 r2 : Addr) (n : Nat) (c d : List Nat), vs = [.ref p, .ref r1, .ref r2] ∧ IsRing CR H p n ∧ H r1 = some (.lst (nV c)) ∧ H r2 = some (.lst (nV d)) ∧ c.length = (Na04.units n).length ∧ d.length = (Na04.units n).length ∧ RetL (nV ((Na04.units n).filterMap (RsP.jpow n (Na04.fine n / Na04.exponent n) c d))) H Q
theorem ok_joint_powers (T : Txt K mg CR CL TH) {f f1 : Addr} {fd fd1 : FuncData} (F : Fun K "joint_powers" "joint_powers" s_joint_powers f fd)
    (D_Ring_given : Dm K CR "given" ["self", "numbers", "unit"] f1 fd1) (G_Ring_given : FnOk P w K mg base CX0 1 f1 fd1 ["self", "numbers", "unit"] (sp_Ring_given CR)) : FnOk P w K mg base CX0 2 f fd ["ring", "one", "other"] (sp_joint_powers CR) := by
  refine F.ok sc_joint_powers (fun vs H Q E h => ?_) (fun cdv A outer s H vs Q E hr h => ?_)
  · obtain ⟨p, r1, r2, n, c, d, rfl, _⟩ := h
    rfl
  · obtain ⟨p, r1, r2, n, c, d, rfl, ⟨dx, u, cc, pl, cv, r⟩, hc, hd, hcl, hdl, q⟩ := h
    have R_Ring_given := hr
    refine ⟨_, (pss_cons (ps_set (i := 3) sc_joint_powers.nd rfl (Or.inl rfl) (pe_op op_fdiv (fldK K (pv 0)) (fldK K (pv 0))))
    (pss_cons (ps_set (i := 4) sc_joint_powers.nd rfl (Or.inl rfl) (pe_lst pa_nil))
    (pss_cons (ps_for PassesOwn.never rfl (pilK K (fldK K (pv 0))) (pg_name (i := 5) sc_joint_powers.nd rfl (Or.inl rfl))
    (pss_cons (ps_set (i := 6) sc_joint_powers.nd rfl (Or.inl rfl) (pe_op op_mod (pe_op op_sub pe_int (pv 5)) (fldK K (pv 0))))
    (pss_one (ps_if (pt_cmpR (inK K) (pv 6) (fldK K (pv 0)) (by rfl))
    (pss_one (ps_expr (bmK K PySem.F.plainAttrs_list PySem.F.slot_list_append PySem.F.type_list_append mt_append (pv 4) (pa_cons (pe_op op_mul (pe_op op_add (pe_meth (pv 0) T.cl_Ring D_Ring_given.m G_Ring_given R_Ring_given D_Ring_given.b .nil pass0 (pa_cons (pv 1) (pa_cons (pv 5) pa_nil))) (pe_meth (pv 0) T.cl_Ring D_Ring_given.m G_Ring_given R_Ring_given D_Ring_given.b .nil pass0 (pa_cons (pv 2) (pa_cons (pv 6) pa_nil)))) (pv 3)) pa_nil))))
    pss_nil))))
    (pss_one (ps_ret (pv 4)))))), ?_⟩
    have lo := r.lo
    have hi := r.hi
    have hfl := RsP.fine_le n lo hi
    have hul := RsM.units_len12 n lo hi
    have b1 : Na04.fine n / Na04.exponent n ≤ 200 := Nat.le_trans (Nat.div_le_self _ _) hfl.2.1
    refine q_asg (ev_quo T (ev_fld (ev_var rfl) r.o T.cl_Ring T.na_parts (lkR_parts n u cc pl)) (ev_fld (ev_var rfl) r.o T.cl_Ring T.na_exponent (lkR_exponent n u cc pl)) (by omega) (by omega)) fun H1 e1 => ?_
    generalize hfv : Na04.fine n / Na04.exponent n = fv at *
    refine q_asgL (xs := []) (el_lst ea_nil (Nat.zero_le _)) fun L H2 hL e2 h2 => ?_
    have hLH := fresh_back e1 hL
    have rr := r.mono (e1.trans e2)
    refine q_forLn (K := K) (xs := nV (Na04.units n)) (ev_fld (ev_var rfl) rr.o T.cl_Ring T.na_units (lkR_units n u cc pl)) (sq_of rr.u) (fun i σ' H' => Ex H H' ∧ ∃ z5 z6 : Option V, i ≤ 12 ∧ H' L = some (.lst (nV (((Na04.units n).take i).filterMap (RsP.jpow n fv c d)))) ∧ σ' = [some (.ref p), some (.ref r1), some (.ref r2), some (.int (fv : Int)), some (.ref L), z5, z6])
      (fun H3 e3 => ⟨(e1.trans e2).trans e3, none, none, by omega, e3 _ _ h2, rfl⟩) (fun i σ' H' _ hP => sq_of (hP.1 _ _ r.u)) (fun i x σ' H3 hx hP => ?_) (fun σ' H3 hP => ?_)
    · obtain ⟨e3, z5, z6, hi12, hL3, rfl⟩ := hP
      obtain ⟨y, hy, rfl⟩ := nV_of hx
      have hyu := List.mem_of_getElem? hy
      have hyn := RsM.units_lt hyu
      have hil := (List.getElem?_eq_some_iff.mp hy).1
      have r3 := r.mono e3
      have etk : ((Na04.units n).take (i + 1)).filterMap (RsP.jpow n fv c d) = ((Na04.units n).take i).filterMap (RsP.jpow n fv c d) ++ (RsP.jpow n fv c d y).toList := by
        rw [List.take_add_one, hy, List.filterMap_append]
        have : List.filterMap (RsP.jpow n fv c d) [y] = (RsP.jpow n fv c d y).toList := by
          rw [List.filterMap_cons]
          cases RsP.jpow n fv c d y <;> rfl
        rw [← this]
        rfl
      have hlenL : (((Na04.units n).take i).filterMap (RsP.jpow n fv c d)).length ≤ 12 := Nat.le_trans (List.length_filterMap_le _ _) (by rw [List.length_take]; omega)
      have hle : (1 - (y : Int)) % (n : Int) = (((n + 1 - y) % n : Nat) : Int) := by
        rw [Int.natCast_emod, Int.natCast_sub (by omega), Int.natCast_add]
        show _ = ((n : Int) + 1 - (y : Int)) % (n : Int)
        rw [show (n : Int) + 1 - (y : Int) = (1 - (y : Int)) + (n : Int) by omega, Int.add_emod_right]
      have hym : y % n = y := Nat.mod_eq_of_lt hyn
      refine q_asg (v := .int (((n + 1 - y) % n : Nat) : Int)) (ev_is (ev_op (ev_op ev_c (ev_var rfl) rv_I0) (ev_fld (ev_var rfl) r3.o T.cl_Ring T.na_n (lkR_n n u cc pl)) (rv_I (by show (0 : Int) < (n : Int); omega))) (by show V.int ((1 - (y : Int)) % (n : Int)) = _; rw [hle])) fun H4 e4 => ?_
      have r4 := r3.mono e4
      refine s_when (et_test (ev_op (ev_var rfl) (ev_fld (ev_var rfl) r4.o T.cl_Ring T.na_units (lkR_units n u cc pl)) (rv_isL (sq_of r4.u) rfl (nV_flat _)))) (fun hb H5 e5 => ?_) (fun hb H5 e5 => ?_)
      · rw [inV_nV] at hb
        have hlu : (n + 1 - y) % n ∈ Na04.units n := by simpa using hb
        have r5 := r4.mono e5
        have e35 := (e3.trans e4).trans e5
        have ej : RsP.jpow n fv c d y = some ((c.getD ((Na04.units n).idxOf y) 0 + d.getD ((Na04.units n).idxOf ((n + 1 - y) % n)) 0) * fv) := by
          unfold RsP.jpow
          rw [at_yes (by rw [hym]; exact hyu), at_yes hlu, hym]
        refine s_app (K := K) ((e4.trans e5) _ _ hL3) (ev_var rfl) (v := .int ((((c.getD ((Na04.units n).idxOf y) 0 + d.getD ((Na04.units n).idxOf ((n + 1 - y) % n)) 0) * fv : Nat)) : Int)) (ev_is (ev_op (ev_op (ev_meth (ev_var rfl) r5.o (lkR_given n u cc pl) (ea_cons (ev_var rfl) (ea_cons (ev_var rfl) ea_nil)) (spv_Ring_given ⟨dx, u, cc, pl, cv, r5⟩ (e35 _ _ hc) hcl hyu)) (ev_meth (ev_var rfl) r5.o (lkR_given n u cc pl) (ea_cons (ev_var rfl) (ea_cons (ev_var rfl) ea_nil)) (spv_Ring_given ⟨dx, u, cc, pl, cv, r5⟩ (e35 _ _ hd) hdl hlu)) rv_I0) (ev_var rfl) (rv_I (.inr ⟨by omega, by omega⟩))) (by
          rw [Int.natCast_mul, Int.natCast_add])) (by rw [nV_len]; omega) fun H6 e6 => ⟨Ex.mut (e35.trans e6) hLH, _, _, by omega, ?_, rfl⟩
        rw [etk, ej, nV_append]
        exact upd_same
      · rw [inV_nV] at hb
        have hlu : ¬ (n + 1 - y) % n ∈ Na04.units n := by simpa using hb
        have ej : RsP.jpow n fv c d y = none := by
          unfold RsP.jpow
          rw [at_yes (by rw [hym]; exact hyu), at_no hlu]
        refine ⟨(e3.trans e4).trans e5, _, _, by omega, ?_, rfl⟩
        rw [etk, ej]
        show _ = some (HO.lst (nV (_ ++ [])))
        rw [List.append_nil]
        exact (e4.trans e5) _ _ hL3
    · obtain ⟨e3, z5, z6, hi12, hL3, rfl⟩ := hP
      rw [nV_len, List.take_length] at hL3
      exact s_ret (ev_var rfl) fun H4 e4 => q L H4 hLH (e3.trans e4) (e4 _ _ hL3)
theorem spl_joint_powers {H : Hp} {p r1 r2 : Addr} {n : Nat} {c d : List Nat} (r : IsRing CR H p n) (hc : H r1 = some (.lst (nV c))) (hd : H r2 = some (.lst (nV d))) (h1 : c.length = (Na04.units n).length) (h2 : d.length = (Na04.units n).length) : SpL (sp_joint_powers CR) [.ref p, .ref r1, .ref r2] H (nV ((Na04.units n).filterMap (RsP.jpow n (Na04.fine n / Na04.exponent n) c d))) :=
  fun H1 e Q q E => ⟨p, r1, r2, n, c, d, rfl, r.mono e, e _ _ hc, e _ _ hd, h1, h2, q⟩
abbrev s_Line_gauss : Stmt := inClass (topS 35) 8
abbrev N_Line_gauss : List Str := ["self", "i", "a", "powers"]
theorem sc_Line_gauss : FnScope N_Line_gauss ["self", "i", "a"] (defScope s_Line_gauss) := ⟨rfl, rfl, rfl, by decide +kernel, rfl, by decide +kernel, by decide +kernel⟩
def sp_Line_gauss (CL CR : Addr) : Sp := fun vs H Q _ => ∃ (l : Addr) (n i a : Nat), vs = [.ref l, .int (i : Int), .int (a : Int)] ∧ IsLine CL CR H l n ∧ RetC CL CR (.gauss i a) l n H Q
theorem ok_Line_gauss (T : Txt K mg CR CL TH) {f f1 f2 f3 : Addr} {fd fd1 fd2 fd3 : FuncData} (F : Fun K "gauss" "Line.gauss" s_Line_gauss f fd)
    (D_Ring_lacks : Dm K CR "lacks" ["self", "i"] f1 fd1) (G_Ring_lacks : FnOk P w K mg base CX0 1 f1 fd1 ["self", "i"] (sp_Ring_lacks CR))
    (D_gauss_powers : Df K mg "gauss_powers" ["ring", "numbers", "a"] f2 fd2) (G_gauss_powers : FnOk P w K mg base CX0 1 f2 fd2 ["ring", "numbers", "a"] (sp_gauss_powers CR))
    (D_told_sum : Df K mg "told_sum" ["powers", "m", "polynomial"] f3 fd3) (G_told_sum : FnOk P w K mg base CX0 3 f3 fd3 ["powers", "m", "polynomial"] sp_told_sum) : FnOk P w K mg base CX0 4 f fd ["self", "i", "a"] (sp_Line_gauss CL CR) := by
  refine F.ok sc_Line_gauss (fun vs H Q E h => ?_) (fun cdv A outer s H vs Q E hr h => ?_)
  · obtain ⟨l, n, i, a, rfl, _⟩ := h
    rfl
  · obtain ⟨l, n, i, a, rfl, hL, q⟩ := h
    have R_Ring_lacks := hr.mono (j := 1) (by decide)
    have R_gauss_powers := hr.mono (j := 1) (by decide)
    have R_told_sum := hr
    refine ⟨_, (pss_cons (ps_if (pt_val (pe_meth (fldK K (pv 0)) T.cl_Ring D_Ring_lacks.m G_Ring_lacks R_Ring_lacks D_Ring_lacks.b .nil pass0 (pa_cons (pv 1) pa_nil)))
    (pss_one (ps_ret (pe_lst (pa_cons (pe_glob (by rfl) T.g_NO_SUCH_CHARACTER T.r_NO_SUCH_CHARACTER) pa_nil))))
    pss_nil)
    (pss_cons (ps_set (i := 3) sc_Line_gauss.nd rfl (Or.inl rfl) (pe_call G_gauss_powers R_gauss_powers (by rfl) D_gauss_powers.mg D_gauss_powers.kp D_gauss_powers.b .nil pass0 (pa_cons (fldK K (pv 0)) (pa_cons (pe_ix (ixl K) (fldK K (fldK K (pv 0))) (pv 1) (fun _ _ => rfl)) (pa_cons (pv 2) pa_nil)))))
    (pss_one (ps_ret (pe_call G_told_sum R_told_sum (by rfl) D_told_sum.mg D_told_sum.kp D_told_sum.b .nil pass0 (pa_cons (pv 3) (pa_cons (fldK K (fldK K (pv 0))) (pa_cons (fldK K (fldK K (pv 0))) pa_nil)))))))), ?_⟩
    obtain ⟨dl, r, hl⟩ := id hL
    obtain ⟨dx, u, c, pl, cv, ra⟩ := hl.r
    have g := got T (σ := start N_Line_gauss [.ref l, .int (i : Int), .int (a : Int)]) rfl hl.o ra
    have hfl := RsP.fine_le n ra.lo ra.hi
    have hul := RsM.units_len12 n ra.lo ra.hi
    refine q_when (g.lacks (ev_var rfl)) (fun hb H1 e1 => ?_) (fun hb H1 e1 => ?_)
    · have hb := of_decide_eq_true hb
      exact s_retL (el_lst (ea_cons ev_c ea_nil) (by show 1 ≤ 100000; omega)) fun p H2 hp e2 h2 => q.pure hL rfl (xs := [.int (-2)]) (by show (Na04.withChar ⟨n⟩ i _).map V.int = _; rw [wc_none hb]; rfl) p H2 (fresh_back e1 hp) (e1.trans e2) h2
    · obtain ⟨row, hrow, hmem⟩ := row_of (of_decide_eq_false hb)
      have g1 := g.mono e1
      obtain ⟨rp, h1, h2⟩ := g1.row (ti := tVar 1) (ev_var rfl) hrow
      obtain ⟨d, cf, Y⟩ := RsP.cyc_fine n ra.lo ra.hi
      refine q_asgL (el_call (ea_cons g1.ring (ea_cons h2 (ea_cons (ev_var rfl) ea_nil))) (spl_gauss_powers ⟨dx, u, c, pl, cv, g1.ra⟩ h1)) fun b H2 hb2 e2 h3 => ?_
      rw [← iV_ints] at h3
      have g2 := got T (σ := [some (.ref l), some (.int (i : Int)), some (.int (a : Int)), some (.ref b)]) rfl ((e1.trans e2) _ _ hl.o) (ra.mono (e1.trans e2))
      refine s_retL (el_call (ea_cons (ev_var rfl) (ea_cons g2.parts (ea_cons g2.polynomial ea_nil))) (spl_told_sum h3 g2.ra.pl Y.toMon Y.dm hfl.1 hfl.2.1)) fun p H4 hp e4 h4 => q.pure hL rfl ?_ p H4 (fresh_back (e1.trans e2) hp) ((e1.trans e2).trans e4) h4
      show (Na04.withChar ⟨n⟩ i _).map V.int = _
      rw [wc_some hrow, RsP.ofPowers_rd, ← gauss_gpow]
      rfl
abbrev s_Line_size : Stmt := inClass (topS 35) 9
abbrev N_Line_size : List Str := ["self", "i", "a", "powers"]
theorem sc_Line_size : FnScope N_Line_size ["self", "i", "a"] (defScope s_Line_size) := ⟨rfl, rfl, rfl, by decide +kernel, rfl, by decide +kernel, by decide +kernel⟩
def sp_Line_size (CL CR : Addr) : Sp := fun vs H Q _ => ∃ (l : Addr) (n i a : Nat), vs = [.ref l, .int (i : Int), .int (a : Int)] ∧ IsLine CL CR H l n ∧ RetC CL CR (.size i a) l n H Q
theorem ok_Line_size (T : Txt K mg CR CL TH) {f f1 f2 f3 f4 : Addr} {fd fd1 fd2 fd3 fd4 : FuncData} (F : Fun K "size" "Line.size" s_Line_size f fd)
    (D_Ring_lacks : Dm K CR "lacks" ["self", "i"] f1 fd1) (G_Ring_lacks : FnOk P w K mg base CX0 1 f1 fd1 ["self", "i"] (sp_Ring_lacks CR))
    (D_gauss_powers : Df K mg "gauss_powers" ["ring", "numbers", "a"] f2 fd2) (G_gauss_powers : FnOk P w K mg base CX0 1 f2 fd2 ["ring", "numbers", "a"] (sp_gauss_powers CR))
    (D_told_sum : Df K mg "told_sum" ["powers", "m", "polynomial"] f3 fd3) (G_told_sum : FnOk P w K mg base CX0 3 f3 fd3 ["powers", "m", "polynomial"] sp_told_sum)
    (D_size_powers : Df K mg "size_powers" ["powers"] f4 fd4) (G_size_powers : FnOk P w K mg base CX0 1 f4 fd4 ["powers"] sp_size_powers) : FnOk P w K mg base CX0 4 f fd ["self", "i", "a"] (sp_Line_size CL CR) := by
  refine F.ok sc_Line_size (fun vs H Q E h => ?_) (fun cdv A outer s H vs Q E hr h => ?_)
  · obtain ⟨l, n, i, a, rfl, _⟩ := h
    rfl
  · obtain ⟨l, n, i, a, rfl, hL, q⟩ := h
    have R_Ring_lacks := hr.mono (j := 1) (by decide)
    have R_gauss_powers := hr.mono (j := 1) (by decide)
    have R_size_powers := hr.mono (j := 1) (by decide)
    have R_told_sum := hr
    refine ⟨_, (pss_cons (ps_if (pt_val (pe_meth (fldK K (pv 0)) T.cl_Ring D_Ring_lacks.m G_Ring_lacks R_Ring_lacks D_Ring_lacks.b .nil pass0 (pa_cons (pv 1) pa_nil)))
    (pss_one (ps_ret (pe_lst (pa_cons (pe_glob (by rfl) T.g_NO_SUCH_CHARACTER T.r_NO_SUCH_CHARACTER) pa_nil))))
    pss_nil)
    (pss_cons (ps_set (i := 3) sc_Line_size.nd rfl (Or.inl rfl) (pe_call G_gauss_powers R_gauss_powers (by rfl) D_gauss_powers.mg D_gauss_powers.kp D_gauss_powers.b .nil pass0 (pa_cons (fldK K (pv 0)) (pa_cons (pe_ix (ixl K) (fldK K (fldK K (pv 0))) (pv 1) (fun _ _ => rfl)) (pa_cons (pv 2) pa_nil)))))
    (pss_one (ps_ret (pe_call G_told_sum R_told_sum (by rfl) D_told_sum.mg D_told_sum.kp D_told_sum.b .nil pass0 (pa_cons (pe_call G_size_powers R_size_powers (by rfl) D_size_powers.mg D_size_powers.kp D_size_powers.b .nil pass0 (pa_cons (pv 3) pa_nil)) (pa_cons (fldK K (fldK K (pv 0))) (pa_cons (fldK K (fldK K (pv 0))) pa_nil)))))))), ?_⟩
    obtain ⟨dl, r, hl⟩ := id hL
    obtain ⟨dx, u, c, pl, cv, ra⟩ := hl.r
    have g := got T (σ := start N_Line_size [.ref l, .int (i : Int), .int (a : Int)]) rfl hl.o ra
    have hfl := RsP.fine_le n ra.lo ra.hi
    have hul := RsM.units_len12 n ra.lo ra.hi
    refine q_when (g.lacks (ev_var rfl)) (fun hb H1 e1 => ?_) (fun hb H1 e1 => ?_)
    · have hb := of_decide_eq_true hb
      exact s_retL (el_lst (ea_cons ev_c ea_nil) (by show 1 ≤ 100000; omega)) fun p H2 hp e2 h2 => q.pure hL rfl (xs := [.int (-2)]) (by show (Na04.withChar ⟨n⟩ i _).map V.int = _; rw [wc_none hb]; rfl) p H2 (fresh_back e1 hp) (e1.trans e2) h2
    · obtain ⟨row, hrow, hmem⟩ := row_of (of_decide_eq_false hb)
      have g1 := g.mono e1
      obtain ⟨rp, h1, h2⟩ := g1.row (ti := tVar 1) (ev_var rfl) hrow
      obtain ⟨d, cf, Y⟩ := RsP.cyc_fine n ra.lo ra.hi
      refine q_asgL (el_call (ea_cons g1.ring (ea_cons h2 (ea_cons (ev_var rfl) ea_nil))) (spl_gauss_powers ⟨dx, u, c, pl, cv, g1.ra⟩ h1)) fun b H2 hb2 e2 h3 => ?_
      have hgl : (gpow n row a).length ≤ 100 := by
        unfold gpow
        rw [List.length_map, List.length_zip]
        omega
      have g2 := got T (σ := [some (.ref l), some (.int (i : Int)), some (.int (a : Int)), some (.ref b)]) rfl ((e1.trans e2) _ _ hl.o) (ra.mono (e1.trans e2))
      refine s_retL (el_call1L (el_call (ea_cons (ev_var rfl) ea_nil) (spl_size_powers h3 hgl)) g2.parts g2.polynomial (fun p H3 e3 h4 => spl_told_sum h4 (e3 _ _ g2.ra.pl) Y.toMon Y.dm hfl.1 hfl.2.1)) fun p H4 hp e4 h4 => q.pure hL rfl ?_ p H4 (fresh_back (e1.trans e2) hp) ((e1.trans e2).trans e4) h4
      show (Na04.withChar ⟨n⟩ i _).map V.int = _
      rw [wc_some hrow, ← RsP.size_rd Y, ← gauss_gpow]
      rfl
abbrev s_Line_jacobi : Stmt := inClass (topS 35) 10
abbrev N_Line_jacobi : List Str := ["self", "i", "j", "powers"]
theorem sc_Line_jacobi : FnScope N_Line_jacobi ["self", "i", "j"] (defScope s_Line_jacobi) := ⟨rfl, rfl, rfl, by decide +kernel, rfl, by decide +kernel, by decide +kernel⟩
def sp_Line_jacobi (CL CR : Addr) : Sp := fun vs H Q _ => ∃ (l : Addr) (n i j : Nat), vs = [.ref l, .int (i : Int), .int (j : Int)] ∧ IsLine CL CR H l n ∧ RetC CL CR (.jacobi i j) l n H Q
theorem ok_Line_jacobi (T : Txt K mg CR CL TH) {f f1 f2 f3 : Addr} {fd fd1 fd2 fd3 : FuncData} (F : Fun K "jacobi" "Line.jacobi" s_Line_jacobi f fd)
    (D_Ring_lacks : Dm K CR "lacks" ["self", "i"] f1 fd1) (G_Ring_lacks : FnOk P w K mg base CX0 1 f1 fd1 ["self", "i"] (sp_Ring_lacks CR))
    (D_joint_powers : Df K mg "joint_powers" ["ring", "one", "other"] f2 fd2) (G_joint_powers : FnOk P w K mg base CX0 2 f2 fd2 ["ring", "one", "other"] (sp_joint_powers CR))
    (D_told_sum : Df K mg "told_sum" ["powers", "m", "polynomial"] f3 fd3) (G_told_sum : FnOk P w K mg base CX0 3 f3 fd3 ["powers", "m", "polynomial"] sp_told_sum) : FnOk P w K mg base CX0 4 f fd ["self", "i", "j"] (sp_Line_jacobi CL CR) := by
  refine F.ok sc_Line_jacobi (fun vs H Q E h => ?_) (fun cdv A outer s H vs Q E hr h => ?_)
  · obtain ⟨l, n, i, j, rfl, _⟩ := h
    rfl
  · obtain ⟨l, n, i, j, rfl, hL, q⟩ := h
    have R_Ring_lacks := hr.mono (j := 1) (by decide)
    have R_joint_powers := hr.mono (j := 2) (by decide)
    have R_told_sum := hr
    refine ⟨_, (pss_cons (ps_if (PW.pt (pw_or (pt_val (pe_meth (fldK K (pv 0)) T.cl_Ring D_Ring_lacks.m G_Ring_lacks R_Ring_lacks D_Ring_lacks.b .nil pass0 (pa_cons (pv 1) pa_nil))) (pw_or1 (pt_val (pe_meth (fldK K (pv 0)) T.cl_Ring D_Ring_lacks.m G_Ring_lacks R_Ring_lacks D_Ring_lacks.b .nil pass0 (pa_cons (pv 2) pa_nil))))))
    (pss_one (ps_ret (pe_lst (pa_cons (pe_glob (by rfl) T.g_NO_SUCH_CHARACTER T.r_NO_SUCH_CHARACTER) pa_nil))))
    pss_nil)
    (pss_cons (ps_set (i := 3) sc_Line_jacobi.nd rfl (Or.inl rfl) (pe_call G_joint_powers R_joint_powers (by rfl) D_joint_powers.mg D_joint_powers.kp D_joint_powers.b .nil pass0 (pa_cons (fldK K (pv 0)) (pa_cons (pe_ix (ixl K) (fldK K (fldK K (pv 0))) (pv 1) (fun _ _ => rfl)) (pa_cons (pe_ix (ixl K) (fldK K (fldK K (pv 0))) (pv 2) (fun _ _ => rfl)) pa_nil)))))
    (pss_one (ps_ret (pe_call G_told_sum R_told_sum (by rfl) D_told_sum.mg D_told_sum.kp D_told_sum.b .nil pass0 (pa_cons (pv 3) (pa_cons (fldK K (fldK K (pv 0))) (pa_cons (fldK K (fldK K (pv 0))) pa_nil)))))))), ?_⟩
    obtain ⟨dl, r, hl⟩ := id hL
    obtain ⟨dx, u, c, pl, cv, ra⟩ := hl.r
    have g := got T (σ := start N_Line_jacobi [.ref l, .int (i : Int), .int (j : Int)]) rfl hl.o ra
    have hfl := RsP.fine_le n ra.lo ra.hi
    have hul := RsM.units_len12 n ra.lo ra.hi
    refine q_when (et_or (g.lacks (ev_var rfl)) (fun _ => g.lacks (ev_var rfl))) (fun hb H1 e1 => ?_) (fun hb H1 e1 => ?_)
    · refine s_retL (el_lst (ea_cons ev_c ea_nil) (by show 1 ≤ 100000; omega)) fun p H2 hp e2 h2 => q.pure hL rfl (xs := [.int (-2)]) ?_ p H2 (fresh_back e1 hp) (e1.trans e2) h2
      show (Na04.withChar ⟨n⟩ i _).map V.int = _
      by_cases hi : (Na04.chars n).length ≤ i
      · rw [wc_none hi]; rfl
      · obtain ⟨row, hrow, _⟩ := row_of hi
        rw [wc_some hrow]
        have hj : (Na04.chars n).length ≤ j := by
          rw [decide_eq_false hi, Bool.false_or] at hb
          exact of_decide_eq_true hb
        rw [wc_none hj]
        rfl
    · have hb := Bool.or_eq_false_iff.mp hb
      obtain ⟨row, hrow, hmem⟩ := row_of (of_decide_eq_false hb.1)
      obtain ⟨row2, hrow2, hmem2⟩ := row_of (of_decide_eq_false hb.2)
      have hlen := RsM.row_len ra.lo ra.hi hmem
      have hlen2 := RsM.row_len ra.lo ra.hi hmem2
      have g1 := g.mono e1
      obtain ⟨rp, h1, h2⟩ := g1.row (ti := tVar 1) (ev_var rfl) hrow
      obtain ⟨rp2, h12, h22⟩ := g1.row (ti := tVar 2) (ev_var rfl) hrow2
      obtain ⟨d, cf, Y⟩ := RsP.cyc_fine n ra.lo ra.hi
      refine q_asgL (el_call (ea_cons g1.ring (ea_cons h2 (ea_cons h22 ea_nil))) (spl_joint_powers ⟨dx, u, c, pl, cv, g1.ra⟩ h1 h12 hlen hlen2)) fun b H2 hb2 e2 h3 => ?_
      rw [← iV_ints] at h3
      have g2 := got T (σ := [some (.ref l), some (.int (i : Int)), some (.int (j : Int)), some (.ref b)]) rfl ((e1.trans e2) _ _ hl.o) (ra.mono (e1.trans e2))
      refine s_retL (el_call (ea_cons (ev_var rfl) (ea_cons g2.parts (ea_cons g2.polynomial ea_nil))) (spl_told_sum h3 g2.ra.pl Y.toMon Y.dm hfl.1 hfl.2.1)) fun p H4 hp e4 h4 => q.pure hL rfl ?_ p H4 (fresh_back (e1.trans e2) hp) ((e1.trans e2).trans e4) h4
      show (Na04.withChar ⟨n⟩ i _).map V.int = _
      rw [wc_some hrow, wc_some hrow2, RsP.ofPowers_rd, ← RsP.jacobi_units]
      rfl
abbrev s_Line_even : Stmt := inClass (topS 35) 12
abbrev N_Line_even : List Str := ["self", "i"]
theorem sc_Line_even : FnScope N_Line_even ["self", "i"] (defScope s_Line_even) := ⟨rfl, rfl, rfl, by decide +kernel, rfl, by decide +kernel, by decide +kernel⟩
def sp_Line_even (CL CR : Addr) : Sp := fun vs H Q _ => ∃ (l : Addr) (n i : Nat), vs = [.ref l, .int (i : Int)] ∧ IsLine CL CR H l n ∧ RetC CL CR (.even i) l n H Q
theorem ok_Line_even (T : Txt K mg CR CL TH) {f f1 f2 : Addr} {fd fd1 fd2 : FuncData} (F : Fun K "even" "Line.even" s_Line_even f fd)
    (D_Ring_lacks : Dm K CR "lacks" ["self", "i"] f1 fd1) (G_Ring_lacks : FnOk P w K mg base CX0 1 f1 fd1 ["self", "i"] (sp_Ring_lacks CR))
    (D_Ring_given : Dm K CR "given" ["self", "numbers", "unit"] f2 fd2) (G_Ring_given : FnOk P w K mg base CX0 1 f2 fd2 ["self", "numbers", "unit"] (sp_Ring_given CR)) : FnOk P w K mg base CX0 2 f fd ["self", "i"] (sp_Line_even CL CR) := by
  refine F.ok sc_Line_even (fun vs H Q E h => ?_) (fun cdv A outer s H vs Q E hr h => ?_)
  · obtain ⟨l, n, i, rfl, _⟩ := h
    rfl
  · obtain ⟨l, n, i, rfl, hL, q⟩ := h
    have R_Ring_lacks := hr
    have R_Ring_given := hr
    refine ⟨_, (pss_cons (ps_if (pt_val (pe_meth (fldK K (pv 0)) T.cl_Ring D_Ring_lacks.m G_Ring_lacks R_Ring_lacks D_Ring_lacks.b .nil pass0 (pa_cons (pv 1) pa_nil)))
    (pss_one (ps_ret (pe_lst (pa_cons (pe_glob (by rfl) T.g_NO_SUCH_CHARACTER T.r_NO_SUCH_CHARACTER) pa_nil))))
    pss_nil)
    (pss_one (ps_ret (pe_lst (pa_cons (pe_ifExp (pt_cmpR op_eq (pe_meth (fldK K (pv 0)) T.cl_Ring D_Ring_given.m G_Ring_given R_Ring_given D_Ring_given.b .nil pass0 (pa_cons (pe_ix (ixl K) (fldK K (fldK K (pv 0))) (pv 1) (fun _ _ => rfl)) (pa_cons (pe_op op_sub (fldK K (fldK K (pv 0))) pe_int) pa_nil))) pe_int (nomark _)) pe_int pe_int) pa_nil))))), ?_⟩
    obtain ⟨dl, r, hl⟩ := id hL
    obtain ⟨dx, u, c, pl, cv, ra⟩ := hl.r
    have g := got T (σ := start N_Line_even [.ref l, .int (i : Int)]) rfl hl.o ra
    have hfl := RsP.fine_le n ra.lo ra.hi
    have hul := RsM.units_len12 n ra.lo ra.hi
    refine q_when (g.lacks (ev_var rfl)) (fun hb H1 e1 => ?_) (fun hb H1 e1 => ?_)
    · have hb := of_decide_eq_true hb
      exact s_retL (el_lst (ea_cons ev_c ea_nil) (by show 1 ≤ 100000; omega)) fun p H2 hp e2 h2 => q.pure hL rfl (xs := [.int (-2)]) (by show (Na04.withChar ⟨n⟩ i _).map V.int = _; rw [wc_none hb]; rfl) p H2 (fresh_back e1 hp) (e1.trans e2) h2
    · obtain ⟨row, hrow, hmem⟩ := row_of (of_decide_eq_false hb)
      have hlen := RsM.row_len ra.lo ra.hi hmem
      have lo := ra.lo
      have g1 := g.mono e1
      obtain ⟨rp, h1, h2⟩ := g1.row (ti := tVar 1) (ev_var rfl) hrow
      have hlu := last_unit n ra.lo ra.hi
      have hmod : (n - 1) % n = n - 1 := Nat.mod_eq_of_lt (by omega)
      generalize hx : row.getD ((Na04.units n).idxOf (n - 1)) 0 = x at *
      refine s_retL (xs := [.int ((if x = 0 then 1 else 0 : Nat) : Int)]) (el_lst (ea_cons (ev_if (b := x == 0) (et_is (et_test (ev_op (ev_meth (z := .int (x : Int)) g1.ring g1.ra.o (lkR_given n u c pl) (ea_cons h2 (ea_cons (ev_is (v := .int ((n : Int) - 1)) (w := .int ((n - 1 : Nat) : Int)) (ev_op g1.nn ev_c rv_I0) (by congr 1; omega)) ea_nil)) (by rw [← hx]; exact spv_Ring_given ⟨dx, u, c, pl, cv, g1.ra⟩ h1 hlen hlu)) ev_c (rv_eq rfl))) (eqN x 0)) (fun hb => ev_is ev_c (by rw [if_pos (by simpa using hb)]; rfl)) (fun hb => ev_is ev_c (by rw [if_neg (by simpa using hb)]; rfl))) ea_nil) (by show 1 ≤ 100000; omega)) fun p H4 hp e4 h4 => q.pure hL rfl ?_ p H4 (fresh_back e1 hp) (e1.trans e4) h4
      show (Na04.withChar ⟨n⟩ i _).map V.int = _
      rw [wc_some hrow]
      simp only [at_yes (c := row) (show (n - 1) % n ∈ Na04.units n by rw [hmod]; exact hlu), hmod, hx]
      rfl
abbrev s_Line_circle : Stmt := inClass (topS 35) 11
abbrev N_Line_circle : List Str := ["self", "m", "numbers"]
theorem sc_Line_circle : FnScope N_Line_circle ["self", "m"] (defScope s_Line_circle) := ⟨rfl, rfl, rfl, by decide +kernel, rfl, by decide +kernel, by decide +kernel⟩
def sp_Line_circle (CL CR : Addr) : Sp := fun vs H Q _ => ∃ (l : Addr) (n m : Nat), vs = [.ref l, .int (m : Int)] ∧ IsLine CL CR H l n ∧ RetC CL CR (.circle m) l n H Q
theorem ok_Line_circle (T : Txt K mg CR CL TH) {f f1 : Addr} {fd fd1 : FuncData} (F : Fun K "circle" "Line.circle" s_Line_circle f fd)
    (D_circle_of : Df K mg "circle_of" ["m"] f1 fd1) (G_circle_of : FnOk P w K mg base CX0 4 f1 fd1 ["m"] sp_circle_of) : FnOk P w K mg base CX0 5 f fd ["self", "m"] (sp_Line_circle CL CR) := by
  refine F.ok sc_Line_circle (fun vs H Q E h => ?_) (fun cdv A outer s H vs Q E hr h => ?_)
  · obtain ⟨l, n, m, rfl, _⟩ := h
    rfl
  · obtain ⟨l, n, m, rfl, hL, q⟩ := h
    have R_circle_of := hr
    refine ⟨_, (pss_cons (ps_if (PW.pt (pw_or (pt_cmpR op_lt (pv 1) (pe_glob (by rfl) T.g_FIRST_CIRCLE T.r_FIRST_CIRCLE) (nomark _)) (pw_or1 (pt_cmpR op_gt (pv 1) (pe_glob (by rfl) T.g_LAST_CIRCLE T.r_LAST_CIRCLE) (nomark _)))))
    (pss_one (ps_ret (pe_lst (pa_cons (pe_glob (by rfl) T.g_NO_SUCH_CIRCLE T.r_NO_SUCH_CIRCLE) pa_nil))))
    pss_nil)
    (pss_cons (ps_set (i := 2) sc_Line_circle.nd rfl (Or.inl rfl) (pe_call G_circle_of R_circle_of (by rfl) D_circle_of.mg D_circle_of.kp D_circle_of.b .nil pass0 (pa_cons (pv 1) pa_nil)))
    (pss_one (ps_ret (pe_op op_cat (pe_lst (pa_cons (pe_callB (lenK K) (by rfl) T.b_len (by decide +kernel) (pa_cons (pv 2) pa_nil)) pa_nil)) (pv 2)))))), ?_⟩
    refine q_when (et_or (et_test (ev_op (ev_var rfl) ev_c rv_I0)) (fun _ => et_test (ev_op (ev_var rfl) ev_c rv_I0))) (fun hb H1 e1 => ?_) (fun hb H1 e1 => ?_)
    · have hm : m = 0 ∨ 200 < m := by
        rcases Bool.or_eq_true_iff.mp hb with h | h
        · have := of_decide_eq_true h; omega
        · have := of_decide_eq_true h; omega
      refine s_retL (el_lst (ea_cons ev_c ea_nil) (by show 1 ≤ 100000; omega)) fun p H2 hp e2 h2 => q.pure hL rfl (xs := [.int (-1)]) ?_ p H2 (fresh_back e1 hp) (e1.trans e2) h2
      show (if m = 0 ∨ 200 < m then [-1] else Na04.shown (Na04.circle m)).map V.int = _
      rw [if_pos hm]
      rfl
    · have hb := Bool.or_eq_false_iff.mp hb
      have h1 := of_decide_eq_false hb.1
      have h2 := of_decide_eq_false hb.2
      have hm : ¬ (m = 0 ∨ 200 < m) := by omega
      obtain ⟨d, M, hd⟩ := RsP.mon_ct (m := m) (by omega) (by omega)
      have hcl := M.len
      refine q_asgL (el_call (ea_cons (ev_var rfl) ea_nil) (spl_circle_of (m := m) (by omega) (by omega))) fun b H2 hb2 e2 h3 => ?_
      refine s_retL (xs := iV (Na04.shown (Na04.circle m))) (el_catNV (xs := [V.int (((Na04.circle m).length : Nat) : Int)]) (ys := iV (Na04.circle m)) (el_lst (ea_cons (ev_is (ev_len (ev_var rfl) (sq_of h3)) (by rw [iV_len])) ea_nil) (by show 1 ≤ 100000; omega)) (ev_var rfl) h3 (by rw [iV_len, hcl]; show 1 + (d + 1) ≤ 100000; omega)) fun p H4 hp e4 h4 => q.pure hL rfl ?_ p H4 (fresh_back (e1.trans e2) hp) ((e1.trans e2).trans e4) h4
      show (if m = 0 ∨ 200 < m then [-1] else Na04.shown (Na04.circle m)).map V.int = _
      rw [if_neg hm]
      rfl
abbrev s_Line_sums : Stmt := inClass (topS 35) 13
abbrev N_Line_sums : List Str := ["self", "polynomial", "answer", "numbers"]
theorem sc_Line_sums : FnScope N_Line_sums ["self"] (defScope s_Line_sums) := ⟨rfl, rfl, rfl, by decide +kernel, rfl, by decide +kernel, by decide +kernel⟩
def sp_Line_sums (CL CR : Addr) : Sp := fun vs H Q _ => ∃ (l : Addr) (n : Nat), vs = [.ref l] ∧ IsLine CL CR H l n ∧ RetC CL CR .sums l n H Q
theorem ok_Line_sums (T : Txt K mg CR CL TH) {f f1 f3 : Addr} {fd fd1 fd3 : FuncData} (F : Fun K "sums" "Line.sums" s_Line_sums f fd)
    (D_circle_of : Df K mg "circle_of" ["m"] f1 fd1) (G_circle_of : FnOk P w K mg base CX0 4 f1 fd1 ["m"] sp_circle_of)
    (D_told_sum : Df K mg "told_sum" ["powers", "m", "polynomial"] f3 fd3) (G_told_sum : FnOk P w K mg base CX0 3 f3 fd3 ["powers", "m", "polynomial"] sp_told_sum) : FnOk P w K mg base CX0 5 f fd ["self"] (sp_Line_sums CL CR) := by
  refine F.ok sc_Line_sums (fun vs H Q E h => ?_) (fun cdv A outer s H vs Q E hr h => ?_)
  · obtain ⟨l, n, rfl, _⟩ := h
    rfl
  · obtain ⟨l, n, rfl, hL, q⟩ := h
    have R_circle_of := hr
    have R_told_sum := hr.mono (j := 3) (by decide)
    refine ⟨_, (pss_cons (ps_set (i := 1) sc_Line_sums.nd rfl (Or.inl rfl) (pe_call G_circle_of R_circle_of (by rfl) D_circle_of.mg D_circle_of.kp D_circle_of.b .nil pass0 (pa_cons (fldK K (fldK K (pv 0))) pa_nil)))
    (pss_cons (ps_set (i := 2) sc_Line_sums.nd rfl (Or.inl rfl) (pe_lst pa_nil))
    (pss_cons (ps_for PassesOwn.never rfl (pilK K (fldK K (fldK K (pv 0)))) (pg_name (i := 3) sc_Line_sums.nd rfl (Or.inl rfl))
    (pss_one (ps_expr (bmK K PySem.F.plainAttrs_list PySem.F.slot_list_extend PySem.F.type_list_extend mt_extend (pv 2) (pa_cons (pe_call G_told_sum R_told_sum (by rfl) D_told_sum.mg D_told_sum.kp D_told_sum.b .nil pass0 (pa_cons (pv 3) (pa_cons (fldK K (fldK K (pv 0))) (pa_cons (pv 1) pa_nil)))) pa_nil)))))
    (pss_one (ps_ret (pv 2)))))), ?_⟩
    obtain ⟨dl, r, hl⟩ := id hL
    obtain ⟨dx, u, c, pl, cv, ra⟩ := hl.r
    have g := got T (σ := start N_Line_sums [.ref l]) rfl hl.o ra
    have hfl := RsP.fine_le n ra.lo ra.hi
    have hul := RsM.units_len12 n ra.lo ra.hi
    have hcl := RsM.chars_len ra.lo ra.hi
    have hcv : cv.length = (Na04.chars n).length := by rw [ra.cs.len, List.length_map]
    obtain ⟨d, M, hd⟩ := RsP.mon_ct (m := Na04.exponent n) hfl.2.2.2.2.1 hfl.2.2.2.2.2
    refine q_asgL (el_call (ea_cons g.exponent ea_nil) (spl_circle_of (m := Na04.exponent n) hfl.2.2.2.2.1 hfl.2.2.2.2.2)) fun po H1 hpo e1 h1 => ?_
    refine q_asgL (xs := []) (el_lst ea_nil (Nat.zero_le _)) fun L H2 hL2 e2 h2 => ?_
    have hLH := fresh_back e1 hL2
    have e12 := e1.trans e2
    have hLpo : po ≠ L := fun e => by rw [e, hL2] at h1; cases h1
    have g2 := got T (σ := [some (.ref l), some (.ref po), some (.ref L), none]) rfl (e12 _ _ hl.o) (ra.mono e12)
    refine q_forLn (K := K) (xs := cv) g2.characters (sq_of g2.ra.c) (fun i σ' H' => Ex H H' ∧ ∃ z : Option V, i ≤ cv.length ∧ H' po = some (.lst (iV (Na04.circle (Na04.exponent n)))) ∧ H' L = some (.lst (iV (((Na04.chars n).take i).flatMap fun c => Na04.shown (Na04.ofPowers (Na04.exponent n) c)))) ∧ (((Na04.chars n).take i).flatMap fun c => Na04.shown (Na04.ofPowers (Na04.exponent n) c)).length ≤ i * 201 ∧ σ' = [some (.ref l), some (.ref po), some (.ref L), z])
      (fun H3 e3 => ⟨e12.trans e3, none, Nat.zero_le _, (e2.trans e3) _ _ h1, e3 _ _ h2, by simp, rfl⟩) (fun i σ' H' _ hP => sq_of (hP.1 _ _ ra.c)) (fun i x σ' H3 hx hP => ?_) (fun σ' H3 hP => ?_)
    · obtain ⟨e3, z, hi, hpo3, hL3, hfl3, rfl⟩ := hP
      obtain ⟨cp, cr, rfl, hcr, hcp⟩ := ra.cs.of hx
      rw [List.getElem?_map] at hcr
      cases hc : (Na04.chars n)[i]? with
      | none => rw [hc] at hcr; cases hcr
      | some row =>
        rw [hc] at hcr
        have hcr : nV row = cr := Option.some.inj hcr
        subst hcr
        have hil : i < cv.length := (List.getElem?_eq_some_iff.mp hx).1
        have etk : (((Na04.chars n).take (i + 1)).flatMap fun c => Na04.shown (Na04.ofPowers (Na04.exponent n) c)) = (((Na04.chars n).take i).flatMap fun c => Na04.shown (Na04.ofPowers (Na04.exponent n) c)) ++ Na04.shown (Na04.ofPowers (Na04.exponent n) row) := by
          rw [List.take_add_one, hc, List.flatMap_append]
          simp
        have hol : (Na04.shown (Na04.ofPowers (Na04.exponent n) row)).length ≤ 201 := by
          show (Na04.ofPowers (Na04.exponent n) row).length + 1 ≤ 201
          rw [RsP.ofPowers_cnts, RsP.reduce_tl M, RsP.tl_len]
          omega
        have hcp3 : H3 cp = some (.lst (iV (Na04.ints row))) := by rw [iV_ints]; exact e3 _ _ hcp
        have g3 := got T (σ := [some (.ref l), some (.ref po), some (.ref L), some (.ref cp)]) rfl (e3 _ _ hl.o) (ra.mono e3)
        have told := spl_told_sum hcp3 hpo3 M hd hfl.2.2.2.2.1 hfl.2.2.2.2.2
        rw [RsP.ofPowers_rd] at told
        refine s_extN (K := K) hL3 (ev_var rfl) (el_call (ea_cons (ev_var rfl) (ea_cons g3.exponent (ea_cons (ev_var rfl) ea_nil))) told) ?_ fun H4 e4 => ⟨Ex.mut (e3.trans e4) hLH, _, by omega, ?_, ?_, ?_, rfl⟩
        · rw [iV_len, iV_len]
          exact Nat.le_trans (show _ ≤ 100000 by omega) (by decide)
        · rw [upd_ne hLpo]
          exact e4 _ _ hpo3
        · rw [etk, iV_append]
          exact upd_same
        · rw [etk, List.length_append]
          omega
    · obtain ⟨e3, z, hi, hpo3, hL3, hfl3, rfl⟩ := hP
      rw [hcv, List.take_length] at hL3
      exact s_ret (ev_var rfl) fun H4 e4 => q.pure hL rfl (xs := iV ((Na04.chars n).flatMap fun c => Na04.shown (Na04.ofPowers (Na04.exponent n) c))) rfl L H4 hLH (e3.trans e4) (e4 _ _ hL3)
end
end Rs
set_option Elab.async false
set_option linter.all false
set_option maxRecDepth 100000
set_option maxHeartbeats 4000000
namespace Rs
open PySem PySem.Spec PyProof.Rows L2 Evl
/-! ### calls as the document writes them -/
def hoF : List Nat := [1, 0, 1, 2, 2, 1, 1, 2, 2, 2, 1, 1, 0]
theorem shape_inv {p : Int} {k r : Nat} (h : PyNa04.shape p = some (k, r)) : ∃ q : Nat, p = (q : Int) ∧ q < 13 ∧ r = 0 ∧ hoF[q]? = some k := by
  unfold PyNa04.shape at h
  by_cases h0 : p = 0
  · rw [if_pos h0] at h
    obtain ⟨e1, e2⟩ := Prod.mk.inj (Option.some.inj h)
    subst e1 e2
    exact ⟨0, h0, by omega, rfl, rfl⟩
  rw [if_neg h0] at h
  by_cases h1 : p = 1
  · rw [if_pos h1] at h
    obtain ⟨e1, e2⟩ := Prod.mk.inj (Option.some.inj h)
    subst e1 e2
    exact ⟨1, h1, by omega, rfl, rfl⟩
  rw [if_neg h1] at h
  by_cases h2 : p = 2
  · rw [if_pos h2] at h
    obtain ⟨e1, e2⟩ := Prod.mk.inj (Option.some.inj h)
    subst e1 e2
    exact ⟨2, h2, by omega, rfl, rfl⟩
  rw [if_neg h2] at h
  by_cases h3 : p = 3
  · rw [if_pos h3] at h
    obtain ⟨e1, e2⟩ := Prod.mk.inj (Option.some.inj h)
    subst e1 e2
    exact ⟨3, h3, by omega, rfl, rfl⟩
  rw [if_neg h3] at h
  by_cases h4 : p = 4
  · rw [if_pos h4] at h
    obtain ⟨e1, e2⟩ := Prod.mk.inj (Option.some.inj h)
    subst e1 e2
    exact ⟨4, h4, by omega, rfl, rfl⟩
  rw [if_neg h4] at h
  by_cases h5 : p = 5
  · rw [if_pos h5] at h
    obtain ⟨e1, e2⟩ := Prod.mk.inj (Option.some.inj h)
    subst e1 e2
    exact ⟨5, h5, by omega, rfl, rfl⟩
  rw [if_neg h5] at h
  by_cases h6 : p = 6
  · rw [if_pos h6] at h
    obtain ⟨e1, e2⟩ := Prod.mk.inj (Option.some.inj h)
    subst e1 e2
    exact ⟨6, h6, by omega, rfl, rfl⟩
  rw [if_neg h6] at h
  by_cases h7 : p = 7
  · rw [if_pos h7] at h
    obtain ⟨e1, e2⟩ := Prod.mk.inj (Option.some.inj h)
    subst e1 e2
    exact ⟨7, h7, by omega, rfl, rfl⟩
  rw [if_neg h7] at h
  by_cases h8 : p = 8
  · rw [if_pos h8] at h
    obtain ⟨e1, e2⟩ := Prod.mk.inj (Option.some.inj h)
    subst e1 e2
    exact ⟨8, h8, by omega, rfl, rfl⟩
  rw [if_neg h8] at h
  by_cases h9 : p = 9
  · rw [if_pos h9] at h
    obtain ⟨e1, e2⟩ := Prod.mk.inj (Option.some.inj h)
    subst e1 e2
    exact ⟨9, h9, by omega, rfl, rfl⟩
  rw [if_neg h9] at h
  by_cases h10 : p = 10
  · rw [if_pos h10] at h
    obtain ⟨e1, e2⟩ := Prod.mk.inj (Option.some.inj h)
    subst e1 e2
    exact ⟨10, h10, by omega, rfl, rfl⟩
  rw [if_neg h10] at h
  by_cases h11 : p = 11
  · rw [if_pos h11] at h
    obtain ⟨e1, e2⟩ := Prod.mk.inj (Option.some.inj h)
    subst e1 e2
    exact ⟨11, h11, by omega, rfl, rfl⟩
  rw [if_neg h11] at h
  by_cases h12 : p = 12
  · rw [if_pos h12] at h
    obtain ⟨e1, e2⟩ := Prod.mk.inj (Option.some.inj h)
    subst e1 e2
    exact ⟨12, h12, by omega, rfl, rfl⟩
  rw [if_neg h12] at h
  cases h
theorem callIn_some : ∀ (q : Nat) (args : List Nat), hoF[q]? = some args.length → ∃ x, Na04Neutral.callIn (q :: args) = some x
  | 0, [a], _ => ⟨_, rfl⟩
  | 0, [], h => by simp [hoF] at h
  | 0, _ :: _ :: _, h => by simp [hoF] at h
  | 1, [], _ => ⟨_, rfl⟩
  | 1, _ :: _, h => by simp [hoF] at h
  | 2, [a], _ => ⟨_, rfl⟩
  | 2, [], h => by simp [hoF] at h
  | 2, _ :: _ :: _, h => by simp [hoF] at h
  | 3, [a, b], _ => ⟨_, rfl⟩
  | 3, [], h => by simp [hoF] at h
  | 3, [_], h => by simp [hoF] at h
  | 3, _ :: _ :: _ :: _, h => by simp [hoF] at h
  | 4, [a, b], _ => ⟨_, rfl⟩
  | 4, [], h => by simp [hoF] at h
  | 4, [_], h => by simp [hoF] at h
  | 4, _ :: _ :: _ :: _, h => by simp [hoF] at h
  | 5, [a], _ => ⟨_, rfl⟩
  | 5, [], h => by simp [hoF] at h
  | 5, _ :: _ :: _, h => by simp [hoF] at h
  | 6, [a], _ => ⟨_, rfl⟩
  | 6, [], h => by simp [hoF] at h
  | 6, _ :: _ :: _, h => by simp [hoF] at h
  | 7, [a, b], _ => ⟨_, rfl⟩
  | 7, [], h => by simp [hoF] at h
  | 7, [_], h => by simp [hoF] at h
  | 7, _ :: _ :: _ :: _, h => by simp [hoF] at h
  | 8, [a, b], _ => ⟨_, rfl⟩
  | 8, [], h => by simp [hoF] at h
  | 8, [_], h => by simp [hoF] at h
  | 8, _ :: _ :: _ :: _, h => by simp [hoF] at h
  | 9, [a, b], _ => ⟨_, rfl⟩
  | 9, [], h => by simp [hoF] at h
  | 9, [_], h => by simp [hoF] at h
  | 9, _ :: _ :: _ :: _, h => by simp [hoF] at h
  | 10, [a], _ => ⟨_, rfl⟩
  | 10, [], h => by simp [hoF] at h
  | 10, _ :: _ :: _, h => by simp [hoF] at h
  | 11, [a], _ => ⟨_, rfl⟩
  | 11, [], h => by simp [hoF] at h
  | 11, _ :: _ :: _, h => by simp [hoF] at h
  | 12, [], _ => ⟨_, rfl⟩
  | 12, _ :: _, h => by simp [hoF] at h
  | _ + 13, _, h => by simp [hoF] at h
theorem whole_id : ∀ (q : Nat) (args : List Int), hoF[q]? = some args.length → PyNa04.whole [(q : Int) :: args] = [(q : Int) :: args]
  | 0, [a], _ => rfl
  | 0, [], h => by simp [hoF] at h
  | 0, _ :: _ :: _, h => by simp [hoF] at h
  | 1, [], _ => rfl
  | 1, _ :: _, h => by simp [hoF] at h
  | 2, [a], _ => rfl
  | 2, [], h => by simp [hoF] at h
  | 2, _ :: _ :: _, h => by simp [hoF] at h
  | 3, [a, b], _ => rfl
  | 3, [], h => by simp [hoF] at h
  | 3, [_], h => by simp [hoF] at h
  | 3, _ :: _ :: _ :: _, h => by simp [hoF] at h
  | 4, [a, b], _ => rfl
  | 4, [], h => by simp [hoF] at h
  | 4, [_], h => by simp [hoF] at h
  | 4, _ :: _ :: _ :: _, h => by simp [hoF] at h
  | 5, [a], _ => rfl
  | 5, [], h => by simp [hoF] at h
  | 5, _ :: _ :: _, h => by simp [hoF] at h
  | 6, [a], _ => rfl
  | 6, [], h => by simp [hoF] at h
  | 6, _ :: _ :: _, h => by simp [hoF] at h
  | 7, [a, b], _ => rfl
  | 7, [], h => by simp [hoF] at h
  | 7, [_], h => by simp [hoF] at h
  | 7, _ :: _ :: _ :: _, h => by simp [hoF] at h
  | 8, [a, b], _ => rfl
  | 8, [], h => by simp [hoF] at h
  | 8, [_], h => by simp [hoF] at h
  | 8, _ :: _ :: _ :: _, h => by simp [hoF] at h
  | 9, [a, b], _ => rfl
  | 9, [], h => by simp [hoF] at h
  | 9, [_], h => by simp [hoF] at h
  | 9, _ :: _ :: _ :: _, h => by simp [hoF] at h
  | 10, [a], _ => rfl
  | 10, [], h => by simp [hoF] at h
  | 10, _ :: _ :: _, h => by simp [hoF] at h
  | 11, [a], _ => rfl
  | 11, [], h => by simp [hoF] at h
  | 11, _ :: _ :: _, h => by simp [hoF] at h
  | 12, [], _ => rfl
  | 12, _ :: _, h => by simp [hoF] at h
  | _ + 13, _, h => by simp [hoF] at h
/-- one call off the list -/
theorem calls_cons {f : Nat} {p : Int} {r : List Int} {cs : List (List (List Int))} (h : PyFlat.calls PyNa04.shape f (p :: r) = some cs) :
    ∃ (q k f' : Nat) (cs' : List (List (List Int))), p = (q : Int) ∧ q < 13 ∧ hoF[q]? = some k ∧ k ≤ r.length ∧ PyFlat.calls PyNa04.shape f' (r.drop k) = some cs' ∧ cs = [(q : Int) :: r.take k] :: cs' := by
  cases f with
  | zero => cases h
  | succ f =>
    have h' : (match PyFlat.call PyNa04.shape (p :: r) with
      | none => none
      | some (c, t) => match PyFlat.calls PyNa04.shape f t with
        | none => none
        | some cs => some (c :: cs)) = some cs := h
    have hc : PyFlat.call PyNa04.shape (p :: r) = (match PyNa04.shape p with
      | none => none
      | some (n, k) => if r.length < n then none else match PyFlat.rows k (r.drop n) with
        | none => none
        | some (xs, t) => some ((p :: r.take n) :: xs, t)) := rfl
    cases e : PyNa04.shape p with
    | none =>
      rw [hc, e] at h'
      cases h'
    | some x =>
      obtain ⟨k, z⟩ := x
      obtain ⟨q, rfl, hq, rfl, hk⟩ := shape_inv e
      rw [hc, e] at h'
      by_cases hl : r.length < k
      · have h2 : (match (if r.length < k then none else match PyFlat.rows 0 (r.drop k) with
          | none => none
          | some (xs, t) => some (((q : Int) :: r.take k) :: xs, t) : Option (List (List Int) × List Int)) with
          | none => none
          | some (c, t) => match PyFlat.calls PyNa04.shape f t with
            | none => none
            | some cs => some (c :: cs)) = some cs := h'
        rw [if_pos hl] at h2
        cases h2
      · have h2 : (match (if r.length < k then none else match PyFlat.rows 0 (r.drop k) with
          | none => none
          | some (xs, t) => some (((q : Int) :: r.take k) :: xs, t) : Option (List (List Int) × List Int)) with
          | none => none
          | some (c, t) => match PyFlat.calls PyNa04.shape f t with
            | none => none
            | some cs => some (c :: cs)) = some cs := h'
        rw [if_neg hl] at h2
        have h3 : (match PyFlat.calls PyNa04.shape f (r.drop k) with
            | none => none
            | some cs => some ([(q : Int) :: r.take k] :: cs)) = some cs := h2
        cases e2 : PyFlat.calls PyNa04.shape f (r.drop k) with
        | none => rw [e2] at h3; cases h3
        | some cs' =>
          rw [e2] at h3
          exact ⟨q, k, f, cs', rfl, hq, hk, by omega, e2, (Option.some.inj h3).symm⟩
def stepF (s : Na04.St) (c : List (List Int)) : Na04.St × List Int := Na04Neutral.step s (c.headD [])
/-- the rest of a list's answers -/
def restA (n : Nat) (cs : List (List (List Int))) : List Int := PyFlat.told (PyFlat.played stepF ⟨n⟩ (cs.map PyNa04.whole))
theorem restA_nil (n : Nat) : restA n [] = [] := rfl
theorem nats_of : ∀ l : List Int, (∀ x ∈ l, 0 ≤ x ∧ x ≤ 4294967295) → ∃ ms : List Nat, l = ms.map (fun (m : Nat) => (m : Int)) ∧ ∀ m ∈ ms, m ≤ 4294967295
  | [], _ => ⟨[], rfl, fun _ h => by cases h⟩
  | x :: l, h => by
    obtain ⟨ms, h1, h2⟩ := nats_of l fun y hy => h y (List.mem_cons_of_mem _ hy)
    have hx := h x List.mem_cons_self
    refine ⟨x.toNat :: ms, ?_, ?_⟩
    · rw [List.map_cons, ← h1, Int.toNat_of_nonneg hx.1]
    · intro m hm
      rcases List.mem_cons.mp hm with e | hm
      · omega
      · exact h2 m hm
theorem callOf_is {q : Nat} {ms : List Nat} {x : Na04.Call} (hq : q < 13) (hb : ∀ m ∈ ms, m ≤ 4294967295) (h : Na04Neutral.callIn (q :: ms) = some x) : Na04Neutral.callOf ((q : Int) :: ms.map (fun (m : Nat) => (m : Int))) = some x := by
  unfold Na04Neutral.callOf
  have ha : ((q : Int) :: ms.map (fun (m : Nat) => (m : Int))).all Na04Neutral.nat = true := by
    rw [List.all_cons, Bool.and_eq_true]
    refine ⟨?_, ?_⟩
    · unfold Na04Neutral.nat
      rw [Bool.and_eq_true]
      exact ⟨decide_eq_true (by omega), decide_eq_true (by omega)⟩
    · rw [List.all_eq_true]
      intro z hz
      obtain ⟨m, hm, rfl⟩ := List.mem_map.mp hz
      have := hb m hm
      unfold Na04Neutral.nat
      rw [Bool.and_eq_true]
      exact ⟨decide_eq_true (by omega), decide_eq_true (by omega)⟩
  rw [ha, if_neg (by decide), List.map_cons, List.map_map]
  have : (ms.map (Int.toNat ∘ fun (m : Nat) => (m : Int))) = ms := by
    have e : (Int.toNat ∘ fun (m : Nat) => (m : Int)) = id := by
      funext m
      exact Int.toNat_natCast m
    rw [e, List.map_id]
  rw [this]
  exact h
theorem restA_cons {n q : Nat} {ms : List Nat} {x : Na04.Call} {cs : List (List (List Int))} (hq : q < 13) (hk : hoF[q]? = some ms.length) (hb : ∀ m ∈ ms, m ≤ 4294967295) (h : Na04Neutral.callIn (q :: ms) = some x) :
    restA n ([(q : Int) :: ms.map (fun (m : Nat) => (m : Int))] :: cs) = (((Na04.step ⟨n⟩ x).2.length : Nat) : Int) :: ((Na04.step ⟨n⟩ x).2 ++ restA (Na04.step ⟨n⟩ x).1.n cs) := by
  have ew := whole_id q (ms.map (fun (m : Nat) => (m : Int))) (by rw [List.length_map]; exact hk)
  have es : stepF ⟨n⟩ [(q : Int) :: ms.map (fun (m : Nat) => (m : Int))] = Na04.step ⟨n⟩ x := by
    have ef : ∀ (s : Na04.St) (c : List Int), stepF s [c] = (match Na04Neutral.callOf c with
      | none => (s, [])
      | some x => Na04.step s x) := fun _ _ => rfl
    rw [ef, callOf_is hq hb h]
  unfold restA
  rw [List.map_cons, ew]
  have ep : ∀ (s : Na04.St) (c : List (List Int)) (r : List (List (List Int))), PyFlat.told (PyFlat.played stepF s (c :: r)) = (((stepF s c).2.length : Nat) : Int) :: ((stepF s c).2 ++ PyFlat.told (PyFlat.played stepF (stepF s c).1 r)) := fun _ _ _ => rfl
  rw [ep, es]
theorem answers_rest {ns : List Int} {cs : List (List (List Int))} (h : PyFlat.calls PyNa04.shape ns.length ns = some cs) : PyNa04.answers ns = restA 2 cs := by
  unfold PyNa04.answers PyNa04.calls
  rw [h]
  rfl
theorem asked_calls {ns : List Int} (h : PyNa04.answers_asked ns = true) : ∃ cs, PyFlat.calls PyNa04.shape ns.length ns = some cs ∧ (PyNa04.answers ns).length ≤ 10000000 := by
  unfold PyNa04.answers_asked at h
  cases e : PyFlat.calls PyNa04.shape ns.length ns with
  | none => rw [e] at h; cases h
  | some cs =>
    rw [e] at h
    have h2 := (Bool.and_eq_true_iff.mp h).2
    exact ⟨cs, rfl, of_decide_eq_true h2⟩
section
variable {K : PySem.W.Frag} {σ : L2.St} {H H' : Hp} {ta tb te : TE} {D : Ends} {tz : TS} {v : V}
theorem q_appS {l : Addr} {xs : List V} (hl : H l = some (.lst xs)) (ha : Ev ta σ H (.ref l)) (h : Ev te σ H v) (hz : xs.length < sizeLine) (k : ∀ H1, Ex H H1 → tz D σ (L2.upd H1 l (.lst (xs ++ [v])))) :
    tSeq (tDrop (tBM K "list" rAppend ta (tCons te tNil))) tz D σ H := ha H (Ex.refl H) _ fun H1 e1 =>
  ⟨Or.inl ⟨rfl, xs, sq_of (e1 l _ hl)⟩, h H1 e1 _ fun H2 e2 => ⟨l, xs, v, rfl, rfl, e2 l _ (e1 l _ hl), hz, k H2 (e1.trans e2)⟩⟩
/-- return o.m(..) -/
theorem s_retM {C a dx : Addr} {m : Str} {fs : List (Str × V)} {sp : Sp} {E : XK} {t : TA} {vs : List V} (ha : Ev ta σ H (.ref a)) (ho : H a = some (.ins C dx fs)) (l : fs.lookup m = none) (h : EvA t σ H vs) (hs : ∀ H2, Ex H H2 → sp (.ref a :: (vs ++ [])) H2 D.rt E) : tRet (tMeth C m sp [] E ta t) D σ H :=
  ha H (Ex.refl H) _ fun H1 e1 => ⟨a, dx, fs, rfl, e1 _ _ ho, l, h H1 e1 _ fun H2 e2 => hs H2 (e1.trans e2)⟩
/-- x = f(..), f a def that changes what was known -/
theorem q_asgC {i : Nat} {sp : Sp} {E : XK} {t : TA} {vs : List V} (h : EvA t σ H vs) (hs : ∀ H2, Ex H H2 → sp (vs ++ []) H2 (fun v H3 => tz D (σ.set i (some v)) H3) E) : tSeq (tAsg (tCall sp [] E t) (gName i)) tz D σ H :=
  h H (Ex.refl H) _ fun H1 e1 => hs H1 e1
theorem ep_line {CL CR : Addr} {E : XK} : EvP (tMake CL (sp_Line___init__ CL CR) [] E tNil) σ H (fun v H2 => ∃ l, v = .ref l ∧ IsLine CL CR (sub H2 H) l 2) := fun H1 e Q q x dx nx nd ne => ⟨x, dx, rfl, upd_same, fun H3 hR e3 => by
    have e4 : Ex H1 (del (L2.upd (L2.upd H1 dx (.own x)) x (.ins CL dx [])) x) := fun b o hb => del_of (by
      rw [upd_ne (ne_of_none hb nx), upd_ne (ne_of_none hb nd)]
      exact hb) (ne_of_none hb nx)
    exact ⟨rfl, q _ H3 (e4.trans e3) ⟨x, rfl, hR.mono (sub_anti (e.trans e4))⟩⟩⟩
end
theorem RetC.mono {CL CR : Addr} {c : Na04.Call} {l : Addr} {n : Nat} {H H2 : Hp} {Q : VK} (k : RetC CL CR c l n H Q) (e : Ex H H2) : RetC CL CR c l n H2 Q := fun p H' h1 hs h2 h3 h4 => k p H' h1 (fun t ht hLt => hs t (fun z => ht (fresh_back e z)) (hLt.mono (del_mono e t))) (fun b o hb => by
  obtain ⟨hb1, hb2⟩ := del_some hb
  exact h2 b o (del_of (e _ _ hb1) hb2)) (fresh_back e h3) h4
theorem lkL {m : Str} {r : V} (h : (m == ("ring" : Str)) = false) : List.lookup m [(("ring" : Str), r)] = none := (lk_past h).trans rfl
section
variable {P : Program} {w : World} {K : PySem.W.Frag} {mg : Str → Option Value} {base : Heap} {CR CL TH : Addr}
abbrev s_answer_to : Stmt := topS 50
abbrev N_answer_to : List Str := ["line", "call", "handed"]
theorem sc_answer_to : FnScope N_answer_to ["line", "call", "handed"] (defScope s_answer_to) := ⟨rfl, rfl, rfl, by decide +kernel, rfl, by decide +kernel, by decide +kernel⟩
def sp_answer_to (CL CR : Addr) : Sp := fun vs H Q _ => ∃ (l h : Addr) (n q : Nat) (args : List Nat) (x : Na04.Call), vs = [.ref l, .int (q : Int), .ref h] ∧ IsLine CL CR H l n ∧ H h = some (.lst (nV args)) ∧ Na04Neutral.callIn (q :: args) = some x ∧ RetC CL CR x l n H Q
theorem ok_answer_to (T : Txt K mg CR CL TH) {f f_round_of f_chars f_char f_value f_product f_inverse f_from_what f_gauss f_size f_jacobi f_circle f_even f_sums : Addr} {fd d_round_of d_chars d_char d_value d_product d_inverse d_from_what d_gauss d_size d_jacobi d_circle d_even d_sums : FuncData} (F : Fun K "answer_to" "answer_to" s_answer_to f fd)
    (D_Line_round_of : Dm K CL "round_of" ["self", "n"] f_round_of d_round_of) (G_Line_round_of : FnOk P w K mg base CX0 7 f_round_of d_round_of ["self", "n"] (sp_Line_round_of CL CR))
    (D_Line_chars : Dm K CL "chars" ["self"] f_chars d_chars) (G_Line_chars : FnOk P w K mg base CX0 1 f_chars d_chars ["self"] (sp_Line_chars CL CR))
    (D_Line_char : Dm K CL "char" ["self", "i"] f_char d_char) (G_Line_char : FnOk P w K mg base CX0 2 f_char d_char ["self", "i"] (sp_Line_char CL CR))
    (D_Line_value : Dm K CL "value" ["self", "i", "a"] f_value d_value) (G_Line_value : FnOk P w K mg base CX0 2 f_value d_value ["self", "i", "a"] (sp_Line_value CL CR))
    (D_Line_product : Dm K CL "product" ["self", "i", "j"] f_product d_product) (G_Line_product : FnOk P w K mg base CX0 2 f_product d_product ["self", "i", "j"] (sp_Line_product CL CR))
    (D_Line_inverse : Dm K CL "inverse" ["self", "i"] f_inverse d_inverse) (G_Line_inverse : FnOk P w K mg base CX0 2 f_inverse d_inverse ["self", "i"] (sp_Line_inverse CL CR))
    (D_Line_from_what : Dm K CL "from_what" ["self", "i"] f_from_what d_from_what) (G_Line_from_what : FnOk P w K mg base CX0 3 f_from_what d_from_what ["self", "i"] (sp_Line_from_what CL CR))
    (D_Line_gauss : Dm K CL "gauss" ["self", "i", "a"] f_gauss d_gauss) (G_Line_gauss : FnOk P w K mg base CX0 4 f_gauss d_gauss ["self", "i", "a"] (sp_Line_gauss CL CR))
    (D_Line_size : Dm K CL "size" ["self", "i", "a"] f_size d_size) (G_Line_size : FnOk P w K mg base CX0 4 f_size d_size ["self", "i", "a"] (sp_Line_size CL CR))
    (D_Line_jacobi : Dm K CL "jacobi" ["self", "i", "j"] f_jacobi d_jacobi) (G_Line_jacobi : FnOk P w K mg base CX0 4 f_jacobi d_jacobi ["self", "i", "j"] (sp_Line_jacobi CL CR))
    (D_Line_circle : Dm K CL "circle" ["self", "m"] f_circle d_circle) (G_Line_circle : FnOk P w K mg base CX0 5 f_circle d_circle ["self", "m"] (sp_Line_circle CL CR))
    (D_Line_even : Dm K CL "even" ["self", "i"] f_even d_even) (G_Line_even : FnOk P w K mg base CX0 2 f_even d_even ["self", "i"] (sp_Line_even CL CR))
    (D_Line_sums : Dm K CL "sums" ["self"] f_sums d_sums) (G_Line_sums : FnOk P w K mg base CX0 5 f_sums d_sums ["self"] (sp_Line_sums CL CR))
    : FnOk P w K mg base CX0 8 f fd ["line", "call", "handed"] (sp_answer_to CL CR) := by
  refine F.ok sc_answer_to (fun vs H Q E h => ?_) (fun cdv A outer s H vs Q E hr h => ?_)
  · obtain ⟨l, h, n, q, args, x, rfl, _⟩ := h
    rfl
  · obtain ⟨l, h, n, q, args, x, rfl, hL, hh, hc, k⟩ := h
    have R_Line_round_of := hr.mono (j := 7) (by decide)
    have R_Line_chars := hr.mono (j := 1) (by decide)
    have R_Line_char := hr.mono (j := 2) (by decide)
    have R_Line_value := hr.mono (j := 2) (by decide)
    have R_Line_product := hr.mono (j := 2) (by decide)
    have R_Line_inverse := hr.mono (j := 2) (by decide)
    have R_Line_from_what := hr.mono (j := 3) (by decide)
    have R_Line_gauss := hr.mono (j := 4) (by decide)
    have R_Line_size := hr.mono (j := 4) (by decide)
    have R_Line_jacobi := hr.mono (j := 4) (by decide)
    have R_Line_circle := hr.mono (j := 5) (by decide)
    have R_Line_even := hr.mono (j := 2) (by decide)
    have R_Line_sums := hr.mono (j := 5) (by decide)
    refine ⟨_, (pss_cons (ps_if (pt_cmpR op_eq (pv 1) (pe_glob (by rfl) T.g_ROUND_OF T.r_ROUND_OF) (nomark _))
    (pss_one (ps_ret (pe_meth (pv 0) T.cl_Line D_Line_round_of.m G_Line_round_of R_Line_round_of D_Line_round_of.b .nil pass0 (pa_cons (pe_ix (ixl K) (pv 2) pe_int (fun _ _ => rfl)) pa_nil))))
    pss_nil)
    (pss_cons (ps_if (pt_cmpR op_eq (pv 1) (pe_glob (by rfl) T.g_CHARS T.r_CHARS) (nomark _))
    (pss_one (ps_ret (pe_meth0 (pv 0) T.cl_Line D_Line_chars.m G_Line_chars R_Line_chars D_Line_chars.b .nil pass0)))
    pss_nil)
    (pss_cons (ps_if (pt_cmpR op_eq (pv 1) (pe_glob (by rfl) T.g_CHAR T.r_CHAR) (nomark _))
    (pss_one (ps_ret (pe_meth (pv 0) T.cl_Line D_Line_char.m G_Line_char R_Line_char D_Line_char.b .nil pass0 (pa_cons (pe_ix (ixl K) (pv 2) pe_int (fun _ _ => rfl)) pa_nil))))
    pss_nil)
    (pss_cons (ps_if (pt_cmpR op_eq (pv 1) (pe_glob (by rfl) T.g_VALUE T.r_VALUE) (nomark _))
    (pss_one (ps_ret (pe_meth (pv 0) T.cl_Line D_Line_value.m G_Line_value R_Line_value D_Line_value.b .nil pass0 (pa_cons (pe_ix (ixl K) (pv 2) pe_int (fun _ _ => rfl)) (pa_cons (pe_ix (ixl K) (pv 2) pe_int (fun _ _ => rfl)) pa_nil)))))
    pss_nil)
    (pss_cons (ps_if (pt_cmpR op_eq (pv 1) (pe_glob (by rfl) T.g_PRODUCT T.r_PRODUCT) (nomark _))
    (pss_one (ps_ret (pe_meth (pv 0) T.cl_Line D_Line_product.m G_Line_product R_Line_product D_Line_product.b .nil pass0 (pa_cons (pe_ix (ixl K) (pv 2) pe_int (fun _ _ => rfl)) (pa_cons (pe_ix (ixl K) (pv 2) pe_int (fun _ _ => rfl)) pa_nil)))))
    pss_nil)
    (pss_cons (ps_if (pt_cmpR op_eq (pv 1) (pe_glob (by rfl) T.g_INVERSE T.r_INVERSE) (nomark _))
    (pss_one (ps_ret (pe_meth (pv 0) T.cl_Line D_Line_inverse.m G_Line_inverse R_Line_inverse D_Line_inverse.b .nil pass0 (pa_cons (pe_ix (ixl K) (pv 2) pe_int (fun _ _ => rfl)) pa_nil))))
    pss_nil)
    (pss_cons (ps_if (pt_cmpR op_eq (pv 1) (pe_glob (by rfl) T.g_FROM_WHAT T.r_FROM_WHAT) (nomark _))
    (pss_one (ps_ret (pe_meth (pv 0) T.cl_Line D_Line_from_what.m G_Line_from_what R_Line_from_what D_Line_from_what.b .nil pass0 (pa_cons (pe_ix (ixl K) (pv 2) pe_int (fun _ _ => rfl)) pa_nil))))
    pss_nil)
    (pss_cons (ps_if (pt_cmpR op_eq (pv 1) (pe_glob (by rfl) T.g_GAUSS T.r_GAUSS) (nomark _))
    (pss_one (ps_ret (pe_meth (pv 0) T.cl_Line D_Line_gauss.m G_Line_gauss R_Line_gauss D_Line_gauss.b .nil pass0 (pa_cons (pe_ix (ixl K) (pv 2) pe_int (fun _ _ => rfl)) (pa_cons (pe_ix (ixl K) (pv 2) pe_int (fun _ _ => rfl)) pa_nil)))))
    pss_nil)
    (pss_cons (ps_if (pt_cmpR op_eq (pv 1) (pe_glob (by rfl) T.g_SIZE T.r_SIZE) (nomark _))
    (pss_one (ps_ret (pe_meth (pv 0) T.cl_Line D_Line_size.m G_Line_size R_Line_size D_Line_size.b .nil pass0 (pa_cons (pe_ix (ixl K) (pv 2) pe_int (fun _ _ => rfl)) (pa_cons (pe_ix (ixl K) (pv 2) pe_int (fun _ _ => rfl)) pa_nil)))))
    pss_nil)
    (pss_cons (ps_if (pt_cmpR op_eq (pv 1) (pe_glob (by rfl) T.g_JACOBI T.r_JACOBI) (nomark _))
    (pss_one (ps_ret (pe_meth (pv 0) T.cl_Line D_Line_jacobi.m G_Line_jacobi R_Line_jacobi D_Line_jacobi.b .nil pass0 (pa_cons (pe_ix (ixl K) (pv 2) pe_int (fun _ _ => rfl)) (pa_cons (pe_ix (ixl K) (pv 2) pe_int (fun _ _ => rfl)) pa_nil)))))
    pss_nil)
    (pss_cons (ps_if (pt_cmpR op_eq (pv 1) (pe_glob (by rfl) T.g_CIRCLE T.r_CIRCLE) (nomark _))
    (pss_one (ps_ret (pe_meth (pv 0) T.cl_Line D_Line_circle.m G_Line_circle R_Line_circle D_Line_circle.b .nil pass0 (pa_cons (pe_ix (ixl K) (pv 2) pe_int (fun _ _ => rfl)) pa_nil))))
    pss_nil)
    (pss_cons (ps_if (pt_cmpR op_eq (pv 1) (pe_glob (by rfl) T.g_EVEN T.r_EVEN) (nomark _))
    (pss_one (ps_ret (pe_meth (pv 0) T.cl_Line D_Line_even.m G_Line_even R_Line_even D_Line_even.b .nil pass0 (pa_cons (pe_ix (ixl K) (pv 2) pe_int (fun _ _ => rfl)) pa_nil))))
    pss_nil)
    (pss_one (ps_ret (pe_meth0 (pv 0) T.cl_Line D_Line_sums.m G_Line_sums R_Line_sums D_Line_sums.b .nil pass0))))))))))))))), ?_⟩
    obtain ⟨dl, r, hl⟩ := id hL
    unfold Na04Neutral.callIn at hc
    split at hc
    · rename_i e
      obtain ⟨rfl, rfl⟩ := List.cons.inj e
      cases hc
      refine q_when (b := true) (et_is (et_test (ev_op (ev_var rfl) ev_c (rv_eq rfl))) (by decide)) (fun _ H1 e1 => ?_) (fun hb => by cases hb)
      have ee := e1
      exact s_retM (ev_var rfl) (ee _ _ hl.o) (lkL (by decide +kernel)) (ea_cons (ev_op (ev_var rfl) ev_c (rv_ixL (sq_of (ee _ _ hh)) rfl)) ea_nil) fun Hz ez => ⟨l, n, _, rfl, hL.mono (ee.trans ez), k.mono (ee.trans ez)⟩
    · rename_i e
      obtain ⟨rfl, rfl⟩ := List.cons.inj e
      cases hc
      refine q_when (b := false) (et_is (et_test (ev_op (ev_var rfl) ev_c (rv_eq rfl))) (by decide)) (fun hb => by cases hb) (fun _ H1 e1 => ?_)
      refine q_when (b := true) (et_is (et_test (ev_op (ev_var rfl) ev_c (rv_eq rfl))) (by decide)) (fun _ H2 e2 => ?_) (fun hb => by cases hb)
      have ee := (e1).trans e2
      exact s_retM (ev_var rfl) (ee _ _ hl.o) (lkL (by decide +kernel)) ea_nil fun Hz ez => ⟨l, n, rfl, hL.mono (ee.trans ez), k.mono (ee.trans ez)⟩
    · rename_i e
      obtain ⟨rfl, rfl⟩ := List.cons.inj e
      cases hc
      refine q_when (b := false) (et_is (et_test (ev_op (ev_var rfl) ev_c (rv_eq rfl))) (by decide)) (fun hb => by cases hb) (fun _ H1 e1 => ?_)
      refine q_when (b := false) (et_is (et_test (ev_op (ev_var rfl) ev_c (rv_eq rfl))) (by decide)) (fun hb => by cases hb) (fun _ H2 e2 => ?_)
      refine q_when (b := true) (et_is (et_test (ev_op (ev_var rfl) ev_c (rv_eq rfl))) (by decide)) (fun _ H3 e3 => ?_) (fun hb => by cases hb)
      have ee := ((e1).trans e2).trans e3
      exact s_retM (ev_var rfl) (ee _ _ hl.o) (lkL (by decide +kernel)) (ea_cons (ev_op (ev_var rfl) ev_c (rv_ixL (sq_of (ee _ _ hh)) rfl)) ea_nil) fun Hz ez => ⟨l, n, _, rfl, hL.mono (ee.trans ez), k.mono (ee.trans ez)⟩
    · rename_i e
      obtain ⟨rfl, rfl⟩ := List.cons.inj e
      cases hc
      refine q_when (b := false) (et_is (et_test (ev_op (ev_var rfl) ev_c (rv_eq rfl))) (by decide)) (fun hb => by cases hb) (fun _ H1 e1 => ?_)
      refine q_when (b := false) (et_is (et_test (ev_op (ev_var rfl) ev_c (rv_eq rfl))) (by decide)) (fun hb => by cases hb) (fun _ H2 e2 => ?_)
      refine q_when (b := false) (et_is (et_test (ev_op (ev_var rfl) ev_c (rv_eq rfl))) (by decide)) (fun hb => by cases hb) (fun _ H3 e3 => ?_)
      refine q_when (b := true) (et_is (et_test (ev_op (ev_var rfl) ev_c (rv_eq rfl))) (by decide)) (fun _ H4 e4 => ?_) (fun hb => by cases hb)
      have ee := (((e1).trans e2).trans e3).trans e4
      exact s_retM (ev_var rfl) (ee _ _ hl.o) (lkL (by decide +kernel)) (ea_cons (ev_op (ev_var rfl) ev_c (rv_ixL (sq_of (ee _ _ hh)) rfl)) (ea_cons (ev_op (ev_var rfl) ev_c (rv_ixL (sq_of (ee _ _ hh)) rfl)) ea_nil)) fun Hz ez => ⟨l, n, _, _, rfl, hL.mono (ee.trans ez), k.mono (ee.trans ez)⟩
    · rename_i e
      obtain ⟨rfl, rfl⟩ := List.cons.inj e
      cases hc
      refine q_when (b := false) (et_is (et_test (ev_op (ev_var rfl) ev_c (rv_eq rfl))) (by decide)) (fun hb => by cases hb) (fun _ H1 e1 => ?_)
      refine q_when (b := false) (et_is (et_test (ev_op (ev_var rfl) ev_c (rv_eq rfl))) (by decide)) (fun hb => by cases hb) (fun _ H2 e2 => ?_)
      refine q_when (b := false) (et_is (et_test (ev_op (ev_var rfl) ev_c (rv_eq rfl))) (by decide)) (fun hb => by cases hb) (fun _ H3 e3 => ?_)
      refine q_when (b := false) (et_is (et_test (ev_op (ev_var rfl) ev_c (rv_eq rfl))) (by decide)) (fun hb => by cases hb) (fun _ H4 e4 => ?_)
      refine q_when (b := true) (et_is (et_test (ev_op (ev_var rfl) ev_c (rv_eq rfl))) (by decide)) (fun _ H5 e5 => ?_) (fun hb => by cases hb)
      have ee := ((((e1).trans e2).trans e3).trans e4).trans e5
      exact s_retM (ev_var rfl) (ee _ _ hl.o) (lkL (by decide +kernel)) (ea_cons (ev_op (ev_var rfl) ev_c (rv_ixL (sq_of (ee _ _ hh)) rfl)) (ea_cons (ev_op (ev_var rfl) ev_c (rv_ixL (sq_of (ee _ _ hh)) rfl)) ea_nil)) fun Hz ez => ⟨l, n, _, _, rfl, hL.mono (ee.trans ez), k.mono (ee.trans ez)⟩
    · rename_i e
      obtain ⟨rfl, rfl⟩ := List.cons.inj e
      cases hc
      refine q_when (b := false) (et_is (et_test (ev_op (ev_var rfl) ev_c (rv_eq rfl))) (by decide)) (fun hb => by cases hb) (fun _ H1 e1 => ?_)
      refine q_when (b := false) (et_is (et_test (ev_op (ev_var rfl) ev_c (rv_eq rfl))) (by decide)) (fun hb => by cases hb) (fun _ H2 e2 => ?_)
      refine q_when (b := false) (et_is (et_test (ev_op (ev_var rfl) ev_c (rv_eq rfl))) (by decide)) (fun hb => by cases hb) (fun _ H3 e3 => ?_)
      refine q_when (b := false) (et_is (et_test (ev_op (ev_var rfl) ev_c (rv_eq rfl))) (by decide)) (fun hb => by cases hb) (fun _ H4 e4 => ?_)
      refine q_when (b := false) (et_is (et_test (ev_op (ev_var rfl) ev_c (rv_eq rfl))) (by decide)) (fun hb => by cases hb) (fun _ H5 e5 => ?_)
      refine q_when (b := true) (et_is (et_test (ev_op (ev_var rfl) ev_c (rv_eq rfl))) (by decide)) (fun _ H6 e6 => ?_) (fun hb => by cases hb)
      have ee := (((((e1).trans e2).trans e3).trans e4).trans e5).trans e6
      exact s_retM (ev_var rfl) (ee _ _ hl.o) (lkL (by decide +kernel)) (ea_cons (ev_op (ev_var rfl) ev_c (rv_ixL (sq_of (ee _ _ hh)) rfl)) ea_nil) fun Hz ez => ⟨l, n, _, rfl, hL.mono (ee.trans ez), k.mono (ee.trans ez)⟩
    · rename_i e
      obtain ⟨rfl, rfl⟩ := List.cons.inj e
      cases hc
      refine q_when (b := false) (et_is (et_test (ev_op (ev_var rfl) ev_c (rv_eq rfl))) (by decide)) (fun hb => by cases hb) (fun _ H1 e1 => ?_)
      refine q_when (b := false) (et_is (et_test (ev_op (ev_var rfl) ev_c (rv_eq rfl))) (by decide)) (fun hb => by cases hb) (fun _ H2 e2 => ?_)
      refine q_when (b := false) (et_is (et_test (ev_op (ev_var rfl) ev_c (rv_eq rfl))) (by decide)) (fun hb => by cases hb) (fun _ H3 e3 => ?_)
      refine q_when (b := false) (et_is (et_test (ev_op (ev_var rfl) ev_c (rv_eq rfl))) (by decide)) (fun hb => by cases hb) (fun _ H4 e4 => ?_)
      refine q_when (b := false) (et_is (et_test (ev_op (ev_var rfl) ev_c (rv_eq rfl))) (by decide)) (fun hb => by cases hb) (fun _ H5 e5 => ?_)
      refine q_when (b := false) (et_is (et_test (ev_op (ev_var rfl) ev_c (rv_eq rfl))) (by decide)) (fun hb => by cases hb) (fun _ H6 e6 => ?_)
      refine q_when (b := true) (et_is (et_test (ev_op (ev_var rfl) ev_c (rv_eq rfl))) (by decide)) (fun _ H7 e7 => ?_) (fun hb => by cases hb)
      have ee := ((((((e1).trans e2).trans e3).trans e4).trans e5).trans e6).trans e7
      exact s_retM (ev_var rfl) (ee _ _ hl.o) (lkL (by decide +kernel)) (ea_cons (ev_op (ev_var rfl) ev_c (rv_ixL (sq_of (ee _ _ hh)) rfl)) ea_nil) fun Hz ez => ⟨l, n, _, rfl, hL.mono (ee.trans ez), k.mono (ee.trans ez)⟩
    · rename_i e
      obtain ⟨rfl, rfl⟩ := List.cons.inj e
      cases hc
      refine q_when (b := false) (et_is (et_test (ev_op (ev_var rfl) ev_c (rv_eq rfl))) (by decide)) (fun hb => by cases hb) (fun _ H1 e1 => ?_)
      refine q_when (b := false) (et_is (et_test (ev_op (ev_var rfl) ev_c (rv_eq rfl))) (by decide)) (fun hb => by cases hb) (fun _ H2 e2 => ?_)
      refine q_when (b := false) (et_is (et_test (ev_op (ev_var rfl) ev_c (rv_eq rfl))) (by decide)) (fun hb => by cases hb) (fun _ H3 e3 => ?_)
      refine q_when (b := false) (et_is (et_test (ev_op (ev_var rfl) ev_c (rv_eq rfl))) (by decide)) (fun hb => by cases hb) (fun _ H4 e4 => ?_)
      refine q_when (b := false) (et_is (et_test (ev_op (ev_var rfl) ev_c (rv_eq rfl))) (by decide)) (fun hb => by cases hb) (fun _ H5 e5 => ?_)
      refine q_when (b := false) (et_is (et_test (ev_op (ev_var rfl) ev_c (rv_eq rfl))) (by decide)) (fun hb => by cases hb) (fun _ H6 e6 => ?_)
      refine q_when (b := false) (et_is (et_test (ev_op (ev_var rfl) ev_c (rv_eq rfl))) (by decide)) (fun hb => by cases hb) (fun _ H7 e7 => ?_)
      refine q_when (b := true) (et_is (et_test (ev_op (ev_var rfl) ev_c (rv_eq rfl))) (by decide)) (fun _ H8 e8 => ?_) (fun hb => by cases hb)
      have ee := (((((((e1).trans e2).trans e3).trans e4).trans e5).trans e6).trans e7).trans e8
      exact s_retM (ev_var rfl) (ee _ _ hl.o) (lkL (by decide +kernel)) (ea_cons (ev_op (ev_var rfl) ev_c (rv_ixL (sq_of (ee _ _ hh)) rfl)) (ea_cons (ev_op (ev_var rfl) ev_c (rv_ixL (sq_of (ee _ _ hh)) rfl)) ea_nil)) fun Hz ez => ⟨l, n, _, _, rfl, hL.mono (ee.trans ez), k.mono (ee.trans ez)⟩
    · rename_i e
      obtain ⟨rfl, rfl⟩ := List.cons.inj e
      cases hc
      refine q_when (b := false) (et_is (et_test (ev_op (ev_var rfl) ev_c (rv_eq rfl))) (by decide)) (fun hb => by cases hb) (fun _ H1 e1 => ?_)
      refine q_when (b := false) (et_is (et_test (ev_op (ev_var rfl) ev_c (rv_eq rfl))) (by decide)) (fun hb => by cases hb) (fun _ H2 e2 => ?_)
      refine q_when (b := false) (et_is (et_test (ev_op (ev_var rfl) ev_c (rv_eq rfl))) (by decide)) (fun hb => by cases hb) (fun _ H3 e3 => ?_)
      refine q_when (b := false) (et_is (et_test (ev_op (ev_var rfl) ev_c (rv_eq rfl))) (by decide)) (fun hb => by cases hb) (fun _ H4 e4 => ?_)
      refine q_when (b := false) (et_is (et_test (ev_op (ev_var rfl) ev_c (rv_eq rfl))) (by decide)) (fun hb => by cases hb) (fun _ H5 e5 => ?_)
      refine q_when (b := false) (et_is (et_test (ev_op (ev_var rfl) ev_c (rv_eq rfl))) (by decide)) (fun hb => by cases hb) (fun _ H6 e6 => ?_)
      refine q_when (b := false) (et_is (et_test (ev_op (ev_var rfl) ev_c (rv_eq rfl))) (by decide)) (fun hb => by cases hb) (fun _ H7 e7 => ?_)
      refine q_when (b := false) (et_is (et_test (ev_op (ev_var rfl) ev_c (rv_eq rfl))) (by decide)) (fun hb => by cases hb) (fun _ H8 e8 => ?_)
      refine q_when (b := true) (et_is (et_test (ev_op (ev_var rfl) ev_c (rv_eq rfl))) (by decide)) (fun _ H9 e9 => ?_) (fun hb => by cases hb)
      have ee := ((((((((e1).trans e2).trans e3).trans e4).trans e5).trans e6).trans e7).trans e8).trans e9
      exact s_retM (ev_var rfl) (ee _ _ hl.o) (lkL (by decide +kernel)) (ea_cons (ev_op (ev_var rfl) ev_c (rv_ixL (sq_of (ee _ _ hh)) rfl)) (ea_cons (ev_op (ev_var rfl) ev_c (rv_ixL (sq_of (ee _ _ hh)) rfl)) ea_nil)) fun Hz ez => ⟨l, n, _, _, rfl, hL.mono (ee.trans ez), k.mono (ee.trans ez)⟩
    · rename_i e
      obtain ⟨rfl, rfl⟩ := List.cons.inj e
      cases hc
      refine q_when (b := false) (et_is (et_test (ev_op (ev_var rfl) ev_c (rv_eq rfl))) (by decide)) (fun hb => by cases hb) (fun _ H1 e1 => ?_)
      refine q_when (b := false) (et_is (et_test (ev_op (ev_var rfl) ev_c (rv_eq rfl))) (by decide)) (fun hb => by cases hb) (fun _ H2 e2 => ?_)
      refine q_when (b := false) (et_is (et_test (ev_op (ev_var rfl) ev_c (rv_eq rfl))) (by decide)) (fun hb => by cases hb) (fun _ H3 e3 => ?_)
      refine q_when (b := false) (et_is (et_test (ev_op (ev_var rfl) ev_c (rv_eq rfl))) (by decide)) (fun hb => by cases hb) (fun _ H4 e4 => ?_)
      refine q_when (b := false) (et_is (et_test (ev_op (ev_var rfl) ev_c (rv_eq rfl))) (by decide)) (fun hb => by cases hb) (fun _ H5 e5 => ?_)
      refine q_when (b := false) (et_is (et_test (ev_op (ev_var rfl) ev_c (rv_eq rfl))) (by decide)) (fun hb => by cases hb) (fun _ H6 e6 => ?_)
      refine q_when (b := false) (et_is (et_test (ev_op (ev_var rfl) ev_c (rv_eq rfl))) (by decide)) (fun hb => by cases hb) (fun _ H7 e7 => ?_)
      refine q_when (b := false) (et_is (et_test (ev_op (ev_var rfl) ev_c (rv_eq rfl))) (by decide)) (fun hb => by cases hb) (fun _ H8 e8 => ?_)
      refine q_when (b := false) (et_is (et_test (ev_op (ev_var rfl) ev_c (rv_eq rfl))) (by decide)) (fun hb => by cases hb) (fun _ H9 e9 => ?_)
      refine q_when (b := true) (et_is (et_test (ev_op (ev_var rfl) ev_c (rv_eq rfl))) (by decide)) (fun _ H10 e10 => ?_) (fun hb => by cases hb)
      have ee := (((((((((e1).trans e2).trans e3).trans e4).trans e5).trans e6).trans e7).trans e8).trans e9).trans e10
      exact s_retM (ev_var rfl) (ee _ _ hl.o) (lkL (by decide +kernel)) (ea_cons (ev_op (ev_var rfl) ev_c (rv_ixL (sq_of (ee _ _ hh)) rfl)) (ea_cons (ev_op (ev_var rfl) ev_c (rv_ixL (sq_of (ee _ _ hh)) rfl)) ea_nil)) fun Hz ez => ⟨l, n, _, _, rfl, hL.mono (ee.trans ez), k.mono (ee.trans ez)⟩
    · rename_i e
      obtain ⟨rfl, rfl⟩ := List.cons.inj e
      cases hc
      refine q_when (b := false) (et_is (et_test (ev_op (ev_var rfl) ev_c (rv_eq rfl))) (by decide)) (fun hb => by cases hb) (fun _ H1 e1 => ?_)
      refine q_when (b := false) (et_is (et_test (ev_op (ev_var rfl) ev_c (rv_eq rfl))) (by decide)) (fun hb => by cases hb) (fun _ H2 e2 => ?_)
      refine q_when (b := false) (et_is (et_test (ev_op (ev_var rfl) ev_c (rv_eq rfl))) (by decide)) (fun hb => by cases hb) (fun _ H3 e3 => ?_)
      refine q_when (b := false) (et_is (et_test (ev_op (ev_var rfl) ev_c (rv_eq rfl))) (by decide)) (fun hb => by cases hb) (fun _ H4 e4 => ?_)
      refine q_when (b := false) (et_is (et_test (ev_op (ev_var rfl) ev_c (rv_eq rfl))) (by decide)) (fun hb => by cases hb) (fun _ H5 e5 => ?_)
      refine q_when (b := false) (et_is (et_test (ev_op (ev_var rfl) ev_c (rv_eq rfl))) (by decide)) (fun hb => by cases hb) (fun _ H6 e6 => ?_)
      refine q_when (b := false) (et_is (et_test (ev_op (ev_var rfl) ev_c (rv_eq rfl))) (by decide)) (fun hb => by cases hb) (fun _ H7 e7 => ?_)
      refine q_when (b := false) (et_is (et_test (ev_op (ev_var rfl) ev_c (rv_eq rfl))) (by decide)) (fun hb => by cases hb) (fun _ H8 e8 => ?_)
      refine q_when (b := false) (et_is (et_test (ev_op (ev_var rfl) ev_c (rv_eq rfl))) (by decide)) (fun hb => by cases hb) (fun _ H9 e9 => ?_)
      refine q_when (b := false) (et_is (et_test (ev_op (ev_var rfl) ev_c (rv_eq rfl))) (by decide)) (fun hb => by cases hb) (fun _ H10 e10 => ?_)
      refine q_when (b := true) (et_is (et_test (ev_op (ev_var rfl) ev_c (rv_eq rfl))) (by decide)) (fun _ H11 e11 => ?_) (fun hb => by cases hb)
      have ee := ((((((((((e1).trans e2).trans e3).trans e4).trans e5).trans e6).trans e7).trans e8).trans e9).trans e10).trans e11
      exact s_retM (ev_var rfl) (ee _ _ hl.o) (lkL (by decide +kernel)) (ea_cons (ev_op (ev_var rfl) ev_c (rv_ixL (sq_of (ee _ _ hh)) rfl)) ea_nil) fun Hz ez => ⟨l, n, _, rfl, hL.mono (ee.trans ez), k.mono (ee.trans ez)⟩
    · rename_i e
      obtain ⟨rfl, rfl⟩ := List.cons.inj e
      cases hc
      refine q_when (b := false) (et_is (et_test (ev_op (ev_var rfl) ev_c (rv_eq rfl))) (by decide)) (fun hb => by cases hb) (fun _ H1 e1 => ?_)
      refine q_when (b := false) (et_is (et_test (ev_op (ev_var rfl) ev_c (rv_eq rfl))) (by decide)) (fun hb => by cases hb) (fun _ H2 e2 => ?_)
      refine q_when (b := false) (et_is (et_test (ev_op (ev_var rfl) ev_c (rv_eq rfl))) (by decide)) (fun hb => by cases hb) (fun _ H3 e3 => ?_)
      refine q_when (b := false) (et_is (et_test (ev_op (ev_var rfl) ev_c (rv_eq rfl))) (by decide)) (fun hb => by cases hb) (fun _ H4 e4 => ?_)
      refine q_when (b := false) (et_is (et_test (ev_op (ev_var rfl) ev_c (rv_eq rfl))) (by decide)) (fun hb => by cases hb) (fun _ H5 e5 => ?_)
      refine q_when (b := false) (et_is (et_test (ev_op (ev_var rfl) ev_c (rv_eq rfl))) (by decide)) (fun hb => by cases hb) (fun _ H6 e6 => ?_)
      refine q_when (b := false) (et_is (et_test (ev_op (ev_var rfl) ev_c (rv_eq rfl))) (by decide)) (fun hb => by cases hb) (fun _ H7 e7 => ?_)
      refine q_when (b := false) (et_is (et_test (ev_op (ev_var rfl) ev_c (rv_eq rfl))) (by decide)) (fun hb => by cases hb) (fun _ H8 e8 => ?_)
      refine q_when (b := false) (et_is (et_test (ev_op (ev_var rfl) ev_c (rv_eq rfl))) (by decide)) (fun hb => by cases hb) (fun _ H9 e9 => ?_)
      refine q_when (b := false) (et_is (et_test (ev_op (ev_var rfl) ev_c (rv_eq rfl))) (by decide)) (fun hb => by cases hb) (fun _ H10 e10 => ?_)
      refine q_when (b := false) (et_is (et_test (ev_op (ev_var rfl) ev_c (rv_eq rfl))) (by decide)) (fun hb => by cases hb) (fun _ H11 e11 => ?_)
      refine q_when (b := true) (et_is (et_test (ev_op (ev_var rfl) ev_c (rv_eq rfl))) (by decide)) (fun _ H12 e12 => ?_) (fun hb => by cases hb)
      have ee := (((((((((((e1).trans e2).trans e3).trans e4).trans e5).trans e6).trans e7).trans e8).trans e9).trans e10).trans e11).trans e12
      exact s_retM (ev_var rfl) (ee _ _ hl.o) (lkL (by decide +kernel)) (ea_cons (ev_op (ev_var rfl) ev_c (rv_ixL (sq_of (ee _ _ hh)) rfl)) ea_nil) fun Hz ez => ⟨l, n, _, rfl, hL.mono (ee.trans ez), k.mono (ee.trans ez)⟩
    · rename_i e
      obtain ⟨rfl, rfl⟩ := List.cons.inj e
      cases hc
      refine q_when (b := false) (et_is (et_test (ev_op (ev_var rfl) ev_c (rv_eq rfl))) (by decide)) (fun hb => by cases hb) (fun _ H1 e1 => ?_)
      refine q_when (b := false) (et_is (et_test (ev_op (ev_var rfl) ev_c (rv_eq rfl))) (by decide)) (fun hb => by cases hb) (fun _ H2 e2 => ?_)
      refine q_when (b := false) (et_is (et_test (ev_op (ev_var rfl) ev_c (rv_eq rfl))) (by decide)) (fun hb => by cases hb) (fun _ H3 e3 => ?_)
      refine q_when (b := false) (et_is (et_test (ev_op (ev_var rfl) ev_c (rv_eq rfl))) (by decide)) (fun hb => by cases hb) (fun _ H4 e4 => ?_)
      refine q_when (b := false) (et_is (et_test (ev_op (ev_var rfl) ev_c (rv_eq rfl))) (by decide)) (fun hb => by cases hb) (fun _ H5 e5 => ?_)
      refine q_when (b := false) (et_is (et_test (ev_op (ev_var rfl) ev_c (rv_eq rfl))) (by decide)) (fun hb => by cases hb) (fun _ H6 e6 => ?_)
      refine q_when (b := false) (et_is (et_test (ev_op (ev_var rfl) ev_c (rv_eq rfl))) (by decide)) (fun hb => by cases hb) (fun _ H7 e7 => ?_)
      refine q_when (b := false) (et_is (et_test (ev_op (ev_var rfl) ev_c (rv_eq rfl))) (by decide)) (fun hb => by cases hb) (fun _ H8 e8 => ?_)
      refine q_when (b := false) (et_is (et_test (ev_op (ev_var rfl) ev_c (rv_eq rfl))) (by decide)) (fun hb => by cases hb) (fun _ H9 e9 => ?_)
      refine q_when (b := false) (et_is (et_test (ev_op (ev_var rfl) ev_c (rv_eq rfl))) (by decide)) (fun hb => by cases hb) (fun _ H10 e10 => ?_)
      refine q_when (b := false) (et_is (et_test (ev_op (ev_var rfl) ev_c (rv_eq rfl))) (by decide)) (fun hb => by cases hb) (fun _ H11 e11 => ?_)
      refine q_when (b := false) (et_is (et_test (ev_op (ev_var rfl) ev_c (rv_eq rfl))) (by decide)) (fun hb => by cases hb) (fun _ H12 e12 => ?_)
      have ee := (((((((((((e1).trans e2).trans e3).trans e4).trans e5).trans e6).trans e7).trans e8).trans e9).trans e10).trans e11).trans e12
      exact s_retM (ev_var rfl) (ee _ _ hl.o) (lkL (by decide +kernel)) ea_nil fun Hz ez => ⟨l, n, rfl, hL.mono (ee.trans ez), k.mono (ee.trans ez)⟩
    · cases hc
end
end Rs
set_option Elab.async false
set_option linter.all false
set_option maxRecDepth 100000
set_option maxHeartbeats 4000000
namespace Rs
open PySem PySem.Spec PyProof.Rows L2 Evl
theorem del_upd {H : Hp} {t : Addr} {o : HO} : del (L2.upd H t o) t = del H t := by
  funext b
  by_cases e : b = t
  · rw [e, del_self, del_self]
  · unfold del
    rw [if_neg e, if_neg e, upd_ne e]
theorem calls_nil {f : Nat} {cs : List (List (List Int))} (h : PyFlat.calls PyNa04.shape f [] = some cs) : cs = [] := by
  have : PyFlat.calls PyNa04.shape f [] = some [] := by cases f <;> rfl
  rw [this] at h
  exact (Option.some.inj h).symm
theorem cut_mid (xs : List V) (i k : Nat) (h : i + k ≤ xs.length) : cutV xs (some (i : Int)) (some ((i + k : Nat) : Int)) = (xs.drop i).take k := by
  unfold cutV
  rw [show HT.sIx xs.length 0 (some (i : Int)) = min i xs.length from HT.sIx_nat xs.length 0 i, show HT.sIx xs.length xs.length (some ((i + k : Nat) : Int)) = min (i + k) xs.length from HT.sIx_nat xs.length xs.length (i + k)]
  rw [Nat.min_eq_left h, Nat.min_eq_left (show i ≤ xs.length by omega)]
  congr 1
  omega
section
variable {K : PySem.W.Frag} {σ : L2.St} {H H' : Hp} {ta tb te tl : TE} {D : Ends} {tz : TS} {v x y : V}
theorem q_asgCL {i : Nat} {sp : Sp} {E : XK} {xs : List V} (ha : Ev ta σ H x) (hb : Ev tb σ H y) (hl : EvL tl σ H xs) (hs : ∀ p H2, Ex H H2 → H2 p = some (.lst xs) → sp [x, y, .ref p] H2 (fun v H3 => tz D (σ.set i (some v)) H3) E) : tSeq (tAsg (tCall sp [] E (tCons ta (tCons tb (tCons tl tNil)))) (gName i)) tz D σ H :=
  ha H (Ex.refl H) _ fun H1 e1 => hb H1 e1 _ fun H2 e2 => hl H2 (e1.trans e2) _ fun p H3 _ e3 hp => hs p H3 ((e1.trans e2).trans e3) hp
end
section
variable {P : Program} {w : World} {K : PySem.W.Frag} {mg : Str → Option Value} {base : Heap} {CR CL TH : Addr}
abbrev s_answers : Stmt := topS 51
abbrev N_answers : List Str := ["calls", "line", "told", "at", "call", "end", "answer"]
theorem sc_answers : FnScope N_answers ["calls"] (defScope s_answers) := ⟨rfl, rfl, rfl, by decide +kernel, rfl, by decide +kernel, by decide +kernel⟩
def spAns (K : PySem.W.Frag) : Sp := fun vs H Q _ => ∃ (a : Addr) (ns : List Int), vs = [.ref a] ∧ SqL K H a (ns.map V.int) ∧ ns.length ≤ 120 ∧ (∀ x ∈ ns, 0 ≤ x ∧ x ≤ 4294967295) ∧ PyNa04.answers_asked ns = true ∧
  ∀ (H' : Hp) (p : Addr), H' p = some (.lst ((PyNa04.answers ns).map V.int)) → Q (.ref p) H'
theorem ok_answers (T : Txt K mg CR CL TH) {f f1 f2 : Addr} {fd fd1 fd2 : FuncData} (F : Fun K "answers" "answers" s_answers f fd)
    (M_Line : Mk K CL f1) (b_Line___init__ : Binds K fd1 ["self"] []) (G_Line___init__ : FnOk P w K mg base CX0 7 f1 fd1 ["self"] (sp_Line___init__ CL CR))
    (D_answer_to : Df K mg "answer_to" ["line", "call", "handed"] f2 fd2) (G_answer_to : FnOk P w K mg base CX0 8 f2 fd2 ["line", "call", "handed"] (sp_answer_to CL CR)) : FnOk P w K mg base CX0 9 f fd ["calls"] (spAns K) := by
  refine F.ok sc_answers (fun vs H Q E h => ?_) (fun cdv A outer s H vs Q E hr h => ?_)
  · obtain ⟨a, ns, rfl, _⟩ := h
    rfl
  · obtain ⟨a, ns, rfl, hS, hlen, hbd, hask, q⟩ := h
    have R_Line := hr
    have R_answer_to := hr
    refine ⟨_, (pss_cons (ps_set (i := 1) sc_answers.nd rfl (Or.inl rfl) (pe_make0 M_Line G_Line___init__ R_Line (by rfl) T.g_Line b_Line___init__ .nil pass0))
    (pss_cons (ps_set (i := 2) sc_answers.nd rfl (Or.inl rfl) (pe_lst pa_nil))
    (pss_cons (ps_set (i := 3) sc_answers.nd rfl (Or.inl rfl) pe_int)
    (pss_cons (ps_while PassesOwn.never (pt_cmpR op_lt (pv 3) (pe_callB (lenK K) (by rfl) T.b_len (by decide +kernel) (pa_cons (pv 0) pa_nil)) (nomark _))
    (pss_cons (ps_set (i := 4) sc_answers.nd rfl (Or.inl rfl) (pe_ix (ixl K) (pv 0) (pv 3) (fun _ _ => rfl)))
    (pss_cons (ps_set (i := 5) sc_answers.nd rfl (Or.inl rfl) (pe_op op_add (pe_op op_add (pv 3) pe_int) (pe_ix (ixt K) (pe_glob (by rfl) T.g_HANDED_OVER T.r_HANDED_OVER) (pv 4) (fun _ _ => rfl))))
    (pss_cons (ps_set (i := 6) sc_answers.nd rfl (Or.inl rfl) (pe_call G_answer_to R_answer_to (by rfl) D_answer_to.mg D_answer_to.kp D_answer_to.b .nil pass0 (pa_cons (pv 1) (pa_cons (pv 4) (pa_cons (pe_slice (slK K) (pv 0) (po_some (pe_op op_add (pv 3) pe_int)) (po_some (pv 5))) pa_nil)))))
    (pss_cons (ps_expr (bmK K PySem.F.plainAttrs_list PySem.F.slot_list_append PySem.F.type_list_append mt_append (pv 2) (pa_cons (pe_callB (lenK K) (by rfl) T.b_len (by decide +kernel) (pa_cons (pv 6) pa_nil)) pa_nil)))
    (pss_cons (ps_expr (bmK K PySem.F.plainAttrs_list PySem.F.slot_list_extend PySem.F.type_list_extend mt_extend (pv 2) (pa_cons (pv 6) pa_nil)))
    (pss_one (ps_set (i := 3) sc_answers.nd rfl (Or.inl rfl) (pv 5)))))))))
    (pss_one (ps_ret (pv 2))))))), ?_⟩
    obtain ⟨cs0, hcs0, hsz⟩ := asked_calls hask
    refine q_asgP (ep_line (CL := CL) (CR := CR)) fun lv H1 e1 hl => ?_
    obtain ⟨l, rfl, hl⟩ := hl
    refine q_asgL (el_lst ea_nil (by show 0 ≤ 100000; omega)) fun t H2 ht e2 h2 => ?_
    have htH : H t = none := fresh_back e1 ht
    have hlH : H l = none := by
      obtain ⟨dl, r, hl'⟩ := id hl
      exact (of_sub hl'.o).1
    have hl2 : IsLine CL CR (del H2 t) l 2 := hl.mono fun b o hb => by
      obtain ⟨_, hb2⟩ := of_sub hb
      exact del_of (e2 _ _ hb2) (ne_of_none hb2 ht)
    refine q_asg ev_c fun H3 e3 => ?_
    refine q_while (fun m σ' H' => Ex H H' ∧ ∃ (n at_ f : Nat) (cs : List (List (List Int))) (tv : List Int) (z4 z5 z6 : Option V), at_ ≤ ns.length ∧ m = ns.length - at_ ∧ IsLine CL CR (del H' t) l n ∧ H' t = some (.lst (tv.map V.int)) ∧
      PyFlat.calls PyNa04.shape f (ns.drop at_) = some cs ∧ tv ++ restA n cs = PyNa04.answers ns ∧
      σ' = [some (.ref a), some (.ref l), some (.ref t), some (.int (at_ : Int)), z4, z5, z6]) ns.length
      ⟨(e1.trans e2).trans e3, 2, 0, ns.length, cs0, [], none, none, none, Nat.zero_le _, rfl, hl2.mono (del_mono e3 t), e3 _ _ h2, hcs0, (answers_rest hcs0).symm, rfl⟩ (fun m σ' H' hW => ?_)
    obtain ⟨e', n, i, f', cs, tv, z4, z5, z6, hi, rfl, hl', ht', hcs, heq, rfl⟩ := hW
    have hS' : SqL K H' a (ns.map V.int) := ex_l e' hS
    have hL' : IsLine CL CR H' l n := hl'.mono (Ex.del H' t)
    have htl : t ≠ l := by
      obtain ⟨dl, r, hh⟩ := id hL'
      exact ne_kinds ht' hh.o (fun z => by cases z)
    refine ⟨decide (i < ns.length), et_is (et_test (ev_op (ev_var rfl) (ev_len (ev_var rfl) hS') rv_I0)) (by rw [List.length_map]; exact decide_eq_decide.mpr (by omega)), fun hb H4 e4 => ?_, fun hb H4 e4 => ?_⟩
    · have hil : i < ns.length := of_decide_eq_true hb
      have ed : ns.drop i = ns[i] :: ns.drop (i + 1) := List.drop_eq_getElem_cons hil
      rw [ed] at hcs
      obtain ⟨qn, k, f2, cs', ep, hq13, hk, hkl, hcs', rfl⟩ := calls_cons hcs
      have hr2 : (ns.drop (i + 1)).length = ns.length - (i + 1) := List.length_drop ..
      obtain ⟨ms, hms, hmb⟩ := nats_of ((ns.drop (i + 1)).take k) (fun x hx => hbd x (List.mem_of_mem_drop (List.mem_of_mem_take hx)))
      have hml : ms.length = k := by
        have := congrArg List.length hms
        rw [List.length_map, List.length_take] at this
        omega
      obtain ⟨x, hx⟩ := callIn_some qn ms (by rw [hml]; exact hk)
      rw [hms, restA_cons hq13 (by rw [hml]; exact hk) hmb hx] at heq
      have hho : ([1, 0, 1, 2, 2, 1, 1, 2, 2, 2, 1, 1, 0] : List Nat)[qn]? = some k := hk
      have hlens : tv.length + 1 + (Na04.step ⟨n⟩ x).2.length ≤ 10000000 := by
        have := congrArg List.length heq
        rw [List.length_append, List.length_cons, List.length_append] at this
        omega
      have hat : (ns.map V.int)[i]? = some (.int (qn : Int)) := by
        rw [List.getElem?_map, List.getElem?_eq_getElem hil, ep]
        rfl
      refine ⟨fun σ2 H5 => Ex H H5 ∧ ∃ (n2 : Nat) (tv2 : List Int) (z4 z5 z6 : Option V), IsLine CL CR (del H5 t) l n2 ∧ H5 t = some (.lst (tv2.map V.int)) ∧ tv2 ++ restA n2 cs' = PyNa04.answers ns ∧
        σ2 = [some (.ref a), some (.ref l), some (.ref t), some (.int ((i + 1 + k : Nat) : Int)), z4, z5, z6], fun σ2 H5 ⟨e5, n2, tv2, y4, y5, y6, a1, a2, a3, a4⟩ => ⟨ns.length - (i + 1 + k), by omega, e5, n2, i + 1 + k, f2, cs', tv2, y4, y5, y6, by omega, rfl, a1, a2, by rw [List.drop_drop] at hcs'; exact hcs', a3, a4⟩, ?_⟩
      -- call = calls[at]
      refine q_asg (ev_op (ev_var rfl) (ev_var rfl) (rv_ixL (ex_l e4 hS') (atI_nat hat))) fun H5 e5 => ?_
      -- end = at + 1 + HANDED_OVER[call]
      refine q_asg (v := .int ((i + 1 + k : Nat) : Int)) (ev_is (ev_op (ev_op (ev_var rfl) ev_c rv_I0) (ev_op ev_c (ev_var rfl) (rv_ixT (T.t_HANDED_OVER _) (atI_nat (nV_get hho)))) rv_I0) (by
        show V.int (((i : Int) + 1) + (k : Int)) = _
        rw [Int.natCast_add, Int.natCast_add]
        rfl)) fun H6 e6 => ?_
      have e46 := (e4.trans e5).trans e6
      -- answer = answer_to(line, call, calls[at + 1:end])
      refine q_asgCL (xs := nV ms) (ev_var rfl) (ev_var rfl) (by
        have hcut : cutV (ns.map V.int) (some ((i + 1 : Nat) : Int)) (some ((i + 1 + k : Nat) : Int)) = nV ms := by
          rw [cut_mid _ _ _ (by rw [List.length_map]; omega), ← List.map_drop, ← List.map_take, hms, List.map_map]
          rfl
        rw [← hcut]
        exact el_sl (ev_var rfl) (eo_some (ev_is (ev_op (ev_var rfl) ev_c rv_I0) (by show V.int ((i : Int) + 1) = _; rw [Int.natCast_add]; rfl))) (eo_some (ev_var rfl)) (ex_l e46 hS')) fun hp H7 e7 hh7 => ?_
      have e47 := e46.trans e7
      refine ⟨l, hp, n, qn, ms, x, rfl, hL'.mono e47, hh7, hx, fun p H8 hl8 hsep8 hex8 hp8 h8 => ?_⟩
      have ht7 : H7 t = some (.lst (tv.map V.int)) := e47 _ _ ht'
      have ht8 : H8 t = some (.lst (tv.map V.int)) := hex8 _ _ (del_of ht7 htl)
      have hpt : p ≠ t := fun e => by rw [e, ht7] at hp8; cases hp8
      have ee8 : Ex H H8 := fun b o hb => hex8 _ _ (del_of (e47 _ _ (e' _ _ hb)) (ne_of_none hb hlH))
      have hl9 := hsep8 t (by rw [ht7]; exact fun z => by cases z) (hl'.mono (del_mono e47 t))
      generalize Na04.step ⟨n⟩ x = st at *
      have hst : ((st.2.map V.int).length : Int) = ((st.2.length : Nat) : Int) := by rw [List.length_map]
      -- told.append(len(answer))
      refine q_appS (K := K) (xs := tv.map V.int) (v := .int ((st.2.length : Nat) : Int)) ht8 (ev_var rfl) (ev_is (ev_len (ev_var rfl) (sq_of h8)) (congrArg V.int hst)) (by rw [List.length_map]; exact Nat.lt_of_lt_of_le (show tv.length < 10000001 by omega) (by decide)) fun H9 e9 => ?_
      have e89 : Ex H (L2.upd H9 t (.lst (tv.map V.int ++ [.int ((st.2.length : Nat) : Int)]))) := Ex.mut (ee8.trans e9) htH
      -- told.extend(answer)
      refine q_ext (K := K) (zs := st.2.map V.int) upd_same (ev_var rfl) (ev_var rfl) (by rw [upd_ne hpt]; exact e9 _ _ h8) (by rw [List.length_append, List.length_map, List.length_map]; exact Nat.le_trans (show _ ≤ 10000000 by show tv.length + 1 + st.2.length ≤ _; omega) (by decide)) fun H10 e10 => ?_
      -- at = end
      refine s_asg (ev_var rfl) fun H11 e11 => ⟨(Ex.mut (e89.trans e10) htH).trans e11, st.1.n, tv ++ (((st.2.length : Nat) : Int) :: st.2), _, _, _, ?_, e11 _ _ (by
        rw [upd_same]
        congr 2
        rw [List.map_append, List.append_assoc]
        rfl), by
          rw [← heq, List.append_assoc]
          rfl, rfl⟩
      refine IsLine.mono ?_ (del_mono e11 t)
      rw [del_upd]
      refine IsLine.mono ?_ (del_mono e10 t)
      rw [del_upd]
      exact hl9.mono (del_mono e9 t)
    · have hil : ¬ i < ns.length := of_decide_eq_false hb
      have : ns.drop i = [] := List.drop_eq_nil_of_le (by omega)
      rw [this] at hcs
      have := calls_nil hcs
      subst this
      rw [restA_nil, List.append_nil] at heq
      subst heq
      exact s_ret (ev_var rfl) fun H5 e5 => q H5 t (e5 _ _ (e4 _ _ ht'))
end
end Rs
set_option Elab.async false
set_option linter.all false
set_option maxRecDepth 100000
set_option maxHeartbeats 8000000
namespace Rs
open PySem PySem.Spec PyProof.Rows L2 Evl
open PySem.W (Codec)
theorem all_mk {P : Program} {w : World} {K : PySem.W.Frag} {h : Heap} {mg : Str → Option Value} {fa C_Ring C_Line f_divided f_quotient_of f_rest_of f_circle_from f_circle_of f_common_divisor f_common_multiple f_units_of f_exponent_of f_laws_of f_keeps_laws f_characters_of f_product_of f_inverse_of f_comes_from f_origin_of f_Ring___init__ f_Ring_lacks f_Ring_number_of f_Ring_given f_gauss_powers f_size_powers f_joint_powers f_told_sum f_Line___init__ f_Line_round_of f_Line_chars f_Line_char f_Line_value f_Line_product f_Line_inverse f_Line_from_what f_Line_gauss f_Line_size f_Line_jacobi f_Line_circle f_Line_even f_Line_sums f_answer_to f_answers H_HANDED_OVER : Addr} (X : K.In h) (G : h.Ns mainGlobals mg) (hfa : mg "answers" = some (.ref fa))
    {od_divided an_divided : Option Addr} {sl_divided : Array (Option Value)} {oc_divided kV_divided dc_divided pm_divided cd_divided ct_divided : Value}
    {od_quotient_of an_quotient_of : Option Addr} {sl_quotient_of : Array (Option Value)} {oc_quotient_of kV_quotient_of dc_quotient_of pm_quotient_of cd_quotient_of ct_quotient_of : Value}
    {od_rest_of an_rest_of : Option Addr} {sl_rest_of : Array (Option Value)} {oc_rest_of kV_rest_of dc_rest_of pm_rest_of cd_rest_of ct_rest_of : Value}
    {od_circle_from an_circle_from : Option Addr} {sl_circle_from : Array (Option Value)} {oc_circle_from kV_circle_from dc_circle_from pm_circle_from cd_circle_from ct_circle_from : Value}
    {od_circle_of an_circle_of : Option Addr} {sl_circle_of : Array (Option Value)} {oc_circle_of kV_circle_of dc_circle_of pm_circle_of cd_circle_of ct_circle_of : Value}
    {od_common_divisor an_common_divisor : Option Addr} {sl_common_divisor : Array (Option Value)} {oc_common_divisor kV_common_divisor dc_common_divisor pm_common_divisor cd_common_divisor ct_common_divisor : Value}
    {od_common_multiple an_common_multiple : Option Addr} {sl_common_multiple : Array (Option Value)} {oc_common_multiple kV_common_multiple dc_common_multiple pm_common_multiple cd_common_multiple ct_common_multiple : Value}
    {od_units_of an_units_of : Option Addr} {sl_units_of : Array (Option Value)} {oc_units_of kV_units_of dc_units_of pm_units_of cd_units_of ct_units_of : Value}
    {od_exponent_of an_exponent_of : Option Addr} {sl_exponent_of : Array (Option Value)} {oc_exponent_of kV_exponent_of dc_exponent_of pm_exponent_of cd_exponent_of ct_exponent_of : Value}
    {od_laws_of an_laws_of : Option Addr} {sl_laws_of : Array (Option Value)} {oc_laws_of kV_laws_of dc_laws_of pm_laws_of cd_laws_of ct_laws_of : Value}
    {od_keeps_laws an_keeps_laws : Option Addr} {sl_keeps_laws : Array (Option Value)} {oc_keeps_laws kV_keeps_laws dc_keeps_laws pm_keeps_laws cd_keeps_laws ct_keeps_laws : Value}
    {od_characters_of an_characters_of : Option Addr} {sl_characters_of : Array (Option Value)} {oc_characters_of kV_characters_of dc_characters_of pm_characters_of cd_characters_of ct_characters_of : Value}
    {od_product_of an_product_of : Option Addr} {sl_product_of : Array (Option Value)} {oc_product_of kV_product_of dc_product_of pm_product_of cd_product_of ct_product_of : Value}
    {od_inverse_of an_inverse_of : Option Addr} {sl_inverse_of : Array (Option Value)} {oc_inverse_of kV_inverse_of dc_inverse_of pm_inverse_of cd_inverse_of ct_inverse_of : Value}
    {od_comes_from an_comes_from : Option Addr} {sl_comes_from : Array (Option Value)} {oc_comes_from kV_comes_from dc_comes_from pm_comes_from cd_comes_from ct_comes_from : Value}
    {od_origin_of an_origin_of : Option Addr} {sl_origin_of : Array (Option Value)} {oc_origin_of kV_origin_of dc_origin_of pm_origin_of cd_origin_of ct_origin_of : Value}
    {od_Ring___init__ an_Ring___init__ : Option Addr} {sl_Ring___init__ : Array (Option Value)} {oc_Ring___init__ kV_Ring___init__ dc_Ring___init__ pm_Ring___init__ cd_Ring___init__ ct_Ring___init__ : Value}
    {od_Ring_lacks an_Ring_lacks : Option Addr} {sl_Ring_lacks : Array (Option Value)} {oc_Ring_lacks kV_Ring_lacks dc_Ring_lacks pm_Ring_lacks cd_Ring_lacks ct_Ring_lacks : Value}
    {od_Ring_number_of an_Ring_number_of : Option Addr} {sl_Ring_number_of : Array (Option Value)} {oc_Ring_number_of kV_Ring_number_of dc_Ring_number_of pm_Ring_number_of cd_Ring_number_of ct_Ring_number_of : Value}
    {od_Ring_given an_Ring_given : Option Addr} {sl_Ring_given : Array (Option Value)} {oc_Ring_given kV_Ring_given dc_Ring_given pm_Ring_given cd_Ring_given ct_Ring_given : Value}
    {od_gauss_powers an_gauss_powers : Option Addr} {sl_gauss_powers : Array (Option Value)} {oc_gauss_powers kV_gauss_powers dc_gauss_powers pm_gauss_powers cd_gauss_powers ct_gauss_powers : Value}
    {od_size_powers an_size_powers : Option Addr} {sl_size_powers : Array (Option Value)} {oc_size_powers kV_size_powers dc_size_powers pm_size_powers cd_size_powers ct_size_powers : Value}
    {od_joint_powers an_joint_powers : Option Addr} {sl_joint_powers : Array (Option Value)} {oc_joint_powers kV_joint_powers dc_joint_powers pm_joint_powers cd_joint_powers ct_joint_powers : Value}
    {od_told_sum an_told_sum : Option Addr} {sl_told_sum : Array (Option Value)} {oc_told_sum kV_told_sum dc_told_sum pm_told_sum cd_told_sum ct_told_sum : Value}
    {od_Line___init__ an_Line___init__ : Option Addr} {sl_Line___init__ : Array (Option Value)} {oc_Line___init__ kV_Line___init__ dc_Line___init__ pm_Line___init__ cd_Line___init__ ct_Line___init__ : Value}
    {od_Line_round_of an_Line_round_of : Option Addr} {sl_Line_round_of : Array (Option Value)} {oc_Line_round_of kV_Line_round_of dc_Line_round_of pm_Line_round_of cd_Line_round_of ct_Line_round_of : Value}
    {od_Line_chars an_Line_chars : Option Addr} {sl_Line_chars : Array (Option Value)} {oc_Line_chars kV_Line_chars dc_Line_chars pm_Line_chars cd_Line_chars ct_Line_chars : Value}
    {od_Line_char an_Line_char : Option Addr} {sl_Line_char : Array (Option Value)} {oc_Line_char kV_Line_char dc_Line_char pm_Line_char cd_Line_char ct_Line_char : Value}
    {od_Line_value an_Line_value : Option Addr} {sl_Line_value : Array (Option Value)} {oc_Line_value kV_Line_value dc_Line_value pm_Line_value cd_Line_value ct_Line_value : Value}
    {od_Line_product an_Line_product : Option Addr} {sl_Line_product : Array (Option Value)} {oc_Line_product kV_Line_product dc_Line_product pm_Line_product cd_Line_product ct_Line_product : Value}
    {od_Line_inverse an_Line_inverse : Option Addr} {sl_Line_inverse : Array (Option Value)} {oc_Line_inverse kV_Line_inverse dc_Line_inverse pm_Line_inverse cd_Line_inverse ct_Line_inverse : Value}
    {od_Line_from_what an_Line_from_what : Option Addr} {sl_Line_from_what : Array (Option Value)} {oc_Line_from_what kV_Line_from_what dc_Line_from_what pm_Line_from_what cd_Line_from_what ct_Line_from_what : Value}
    {od_Line_gauss an_Line_gauss : Option Addr} {sl_Line_gauss : Array (Option Value)} {oc_Line_gauss kV_Line_gauss dc_Line_gauss pm_Line_gauss cd_Line_gauss ct_Line_gauss : Value}
    {od_Line_size an_Line_size : Option Addr} {sl_Line_size : Array (Option Value)} {oc_Line_size kV_Line_size dc_Line_size pm_Line_size cd_Line_size ct_Line_size : Value}
    {od_Line_jacobi an_Line_jacobi : Option Addr} {sl_Line_jacobi : Array (Option Value)} {oc_Line_jacobi kV_Line_jacobi dc_Line_jacobi pm_Line_jacobi cd_Line_jacobi ct_Line_jacobi : Value}
    {od_Line_circle an_Line_circle : Option Addr} {sl_Line_circle : Array (Option Value)} {oc_Line_circle kV_Line_circle dc_Line_circle pm_Line_circle cd_Line_circle ct_Line_circle : Value}
    {od_Line_even an_Line_even : Option Addr} {sl_Line_even : Array (Option Value)} {oc_Line_even kV_Line_even dc_Line_even pm_Line_even cd_Line_even ct_Line_even : Value}
    {od_Line_sums an_Line_sums : Option Addr} {sl_Line_sums : Array (Option Value)} {oc_Line_sums kV_Line_sums dc_Line_sums pm_Line_sums cd_Line_sums ct_Line_sums : Value}
    {od_answer_to an_answer_to : Option Addr} {sl_answer_to : Array (Option Value)} {oc_answer_to kV_answer_to dc_answer_to pm_answer_to cd_answer_to ct_answer_to : Value}
    {od_answers an_answers : Option Addr} {sl_answers : Array (Option Value)} {oc_answers kV_answers dc_answers pm_answers cd_answers ct_answers : Value}
    {t_FIRST_ROUND : Tok}
    {t_LAST_ROUND : Tok}
    {t_FIRST_CIRCLE : Tok}
    {t_LAST_CIRCLE : Tok}
    {t_NO_SUCH_ROUND : Tok}
    {t_NO_SUCH_CIRCLE : Tok}
    {t_NO_SUCH_CHARACTER : Tok}
    {t_NOT_A_UNIT : Tok}
    {t_ROUND_OF : Tok}
    {t_CHARS : Tok}
    {t_CHAR : Tok}
    {t_VALUE : Tok}
    {t_PRODUCT : Tok}
    {t_INVERSE : Tok}
    {t_FROM_WHAT : Tok}
    {t_GAUSS : Tok}
    {t_SIZE : Tok}
    {t_JACOBI : Tok}
    {t_CIRCLE : Tok}
    {t_EVEN : Tok}
    {od_HANDED_OVER : Option Addr} {its_HANDED_OVER : Array Value} {nn_HANDED_OVER : Nat} {sl_HANDED_OVER : Array (Option Value)}
    (a_Ring : PySem.W.nsIn K mainGlobals "Ring" = some (some (.ref C_Ring)))
    (pg_Ring : PySem.W.plainGet K C_Ring Str.empty = true)
    (hd_Ring : PySem.W.hasDictIn K C_Ring = true)
    (po_Ring : PySem.W.plainOver K C_Ring = true)
    (sa_Ring : PySem.W.findIn K (.ref C_Ring) "__setattr__" = some (some (.builtin "object.__setattr__")))
    (mk_Ring : PySem.W.makesIn K C_Ring = true)
    (kc_Ring : PySem.W.keepIn K (.ref C_Ring) = true)
    (na_Ring_n : PySem.W.findIn K (.ref C_Ring) "n" = some none)
    (na_Ring_units : PySem.W.findIn K (.ref C_Ring) "units" = some none)
    (na_Ring_exponent : PySem.W.findIn K (.ref C_Ring) "exponent" = some none)
    (na_Ring_parts : PySem.W.findIn K (.ref C_Ring) "parts" = some none)
    (na_Ring_polynomial : PySem.W.findIn K (.ref C_Ring) "polynomial" = some none)
    (na_Ring_characters : PySem.W.findIn K (.ref C_Ring) "characters" = some none)
    (a_Line : PySem.W.nsIn K mainGlobals "Line" = some (some (.ref C_Line)))
    (pg_Line : PySem.W.plainGet K C_Line Str.empty = true)
    (hd_Line : PySem.W.hasDictIn K C_Line = true)
    (po_Line : PySem.W.plainOver K C_Line = true)
    (sa_Line : PySem.W.findIn K (.ref C_Line) "__setattr__" = some (some (.builtin "object.__setattr__")))
    (mk_Line : PySem.W.makesIn K C_Line = true)
    (kc_Line : PySem.W.keepIn K (.ref C_Line) = true)
    (na_Line_ring : PySem.W.findIn K (.ref C_Line) "ring" = some none)
    (a_divided : PySem.W.nsIn K mainGlobals "divided" = some (some (.ref f_divided)))
    (l_divided : K.lookup f_divided = some ⟨oc_divided, od_divided, .func (PySem.W.fnOf "divided" "divided" (defArgs s_divided) (defBody s_divided) (defScope s_divided) .none kV_divided dc_divided pm_divided an_divided cd_divided ct_divided), sl_divided⟩)
    (c_divided : PySem.W.codeIn K cd_divided "divided" = true)
    (k_divided : PySem.W.keepIn K (.ref f_divided) = true)
    (a_quotient_of : PySem.W.nsIn K mainGlobals "quotient_of" = some (some (.ref f_quotient_of)))
    (l_quotient_of : K.lookup f_quotient_of = some ⟨oc_quotient_of, od_quotient_of, .func (PySem.W.fnOf "quotient_of" "quotient_of" (defArgs s_quotient_of) (defBody s_quotient_of) (defScope s_quotient_of) .none kV_quotient_of dc_quotient_of pm_quotient_of an_quotient_of cd_quotient_of ct_quotient_of), sl_quotient_of⟩)
    (c_quotient_of : PySem.W.codeIn K cd_quotient_of "quotient_of" = true)
    (k_quotient_of : PySem.W.keepIn K (.ref f_quotient_of) = true)
    (a_rest_of : PySem.W.nsIn K mainGlobals "rest_of" = some (some (.ref f_rest_of)))
    (l_rest_of : K.lookup f_rest_of = some ⟨oc_rest_of, od_rest_of, .func (PySem.W.fnOf "rest_of" "rest_of" (defArgs s_rest_of) (defBody s_rest_of) (defScope s_rest_of) .none kV_rest_of dc_rest_of pm_rest_of an_rest_of cd_rest_of ct_rest_of), sl_rest_of⟩)
    (c_rest_of : PySem.W.codeIn K cd_rest_of "rest_of" = true)
    (k_rest_of : PySem.W.keepIn K (.ref f_rest_of) = true)
    (a_circle_from : PySem.W.nsIn K mainGlobals "circle_from" = some (some (.ref f_circle_from)))
    (l_circle_from : K.lookup f_circle_from = some ⟨oc_circle_from, od_circle_from, .func (PySem.W.fnOf "circle_from" "circle_from" (defArgs s_circle_from) (defBody s_circle_from) (defScope s_circle_from) .none kV_circle_from dc_circle_from pm_circle_from an_circle_from cd_circle_from ct_circle_from), sl_circle_from⟩)
    (c_circle_from : PySem.W.codeIn K cd_circle_from "circle_from" = true)
    (k_circle_from : PySem.W.keepIn K (.ref f_circle_from) = true)
    (a_circle_of : PySem.W.nsIn K mainGlobals "circle_of" = some (some (.ref f_circle_of)))
    (l_circle_of : K.lookup f_circle_of = some ⟨oc_circle_of, od_circle_of, .func (PySem.W.fnOf "circle_of" "circle_of" (defArgs s_circle_of) (defBody s_circle_of) (defScope s_circle_of) .none kV_circle_of dc_circle_of pm_circle_of an_circle_of cd_circle_of ct_circle_of), sl_circle_of⟩)
    (c_circle_of : PySem.W.codeIn K cd_circle_of "circle_of" = true)
    (k_circle_of : PySem.W.keepIn K (.ref f_circle_of) = true)
    (a_common_divisor : PySem.W.nsIn K mainGlobals "common_divisor" = some (some (.ref f_common_divisor)))
    (l_common_divisor : K.lookup f_common_divisor = some ⟨oc_common_divisor, od_common_divisor, .func (PySem.W.fnOf "common_divisor" "common_divisor" (defArgs s_common_divisor) (defBody s_common_divisor) (defScope s_common_divisor) .none kV_common_divisor dc_common_divisor pm_common_divisor an_common_divisor cd_common_divisor ct_common_divisor), sl_common_divisor⟩)
    (c_common_divisor : PySem.W.codeIn K cd_common_divisor "common_divisor" = true)
    (k_common_divisor : PySem.W.keepIn K (.ref f_common_divisor) = true)
    (a_common_multiple : PySem.W.nsIn K mainGlobals "common_multiple" = some (some (.ref f_common_multiple)))
    (l_common_multiple : K.lookup f_common_multiple = some ⟨oc_common_multiple, od_common_multiple, .func (PySem.W.fnOf "common_multiple" "common_multiple" (defArgs s_common_multiple) (defBody s_common_multiple) (defScope s_common_multiple) .none kV_common_multiple dc_common_multiple pm_common_multiple an_common_multiple cd_common_multiple ct_common_multiple), sl_common_multiple⟩)
    (c_common_multiple : PySem.W.codeIn K cd_common_multiple "common_multiple" = true)
    (k_common_multiple : PySem.W.keepIn K (.ref f_common_multiple) = true)
    (a_units_of : PySem.W.nsIn K mainGlobals "units_of" = some (some (.ref f_units_of)))
    (l_units_of : K.lookup f_units_of = some ⟨oc_units_of, od_units_of, .func (PySem.W.fnOf "units_of" "units_of" (defArgs s_units_of) (defBody s_units_of) (defScope s_units_of) .none kV_units_of dc_units_of pm_units_of an_units_of cd_units_of ct_units_of), sl_units_of⟩)
    (c_units_of : PySem.W.codeIn K cd_units_of "units_of" = true)
    (k_units_of : PySem.W.keepIn K (.ref f_units_of) = true)
    (a_exponent_of : PySem.W.nsIn K mainGlobals "exponent_of" = some (some (.ref f_exponent_of)))
    (l_exponent_of : K.lookup f_exponent_of = some ⟨oc_exponent_of, od_exponent_of, .func (PySem.W.fnOf "exponent_of" "exponent_of" (defArgs s_exponent_of) (defBody s_exponent_of) (defScope s_exponent_of) .none kV_exponent_of dc_exponent_of pm_exponent_of an_exponent_of cd_exponent_of ct_exponent_of), sl_exponent_of⟩)
    (c_exponent_of : PySem.W.codeIn K cd_exponent_of "exponent_of" = true)
    (k_exponent_of : PySem.W.keepIn K (.ref f_exponent_of) = true)
    (a_laws_of : PySem.W.nsIn K mainGlobals "laws_of" = some (some (.ref f_laws_of)))
    (l_laws_of : K.lookup f_laws_of = some ⟨oc_laws_of, od_laws_of, .func (PySem.W.fnOf "laws_of" "laws_of" (defArgs s_laws_of) (defBody s_laws_of) (defScope s_laws_of) .none kV_laws_of dc_laws_of pm_laws_of an_laws_of cd_laws_of ct_laws_of), sl_laws_of⟩)
    (c_laws_of : PySem.W.codeIn K cd_laws_of "laws_of" = true)
    (k_laws_of : PySem.W.keepIn K (.ref f_laws_of) = true)
    (a_keeps_laws : PySem.W.nsIn K mainGlobals "keeps_laws" = some (some (.ref f_keeps_laws)))
    (l_keeps_laws : K.lookup f_keeps_laws = some ⟨oc_keeps_laws, od_keeps_laws, .func (PySem.W.fnOf "keeps_laws" "keeps_laws" (defArgs s_keeps_laws) (defBody s_keeps_laws) (defScope s_keeps_laws) .none kV_keeps_laws dc_keeps_laws pm_keeps_laws an_keeps_laws cd_keeps_laws ct_keeps_laws), sl_keeps_laws⟩)
    (c_keeps_laws : PySem.W.codeIn K cd_keeps_laws "keeps_laws" = true)
    (k_keeps_laws : PySem.W.keepIn K (.ref f_keeps_laws) = true)
    (a_characters_of : PySem.W.nsIn K mainGlobals "characters_of" = some (some (.ref f_characters_of)))
    (l_characters_of : K.lookup f_characters_of = some ⟨oc_characters_of, od_characters_of, .func (PySem.W.fnOf "characters_of" "characters_of" (defArgs s_characters_of) (defBody s_characters_of) (defScope s_characters_of) .none kV_characters_of dc_characters_of pm_characters_of an_characters_of cd_characters_of ct_characters_of), sl_characters_of⟩)
    (c_characters_of : PySem.W.codeIn K cd_characters_of "characters_of" = true)
    (k_characters_of : PySem.W.keepIn K (.ref f_characters_of) = true)
    (a_product_of : PySem.W.nsIn K mainGlobals "product_of" = some (some (.ref f_product_of)))
    (l_product_of : K.lookup f_product_of = some ⟨oc_product_of, od_product_of, .func (PySem.W.fnOf "product_of" "product_of" (defArgs s_product_of) (defBody s_product_of) (defScope s_product_of) .none kV_product_of dc_product_of pm_product_of an_product_of cd_product_of ct_product_of), sl_product_of⟩)
    (c_product_of : PySem.W.codeIn K cd_product_of "product_of" = true)
    (k_product_of : PySem.W.keepIn K (.ref f_product_of) = true)
    (a_inverse_of : PySem.W.nsIn K mainGlobals "inverse_of" = some (some (.ref f_inverse_of)))
    (l_inverse_of : K.lookup f_inverse_of = some ⟨oc_inverse_of, od_inverse_of, .func (PySem.W.fnOf "inverse_of" "inverse_of" (defArgs s_inverse_of) (defBody s_inverse_of) (defScope s_inverse_of) .none kV_inverse_of dc_inverse_of pm_inverse_of an_inverse_of cd_inverse_of ct_inverse_of), sl_inverse_of⟩)
    (c_inverse_of : PySem.W.codeIn K cd_inverse_of "inverse_of" = true)
    (k_inverse_of : PySem.W.keepIn K (.ref f_inverse_of) = true)
    (a_comes_from : PySem.W.nsIn K mainGlobals "comes_from" = some (some (.ref f_comes_from)))
    (l_comes_from : K.lookup f_comes_from = some ⟨oc_comes_from, od_comes_from, .func (PySem.W.fnOf "comes_from" "comes_from" (defArgs s_comes_from) (defBody s_comes_from) (defScope s_comes_from) .none kV_comes_from dc_comes_from pm_comes_from an_comes_from cd_comes_from ct_comes_from), sl_comes_from⟩)
    (c_comes_from : PySem.W.codeIn K cd_comes_from "comes_from" = true)
    (k_comes_from : PySem.W.keepIn K (.ref f_comes_from) = true)
    (a_origin_of : PySem.W.nsIn K mainGlobals "origin_of" = some (some (.ref f_origin_of)))
    (l_origin_of : K.lookup f_origin_of = some ⟨oc_origin_of, od_origin_of, .func (PySem.W.fnOf "origin_of" "origin_of" (defArgs s_origin_of) (defBody s_origin_of) (defScope s_origin_of) .none kV_origin_of dc_origin_of pm_origin_of an_origin_of cd_origin_of ct_origin_of), sl_origin_of⟩)
    (c_origin_of : PySem.W.codeIn K cd_origin_of "origin_of" = true)
    (k_origin_of : PySem.W.keepIn K (.ref f_origin_of) = true)
    (a_Ring___init__ : PySem.W.findIn K (.ref C_Ring) "__init__" = some (some (.ref f_Ring___init__)))
    (i_Ring___init__ : PySem.W.isFn K (.ref f_Ring___init__) = true)
    (l_Ring___init__ : K.lookup f_Ring___init__ = some ⟨oc_Ring___init__, od_Ring___init__, .func (PySem.W.fnOf "__init__" "Ring.__init__" (defArgs s_Ring___init__) (defBody s_Ring___init__) (defScope s_Ring___init__) .none kV_Ring___init__ dc_Ring___init__ pm_Ring___init__ an_Ring___init__ cd_Ring___init__ ct_Ring___init__), sl_Ring___init__⟩)
    (c_Ring___init__ : PySem.W.codeIn K cd_Ring___init__ "Ring.__init__" = true)
    (k_Ring___init__ : PySem.W.keepIn K (.ref f_Ring___init__) = true)
    (a_Ring_lacks : PySem.W.findIn K (.ref C_Ring) "lacks" = some (some (.ref f_Ring_lacks)))
    (i_Ring_lacks : PySem.W.isFn K (.ref f_Ring_lacks) = true)
    (l_Ring_lacks : K.lookup f_Ring_lacks = some ⟨oc_Ring_lacks, od_Ring_lacks, .func (PySem.W.fnOf "lacks" "Ring.lacks" (defArgs s_Ring_lacks) (defBody s_Ring_lacks) (defScope s_Ring_lacks) .none kV_Ring_lacks dc_Ring_lacks pm_Ring_lacks an_Ring_lacks cd_Ring_lacks ct_Ring_lacks), sl_Ring_lacks⟩)
    (c_Ring_lacks : PySem.W.codeIn K cd_Ring_lacks "Ring.lacks" = true)
    (k_Ring_lacks : PySem.W.keepIn K (.ref f_Ring_lacks) = true)
    (a_Ring_number_of : PySem.W.findIn K (.ref C_Ring) "number_of" = some (some (.ref f_Ring_number_of)))
    (i_Ring_number_of : PySem.W.isFn K (.ref f_Ring_number_of) = true)
    (l_Ring_number_of : K.lookup f_Ring_number_of = some ⟨oc_Ring_number_of, od_Ring_number_of, .func (PySem.W.fnOf "number_of" "Ring.number_of" (defArgs s_Ring_number_of) (defBody s_Ring_number_of) (defScope s_Ring_number_of) .none kV_Ring_number_of dc_Ring_number_of pm_Ring_number_of an_Ring_number_of cd_Ring_number_of ct_Ring_number_of), sl_Ring_number_of⟩)
    (c_Ring_number_of : PySem.W.codeIn K cd_Ring_number_of "Ring.number_of" = true)
    (k_Ring_number_of : PySem.W.keepIn K (.ref f_Ring_number_of) = true)
    (a_Ring_given : PySem.W.findIn K (.ref C_Ring) "given" = some (some (.ref f_Ring_given)))
    (i_Ring_given : PySem.W.isFn K (.ref f_Ring_given) = true)
    (l_Ring_given : K.lookup f_Ring_given = some ⟨oc_Ring_given, od_Ring_given, .func (PySem.W.fnOf "given" "Ring.given" (defArgs s_Ring_given) (defBody s_Ring_given) (defScope s_Ring_given) .none kV_Ring_given dc_Ring_given pm_Ring_given an_Ring_given cd_Ring_given ct_Ring_given), sl_Ring_given⟩)
    (c_Ring_given : PySem.W.codeIn K cd_Ring_given "Ring.given" = true)
    (k_Ring_given : PySem.W.keepIn K (.ref f_Ring_given) = true)
    (a_gauss_powers : PySem.W.nsIn K mainGlobals "gauss_powers" = some (some (.ref f_gauss_powers)))
    (l_gauss_powers : K.lookup f_gauss_powers = some ⟨oc_gauss_powers, od_gauss_powers, .func (PySem.W.fnOf "gauss_powers" "gauss_powers" (defArgs s_gauss_powers) (defBody s_gauss_powers) (defScope s_gauss_powers) .none kV_gauss_powers dc_gauss_powers pm_gauss_powers an_gauss_powers cd_gauss_powers ct_gauss_powers), sl_gauss_powers⟩)
    (c_gauss_powers : PySem.W.codeIn K cd_gauss_powers "gauss_powers" = true)
    (k_gauss_powers : PySem.W.keepIn K (.ref f_gauss_powers) = true)
    (a_size_powers : PySem.W.nsIn K mainGlobals "size_powers" = some (some (.ref f_size_powers)))
    (l_size_powers : K.lookup f_size_powers = some ⟨oc_size_powers, od_size_powers, .func (PySem.W.fnOf "size_powers" "size_powers" (defArgs s_size_powers) (defBody s_size_powers) (defScope s_size_powers) .none kV_size_powers dc_size_powers pm_size_powers an_size_powers cd_size_powers ct_size_powers), sl_size_powers⟩)
    (c_size_powers : PySem.W.codeIn K cd_size_powers "size_powers" = true)
    (k_size_powers : PySem.W.keepIn K (.ref f_size_powers) = true)
    (a_joint_powers : PySem.W.nsIn K mainGlobals "joint_powers" = some (some (.ref f_joint_powers)))
    (l_joint_powers : K.lookup f_joint_powers = some ⟨oc_joint_powers, od_joint_powers, .func (PySem.W.fnOf "joint_powers" "joint_powers" (defArgs s_joint_powers) (defBody s_joint_powers) (defScope s_joint_powers) .none kV_joint_powers dc_joint_powers pm_joint_powers an_joint_powers cd_joint_powers ct_joint_powers), sl_joint_powers⟩)
    (c_joint_powers : PySem.W.codeIn K cd_joint_powers "joint_powers" = true)
    (k_joint_powers : PySem.W.keepIn K (.ref f_joint_powers) = true)
    (a_told_sum : PySem.W.nsIn K mainGlobals "told_sum" = some (some (.ref f_told_sum)))
    (l_told_sum : K.lookup f_told_sum = some ⟨oc_told_sum, od_told_sum, .func (PySem.W.fnOf "told_sum" "told_sum" (defArgs s_told_sum) (defBody s_told_sum) (defScope s_told_sum) .none kV_told_sum dc_told_sum pm_told_sum an_told_sum cd_told_sum ct_told_sum), sl_told_sum⟩)
    (c_told_sum : PySem.W.codeIn K cd_told_sum "told_sum" = true)
    (k_told_sum : PySem.W.keepIn K (.ref f_told_sum) = true)
    (a_Line___init__ : PySem.W.findIn K (.ref C_Line) "__init__" = some (some (.ref f_Line___init__)))
    (i_Line___init__ : PySem.W.isFn K (.ref f_Line___init__) = true)
    (l_Line___init__ : K.lookup f_Line___init__ = some ⟨oc_Line___init__, od_Line___init__, .func (PySem.W.fnOf "__init__" "Line.__init__" (defArgs s_Line___init__) (defBody s_Line___init__) (defScope s_Line___init__) .none kV_Line___init__ dc_Line___init__ pm_Line___init__ an_Line___init__ cd_Line___init__ ct_Line___init__), sl_Line___init__⟩)
    (c_Line___init__ : PySem.W.codeIn K cd_Line___init__ "Line.__init__" = true)
    (k_Line___init__ : PySem.W.keepIn K (.ref f_Line___init__) = true)
    (a_Line_round_of : PySem.W.findIn K (.ref C_Line) "round_of" = some (some (.ref f_Line_round_of)))
    (i_Line_round_of : PySem.W.isFn K (.ref f_Line_round_of) = true)
    (l_Line_round_of : K.lookup f_Line_round_of = some ⟨oc_Line_round_of, od_Line_round_of, .func (PySem.W.fnOf "round_of" "Line.round_of" (defArgs s_Line_round_of) (defBody s_Line_round_of) (defScope s_Line_round_of) .none kV_Line_round_of dc_Line_round_of pm_Line_round_of an_Line_round_of cd_Line_round_of ct_Line_round_of), sl_Line_round_of⟩)
    (c_Line_round_of : PySem.W.codeIn K cd_Line_round_of "Line.round_of" = true)
    (k_Line_round_of : PySem.W.keepIn K (.ref f_Line_round_of) = true)
    (a_Line_chars : PySem.W.findIn K (.ref C_Line) "chars" = some (some (.ref f_Line_chars)))
    (i_Line_chars : PySem.W.isFn K (.ref f_Line_chars) = true)
    (l_Line_chars : K.lookup f_Line_chars = some ⟨oc_Line_chars, od_Line_chars, .func (PySem.W.fnOf "chars" "Line.chars" (defArgs s_Line_chars) (defBody s_Line_chars) (defScope s_Line_chars) .none kV_Line_chars dc_Line_chars pm_Line_chars an_Line_chars cd_Line_chars ct_Line_chars), sl_Line_chars⟩)
    (c_Line_chars : PySem.W.codeIn K cd_Line_chars "Line.chars" = true)
    (k_Line_chars : PySem.W.keepIn K (.ref f_Line_chars) = true)
    (a_Line_char : PySem.W.findIn K (.ref C_Line) "char" = some (some (.ref f_Line_char)))
    (i_Line_char : PySem.W.isFn K (.ref f_Line_char) = true)
    (l_Line_char : K.lookup f_Line_char = some ⟨oc_Line_char, od_Line_char, .func (PySem.W.fnOf "char" "Line.char" (defArgs s_Line_char) (defBody s_Line_char) (defScope s_Line_char) .none kV_Line_char dc_Line_char pm_Line_char an_Line_char cd_Line_char ct_Line_char), sl_Line_char⟩)
    (c_Line_char : PySem.W.codeIn K cd_Line_char "Line.char" = true)
    (k_Line_char : PySem.W.keepIn K (.ref f_Line_char) = true)
    (a_Line_value : PySem.W.findIn K (.ref C_Line) "value" = some (some (.ref f_Line_value)))
    (i_Line_value : PySem.W.isFn K (.ref f_Line_value) = true)
    (l_Line_value : K.lookup f_Line_value = some ⟨oc_Line_value, od_Line_value, .func (PySem.W.fnOf "value" "Line.value" (defArgs s_Line_value) (defBody s_Line_value) (defScope s_Line_value) .none kV_Line_value dc_Line_value pm_Line_value an_Line_value cd_Line_value ct_Line_value), sl_Line_value⟩)
    (c_Line_value : PySem.W.codeIn K cd_Line_value "Line.value" = true)
    (k_Line_value : PySem.W.keepIn K (.ref f_Line_value) = true)
    (a_Line_product : PySem.W.findIn K (.ref C_Line) "product" = some (some (.ref f_Line_product)))
    (i_Line_product : PySem.W.isFn K (.ref f_Line_product) = true)
    (l_Line_product : K.lookup f_Line_product = some ⟨oc_Line_product, od_Line_product, .func (PySem.W.fnOf "product" "Line.product" (defArgs s_Line_product) (defBody s_Line_product) (defScope s_Line_product) .none kV_Line_product dc_Line_product pm_Line_product an_Line_product cd_Line_product ct_Line_product), sl_Line_product⟩)
    (c_Line_product : PySem.W.codeIn K cd_Line_product "Line.product" = true)
    (k_Line_product : PySem.W.keepIn K (.ref f_Line_product) = true)
    (a_Line_inverse : PySem.W.findIn K (.ref C_Line) "inverse" = some (some (.ref f_Line_inverse)))
    (i_Line_inverse : PySem.W.isFn K (.ref f_Line_inverse) = true)
    (l_Line_inverse : K.lookup f_Line_inverse = some ⟨oc_Line_inverse, od_Line_inverse, .func (PySem.W.fnOf "inverse" "Line.inverse" (defArgs s_Line_inverse) (defBody s_Line_inverse) (defScope s_Line_inverse) .none kV_Line_inverse dc_Line_inverse pm_Line_inverse an_Line_inverse cd_Line_inverse ct_Line_inverse), sl_Line_inverse⟩)
    (c_Line_inverse : PySem.W.codeIn K cd_Line_inverse "Line.inverse" = true)
    (k_Line_inverse : PySem.W.keepIn K (.ref f_Line_inverse) = true)
    (a_Line_from_what : PySem.W.findIn K (.ref C_Line) "from_what" = some (some (.ref f_Line_from_what)))
    (i_Line_from_what : PySem.W.isFn K (.ref f_Line_from_what) = true)
    (l_Line_from_what : K.lookup f_Line_from_what = some ⟨oc_Line_from_what, od_Line_from_what, .func (PySem.W.fnOf "from_what" "Line.from_what" (defArgs s_Line_from_what) (defBody s_Line_from_what) (defScope s_Line_from_what) .none kV_Line_from_what dc_Line_from_what pm_Line_from_what an_Line_from_what cd_Line_from_what ct_Line_from_what), sl_Line_from_what⟩)
    (c_Line_from_what : PySem.W.codeIn K cd_Line_from_what "Line.from_what" = true)
    (k_Line_from_what : PySem.W.keepIn K (.ref f_Line_from_what) = true)
    (a_Line_gauss : PySem.W.findIn K (.ref C_Line) "gauss" = some (some (.ref f_Line_gauss)))
    (i_Line_gauss : PySem.W.isFn K (.ref f_Line_gauss) = true)
    (l_Line_gauss : K.lookup f_Line_gauss = some ⟨oc_Line_gauss, od_Line_gauss, .func (PySem.W.fnOf "gauss" "Line.gauss" (defArgs s_Line_gauss) (defBody s_Line_gauss) (defScope s_Line_gauss) .none kV_Line_gauss dc_Line_gauss pm_Line_gauss an_Line_gauss cd_Line_gauss ct_Line_gauss), sl_Line_gauss⟩)
    (c_Line_gauss : PySem.W.codeIn K cd_Line_gauss "Line.gauss" = true)
    (k_Line_gauss : PySem.W.keepIn K (.ref f_Line_gauss) = true)
    (a_Line_size : PySem.W.findIn K (.ref C_Line) "size" = some (some (.ref f_Line_size)))
    (i_Line_size : PySem.W.isFn K (.ref f_Line_size) = true)
    (l_Line_size : K.lookup f_Line_size = some ⟨oc_Line_size, od_Line_size, .func (PySem.W.fnOf "size" "Line.size" (defArgs s_Line_size) (defBody s_Line_size) (defScope s_Line_size) .none kV_Line_size dc_Line_size pm_Line_size an_Line_size cd_Line_size ct_Line_size), sl_Line_size⟩)
    (c_Line_size : PySem.W.codeIn K cd_Line_size "Line.size" = true)
    (k_Line_size : PySem.W.keepIn K (.ref f_Line_size) = true)
    (a_Line_jacobi : PySem.W.findIn K (.ref C_Line) "jacobi" = some (some (.ref f_Line_jacobi)))
    (i_Line_jacobi : PySem.W.isFn K (.ref f_Line_jacobi) = true)
    (l_Line_jacobi : K.lookup f_Line_jacobi = some ⟨oc_Line_jacobi, od_Line_jacobi, .func (PySem.W.fnOf "jacobi" "Line.jacobi" (defArgs s_Line_jacobi) (defBody s_Line_jacobi) (defScope s_Line_jacobi) .none kV_Line_jacobi dc_Line_jacobi pm_Line_jacobi an_Line_jacobi cd_Line_jacobi ct_Line_jacobi), sl_Line_jacobi⟩)
    (c_Line_jacobi : PySem.W.codeIn K cd_Line_jacobi "Line.jacobi" = true)
    (k_Line_jacobi : PySem.W.keepIn K (.ref f_Line_jacobi) = true)
    (a_Line_circle : PySem.W.findIn K (.ref C_Line) "circle" = some (some (.ref f_Line_circle)))
    (i_Line_circle : PySem.W.isFn K (.ref f_Line_circle) = true)
    (l_Line_circle : K.lookup f_Line_circle = some ⟨oc_Line_circle, od_Line_circle, .func (PySem.W.fnOf "circle" "Line.circle" (defArgs s_Line_circle) (defBody s_Line_circle) (defScope s_Line_circle) .none kV_Line_circle dc_Line_circle pm_Line_circle an_Line_circle cd_Line_circle ct_Line_circle), sl_Line_circle⟩)
    (c_Line_circle : PySem.W.codeIn K cd_Line_circle "Line.circle" = true)
    (k_Line_circle : PySem.W.keepIn K (.ref f_Line_circle) = true)
    (a_Line_even : PySem.W.findIn K (.ref C_Line) "even" = some (some (.ref f_Line_even)))
    (i_Line_even : PySem.W.isFn K (.ref f_Line_even) = true)
    (l_Line_even : K.lookup f_Line_even = some ⟨oc_Line_even, od_Line_even, .func (PySem.W.fnOf "even" "Line.even" (defArgs s_Line_even) (defBody s_Line_even) (defScope s_Line_even) .none kV_Line_even dc_Line_even pm_Line_even an_Line_even cd_Line_even ct_Line_even), sl_Line_even⟩)
    (c_Line_even : PySem.W.codeIn K cd_Line_even "Line.even" = true)
    (k_Line_even : PySem.W.keepIn K (.ref f_Line_even) = true)
    (a_Line_sums : PySem.W.findIn K (.ref C_Line) "sums" = some (some (.ref f_Line_sums)))
    (i_Line_sums : PySem.W.isFn K (.ref f_Line_sums) = true)
    (l_Line_sums : K.lookup f_Line_sums = some ⟨oc_Line_sums, od_Line_sums, .func (PySem.W.fnOf "sums" "Line.sums" (defArgs s_Line_sums) (defBody s_Line_sums) (defScope s_Line_sums) .none kV_Line_sums dc_Line_sums pm_Line_sums an_Line_sums cd_Line_sums ct_Line_sums), sl_Line_sums⟩)
    (c_Line_sums : PySem.W.codeIn K cd_Line_sums "Line.sums" = true)
    (k_Line_sums : PySem.W.keepIn K (.ref f_Line_sums) = true)
    (a_answer_to : PySem.W.nsIn K mainGlobals "answer_to" = some (some (.ref f_answer_to)))
    (l_answer_to : K.lookup f_answer_to = some ⟨oc_answer_to, od_answer_to, .func (PySem.W.fnOf "answer_to" "answer_to" (defArgs s_answer_to) (defBody s_answer_to) (defScope s_answer_to) .none kV_answer_to dc_answer_to pm_answer_to an_answer_to cd_answer_to ct_answer_to), sl_answer_to⟩)
    (c_answer_to : PySem.W.codeIn K cd_answer_to "answer_to" = true)
    (k_answer_to : PySem.W.keepIn K (.ref f_answer_to) = true)
    (a_answers : PySem.W.nsIn K mainGlobals "answers" = some (some (.ref f_answers)))
    (l_answers : K.lookup f_answers = some ⟨oc_answers, od_answers, .func (PySem.W.fnOf "answers" "answers" (defArgs s_answers) (defBody s_answers) (defScope s_answers) .none kV_answers dc_answers pm_answers an_answers cd_answers ct_answers), sl_answers⟩)
    (c_answers : PySem.W.codeIn K cd_answers "answers" = true)
    (k_answers : PySem.W.keepIn K (.ref f_answers) = true)
    (b_range : PySem.W.nsIn K mainGlobals "range" = some none)
    (b_zip : PySem.W.nsIn K mainGlobals "zip" = some none)
    (b_enumerate : PySem.W.nsIn K mainGlobals "enumerate" = some none)
    (b_len : PySem.W.nsIn K mainGlobals "len" = some none)
    (b_list : PySem.W.nsIn K mainGlobals "list" = some none)
    (b_any : PySem.W.nsIn K mainGlobals "any" = some none)
    (b_all : PySem.W.nsIn K mainGlobals "all" = some none)
    (b_max : PySem.W.nsIn K mainGlobals "max" = some none)
    (v_FIRST_ROUND : PySem.W.nsIn K mainGlobals "FIRST_ROUND" = some (some (.int (2) t_FIRST_ROUND)))
    (v_LAST_ROUND : PySem.W.nsIn K mainGlobals "LAST_ROUND" = some (some (.int (13) t_LAST_ROUND)))
    (v_FIRST_CIRCLE : PySem.W.nsIn K mainGlobals "FIRST_CIRCLE" = some (some (.int (1) t_FIRST_CIRCLE)))
    (v_LAST_CIRCLE : PySem.W.nsIn K mainGlobals "LAST_CIRCLE" = some (some (.int (200) t_LAST_CIRCLE)))
    (v_NO_SUCH_ROUND : PySem.W.nsIn K mainGlobals "NO_SUCH_ROUND" = some (some (.int (-1) t_NO_SUCH_ROUND)))
    (v_NO_SUCH_CIRCLE : PySem.W.nsIn K mainGlobals "NO_SUCH_CIRCLE" = some (some (.int (-1) t_NO_SUCH_CIRCLE)))
    (v_NO_SUCH_CHARACTER : PySem.W.nsIn K mainGlobals "NO_SUCH_CHARACTER" = some (some (.int (-2) t_NO_SUCH_CHARACTER)))
    (v_NOT_A_UNIT : PySem.W.nsIn K mainGlobals "NOT_A_UNIT" = some (some (.int (-3) t_NOT_A_UNIT)))
    (v_ROUND_OF : PySem.W.nsIn K mainGlobals "ROUND_OF" = some (some (.int (0) t_ROUND_OF)))
    (v_CHARS : PySem.W.nsIn K mainGlobals "CHARS" = some (some (.int (1) t_CHARS)))
    (v_CHAR : PySem.W.nsIn K mainGlobals "CHAR" = some (some (.int (2) t_CHAR)))
    (v_VALUE : PySem.W.nsIn K mainGlobals "VALUE" = some (some (.int (3) t_VALUE)))
    (v_PRODUCT : PySem.W.nsIn K mainGlobals "PRODUCT" = some (some (.int (4) t_PRODUCT)))
    (v_INVERSE : PySem.W.nsIn K mainGlobals "INVERSE" = some (some (.int (5) t_INVERSE)))
    (v_FROM_WHAT : PySem.W.nsIn K mainGlobals "FROM_WHAT" = some (some (.int (6) t_FROM_WHAT)))
    (v_GAUSS : PySem.W.nsIn K mainGlobals "GAUSS" = some (some (.int (7) t_GAUSS)))
    (v_SIZE : PySem.W.nsIn K mainGlobals "SIZE" = some (some (.int (8) t_SIZE)))
    (v_JACOBI : PySem.W.nsIn K mainGlobals "JACOBI" = some (some (.int (9) t_JACOBI)))
    (v_CIRCLE : PySem.W.nsIn K mainGlobals "CIRCLE" = some (some (.int (10) t_CIRCLE)))
    (v_EVEN : PySem.W.nsIn K mainGlobals "EVEN" = some (some (.int (11) t_EVEN)))
    (v_HANDED_OVER : PySem.W.nsIn K mainGlobals "HANDED_OVER" = some (some (.ref H_HANDED_OVER)))
    (t_HANDED_OVER : K.lookup H_HANDED_OVER = some ⟨.type "tuple", od_HANDED_OVER, .seq its_HANDED_OVER nn_HANDED_OVER, sl_HANDED_OVER⟩)
    (u_HANDED_OVER : Vals (nV [1, 0, 1, 2, 2, 1, 1, 2, 2, 2, 1, 1, 0]) its_HANDED_OVER.toList)
    (z_HANDED_OVER : its_HANDED_OVER.size ≤ sizeLine) :
    ∃ fd : FuncData, (∀ (s : Shared) (us : List Value), us.length = (["calls"] : List Str).length → BindsTo s fd ⟨us, []⟩ ((["calls"] : List Str).zip us)) ∧ ∀ base : Heap, K.In base → base.Ns mainGlobals mg → FnOk P w K mg base CX0 9 fa fd ["calls"] (spAns K) := by
  have e := hfa.symm.trans (PySem.W.mg_of X G a_answers)
  cases e
  have B : Bl mg := ⟨PySem.W.ns_none_of X G b_range, PySem.W.ns_none_of X G b_zip, PySem.W.ns_none_of X G b_enumerate, PySem.W.ns_none_of X G b_len, PySem.W.ns_none_of X G b_list, PySem.W.ns_none_of X G b_any, PySem.W.ns_none_of X G b_all, PySem.W.ns_none_of X G b_max⟩
  have cv : ∀ {x : Str} {u : Value}, mg x = some u → mg x = some (cvOf mg x) ∧ cvOf mg x = u := fun {x u} h => by
    unfold cvOf
    rw [h]
    exact ⟨rfl, rfl⟩
  have w_FIRST_ROUND := cv (PySem.W.mg_of X G v_FIRST_ROUND)
  have w_LAST_ROUND := cv (PySem.W.mg_of X G v_LAST_ROUND)
  have w_FIRST_CIRCLE := cv (PySem.W.mg_of X G v_FIRST_CIRCLE)
  have w_LAST_CIRCLE := cv (PySem.W.mg_of X G v_LAST_CIRCLE)
  have w_NO_SUCH_ROUND := cv (PySem.W.mg_of X G v_NO_SUCH_ROUND)
  have w_NO_SUCH_CIRCLE := cv (PySem.W.mg_of X G v_NO_SUCH_CIRCLE)
  have w_NO_SUCH_CHARACTER := cv (PySem.W.mg_of X G v_NO_SUCH_CHARACTER)
  have w_NOT_A_UNIT := cv (PySem.W.mg_of X G v_NOT_A_UNIT)
  have w_ROUND_OF := cv (PySem.W.mg_of X G v_ROUND_OF)
  have w_CHARS := cv (PySem.W.mg_of X G v_CHARS)
  have w_CHAR := cv (PySem.W.mg_of X G v_CHAR)
  have w_VALUE := cv (PySem.W.mg_of X G v_VALUE)
  have w_PRODUCT := cv (PySem.W.mg_of X G v_PRODUCT)
  have w_INVERSE := cv (PySem.W.mg_of X G v_INVERSE)
  have w_FROM_WHAT := cv (PySem.W.mg_of X G v_FROM_WHAT)
  have w_GAUSS := cv (PySem.W.mg_of X G v_GAUSS)
  have w_SIZE := cv (PySem.W.mg_of X G v_SIZE)
  have w_JACOBI := cv (PySem.W.mg_of X G v_JACOBI)
  have w_CIRCLE := cv (PySem.W.mg_of X G v_CIRCLE)
  have w_EVEN := cv (PySem.W.mg_of X G v_EVEN)
  have w_HANDED_OVER := cv (PySem.W.mg_of X G v_HANDED_OVER)
  have T : Txt K mg C_Ring C_Line H_HANDED_OVER := { toBl := B, cl_Ring := ⟨pg_Ring, hd_Ring, po_Ring, sa_Ring⟩, na_n := na_Ring_n, na_units := na_Ring_units, na_exponent := na_Ring_exponent, na_parts := na_Ring_parts, na_polynomial := na_Ring_polynomial, na_characters := na_Ring_characters, g_Ring := PySem.W.mg_of X G a_Ring, cl_Line := ⟨pg_Line, hd_Line, po_Line, sa_Line⟩, na_ring := na_Line_ring, g_Line := PySem.W.mg_of X G a_Line, g_FIRST_ROUND := w_FIRST_ROUND.1, r_FIRST_ROUND := (by rw [w_FIRST_ROUND.2]; exact ⟨_, rfl⟩), g_LAST_ROUND := w_LAST_ROUND.1, r_LAST_ROUND := (by rw [w_LAST_ROUND.2]; exact ⟨_, rfl⟩), g_FIRST_CIRCLE := w_FIRST_CIRCLE.1, r_FIRST_CIRCLE := (by rw [w_FIRST_CIRCLE.2]; exact ⟨_, rfl⟩), g_LAST_CIRCLE := w_LAST_CIRCLE.1, r_LAST_CIRCLE := (by rw [w_LAST_CIRCLE.2]; exact ⟨_, rfl⟩), g_NO_SUCH_ROUND := w_NO_SUCH_ROUND.1, r_NO_SUCH_ROUND := (by rw [w_NO_SUCH_ROUND.2]; exact ⟨_, rfl⟩), g_NO_SUCH_CIRCLE := w_NO_SUCH_CIRCLE.1, r_NO_SUCH_CIRCLE := (by rw [w_NO_SUCH_CIRCLE.2]; exact ⟨_, rfl⟩), g_NO_SUCH_CHARACTER := w_NO_SUCH_CHARACTER.1, r_NO_SUCH_CHARACTER := (by rw [w_NO_SUCH_CHARACTER.2]; exact ⟨_, rfl⟩), g_NOT_A_UNIT := w_NOT_A_UNIT.1, r_NOT_A_UNIT := (by rw [w_NOT_A_UNIT.2]; exact ⟨_, rfl⟩), g_ROUND_OF := w_ROUND_OF.1, r_ROUND_OF := (by rw [w_ROUND_OF.2]; exact ⟨_, rfl⟩), g_CHARS := w_CHARS.1, r_CHARS := (by rw [w_CHARS.2]; exact ⟨_, rfl⟩), g_CHAR := w_CHAR.1, r_CHAR := (by rw [w_CHAR.2]; exact ⟨_, rfl⟩), g_VALUE := w_VALUE.1, r_VALUE := (by rw [w_VALUE.2]; exact ⟨_, rfl⟩), g_PRODUCT := w_PRODUCT.1, r_PRODUCT := (by rw [w_PRODUCT.2]; exact ⟨_, rfl⟩), g_INVERSE := w_INVERSE.1, r_INVERSE := (by rw [w_INVERSE.2]; exact ⟨_, rfl⟩), g_FROM_WHAT := w_FROM_WHAT.1, r_FROM_WHAT := (by rw [w_FROM_WHAT.2]; exact ⟨_, rfl⟩), g_GAUSS := w_GAUSS.1, r_GAUSS := (by rw [w_GAUSS.2]; exact ⟨_, rfl⟩), g_SIZE := w_SIZE.1, r_SIZE := (by rw [w_SIZE.2]; exact ⟨_, rfl⟩), g_JACOBI := w_JACOBI.1, r_JACOBI := (by rw [w_JACOBI.2]; exact ⟨_, rfl⟩), g_CIRCLE := w_CIRCLE.1, r_CIRCLE := (by rw [w_CIRCLE.2]; exact ⟨_, rfl⟩), g_EVEN := w_EVEN.1, r_EVEN := (by rw [w_EVEN.2]; exact ⟨_, rfl⟩), g_HANDED_OVER := w_HANDED_OVER.1, r_HANDED_OVER := (by rw [w_HANDED_OVER.2]; rfl), t_HANDED_OVER := fun H => .inr ⟨_, _, _, t_HANDED_OVER, rfl, rfl, z_HANDED_OVER, u_HANDED_OVER⟩ }
  have F_divided := fun_mk (st := s_divided) l_divided c_divided k_divided
  have b_divided := F_divided.binds (ps := ["numbers", "divisor"]) fun _ _ _ _ _ _ us hl => match us, hl with | [_, _], _ => rfl
  have D_divided : Df K mg "divided" ["numbers", "divisor"] f_divided _ := ⟨PySem.W.mg_of X G a_divided, k_divided, b_divided⟩
  have F_quotient_of := fun_mk (st := s_quotient_of) l_quotient_of c_quotient_of k_quotient_of
  have b_quotient_of := F_quotient_of.binds (ps := ["numbers", "divisor"]) fun _ _ _ _ _ _ us hl => match us, hl with | [_, _], _ => rfl
  have D_quotient_of : Df K mg "quotient_of" ["numbers", "divisor"] f_quotient_of _ := ⟨PySem.W.mg_of X G a_quotient_of, k_quotient_of, b_quotient_of⟩
  have F_rest_of := fun_mk (st := s_rest_of) l_rest_of c_rest_of k_rest_of
  have b_rest_of := F_rest_of.binds (ps := ["numbers", "divisor"]) fun _ _ _ _ _ _ us hl => match us, hl with | [_, _], _ => rfl
  have D_rest_of : Df K mg "rest_of" ["numbers", "divisor"] f_rest_of _ := ⟨PySem.W.mg_of X G a_rest_of, k_rest_of, b_rest_of⟩
  have F_circle_from := fun_mk (st := s_circle_from) l_circle_from c_circle_from k_circle_from
  have b_circle_from := F_circle_from.binds (ps := ["m", "lower"]) fun _ _ _ _ _ _ us hl => match us, hl with | [_, _], _ => rfl
  have D_circle_from : Df K mg "circle_from" ["m", "lower"] f_circle_from _ := ⟨PySem.W.mg_of X G a_circle_from, k_circle_from, b_circle_from⟩
  have F_circle_of := fun_mk (st := s_circle_of) l_circle_of c_circle_of k_circle_of
  have b_circle_of := F_circle_of.binds (ps := ["m"]) fun _ _ _ _ _ _ us hl => match us, hl with | [_], _ => rfl
  have D_circle_of : Df K mg "circle_of" ["m"] f_circle_of _ := ⟨PySem.W.mg_of X G a_circle_of, k_circle_of, b_circle_of⟩
  have F_common_divisor := fun_mk (st := s_common_divisor) l_common_divisor c_common_divisor k_common_divisor
  have b_common_divisor := F_common_divisor.binds (ps := ["a", "b"]) fun _ _ _ _ _ _ us hl => match us, hl with | [_, _], _ => rfl
  have D_common_divisor : Df K mg "common_divisor" ["a", "b"] f_common_divisor _ := ⟨PySem.W.mg_of X G a_common_divisor, k_common_divisor, b_common_divisor⟩
  have F_common_multiple := fun_mk (st := s_common_multiple) l_common_multiple c_common_multiple k_common_multiple
  have b_common_multiple := F_common_multiple.binds (ps := ["a", "b"]) fun _ _ _ _ _ _ us hl => match us, hl with | [_, _], _ => rfl
  have D_common_multiple : Df K mg "common_multiple" ["a", "b"] f_common_multiple _ := ⟨PySem.W.mg_of X G a_common_multiple, k_common_multiple, b_common_multiple⟩
  have F_units_of := fun_mk (st := s_units_of) l_units_of c_units_of k_units_of
  have b_units_of := F_units_of.binds (ps := ["n"]) fun _ _ _ _ _ _ us hl => match us, hl with | [_], _ => rfl
  have D_units_of : Df K mg "units_of" ["n"] f_units_of _ := ⟨PySem.W.mg_of X G a_units_of, k_units_of, b_units_of⟩
  have F_exponent_of := fun_mk (st := s_exponent_of) l_exponent_of c_exponent_of k_exponent_of
  have b_exponent_of := F_exponent_of.binds (ps := ["n", "units"]) fun _ _ _ _ _ _ us hl => match us, hl with | [_, _], _ => rfl
  have D_exponent_of : Df K mg "exponent_of" ["n", "units"] f_exponent_of _ := ⟨PySem.W.mg_of X G a_exponent_of, k_exponent_of, b_exponent_of⟩
  have F_laws_of := fun_mk (st := s_laws_of) l_laws_of c_laws_of k_laws_of
  have b_laws_of := F_laws_of.binds (ps := ["n", "units"]) fun _ _ _ _ _ _ us hl => match us, hl with | [_, _], _ => rfl
  have D_laws_of : Df K mg "laws_of" ["n", "units"] f_laws_of _ := ⟨PySem.W.mg_of X G a_laws_of, k_laws_of, b_laws_of⟩
  have F_keeps_laws := fun_mk (st := s_keeps_laws) l_keeps_laws c_keeps_laws k_keeps_laws
  have b_keeps_laws := F_keeps_laws.binds (ps := ["numbers", "laws", "exponent"]) fun _ _ _ _ _ _ us hl => match us, hl with | [_, _, _], _ => rfl
  have D_keeps_laws : Df K mg "keeps_laws" ["numbers", "laws", "exponent"] f_keeps_laws _ := ⟨PySem.W.mg_of X G a_keeps_laws, k_keeps_laws, b_keeps_laws⟩
  have F_characters_of := fun_mk (st := s_characters_of) l_characters_of c_characters_of k_characters_of
  have b_characters_of := F_characters_of.binds (ps := ["n", "units", "exponent"]) fun _ _ _ _ _ _ us hl => match us, hl with | [_, _, _], _ => rfl
  have D_characters_of : Df K mg "characters_of" ["n", "units", "exponent"] f_characters_of _ := ⟨PySem.W.mg_of X G a_characters_of, k_characters_of, b_characters_of⟩
  have F_product_of := fun_mk (st := s_product_of) l_product_of c_product_of k_product_of
  have b_product_of := F_product_of.binds (ps := ["one", "other", "exponent"]) fun _ _ _ _ _ _ us hl => match us, hl with | [_, _, _], _ => rfl
  have D_product_of : Df K mg "product_of" ["one", "other", "exponent"] f_product_of _ := ⟨PySem.W.mg_of X G a_product_of, k_product_of, b_product_of⟩
  have F_inverse_of := fun_mk (st := s_inverse_of) l_inverse_of c_inverse_of k_inverse_of
  have b_inverse_of := F_inverse_of.binds (ps := ["numbers", "exponent"]) fun _ _ _ _ _ _ us hl => match us, hl with | [_, _], _ => rfl
  have D_inverse_of : Df K mg "inverse_of" ["numbers", "exponent"] f_inverse_of _ := ⟨PySem.W.mg_of X G a_inverse_of, k_inverse_of, b_inverse_of⟩
  have F_comes_from := fun_mk (st := s_comes_from) l_comes_from c_comes_from k_comes_from
  have b_comes_from := F_comes_from.binds (ps := ["d", "units", "numbers"]) fun _ _ _ _ _ _ us hl => match us, hl with | [_, _, _], _ => rfl
  have D_comes_from : Df K mg "comes_from" ["d", "units", "numbers"] f_comes_from _ := ⟨PySem.W.mg_of X G a_comes_from, k_comes_from, b_comes_from⟩
  have F_origin_of := fun_mk (st := s_origin_of) l_origin_of c_origin_of k_origin_of
  have b_origin_of := F_origin_of.binds (ps := ["n", "units", "numbers"]) fun _ _ _ _ _ _ us hl => match us, hl with | [_, _, _], _ => rfl
  have D_origin_of : Df K mg "origin_of" ["n", "units", "numbers"] f_origin_of _ := ⟨PySem.W.mg_of X G a_origin_of, k_origin_of, b_origin_of⟩
  have F_Ring___init__ := fun_mk (st := s_Ring___init__) l_Ring___init__ c_Ring___init__ k_Ring___init__
  have b_Ring___init__ := F_Ring___init__.binds (ps := ["self", "n"]) fun _ _ _ _ _ _ us hl => match us, hl with | [_, _], _ => rfl
  have M_Ring : Mk K C_Ring f_Ring___init__ := ⟨mk_Ring, a_Ring___init__, i_Ring___init__, kc_Ring⟩
  have F_Ring_lacks := fun_mk (st := s_Ring_lacks) l_Ring_lacks c_Ring_lacks k_Ring_lacks
  have b_Ring_lacks := F_Ring_lacks.binds (ps := ["self", "i"]) fun _ _ _ _ _ _ us hl => match us, hl with | [_, _], _ => rfl
  have D_Ring_lacks : Dm K C_Ring "lacks" ["self", "i"] f_Ring_lacks _ := ⟨⟨a_Ring_lacks, i_Ring_lacks, k_Ring_lacks⟩, b_Ring_lacks⟩
  have F_Ring_number_of := fun_mk (st := s_Ring_number_of) l_Ring_number_of c_Ring_number_of k_Ring_number_of
  have b_Ring_number_of := F_Ring_number_of.binds (ps := ["self", "numbers"]) fun _ _ _ _ _ _ us hl => match us, hl with | [_, _], _ => rfl
  have D_Ring_number_of : Dm K C_Ring "number_of" ["self", "numbers"] f_Ring_number_of _ := ⟨⟨a_Ring_number_of, i_Ring_number_of, k_Ring_number_of⟩, b_Ring_number_of⟩
  have F_Ring_given := fun_mk (st := s_Ring_given) l_Ring_given c_Ring_given k_Ring_given
  have b_Ring_given := F_Ring_given.binds (ps := ["self", "numbers", "unit"]) fun _ _ _ _ _ _ us hl => match us, hl with | [_, _, _], _ => rfl
  have D_Ring_given : Dm K C_Ring "given" ["self", "numbers", "unit"] f_Ring_given _ := ⟨⟨a_Ring_given, i_Ring_given, k_Ring_given⟩, b_Ring_given⟩
  have F_gauss_powers := fun_mk (st := s_gauss_powers) l_gauss_powers c_gauss_powers k_gauss_powers
  have b_gauss_powers := F_gauss_powers.binds (ps := ["ring", "numbers", "a"]) fun _ _ _ _ _ _ us hl => match us, hl with | [_, _, _], _ => rfl
  have D_gauss_powers : Df K mg "gauss_powers" ["ring", "numbers", "a"] f_gauss_powers _ := ⟨PySem.W.mg_of X G a_gauss_powers, k_gauss_powers, b_gauss_powers⟩
  have F_size_powers := fun_mk (st := s_size_powers) l_size_powers c_size_powers k_size_powers
  have b_size_powers := F_size_powers.binds (ps := ["powers"]) fun _ _ _ _ _ _ us hl => match us, hl with | [_], _ => rfl
  have D_size_powers : Df K mg "size_powers" ["powers"] f_size_powers _ := ⟨PySem.W.mg_of X G a_size_powers, k_size_powers, b_size_powers⟩
  have F_joint_powers := fun_mk (st := s_joint_powers) l_joint_powers c_joint_powers k_joint_powers
  have b_joint_powers := F_joint_powers.binds (ps := ["ring", "one", "other"]) fun _ _ _ _ _ _ us hl => match us, hl with | [_, _, _], _ => rfl
  have D_joint_powers : Df K mg "joint_powers" ["ring", "one", "other"] f_joint_powers _ := ⟨PySem.W.mg_of X G a_joint_powers, k_joint_powers, b_joint_powers⟩
  have F_told_sum := fun_mk (st := s_told_sum) l_told_sum c_told_sum k_told_sum
  have b_told_sum := F_told_sum.binds (ps := ["powers", "m", "polynomial"]) fun _ _ _ _ _ _ us hl => match us, hl with | [_, _, _], _ => rfl
  have D_told_sum : Df K mg "told_sum" ["powers", "m", "polynomial"] f_told_sum _ := ⟨PySem.W.mg_of X G a_told_sum, k_told_sum, b_told_sum⟩
  have F_Line___init__ := fun_mk (st := s_Line___init__) l_Line___init__ c_Line___init__ k_Line___init__
  have b_Line___init__ := F_Line___init__.binds (ps := ["self"]) fun _ _ _ _ _ _ us hl => match us, hl with | [_], _ => rfl
  have M_Line : Mk K C_Line f_Line___init__ := ⟨mk_Line, a_Line___init__, i_Line___init__, kc_Line⟩
  have F_Line_round_of := fun_mk (st := s_Line_round_of) l_Line_round_of c_Line_round_of k_Line_round_of
  have b_Line_round_of := F_Line_round_of.binds (ps := ["self", "n"]) fun _ _ _ _ _ _ us hl => match us, hl with | [_, _], _ => rfl
  have D_Line_round_of : Dm K C_Line "round_of" ["self", "n"] f_Line_round_of _ := ⟨⟨a_Line_round_of, i_Line_round_of, k_Line_round_of⟩, b_Line_round_of⟩
  have F_Line_chars := fun_mk (st := s_Line_chars) l_Line_chars c_Line_chars k_Line_chars
  have b_Line_chars := F_Line_chars.binds (ps := ["self"]) fun _ _ _ _ _ _ us hl => match us, hl with | [_], _ => rfl
  have D_Line_chars : Dm K C_Line "chars" ["self"] f_Line_chars _ := ⟨⟨a_Line_chars, i_Line_chars, k_Line_chars⟩, b_Line_chars⟩
  have F_Line_char := fun_mk (st := s_Line_char) l_Line_char c_Line_char k_Line_char
  have b_Line_char := F_Line_char.binds (ps := ["self", "i"]) fun _ _ _ _ _ _ us hl => match us, hl with | [_, _], _ => rfl
  have D_Line_char : Dm K C_Line "char" ["self", "i"] f_Line_char _ := ⟨⟨a_Line_char, i_Line_char, k_Line_char⟩, b_Line_char⟩
  have F_Line_value := fun_mk (st := s_Line_value) l_Line_value c_Line_value k_Line_value
  have b_Line_value := F_Line_value.binds (ps := ["self", "i", "a"]) fun _ _ _ _ _ _ us hl => match us, hl with | [_, _, _], _ => rfl
  have D_Line_value : Dm K C_Line "value" ["self", "i", "a"] f_Line_value _ := ⟨⟨a_Line_value, i_Line_value, k_Line_value⟩, b_Line_value⟩
  have F_Line_product := fun_mk (st := s_Line_product) l_Line_product c_Line_product k_Line_product
  have b_Line_product := F_Line_product.binds (ps := ["self", "i", "j"]) fun _ _ _ _ _ _ us hl => match us, hl with | [_, _, _], _ => rfl
  have D_Line_product : Dm K C_Line "product" ["self", "i", "j"] f_Line_product _ := ⟨⟨a_Line_product, i_Line_product, k_Line_product⟩, b_Line_product⟩
  have F_Line_inverse := fun_mk (st := s_Line_inverse) l_Line_inverse c_Line_inverse k_Line_inverse
  have b_Line_inverse := F_Line_inverse.binds (ps := ["self", "i"]) fun _ _ _ _ _ _ us hl => match us, hl with | [_, _], _ => rfl
  have D_Line_inverse : Dm K C_Line "inverse" ["self", "i"] f_Line_inverse _ := ⟨⟨a_Line_inverse, i_Line_inverse, k_Line_inverse⟩, b_Line_inverse⟩
  have F_Line_from_what := fun_mk (st := s_Line_from_what) l_Line_from_what c_Line_from_what k_Line_from_what
  have b_Line_from_what := F_Line_from_what.binds (ps := ["self", "i"]) fun _ _ _ _ _ _ us hl => match us, hl with | [_, _], _ => rfl
  have D_Line_from_what : Dm K C_Line "from_what" ["self", "i"] f_Line_from_what _ := ⟨⟨a_Line_from_what, i_Line_from_what, k_Line_from_what⟩, b_Line_from_what⟩
  have F_Line_gauss := fun_mk (st := s_Line_gauss) l_Line_gauss c_Line_gauss k_Line_gauss
  have b_Line_gauss := F_Line_gauss.binds (ps := ["self", "i", "a"]) fun _ _ _ _ _ _ us hl => match us, hl with | [_, _, _], _ => rfl
  have D_Line_gauss : Dm K C_Line "gauss" ["self", "i", "a"] f_Line_gauss _ := ⟨⟨a_Line_gauss, i_Line_gauss, k_Line_gauss⟩, b_Line_gauss⟩
  have F_Line_size := fun_mk (st := s_Line_size) l_Line_size c_Line_size k_Line_size
  have b_Line_size := F_Line_size.binds (ps := ["self", "i", "a"]) fun _ _ _ _ _ _ us hl => match us, hl with | [_, _, _], _ => rfl
  have D_Line_size : Dm K C_Line "size" ["self", "i", "a"] f_Line_size _ := ⟨⟨a_Line_size, i_Line_size, k_Line_size⟩, b_Line_size⟩
  have F_Line_jacobi := fun_mk (st := s_Line_jacobi) l_Line_jacobi c_Line_jacobi k_Line_jacobi
  have b_Line_jacobi := F_Line_jacobi.binds (ps := ["self", "i", "j"]) fun _ _ _ _ _ _ us hl => match us, hl with | [_, _, _], _ => rfl
  have D_Line_jacobi : Dm K C_Line "jacobi" ["self", "i", "j"] f_Line_jacobi _ := ⟨⟨a_Line_jacobi, i_Line_jacobi, k_Line_jacobi⟩, b_Line_jacobi⟩
  have F_Line_circle := fun_mk (st := s_Line_circle) l_Line_circle c_Line_circle k_Line_circle
  have b_Line_circle := F_Line_circle.binds (ps := ["self", "m"]) fun _ _ _ _ _ _ us hl => match us, hl with | [_, _], _ => rfl
  have D_Line_circle : Dm K C_Line "circle" ["self", "m"] f_Line_circle _ := ⟨⟨a_Line_circle, i_Line_circle, k_Line_circle⟩, b_Line_circle⟩
  have F_Line_even := fun_mk (st := s_Line_even) l_Line_even c_Line_even k_Line_even
  have b_Line_even := F_Line_even.binds (ps := ["self", "i"]) fun _ _ _ _ _ _ us hl => match us, hl with | [_, _], _ => rfl
  have D_Line_even : Dm K C_Line "even" ["self", "i"] f_Line_even _ := ⟨⟨a_Line_even, i_Line_even, k_Line_even⟩, b_Line_even⟩
  have F_Line_sums := fun_mk (st := s_Line_sums) l_Line_sums c_Line_sums k_Line_sums
  have b_Line_sums := F_Line_sums.binds (ps := ["self"]) fun _ _ _ _ _ _ us hl => match us, hl with | [_], _ => rfl
  have D_Line_sums : Dm K C_Line "sums" ["self"] f_Line_sums _ := ⟨⟨a_Line_sums, i_Line_sums, k_Line_sums⟩, b_Line_sums⟩
  have F_answer_to := fun_mk (st := s_answer_to) l_answer_to c_answer_to k_answer_to
  have b_answer_to := F_answer_to.binds (ps := ["line", "call", "handed"]) fun _ _ _ _ _ _ us hl => match us, hl with | [_, _, _], _ => rfl
  have D_answer_to : Df K mg "answer_to" ["line", "call", "handed"] f_answer_to _ := ⟨PySem.W.mg_of X G a_answer_to, k_answer_to, b_answer_to⟩
  have F_answers := fun_mk (st := s_answers) l_answers c_answers k_answers
  have b_answers := F_answers.binds (ps := ["calls"]) fun _ _ _ _ _ _ us hl => match us, hl with | [_], _ => rfl
  refine ⟨PySem.W.fnOf "answers" "answers" (defArgs s_answers) (defBody s_answers) (defScope s_answers) .none kV_answers dc_answers pm_answers an_answers cd_answers ct_answers, fun s us hu => match us, hu with | [_], _ => .of_eq rfl, fun base _ _ => ?_⟩
  have G_divided := ok_divided (P := P) (w := w) (K := K) (mg := mg) (base := base) B F_divided
  have G_quotient_of := ok_quotient_of (P := P) (w := w) (K := K) (mg := mg) (base := base) B F_quotient_of D_divided G_divided
  have G_rest_of := ok_rest_of (P := P) (w := w) (K := K) (mg := mg) (base := base) B F_rest_of D_divided G_divided
  have G_circle_from := ok_circle_from (P := P) (w := w) (K := K) (mg := mg) (base := base) B F_circle_from D_quotient_of G_quotient_of
  have G_circle_of := ok_circle_of (P := P) (w := w) (K := K) (mg := mg) (base := base) B F_circle_of D_circle_from G_circle_from
  have G_common_divisor := ok_common_divisor (P := P) (w := w) (K := K) (mg := mg) (base := base) F_common_divisor
  have G_common_multiple := ok_common_multiple (P := P) (w := w) (K := K) (mg := mg) (base := base) F_common_multiple D_common_divisor G_common_divisor
  have G_units_of := ok_units_of (P := P) (w := w) (K := K) (mg := mg) (base := base) B F_units_of D_common_divisor G_common_divisor
  have G_exponent_of := ok_exponent_of (P := P) (w := w) (K := K) (mg := mg) (base := base) B F_exponent_of
  have G_laws_of := ok_laws_of (P := P) (w := w) (K := K) (mg := mg) (base := base) B F_laws_of
  have G_keeps_laws := ok_keeps_laws (P := P) (w := w) (K := K) (mg := mg) (base := base) B F_keeps_laws
  have G_characters_of := ok_characters_of (P := P) (w := w) (K := K) (mg := mg) (base := base) B F_characters_of D_laws_of G_laws_of D_keeps_laws G_keeps_laws
  have G_product_of := ok_product_of (P := P) (w := w) (K := K) (mg := mg) (base := base) B F_product_of
  have G_inverse_of := ok_inverse_of (P := P) (w := w) (K := K) (mg := mg) (base := base) B F_inverse_of
  have G_comes_from := ok_comes_from (P := P) (w := w) (K := K) (mg := mg) (base := base) B F_comes_from
  have G_origin_of := ok_origin_of (P := P) (w := w) (K := K) (mg := mg) (base := base) B F_origin_of D_comes_from G_comes_from
  have G_Ring___init__ := ok_Ring___init__ (P := P) (w := w) (K := K) (mg := mg) (base := base) T F_Ring___init__ D_units_of G_units_of D_exponent_of G_exponent_of D_common_multiple G_common_multiple D_characters_of G_characters_of D_circle_of G_circle_of
  have G_Ring_lacks := ok_Ring_lacks (P := P) (w := w) (K := K) (mg := mg) (base := base) T F_Ring_lacks
  have G_Ring_number_of := ok_Ring_number_of (P := P) (w := w) (K := K) (mg := mg) (base := base) T F_Ring_number_of
  have G_Ring_given := ok_Ring_given (P := P) (w := w) (K := K) (mg := mg) (base := base) T F_Ring_given
  have G_gauss_powers := ok_gauss_powers (P := P) (w := w) (K := K) (mg := mg) (base := base) T F_gauss_powers
  have G_size_powers := ok_size_powers (P := P) (w := w) (K := K) (mg := mg) (base := base) T F_size_powers
  have G_joint_powers := ok_joint_powers (P := P) (w := w) (K := K) (mg := mg) (base := base) T F_joint_powers D_Ring_given G_Ring_given
  have G_told_sum := ok_told_sum (P := P) (w := w) (K := K) (mg := mg) (base := base) T F_told_sum D_rest_of G_rest_of
  have G_Line___init__ := ok_Line___init__ (P := P) (w := w) (K := K) (mg := mg) (base := base) T F_Line___init__ M_Ring b_Ring___init__ G_Ring___init__
  have G_Line_round_of := ok_Line_round_of (P := P) (w := w) (K := K) (mg := mg) (base := base) T F_Line_round_of M_Ring b_Ring___init__ G_Ring___init__
  have G_Line_chars := ok_Line_chars (P := P) (w := w) (K := K) (mg := mg) (base := base) T F_Line_chars
  have G_Line_char := ok_Line_char (P := P) (w := w) (K := K) (mg := mg) (base := base) T F_Line_char D_Ring_lacks G_Ring_lacks
  have G_Line_value := ok_Line_value (P := P) (w := w) (K := K) (mg := mg) (base := base) T F_Line_value D_Ring_given G_Ring_given D_Ring_lacks G_Ring_lacks
  have G_Line_product := ok_Line_product (P := P) (w := w) (K := K) (mg := mg) (base := base) T F_Line_product D_Ring_lacks G_Ring_lacks D_Ring_number_of G_Ring_number_of D_product_of G_product_of
  have G_Line_inverse := ok_Line_inverse (P := P) (w := w) (K := K) (mg := mg) (base := base) T F_Line_inverse D_Ring_lacks G_Ring_lacks D_Ring_number_of G_Ring_number_of D_inverse_of G_inverse_of
  have G_Line_from_what := ok_Line_from_what (P := P) (w := w) (K := K) (mg := mg) (base := base) T F_Line_from_what D_Ring_lacks G_Ring_lacks D_origin_of G_origin_of
  have G_Line_gauss := ok_Line_gauss (P := P) (w := w) (K := K) (mg := mg) (base := base) T F_Line_gauss D_Ring_lacks G_Ring_lacks D_gauss_powers G_gauss_powers D_told_sum G_told_sum
  have G_Line_size := ok_Line_size (P := P) (w := w) (K := K) (mg := mg) (base := base) T F_Line_size D_Ring_lacks G_Ring_lacks D_gauss_powers G_gauss_powers D_told_sum G_told_sum D_size_powers G_size_powers
  have G_Line_jacobi := ok_Line_jacobi (P := P) (w := w) (K := K) (mg := mg) (base := base) T F_Line_jacobi D_Ring_lacks G_Ring_lacks D_joint_powers G_joint_powers D_told_sum G_told_sum
  have G_Line_circle := ok_Line_circle (P := P) (w := w) (K := K) (mg := mg) (base := base) T F_Line_circle D_circle_of G_circle_of
  have G_Line_even := ok_Line_even (P := P) (w := w) (K := K) (mg := mg) (base := base) T F_Line_even D_Ring_lacks G_Ring_lacks D_Ring_given G_Ring_given
  have G_Line_sums := ok_Line_sums (P := P) (w := w) (K := K) (mg := mg) (base := base) T F_Line_sums D_circle_of G_circle_of D_told_sum G_told_sum
  have G_answer_to := ok_answer_to (P := P) (w := w) (K := K) (mg := mg) (base := base) T F_answer_to D_Line_round_of G_Line_round_of D_Line_chars G_Line_chars D_Line_char G_Line_char D_Line_value G_Line_value D_Line_product G_Line_product D_Line_inverse G_Line_inverse D_Line_from_what G_Line_from_what D_Line_gauss G_Line_gauss D_Line_size G_Line_size D_Line_jacobi G_Line_jacobi D_Line_circle G_Line_circle D_Line_even G_Line_even D_Line_sums G_Line_sums
  exact ok_answers T F_answers M_Line b_Line___init__ G_Line___init__ D_answer_to G_answer_to
end Rs
set_option Elab.async false
set_option linter.all false
open PySem PySem.W PyProof.Rows
set_option maxRecDepth 100000 in
set_option maxHeartbeats 8000000 in
theorem PySem.Challenge.cw_rootsums_s01_answers_holds : PySem.Challenge.rw_rootsums_s01_answers.Holds := by
  w_on; k_headS; (case hw => exact ⟨[.list [.int 0, .int 2]], by decide +kernel, by decide +kernel⟩)
  k_fillS
  refine L2.walk_specK (r := PySem.Challenge.rw_rootsums_s01_answers) (k := 9) (CX := L2.CX0) (ps := ["calls"]) (sp := Rs.spAns) (by decide +kernel) rfl rfl ⟨rfl, by decide, by decide⟩ (fun w h Y => PySem.W.kIn_of Y) ?F ?S (fun _ _ _ _ z => z)
  case F =>
    intro w mg fa h Y KX G hmg
    refine' Rs.all_mk KX G hmg ?a_Ring ?pg_Ring ?hd_Ring ?po_Ring ?sa_Ring ?mk_Ring ?kc_Ring ?na_Ring_n ?na_Ring_units ?na_Ring_exponent ?na_Ring_parts ?na_Ring_polynomial ?na_Ring_characters ?a_Line ?pg_Line ?hd_Line ?po_Line ?sa_Line ?mk_Line ?kc_Line ?na_Line_ring ?a_divided ?l_divided ?c_divided ?k_divided ?a_quotient_of ?l_quotient_of ?c_quotient_of ?k_quotient_of ?a_rest_of ?l_rest_of ?c_rest_of ?k_rest_of ?a_circle_from ?l_circle_from ?c_circle_from ?k_circle_from ?a_circle_of ?l_circle_of ?c_circle_of ?k_circle_of ?a_common_divisor ?l_common_divisor ?c_common_divisor ?k_common_divisor ?a_common_multiple ?l_common_multiple ?c_common_multiple ?k_common_multiple ?a_units_of ?l_units_of ?c_units_of ?k_units_of ?a_exponent_of ?l_exponent_of ?c_exponent_of ?k_exponent_of ?a_laws_of ?l_laws_of ?c_laws_of ?k_laws_of ?a_keeps_laws ?l_keeps_laws ?c_keeps_laws ?k_keeps_laws ?a_characters_of ?l_characters_of ?c_characters_of ?k_characters_of ?a_product_of ?l_product_of ?c_product_of ?k_product_of ?a_inverse_of ?l_inverse_of ?c_inverse_of ?k_inverse_of ?a_comes_from ?l_comes_from ?c_comes_from ?k_comes_from ?a_origin_of ?l_origin_of ?c_origin_of ?k_origin_of ?a_Ring___init__ ?i_Ring___init__ ?l_Ring___init__ ?c_Ring___init__ ?k_Ring___init__ ?a_Ring_lacks ?i_Ring_lacks ?l_Ring_lacks ?c_Ring_lacks ?k_Ring_lacks ?a_Ring_number_of ?i_Ring_number_of ?l_Ring_number_of ?c_Ring_number_of ?k_Ring_number_of ?a_Ring_given ?i_Ring_given ?l_Ring_given ?c_Ring_given ?k_Ring_given ?a_gauss_powers ?l_gauss_powers ?c_gauss_powers ?k_gauss_powers ?a_size_powers ?l_size_powers ?c_size_powers ?k_size_powers ?a_joint_powers ?l_joint_powers ?c_joint_powers ?k_joint_powers ?a_told_sum ?l_told_sum ?c_told_sum ?k_told_sum ?a_Line___init__ ?i_Line___init__ ?l_Line___init__ ?c_Line___init__ ?k_Line___init__ ?a_Line_round_of ?i_Line_round_of ?l_Line_round_of ?c_Line_round_of ?k_Line_round_of ?a_Line_chars ?i_Line_chars ?l_Line_chars ?c_Line_chars ?k_Line_chars ?a_Line_char ?i_Line_char ?l_Line_char ?c_Line_char ?k_Line_char ?a_Line_value ?i_Line_value ?l_Line_value ?c_Line_value ?k_Line_value ?a_Line_product ?i_Line_product ?l_Line_product ?c_Line_product ?k_Line_product ?a_Line_inverse ?i_Line_inverse ?l_Line_inverse ?c_Line_inverse ?k_Line_inverse ?a_Line_from_what ?i_Line_from_what ?l_Line_from_what ?c_Line_from_what ?k_Line_from_what ?a_Line_gauss ?i_Line_gauss ?l_Line_gauss ?c_Line_gauss ?k_Line_gauss ?a_Line_size ?i_Line_size ?l_Line_size ?c_Line_size ?k_Line_size ?a_Line_jacobi ?i_Line_jacobi ?l_Line_jacobi ?c_Line_jacobi ?k_Line_jacobi ?a_Line_circle ?i_Line_circle ?l_Line_circle ?c_Line_circle ?k_Line_circle ?a_Line_even ?i_Line_even ?l_Line_even ?c_Line_even ?k_Line_even ?a_Line_sums ?i_Line_sums ?l_Line_sums ?c_Line_sums ?k_Line_sums ?a_answer_to ?l_answer_to ?c_answer_to ?k_answer_to ?a_answers ?l_answers ?c_answers ?k_answers ?b_range ?b_zip ?b_enumerate ?b_len ?b_list ?b_any ?b_all ?b_max ?v_FIRST_ROUND ?v_LAST_ROUND ?v_FIRST_CIRCLE ?v_LAST_CIRCLE ?v_NO_SUCH_ROUND ?v_NO_SUCH_CIRCLE ?v_NO_SUCH_CHARACTER ?v_NOT_A_UNIT ?v_ROUND_OF ?v_CHARS ?v_CHAR ?v_VALUE ?v_PRODUCT ?v_INVERSE ?v_FROM_WHAT ?v_GAUSS ?v_SIZE ?v_JACOBI ?v_CIRCLE ?v_EVEN ?v_HANDED_OVER ?t_HANDED_OVER ?u_HANDED_OVER ?z_HANDED_OVER

    (case a_Ring => k_is)
    (case pg_Ring => k_is)
    (case hd_Ring => k_is)
    (case po_Ring => k_is)
    (case sa_Ring => k_is)
    (case mk_Ring => k_is)
    (case kc_Ring => k_is)
    (case na_Ring_n => k_is)
    (case na_Ring_units => k_is)
    (case na_Ring_exponent => k_is)
    (case na_Ring_parts => k_is)
    (case na_Ring_polynomial => k_is)
    (case na_Ring_characters => k_is)
    (case a_Line => k_is)
    (case pg_Line => k_is)
    (case hd_Line => k_is)
    (case po_Line => k_is)
    (case sa_Line => k_is)
    (case mk_Line => k_is)
    (case kc_Line => k_is)
    (case na_Line_ring => k_is)
    (case a_divided => k_is)
    (case l_divided => k_is)
    (case c_divided => k_is)
    (case k_divided => k_is)
    (case a_quotient_of => k_is)
    (case l_quotient_of => k_is)
    (case c_quotient_of => k_is)
    (case k_quotient_of => k_is)
    (case a_rest_of => k_is)
    (case l_rest_of => k_is)
    (case c_rest_of => k_is)
    (case k_rest_of => k_is)
    (case a_circle_from => k_is)
    (case l_circle_from => k_is)
    (case c_circle_from => k_is)
    (case k_circle_from => k_is)
    (case a_circle_of => k_is)
    (case l_circle_of => k_is)
    (case c_circle_of => k_is)
    (case k_circle_of => k_is)
    (case a_common_divisor => k_is)
    (case l_common_divisor => k_is)
    (case c_common_divisor => k_is)
    (case k_common_divisor => k_is)
    (case a_common_multiple => k_is)
    (case l_common_multiple => k_is)
    (case c_common_multiple => k_is)
    (case k_common_multiple => k_is)
    (case a_units_of => k_is)
    (case l_units_of => k_is)
    (case c_units_of => k_is)
    (case k_units_of => k_is)
    (case a_exponent_of => k_is)
    (case l_exponent_of => k_is)
    (case c_exponent_of => k_is)
    (case k_exponent_of => k_is)
    (case a_laws_of => k_is)
    (case l_laws_of => k_is)
    (case c_laws_of => k_is)
    (case k_laws_of => k_is)
    (case a_keeps_laws => k_is)
    (case l_keeps_laws => k_is)
    (case c_keeps_laws => k_is)
    (case k_keeps_laws => k_is)
    (case a_characters_of => k_is)
    (case l_characters_of => k_is)
    (case c_characters_of => k_is)
    (case k_characters_of => k_is)
    (case a_product_of => k_is)
    (case l_product_of => k_is)
    (case c_product_of => k_is)
    (case k_product_of => k_is)
    (case a_inverse_of => k_is)
    (case l_inverse_of => k_is)
    (case c_inverse_of => k_is)
    (case k_inverse_of => k_is)
    (case a_comes_from => k_is)
    (case l_comes_from => k_is)
    (case c_comes_from => k_is)
    (case k_comes_from => k_is)
    (case a_origin_of => k_is)
    (case l_origin_of => k_is)
    (case c_origin_of => k_is)
    (case k_origin_of => k_is)
    (case a_Ring___init__ => k_is)
    (case i_Ring___init__ => k_is)
    (case l_Ring___init__ => k_is)
    (case c_Ring___init__ => k_is)
    (case k_Ring___init__ => k_is)
    (case a_Ring_lacks => k_is)
    (case i_Ring_lacks => k_is)
    (case l_Ring_lacks => k_is)
    (case c_Ring_lacks => k_is)
    (case k_Ring_lacks => k_is)
    (case a_Ring_number_of => k_is)
    (case i_Ring_number_of => k_is)
    (case l_Ring_number_of => k_is)
    (case c_Ring_number_of => k_is)
    (case k_Ring_number_of => k_is)
    (case a_Ring_given => k_is)
    (case i_Ring_given => k_is)
    (case l_Ring_given => k_is)
    (case c_Ring_given => k_is)
    (case k_Ring_given => k_is)
    (case a_gauss_powers => k_is)
    (case l_gauss_powers => k_is)
    (case c_gauss_powers => k_is)
    (case k_gauss_powers => k_is)
    (case a_size_powers => k_is)
    (case l_size_powers => k_is)
    (case c_size_powers => k_is)
    (case k_size_powers => k_is)
    (case a_joint_powers => k_is)
    (case l_joint_powers => k_is)
    (case c_joint_powers => k_is)
    (case k_joint_powers => k_is)
    (case a_told_sum => k_is)
    (case l_told_sum => k_is)
    (case c_told_sum => k_is)
    (case k_told_sum => k_is)
    (case a_Line___init__ => k_is)
    (case i_Line___init__ => k_is)
    (case l_Line___init__ => k_is)
    (case c_Line___init__ => k_is)
    (case k_Line___init__ => k_is)
    (case a_Line_round_of => k_is)
    (case i_Line_round_of => k_is)
    (case l_Line_round_of => k_is)
    (case c_Line_round_of => k_is)
    (case k_Line_round_of => k_is)
    (case a_Line_chars => k_is)
    (case i_Line_chars => k_is)
    (case l_Line_chars => k_is)
    (case c_Line_chars => k_is)
    (case k_Line_chars => k_is)
    (case a_Line_char => k_is)
    (case i_Line_char => k_is)
    (case l_Line_char => k_is)
    (case c_Line_char => k_is)
    (case k_Line_char => k_is)
    (case a_Line_value => k_is)
    (case i_Line_value => k_is)
    (case l_Line_value => k_is)
    (case c_Line_value => k_is)
    (case k_Line_value => k_is)
    (case a_Line_product => k_is)
    (case i_Line_product => k_is)
    (case l_Line_product => k_is)
    (case c_Line_product => k_is)
    (case k_Line_product => k_is)
    (case a_Line_inverse => k_is)
    (case i_Line_inverse => k_is)
    (case l_Line_inverse => k_is)
    (case c_Line_inverse => k_is)
    (case k_Line_inverse => k_is)
    (case a_Line_from_what => k_is)
    (case i_Line_from_what => k_is)
    (case l_Line_from_what => k_is)
    (case c_Line_from_what => k_is)
    (case k_Line_from_what => k_is)
    (case a_Line_gauss => k_is)
    (case i_Line_gauss => k_is)
    (case l_Line_gauss => k_is)
    (case c_Line_gauss => k_is)
    (case k_Line_gauss => k_is)
    (case a_Line_size => k_is)
    (case i_Line_size => k_is)
    (case l_Line_size => k_is)
    (case c_Line_size => k_is)
    (case k_Line_size => k_is)
    (case a_Line_jacobi => k_is)
    (case i_Line_jacobi => k_is)
    (case l_Line_jacobi => k_is)
    (case c_Line_jacobi => k_is)
    (case k_Line_jacobi => k_is)
    (case a_Line_circle => k_is)
    (case i_Line_circle => k_is)
    (case l_Line_circle => k_is)
    (case c_Line_circle => k_is)
    (case k_Line_circle => k_is)
    (case a_Line_even => k_is)
    (case i_Line_even => k_is)
    (case l_Line_even => k_is)
    (case c_Line_even => k_is)
    (case k_Line_even => k_is)
    (case a_Line_sums => k_is)
    (case i_Line_sums => k_is)
    (case l_Line_sums => k_is)
    (case c_Line_sums => k_is)
    (case k_Line_sums => k_is)
    (case a_answer_to => k_is)
    (case l_answer_to => k_is)
    (case c_answer_to => k_is)
    (case k_answer_to => k_is)
    (case a_answers => k_is)
    (case l_answers => k_is)
    (case c_answers => k_is)
    (case k_answers => k_is)
    (case b_range => k_is)
    (case b_zip => k_is)
    (case b_enumerate => k_is)
    (case b_len => k_is)
    (case b_list => k_is)
    (case b_any => k_is)
    (case b_all => k_is)
    (case b_max => k_is)
    (case v_FIRST_ROUND => k_is)
    (case v_LAST_ROUND => k_is)
    (case v_FIRST_CIRCLE => k_is)
    (case v_LAST_CIRCLE => k_is)
    (case v_NO_SUCH_ROUND => k_is)
    (case v_NO_SUCH_CIRCLE => k_is)
    (case v_NO_SUCH_CHARACTER => k_is)
    (case v_NOT_A_UNIT => k_is)
    (case v_ROUND_OF => k_is)
    (case v_CHARS => k_is)
    (case v_CHAR => k_is)
    (case v_VALUE => k_is)
    (case v_PRODUCT => k_is)
    (case v_INVERSE => k_is)
    (case v_FROM_WHAT => k_is)
    (case v_GAUSS => k_is)
    (case v_SIZE => k_is)
    (case v_JACOBI => k_is)
    (case v_CIRCLE => k_is)
    (case v_EVEN => k_is)
    (case v_HANDED_OVER => k_is)
    (case t_HANDED_OVER => k_is)
    (case u_HANDED_OVER => exact (.cons ⟨_, rfl⟩ (.cons ⟨_, rfl⟩ (.cons ⟨_, rfl⟩ (.cons ⟨_, rfl⟩ (.cons ⟨_, rfl⟩ (.cons ⟨_, rfl⟩ (.cons ⟨_, rfl⟩ (.cons ⟨_, rfl⟩ (.cons ⟨_, rfl⟩ (.cons ⟨_, rfl⟩ (.cons ⟨_, rfl⟩ (.cons ⟨_, rfl⟩ (.cons ⟨_, rfl⟩ .nil))))))))))))))
    (case z_HANDED_OVER => decide)
  case S =>
    intro K H xs a hO hwi hask hx
    cases hx with
    | cons h1 h2 =>
      cases h2
      cases h1 with
      | lst hs ha =>
        have e := L2.ints_dw a.1 _ ha
        subst e
        have q : ((Codec.inLen 0 120 a.1 && a.1.all (Codec.inInt 0 4294967295)) && true) = true := hwi
        rw [Bool.and_eq_true, Bool.and_eq_true] at q
        refine ⟨_, a.1, rfl, hs, (Codec.inNat_iff.mp q.1.1).2, fun x hx => ?_, hask, fun H' p hp => .lst (L2.SqL.of hp) (L2.dw_ints _)⟩
        exact Codec.inInt_iff.mp (List.all_eq_true.mp q.1.2 x hx)
