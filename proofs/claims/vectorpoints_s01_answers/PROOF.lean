import PyProof.Rows.All
import PySd62
import Wide.All
import OpenK.AllK
import Wide.FinOn
import Open.SpecLaws
import KE.OsGo
import HandS.ForSpec
import HandS.ForMost
import HandS.Walk
import HandS.More
import HandS.WideBits
import HandS.Zip
import PySem.Challenge.RW_vectorpoints_s01_answers
set_option maxRecDepth 100000
set_option linter.all false
namespace VM
open Sd62
/-! ## Bytes and words -/
theorem spread_length : ∀ (k n : Nat), (spread n k).length = k
  | 0, _ => rfl
  | k + 1, n => by
    show (n % 256 :: spread (n / 256) k).length = k + 1
    rw [List.length_cons, spread_length k]
theorem spread_get : ∀ (k n j : Nat), j < k → (spread n k)[j]? = some (n / 2 ^ (8 * j) % 256)
  | 0, _, _, h => absurd h (Nat.not_lt_zero _)
  | k + 1, n, 0, _ => by
    show some (n % 256) = _
    rw [Nat.mul_zero, Nat.pow_zero, Nat.div_one]
  | k + 1, n, j + 1, h => by
    show (spread (n / 256) k)[j]? = _
    rw [spread_get k (n / 256) j (Nat.lt_of_succ_lt_succ h), Nat.div_div_eq_div_mul, show 2 ^ (8 * (j + 1)) = 256 * 2 ^ (8 * j) from by rw [Nat.mul_add, Nat.pow_add, Nat.mul_comm]]
theorem words_append (a b : List Nat) : words (a ++ b) = words a ++ words b := List.flatMap_append
theorem words_one (x : Nat) : words [x] = spread x 8 := by simp [words]
theorem words_length : ∀ l : List Nat, (words l).length = 8 * l.length
  | [] => rfl
  | x :: l => by
    show (spread x 8 ++ words l).length = _
    rw [List.length_append, spread_length, words_length l, List.length_cons]
    omega
theorem take_more {α : Type} : ∀ {l : List α} {i : Nat} {x : α}, l[i]? = some x → l.take (i + 1) = l.take i ++ [x]
  | [], i, x, h => by simp at h
  | a :: l, 0, x, h => by
    have e : a = x := Option.some.inj h
    subst e
    rfl
  | a :: l, i + 1, x, h => by
    have ih := take_more (l := l) (i := i) (x := x) h
    show a :: l.take (i + 1) = a :: l.take i ++ [x]
    rw [ih]
    rfl
theorem words_more {l : List Nat} {i x : Nat} (h : l[i]? = some x) : words (l.take (i + 1)) = words (l.take i) ++ spread x 8 := by
  rw [take_more h, words_append, words_one]
/-- numbers -/
theorem numbers_length (l : List Nat) (o n : Nat) : (numbers l o n).length = n := by simp [numbers]
theorem numbers_get (l : List Nat) (o n i : Nat) (h : i < n) : (numbers l o n)[i]? = some (number l (o + 8 * i) 8) := by
  simp [numbers, h]
theorem number_succ (l : List Nat) (o k : Nat) : number l o (k + 1) = l.getD o 0 + 256 * number l (o + 1) k := rfl
theorem number_add (l : List Nat) : ∀ (a o b : Nat), number l o (a + b) = number l o a + 256 ^ a * number l (o + a) b
  | 0, o, b => by
    rw [Nat.zero_add, Nat.pow_zero, Nat.one_mul, Nat.add_zero]
    show _ = 0 + _
    rw [Nat.zero_add]
  | a + 1, o, b => by
    rw [Nat.add_right_comm, number_succ, number_succ, number_add l a (o + 1) b, show o + 1 + a = o + (a + 1) from by omega, Nat.pow_succ, Nat.mul_add]
    have : 256 * (256 ^ a * number l (o + (a + 1)) b) = 256 ^ a * 256 * number l (o + (a + 1)) b := by
      rw [← Nat.mul_assoc, Nat.mul_comm 256]
    omega
theorem number_zero (l : List Nat) : ∀ (k o : Nat), l.length ≤ o → number l o k = 0
  | 0, _, _ => rfl
  | k + 1, o, h => by
    rw [number_succ, number_zero l k (o + 1) (by omega), List.getD_eq_getElem?_getD, List.getElem?_eq_none h]
    rfl
theorem number_cut (l : List Nat) (f n : Nat) : ∀ (k o : Nat), o + k ≤ n → number ((l.drop f).take n) o k = number l (f + o) k
  | 0, _, _ => rfl
  | k + 1, o, h => by
    rw [number_succ, number_succ, number_cut l f n k (o + 1) (by omega)]
    have e : ((l.drop f).take n).getD o 0 = l.getD (f + o) 0 := by
      rw [List.getD_eq_getElem?_getD, List.getD_eq_getElem?_getD, List.getElem?_take, if_pos (by omega), List.getElem?_drop]
    rw [e]
    rfl
/-- the slice's own number is the list's -/
theorem number_slice (l : List Nat) (f : Nat) : number ((l.drop f).take 8) 0 ((l.drop f).take 8).length = number l f 8 := by
  have hl : ((l.drop f).take 8).length = min 8 (l.length - f) := by rw [List.length_take, List.length_drop]
  have h8 : ((l.drop f).take 8).length ≤ 8 := by rw [hl]; omega
  rw [number_cut l f 8 _ 0 (by omega)]
  generalize hn : ((l.drop f).take 8).length = n at *
  obtain ⟨d, e8⟩ : ∃ d, 8 = n + d := ⟨8 - n, by omega⟩
  rw [Nat.add_zero, show number l f 8 = number l f (n + d) from by rw [← e8], number_add l n f d]
  by_cases hd : d = 0
  · subst hd
    show _ = _ + 256 ^ n * 0
    omega
  · rw [number_zero l d (f + n) (by omega)]
    omega
/-- one turn of the loop over the slice from its back -/
theorem number_turn (xs : List Nat) (j : Nat) (h : j < xs.length) : number xs (xs.length - j) j * 256 + xs.getD (xs.length - 1 - j) 0 = number xs (xs.length - (j + 1)) (j + 1) := by
  rw [number_succ, show xs.length - (j + 1) + 1 = xs.length - j from by omega, show xs.length - (j + 1) = xs.length - 1 - j from by omega]
  omega
theorem number_lt (l : List Nat) (h : ∀ x ∈ l, x < 256) : ∀ (k o : Nat), number l o k < 256 ^ k
  | 0, _ => Nat.zero_lt_one
  | k + 1, o => by
    rw [number_succ, Nat.pow_succ]
    have ih := number_lt l h k (o + 1)
    have : l.getD o 0 < 256 := by
      rw [List.getD_eq_getElem?_getD]
      cases e : l[o]? with
      | none => decide
      | some x => exact h x (List.mem_of_getElem? e)
    omega
theorem number8_lt (l : List Nat) (h : ∀ x ∈ l, x < 256) (o : Nat) : number l o 8 < 2 ^ 64 := number_lt l h 8 o
end VM

set_option maxRecDepth 100000
set_option linter.all false
namespace VM
open Sd62
/-! ## Instructions -/
def ins (x : Step) : List Nat := [x.kind, x.width, x.mask, x.d, x.a, x.b]
def bnd : List (List Nat) := [[3, 8, 32, 32, 32], [3, 8, 32, 32, 32], [3, 8, 32, 32, 32], [3, 8, 32, 32, 32], [3, 8, 32, 32, 32], [3, 8, 32, 32, 32], [3, 8, 32, 32, 32], [3, 8, 32, 32, 32], [3, 8, 32, 32, 64], [3, 8, 32, 32, 64], [3, 8, 32, 32, 64], [3, 8, 32, 32, 8], [3, 8, 32, 8, 1], [3, 8, 32, 8, 1], [3, 1, 8, 32, 1], [1, 1, 8, 8, 8], [1, 1, 8, 8, 8], [3, 1, 8, 32, 32], [1, 1, 8, 8, 8], [1, 1, 8, 8, 8], [3, 1, 8, 8, 1], [1, 1, 8, 8, 1], [1, 1, 8, 8, 1], [1, 1, 8, 256, 1]]
def okB (x : Step) (b : List Nat) : Bool := decide (x.width < b.getD 0 0) && (decide (x.mask < b.getD 1 0) && (decide (x.d < b.getD 2 0) && (decide (x.a < b.getD 3 0) && decide (x.b < b.getD 4 0))))
theorem okB_iff {x : Step} {b : List Nat} : okB x b = true ↔ x.width < b.getD 0 0 ∧ x.mask < b.getD 1 0 ∧ x.d < b.getD 2 0 ∧ x.a < b.getD 3 0 ∧ x.b < b.getD 4 0 := by
  simp [okB]
theorem kinds {k : Nat} (h : k < 24) : k = 0 ∨ k = 1 ∨ k = 2 ∨ k = 3 ∨ k = 4 ∨ k = 5 ∨ k = 6 ∨ k = 7 ∨ k = 8 ∨ k = 9 ∨ k = 10 ∨ k = 11 ∨ k = 12 ∨ k = 13 ∨ k = 14 ∨ k = 15 ∨ k = 16 ∨ k = 17 ∨ k = 18 ∨ k = 19 ∨ k = 20 ∨ k = 21 ∨ k = 22 ∨ k = 23 := by omega
theorem good_far {p : Nat} {x : Step} (h : 24 ≤ x.kind) : good p x = false := by
  unfold good
  rw [show decide (x.kind < KINDS) = false from decide_eq_false (by show ¬ x.kind < 24; omega)]
  rfl
theorem lanes_le {w : Nat} (h : w < 3) : lanes w ≤ 8 := by
  have : w = 0 ∨ w = 1 ∨ w = 2 := by omega
  rcases this with rfl | rfl | rfl <;> decide
/-- the program's test: the table, then the two kinds that ask more -/
theorem good_eq {p : Nat} {x : Step} (h : x.kind < 24) (ha : x.a < 256) : good p x = (okB x (bnd.getD x.kind []) && (if x.kind = 11 then decide (x.b < lanes x.width) else if x.kind = 23 then decide (1 ≤ x.a) && decide (x.a ≤ p) else true)) := by
  obtain ⟨k, w, m, d, a, b⟩ := x
  rw [Bool.eq_iff_iff, Bool.and_eq_true, okB_iff]
  have ha : a < 256 := ha
  have hl : w < 3 → lanes w ≤ 8 := lanes_le
  generalize hL : lanes w = L at hl
  rcases kinds (show k < 24 from h) with e | e | e | e | e | e | e | e | e | e | e | e | e | e | e | e | e | e | e | e | e | e | e | e <;>
    (subst e; simp only [good, KINDS, bnd, hL]; simp; try omega)
theorem lanes_eq (w : Nat) (h : w < 3) : lanes w = [2, 4, 8].getD w 0 := by
  have : w = 0 ∨ w = 1 ∨ w = 2 := by omega
  rcases this with rfl | rfl | rfl <;> rfl
/-- what a good instruction tells -/
structure Good (p : Nat) (x : Step) : Prop where
  kind : x.kind < 24
  width : x.width < 3
  mask : x.mask < 8
  d : x.d < 32
  d8 : 14 ≤ x.kind → x.d < 8
  a : x.kind ≠ 23 → x.a < 32
  a8 : x.kind = 12 ∨ x.kind = 13 ∨ x.kind = 15 ∨ x.kind = 16 ∨ x.kind = 18 ∨ x.kind = 19 ∨ x.kind = 20 ∨ x.kind = 21 ∨ x.kind = 22 → x.a < 8
  b : x.b < 64
  b32 : x.kind < 8 ∨ x.kind = 17 → x.b < 32
  b8 : x.kind = 15 ∨ x.kind = 16 ∨ x.kind = 18 ∨ x.kind = 19 → x.b < 8
  bn : x.kind = 11 → x.b < lanes x.width
  back : x.kind = 23 → 1 ≤ x.a ∧ x.a ≤ p
  m0 : 14 ≤ x.kind → x.mask = 0
theorem good_told {p : Nat} {x : Step} (h : good p x = true) : Good p x := by
  obtain ⟨k, w, m, d, a, b⟩ := x
  have hk : k < 24 := by
    by_cases c : k < 24
    · exact c
    · rw [good_far (by show 24 ≤ k; omega)] at h
      cases h
  have hl : w < 3 → lanes w ≤ 8 := lanes_le
  generalize hL : lanes w = L at hl
  rcases kinds hk with e | e | e | e | e | e | e | e | e | e | e | e | e | e | e | e | e | e | e | e | e | e | e | e <;>
    (subst e; simp only [good, KINDS, hL] at h; simp at h; constructor <;> simp <;> omega)
theorem needs_eq (x : Step) : needs x = if x.width = 2 ∨ x.mask ≠ 0 ∨ (17 ≤ x.kind ∧ x.kind ≤ 22) then 231 else if (regs x).any (fun r => decide (16 ≤ r)) = true then 231 else if x.width = 1 then 7 else 3 := by
  unfold needs
  by_cases c : x.width = 2 ∨ x.mask ≠ 0 ∨ (17 ≤ x.kind ∧ x.kind ≤ 22)
  · rw [if_pos c, if_pos (by rcases c with c | c | c <;> simp [c])]
  · rw [if_neg c]
    by_cases c2 : (regs x).any (fun r => decide (16 ≤ r)) = true
    · rw [if_pos c2, if_pos (.inr (.inr (.inr c2)))]
    · rw [if_neg c2, if_neg (by
        intro q
        rcases q with q | q | q | q
        · exact c (.inl q)
        · exact c (.inr (.inl q))
        · exact c (.inr (.inr q))
        · exact c2 q)]
/-- steps of a code of whole instructions -/
theorem steps_length : ∀ (n : Nat) (c : List Nat), c.length = 6 * n → (steps c).length = n
  | 0, c, h => by
    have : c = [] := List.length_eq_zero_iff.mp (by omega)
    subst this
    rfl
  | n + 1, c, h => by
    match c, h with
    | a :: b :: c :: d :: e :: f :: r, h =>
      show (_ :: steps r).length = n + 1
      rw [List.length_cons, steps_length n r (by simp at h; omega)]
theorem steps_get : ∀ (n : Nat) (c : List Nat) (i : Nat), c.length = 6 * n → i < n → ∃ x, (steps c)[i]? = some x ∧ ins x = (c.drop (6 * i)).take 6
  | 0, c, i, _, h => absurd h (Nat.not_lt_zero _)
  | n + 1, c, i, h, hi => by
    match c, h with
    | a :: b :: c :: d :: e :: f :: r, h =>
      match i, hi with
      | 0, _ => exact ⟨⟨a, b, c, d, e, f⟩, rfl, rfl⟩
      | i + 1, hi =>
        obtain ⟨x, h1, h2⟩ := steps_get n r i (by simp at h; omega) (Nat.lt_of_succ_lt_succ hi)
        exact ⟨x, h1, by rw [h2, show 6 * (i + 1) = 6 * i + 6 from by omega]; rfl⟩
theorem ins_length (x : Step) : (ins x).length = 6 := rfl
end VM

set_option maxRecDepth 100000
set_option linter.all false
namespace VM
open Sd62
/-! ## Execution -/
theorem W_val : W = 18446744073709551616 := rfl
theorem sub_mod (x y : Nat) (h : y < W) : (((x : Int) - (y : Int)) % 18446744073709551616) = (((x + W - y) % W : Nat) : Int) := by
  rw [W_val] at *
  omega
theorem low32 (x : Nat) : x &&& 4294967295 = x % 2 ^ 32 := Nat.and_two_pow_sub_one_eq_mod x 32
theorem rot (x d : Nat) (hx : x < W) (hd : d < 64) : ((x * 2 ^ d) ||| (x / 2 ^ (64 - d))) % W = (x * 2 ^ d % W + x / 2 ^ (64 - d)) % W := by
  have hp : (2 : Nat) ^ 64 = 2 ^ (64 - d) * 2 ^ d := by rw [← Nat.pow_add, Nat.sub_add_cancel (by omega)]
  have hb : x / 2 ^ (64 - d) < 2 ^ d := by
    refine Nat.div_lt_of_lt_mul ?_
    rw [← hp]
    exact hx
  have hbW : x / 2 ^ (64 - d) < 2 ^ 64 := Nat.lt_of_lt_of_le hb (Nat.pow_le_pow_right (by decide) (by omega))
  have ha : x * 2 ^ d % 2 ^ 64 = 2 ^ d * (x % 2 ^ (64 - d)) := by
    rw [hp, Nat.mul_mod_mul_right, Nat.mul_comm]
  show (x * 2 ^ d ||| x / 2 ^ (64 - d)) % 2 ^ 64 = (x * 2 ^ d % 2 ^ 64 + x / 2 ^ (64 - d)) % 2 ^ 64
  rw [Nat.or_mod_two_pow, Nat.mod_eq_of_lt hbW, ha, ← Nat.two_pow_add_eq_or_of_lt hb]
  refine (Nat.mod_eq_of_lt ?_).symm
  have h2 : x % 2 ^ (64 - d) + 1 ≤ 2 ^ (64 - d) := Nat.mod_lt _ (Nat.two_pow_pos _)
  have h3 : 2 ^ d * (x % 2 ^ (64 - d) + 1) ≤ 2 ^ d * 2 ^ (64 - d) := Nat.mul_le_mul_left _ h2
  rw [Nat.mul_add, Nat.mul_one] at h3
  rw [hp, Nat.mul_comm (2 ^ (64 - d))]
  omega
theorem bits_snoc (l : List Bool) (b : Bool) : bits (l ++ [b]) = bits l + bit b (2 ^ l.length) := by
  unfold bits
  rw [List.zipIdx_append, List.foldl_append]
  simp
theorem bits_lt : ∀ (n : Nat) (l : List Bool), l.length = n → bits l < 2 ^ n
  | 0, l, h => by
    have : l = [] := List.length_eq_zero_iff.mp h
    subst this
    exact Nat.zero_lt_one
  | n + 1, l, h => by
    have hne : l ≠ [] := by
      intro e
      subst e
      cases h
    have e := List.dropLast_concat_getLast hne
    have hl : l.dropLast.length = n := by rw [List.length_dropLast, h]; rfl
    rw [← e, bits_snoc, hl]
    have ih := bits_lt n l.dropLast hl
    have hb : bit (l.getLast hne) (2 ^ n) ≤ 2 ^ n := by
      unfold bit
      split <;> omega
    rw [Nat.pow_succ]
    omega
theorem or_shift (n i : Nat) (h : n < 2 ^ i) : n ||| (1 * 2 ^ i) = n + 2 ^ i := by
  have e := Nat.two_pow_add_eq_or_of_lt h 1
  rw [Nat.mul_one] at e
  rw [Nat.one_mul, Nat.or_comm, ← e]
  omega
theorem inv_bits (x n : Nat) : (x &&& (1 * 2 ^ n - 1)) ^^^ (1 * 2 ^ n - 1) = 2 ^ n - 1 - x % 2 ^ n := by
  rw [Nat.one_mul, Nat.and_two_pow_sub_one_eq_mod]
  have hlt : x % 2 ^ n < 2 ^ n := Nat.mod_lt _ (Nat.two_pow_pos _)
  refine Nat.eq_of_testBit_eq fun i => ?_
  rw [Nat.testBit_xor, Nat.testBit_two_pow_sub_one, show 2 ^ n - 1 - x % 2 ^ n = 2 ^ n - (x % 2 ^ n + 1) from by omega, Nat.testBit_two_pow_sub_succ hlt]
  by_cases c : i < n
  · simp [c]
  · have z : (x % 2 ^ n).testBit i = false := by
      rw [Nat.testBit_mod_two_pow]
      simp [c]
    simp [c, z]
theorem sum_fold : ∀ (l : List Nat) (n : Nat), l.foldl (fun x y => (x + y) % W) n % W = (n + l.sum) % W
  | [], n => by simp
  | x :: l, n => by
    rw [List.foldl_cons, sum_fold l, List.sum_cons, ← Nat.add_assoc, Nat.add_mod, Nat.mod_mod, ← Nat.add_mod]
theorem fold_lt : ∀ (l : List Nat) (n : Nat), n < W → l.foldl (fun x y => (x + y) % W) n < W
  | [], n, h => h
  | x :: l, n, _ => fold_lt l _ (Nat.mod_lt _ (by decide))
theorem sum_eq (l : List Nat) : sum l = l.sum % W := by
  have h := sum_fold l 0
  rw [Nat.zero_add] at h
  rw [← h]
  exact (Nat.mod_eq_of_lt (fold_lt l 0 (by decide))).symm
/-! ### a state's shape -/
structure Wf (s : St) : Prop where
  m8 : s.m.length = 8
  k8 : s.k.length = 8
  v32 : s.v.length = 32
  l8 : ∀ r ∈ s.v, r.length = 8
  mB : ∀ x ∈ s.m, x < W
  kB : ∀ x ∈ s.k, x < W
  vB : ∀ r ∈ s.v, ∀ x ∈ r, x < W
theorem wf_fresh : Wf fresh := ⟨rfl, rfl, rfl, by decide, by decide, by decide, by decide⟩
theorem Wf.V {s : St} (h : Wf s) {i : Nat} (hi : i < 32) : s.v[i]? = some (s.V i) ∧ (s.V i).length = 8 ∧ ∀ x ∈ s.V i, x < W := by
  have e : s.v[i]? = some (s.V i) := by
    unfold St.V
    rw [List.getD_eq_getElem?_getD, List.getElem?_eq_getElem (by rw [h.v32]; exact hi)]
    rfl
  have m := List.mem_of_getElem? e
  exact ⟨e, h.l8 _ m, h.vB _ m⟩
theorem Wf.M {s : St} (h : Wf s) {i : Nat} (hi : i < 8) : s.m[i]? = some (s.M i) ∧ s.M i < W := by
  have e : s.m[i]? = some (s.M i) := by
    unfold St.M
    rw [List.getD_eq_getElem?_getD, List.getElem?_eq_getElem (by rw [h.m8]; exact hi)]
    rfl
  exact ⟨e, h.mB _ (List.mem_of_getElem? e)⟩
theorem Wf.K {s : St} (h : Wf s) {i : Nat} (hi : i < 8) : s.k[i]? = some (s.K i) ∧ s.K i < W := by
  have e : s.k[i]? = some (s.K i) := by
    unfold St.K
    rw [List.getD_eq_getElem?_getD, List.getElem?_eq_getElem (by rw [h.k8]; exact hi)]
    rfl
  exact ⟨e, h.kB _ (List.mem_of_getElem? e)⟩
theorem mem_set' {α : Type} {l : List α} {i : Nat} {x y : α} (h : y ∈ l.set i x) : y = x ∨ y ∈ l := by
  rcases List.mem_or_eq_of_mem_set h with h | h
  · exact .inr h
  · exact .inl h
theorem Wf.setM {s : St} (h : Wf s) (i n : Nat) (hn : n < W) : Wf (s.setM i n) :=
  ⟨by show (s.m.set i n).length = 8; rw [List.length_set]; exact h.m8, h.k8, h.v32, h.l8, fun x hx => by
    rcases mem_set' (show x ∈ s.m.set i n from hx) with e | e
    · rw [e]; exact hn
    · exact h.mB x e, h.kB, h.vB⟩
theorem Wf.setK {s : St} (h : Wf s) (i n : Nat) (hn : n < W) : Wf (s.setK i n) :=
  ⟨h.m8, by show (s.k.set i n).length = 8; rw [List.length_set]; exact h.k8, h.v32, h.l8, h.mB, fun x hx => by
    rcases mem_set' (show x ∈ s.k.set i n from hx) with e | e
    · rw [e]; exact hn
    · exact h.kB x e, h.vB⟩
theorem Wf.setV {s : St} (h : Wf s) (i : Nat) (l : List Nat) (hl : l.length = 8) (hb : ∀ x ∈ l, x < W) : Wf { s with v := s.v.set i l } :=
  ⟨h.m8, h.k8, by show (s.v.set i l).length = 32; rw [List.length_set]; exact h.v32, fun r hr => by
    rcases mem_set' (show r ∈ s.v.set i l from hr) with e | e
    · rw [e]; exact hl
    · exact h.l8 r e, h.mB, h.kB, fun r hr => by
    rcases mem_set' (show r ∈ s.v.set i l from hr) with e | e
    · rw [e]; exact hb
    · exact h.vB r e⟩
/-! ### the parts of a step -/
def lres (s : St) (x : Step) : List Nat :=
  let n := lanes x.width
  let A := (s.V x.a).take n
  let Bv := (s.V x.b).take n
  if x.kind < 8 then (A.zip Bv).map fun y => lane x.kind y.1 y.2
  else if x.kind < 11 then A.map fun y => lane x.kind y x.b
  else if x.kind = 11 then (List.range n).map fun i => A.getD ((i + x.b) % n) 0
  else if x.kind = 12 then List.replicate n (s.M x.a)
  else (List.range n).map fun i => (s.M x.a + i) % W
def mres (s : St) (x : Step) : Nat :=
  if x.kind = 14 then sum ((s.V x.a).take (lanes x.width))
  else if x.kind = 15 then (s.M x.a + s.M x.b) % W
  else if x.kind = 16 then s.M x.a ^^^ s.M x.b
  else s.K x.a
def kres (s : St) (x : Step) : Nat :=
  let n := lanes x.width
  if x.kind = 17 then bits ((((s.V x.a).take n).zip ((s.V x.b).take n)).map fun y => decide (y.1 < y.2))
  else if x.kind = 18 then s.K x.a &&& s.K x.b
  else if x.kind = 19 then s.K x.a ^^^ s.K x.b
  else if x.kind = 20 then 2 ^ n - 1 - s.K x.a % 2 ^ n
  else s.M x.a
theorem step_v {s : St} {p : Nat} {x : Step} (h : x.kind ≤ 13) : step s p x = (s.write x (lres s x), p + 1) := by
  obtain ⟨k, w, m, d, a, b⟩ := x
  have h : k ≤ 13 := h
  rcases kinds (show k < 24 by omega) with e | e | e | e | e | e | e | e | e | e | e | e | e | e | e | e | e | e | e | e | e | e | e | e <;> first
    | (exfalso; omega)
    | (subst e; rfl)
theorem step_m {s : St} {p : Nat} {x : Step} (h : x.kind = 14 ∨ x.kind = 15 ∨ x.kind = 16 ∨ x.kind = 21) : step s p x = (s.setM x.d (mres s x), p + 1) := by
  obtain ⟨k, w, m, d, a, b⟩ := x
  rcases h with e | e | e | e <;> (have e : k = _ := e; subst e; rfl)
theorem step_k {s : St} {p : Nat} {x : Step} (h : x.kind = 17 ∨ x.kind = 18 ∨ x.kind = 19 ∨ x.kind = 20 ∨ x.kind = 22) : step s p x = (s.setK x.d (kres s x), p + 1) := by
  obtain ⟨k, w, m, d, a, b⟩ := x
  rcases h with e | e | e | e | e <;> (have e : k = _ := e; subst e; rfl)
theorem step_b {s : St} {p : Nat} {x : Step} (h : x.kind = 23) : step s p x = (s.setM x.d ((s.M x.d + W - 1) % W), if (s.M x.d + W - 1) % W = 0 then p + 1 else p - x.a) := by
  obtain ⟨k, w, m, d, a, b⟩ := x
  have e : k = 23 := h
  subst e
  rfl
theorem lanes_pos (w : Nat) : 0 < lanes w := by unfold lanes; exact Nat.mul_pos (by decide) (Nat.two_pow_pos _)
theorem lres_length {s : St} {x : Step} (hs : Wf s) (h13 : x.kind ≤ 13) {p : Nat} (g : Good p x) : (lres s x).length = lanes x.width := by
  have hn : lanes x.width ≤ 8 := lanes_le g.width
  have ha : x.a < 32 := g.a (by omega)
  unfold lres
  dsimp only
  split
  · rename_i h
    rw [List.length_map, List.length_zip, List.length_take, List.length_take, (hs.V ha).2.1, (hs.V (g.b32 (.inl h))).2.1]
    omega
  · split
    · rw [List.length_map, List.length_take, (hs.V ha).2.1]
      omega
    · split
      · rw [List.length_map, List.length_range]
      · split
        · rw [List.length_replicate]
        · rw [List.length_map, List.length_range]
theorem getD_lt {l : List Nat} {i : Nat} (h : ∀ x ∈ l, x < W) : l.getD i 0 < W := by
  rw [List.getD_eq_getElem?_getD]
  cases e : l[i]? with
  | none => decide
  | some x => exact h x (List.mem_of_getElem? e)
theorem ln0 (x y : Nat) : lane 0 x y = (x + y) % W := by simp [lane]
theorem ln1 (x y : Nat) : lane 1 x y = (x + W - y) % W := by simp [lane]
theorem ln2 (x y : Nat) : lane 2 x y = x % 2 ^ 32 * (y % 2 ^ 32) := by simp [lane]
theorem ln3 (x y : Nat) : lane 3 x y = x ^^^ y := by simp [lane]
theorem ln4 (x y : Nat) : lane 4 x y = x &&& y := by simp [lane]
theorem ln5 (x y : Nat) : lane 5 x y = x ||| y := by simp [lane]
theorem ln6 (x y : Nat) : lane 6 x y = min x y := by simp [lane]
theorem ln7 (x y : Nat) : lane 7 x y = max x y := by simp [lane]
theorem ln8 (x y : Nat) : lane 8 x y = x * 2 ^ y % W := by simp [lane]
theorem ln9 (x y : Nat) : lane 9 x y = x / 2 ^ y := by simp [lane]
theorem ln10 (x y : Nat) : lane 10 x y = (x * 2 ^ y % W + x / 2 ^ (64 - y)) % W := by simp [lane]
theorem W_pos : 0 < W := by decide
theorem lane2_lt (x y : Nat) : x % 2 ^ 32 * (y % 2 ^ 32) < W := by
  have h1 : x % 2 ^ 32 < 2 ^ 32 := Nat.mod_lt _ (by decide)
  have h2 : y % 2 ^ 32 < 2 ^ 32 := Nat.mod_lt _ (by decide)
  generalize x % 2 ^ 32 = a at h1 ⊢
  generalize y % 2 ^ 32 = b at h2 ⊢
  have h3 : a * b ≤ 4294967295 * 4294967295 := Nat.mul_le_mul (by omega) (by omega)
  exact Nat.lt_of_le_of_lt h3 (by decide)
theorem lane_lt {k x y : Nat} (hx : x < W) (hy : y < W) (h : k < 8) : lane k x y < W := by
  rcases (show k = 0 ∨ k = 1 ∨ k = 2 ∨ k = 3 ∨ k = 4 ∨ k = 5 ∨ k = 6 ∨ k = 7 by omega) with e | e | e | e | e | e | e | e
  · rw [e, ln0]; exact Nat.mod_lt _ W_pos
  · rw [e, ln1]; exact Nat.mod_lt _ W_pos
  · rw [e, ln2]; exact lane2_lt x y
  · rw [e, ln3]; exact Nat.xor_lt_two_pow (n := 64) hx hy
  · rw [e, ln4]; exact Nat.and_lt_two_pow (n := 64) _ hy
  · rw [e, ln5]; exact Nat.or_lt_two_pow (n := 64) hx hy
  · rw [e, ln6]
    exact Nat.lt_of_le_of_lt (Nat.min_le_left x y) hx
  · rw [e, ln7]
    rcases Nat.le_total x y with c | c
    · rw [Nat.max_eq_right c]
      exact hy
    · rw [Nat.max_eq_left c]
      exact hx
theorem lane_lt2 {k x y : Nat} (hx : x < W) (h : k = 8 ∨ k = 9 ∨ k = 10) : lane k x y < W := by
  rcases h with e | e | e
  · rw [e, ln8]; exact Nat.mod_lt _ W_pos
  · rw [e, ln9]; exact Nat.lt_of_le_of_lt (Nat.div_le_self _ _) hx
  · rw [e, ln10]; exact Nat.mod_lt _ W_pos
theorem lres_lt {s : St} {x : Step} (hs : Wf s) (h13 : x.kind ≤ 13) {p : Nat} (g : Good p x) : ∀ y ∈ lres s x, y < W := by
  have ha : x.a < 32 := g.a (by omega)
  unfold lres
  dsimp only
  split
  · rename_i h
    intro y hy
    obtain ⟨z, hz, rfl⟩ := List.mem_map.mp hy
    have hz := List.of_mem_zip (show (z.1, z.2) ∈ _ from hz)
    exact lane_lt ((hs.V ha).2.2 _ (List.mem_of_mem_take hz.1)) ((hs.V (g.b32 (.inl h))).2.2 _ (List.mem_of_mem_take hz.2)) h
  · split
    · intro y hy
      obtain ⟨z, hz, rfl⟩ := List.mem_map.mp hy
      exact lane_lt2 ((hs.V ha).2.2 _ (List.mem_of_mem_take hz)) (by omega)
    · split
      · intro y hy
        obtain ⟨z, hz, rfl⟩ := List.mem_map.mp hy
        exact getD_lt fun x hx => (hs.V ha).2.2 _ (List.mem_of_mem_take hx)
      · split
        · rename_i h
          intro y hy
          rw [(List.mem_replicate.mp hy).2]
          exact (hs.M (g.a8 (.inl h))).2
        · intro y hy
          obtain ⟨z, hz, rfl⟩ := List.mem_map.mp hy
          exact Nat.mod_lt _ W_pos
theorem mres_lt {s : St} {x : Step} (hs : Wf s) {p : Nat} (g : Good p x) (h : x.kind = 14 ∨ x.kind = 15 ∨ x.kind = 16 ∨ x.kind = 21) : mres s x < W := by
  unfold mres
  split
  · rw [sum_eq]
    exact Nat.mod_lt _ W_pos
  · split
    · exact Nat.mod_lt _ W_pos
    · split
      · rename_i e
        exact Nat.xor_lt_two_pow (n := 64) (hs.M (g.a8 (by omega))).2 (hs.M (g.b8 (by omega))).2
      · exact (hs.K (g.a8 (by omega))).2
theorem kres_lt {s : St} {x : Step} (hs : Wf s) {p : Nat} (g : Good p x) (h : x.kind = 17 ∨ x.kind = 18 ∨ x.kind = 19 ∨ x.kind = 20 ∨ x.kind = 22) : kres s x < W := by
  have hn : lanes x.width ≤ 8 := lanes_le g.width
  have h8 : 2 ^ lanes x.width ≤ 2 ^ 8 := Nat.pow_le_pow_right (by decide) hn
  have hW : W = 18446744073709551616 := rfl
  unfold kres
  dsimp only
  split
  · rename_i e
    refine Nat.lt_of_lt_of_le (bits_lt _ _ rfl) ?_
    rw [List.length_map, List.length_zip, List.length_take]
    exact Nat.pow_le_pow_right (by decide) (by omega)
  · split
    · exact Nat.and_lt_two_pow (n := 64) _ (hs.K (g.b8 (by omega))).2
    · split
      · exact Nat.xor_lt_two_pow (n := 64) (hs.K (g.a8 (by omega))).2 (hs.K (g.b8 (by omega))).2
      · split
        · omega
        · exact (hs.M (g.a8 (by omega))).2
/-- the list that a write leaves -/
def wrote (s : St) (x : Step) (l : List Nat) : List Nat := (List.range 8).map fun i => if lanes x.width ≤ i then 0 else if x.mask = 0 ∨ bitOf (s.K x.mask) i = 1 then l.getD i 0 else (s.V x.d).getD i 0
theorem write_eq (s : St) (x : Step) (l : List Nat) : s.write x l = { s with v := s.v.set x.d (wrote s x l) } := rfl
theorem wrote_length (s : St) (x : Step) (l : List Nat) : (wrote s x l).length = 8 := by simp [wrote]
theorem wrote_lt {s : St} {x : Step} {l : List Nat} (hs : Wf s) {p : Nat} (g : Good p x) (hl : ∀ y ∈ l, y < W) : ∀ y ∈ wrote s x l, y < W := by
  intro y hy
  obtain ⟨i, _, rfl⟩ := List.mem_map.mp hy
  show (if _ then _ else _) < W
  split
  · decide
  · split
    · exact getD_lt hl
    · exact getD_lt (hs.V g.d).2.2
theorem wf_step {s : St} {p : Nat} {x : Step} (hs : Wf s) (g : Good p x) : Wf (step s p x).1 := by
  by_cases c : x.kind ≤ 13
  · rw [step_v c]
    exact hs.setV _ _ (wrote_length _ _ _) (wrote_lt hs g (lres_lt hs c g))
  · have hk := g.kind
    by_cases c2 : x.kind = 14 ∨ x.kind = 15 ∨ x.kind = 16 ∨ x.kind = 21
    · rw [step_m c2]
      exact hs.setM _ _ (mres_lt hs g c2)
    · by_cases c3 : x.kind = 17 ∨ x.kind = 18 ∨ x.kind = 19 ∨ x.kind = 20 ∨ x.kind = 22
      · rw [step_k c3]
        exact hs.setK _ _ (kres_lt hs g c3)
      · rw [step_b (by omega)]
        exact hs.setM _ _ (Nat.mod_lt _ (by decide))
/-- without a mask, and with one -/
theorem wrote_plain (s : St) (x : Step) (l : List Nat) (hm : x.mask = 0) (hl : l.length = lanes x.width) (hn : lanes x.width ≤ 8) : wrote s x l = l ++ List.replicate (8 - l.length) 0 := by
  refine List.ext_getElem? fun i => ?_
  unfold wrote
  rw [List.getElem?_map]
  by_cases hi : i < 8
  · rw [List.getElem?_range hi]
    rw [Option.map_some]
    by_cases c : i < l.length
    · rw [List.getElem?_append_left c, if_neg (by omega), if_pos (.inl hm), List.getD_eq_getElem?_getD, List.getElem?_eq_getElem c]
      rfl
    · rw [List.getElem?_append_right (by omega), if_pos (by omega), List.getElem?_replicate, if_pos (by omega)]
  · rw [List.getElem?_eq_none (by rw [List.length_range]; omega), List.getElem?_eq_none (by rw [List.length_append, List.length_replicate]; omega)]
    rfl
/-- the mask's choice -/
def chosen (bits : Nat) (fresh kept : List Nat) : List Nat := (List.range fresh.length).map fun i => if bits / 2 ^ i &&& 1 = 1 then fresh.getD i 0 else kept.getD i 0
theorem chosen_length (b : Nat) (f k : List Nat) : (chosen b f k).length = f.length := by simp [chosen]
theorem bit_one (b i : Nat) : b / 2 ^ i &&& 1 = bitOf b i := by
  unfold bitOf
  exact Nat.and_one_is_mod _
theorem wrote_mask (s : St) (x : Step) (l : List Nat) (hm : x.mask ≠ 0) (hl : l.length = lanes x.width) (hn : lanes x.width ≤ 8) :
    wrote s x l = chosen (s.K x.mask) l (s.V x.d) ++ List.replicate (8 - l.length) 0 := by
  refine List.ext_getElem? fun i => ?_
  unfold wrote
  rw [List.getElem?_map]
  by_cases hi : i < 8
  · rw [List.getElem?_range hi]
    rw [Option.map_some]
    by_cases c : i < l.length
    · rw [List.getElem?_append_left (by rw [chosen_length]; exact c), if_neg (by omega)]
      unfold chosen
      rw [List.getElem?_map, List.getElem?_range c, Option.map_some, Option.some.injEq]
      show _ = if s.K x.mask / 2 ^ i &&& 1 = 1 then l.getD i 0 else (s.V x.d).getD i 0
      rw [bit_one]
      by_cases hb : bitOf (s.K x.mask) i = 1
      · rw [if_pos (.inr hb), if_pos hb]
      · rw [if_neg (by rintro (q | q); exact hm q; exact hb q), if_neg hb]
    · rw [List.getElem?_append_right (by rw [chosen_length]; omega), if_pos (by omega), List.getElem?_replicate, if_pos (by rw [chosen_length]; omega)]
  · rw [List.getElem?_eq_none (by rw [List.length_range]; omega), List.getElem?_eq_none (by rw [List.length_append, List.length_replicate, chosen_length]; omega)]
    rfl
/-- run, one step more -/
theorem run_end {l : List Step} {n : Nat} {s : St} {p : Nat} (h : l.length ≤ p) : run l n s p = (s, p) := by
  cases n with
  | zero => rfl
  | succ n =>
    unfold run
    rw [List.getElem?_eq_none h]
theorem run_step {l : List Step} {n : Nat} {s : St} {p : Nat} {x : Step} (h : l[p]? = some x) : run l (n + 1) s p = run l n (step s p x).1 (step s p x).2 := by
  rw [run, h]
end VM

set_option maxRecDepth 100000
set_option linter.all false
namespace VM
open Sd62
/-! ## Components -/
theorem slice_map {α : Type} (d : α) (l : List α) (f c : Nat) (h : f + c ≤ l.length) : (l.drop f).take c = (List.range c).map fun i => l.getD (f + i) d := by
  refine List.ext_getElem? fun i => ?_
  rw [List.getElem?_take, List.getElem?_drop, List.getElem?_map]
  by_cases hi : i < c
  · rw [if_pos hi, List.getElem?_range hi, Option.map_some, List.getD_eq_getElem?_getD, List.getElem?_eq_getElem (by omega)]
    rfl
  · rw [if_neg hi, List.getElem?_eq_none (by rw [List.length_range]; omega)]
    rfl
/-- where a component of lanes stands: registers f to f + c, lanes lo to lo + n -/
def block (f c lo n : Nat) : List (Nat × Nat) := (List.range c).flatMap fun i => (List.range n).map fun j => (f + i, lo + j)
theorem flatMap_congr' {α β : Type} {f g : α → List β} : ∀ {l : List α}, (∀ x ∈ l, f x = g x) → l.flatMap f = l.flatMap g
  | [], _ => rfl
  | x :: l, h => by
    rw [List.flatMap_cons, List.flatMap_cons, h x (.head _), flatMap_congr' fun y hy => h y (.tail _ hy)]
theorem lanesOf_block {s : St} (hs : Wf s) (f c lo n : Nat) (h1 : f + c ≤ 32) (h2 : lo + n ≤ 8) : lanesOf s f c lo n = (block f c lo n).map fun z => (s.V z.1).getD z.2 0 := by
  unfold lanesOf block
  rw [slice_map [] s.v f c (by rw [hs.v32]; exact h1), List.flatMap_map, List.map_flatMap]
  refine flatMap_congr' fun i hi => ?_
  have hi : i < c := List.mem_range.mp hi
  show ((s.V (f + i)).drop lo).take n = _
  rw [slice_map 0 _ lo n (by rw [(hs.V (i := f + i) (by omega)).2.1]; exact h2), List.map_map]
  rfl
def first (w : Nat) : Nat := if w = 128 then 16 else 0
def low (w : Nat) : Nat := if w = 4 then 2 else if w = 64 then 4 else 0
def wide (w : Nat) : Nat := if w = 64 then 4 else if w = 128 then 8 else 2
def isLanes (w : Nat) : Prop := w = 2 ∨ w = 4 ∨ w = 64 ∨ w = 128
def isPart (w : Nat) : Prop := w = 1 ∨ w = 2 ∨ w = 4 ∨ w = 32 ∨ w = 64 ∨ w = 128
def places (w : Nat) : List (Nat × Nat) := block (first w) 16 (low w) (wide w)
def comp (s : St) (w : Nat) : List Nat := if w = 1 then s.m else if w = 32 then s.k else lanesOf s (first w) 16 (low w) (wide w)
def count (w : Nat) : Nat := if w = 1 then 8 else if w = 32 then 8 else 16 * wide w
theorem comp_lanes {s : St} (hs : Wf s) {w : Nat} (h : isLanes w) : comp s w = (places w).map fun z => (s.V z.1).getD z.2 0 := by
  rcases h with rfl | rfl | rfl | rfl <;> exact lanesOf_block hs _ _ _ _ (by decide) (by decide)
theorem places_length {w : Nat} (h : isLanes w) : (places w).length = count w := by
  rcases h with rfl | rfl | rfl | rfl <;> decide
theorem places_in {w : Nat} (h : isLanes w) : ∀ z ∈ places w, z.1 < 32 ∧ z.2 < 8 := by
  rcases h with rfl | rfl | rfl | rfl <;> decide
theorem count_le {w : Nat} (h : isPart w) : count w ≤ 128 := by
  rcases h with rfl | rfl | rfl | rfl | rfl | rfl <;> decide
theorem comp_length {s : St} (hs : Wf s) {w : Nat} (h : isPart w) : (comp s w).length = count w := by
  by_cases c : isLanes w
  · rw [comp_lanes hs c, List.length_map, places_length c]
  · have : w = 1 ∨ w = 32 := by
      unfold isLanes isPart at *
      omega
    rcases this with rfl | rfl
    · exact hs.m8
    · exact hs.k8
/-- used, by the parts -/
theorem used_eq (s : St) : used s = bit (some0 (comp s 1)) 1 + (bit (some0 (comp s 2)) 2 + (bit (some0 (comp s 4)) 4 + (bit (some0 (comp s 32)) 32 + (bit (some0 (comp s 64)) 64 + bit (some0 (comp s 128)) 128)))) := rfl
/-- a lane is set -/
def St_setLane (s : St) (n j w : Nat) : St := { s with v := s.v.set n ((s.V n).set j w) }
theorem Wf.setLane {s : St} (h : Wf s) {n : Nat} (hn : n < 32) (j w : Nat) (hw : w < W) : Wf (St_setLane s n j w) :=
  h.setV n _ (by rw [List.length_set]; exact (h.V hn).2.1) fun x hx => by
    rcases mem_set' hx with e | e
    · rw [e]; exact hw
    · exact (h.V hn).2.2 x e
def putL (s : St) (l : List ((Nat × Nat) × Nat)) : St := l.foldl (fun s z => St_setLane s z.1.1 z.1.2 z.2) s
theorem putL_more {s : St} {l : List ((Nat × Nat) × Nat)} {i : Nat} {z : (Nat × Nat) × Nat} (h : l[i]? = some z) : putL s (l.take (i + 1)) = St_setLane (putL s (l.take i)) z.1.1 z.1.2 z.2 := by
  rw [take_more h]
  unfold putL
  rw [List.foldl_append]
  rfl
def put (s : St) (w : Nat) (ws : List Nat) : St := if w = 1 then { s with m := ws } else if w = 32 then { s with k := ws } else putL s ((places w).zip ws)
theorem wf_putL : ∀ (l : List ((Nat × Nat) × Nat)) (s : St), Wf s → (∀ z ∈ l, z.1.1 < 32 ∧ z.2 < W) → Wf (putL s l)
  | [], _, h, _ => h
  | z :: l, s, h, b => wf_putL l _ (h.setLane (b z (.head _)).1 _ _ (b z (.head _)).2) fun y hy => b y (.tail _ hy)
theorem wf_put {s : St} (h : Wf s) {w : Nat} (hw : isPart w) {ws : List Nat} (hl : ws.length = count w) (hb : ∀ x ∈ ws, x < W) : Wf (put s w ws) := by
  unfold put
  split
  · rename_i e
    subst e
    exact ⟨hl, h.k8, h.v32, h.l8, hb, h.kB, h.vB⟩
  · split
    · rename_i e
      subst e
      exact ⟨h.m8, hl, h.v32, h.l8, h.mB, hb, h.vB⟩
    · rename_i n1 n32
      have hL : isLanes w := by
        unfold isLanes isPart at *
        omega
      refine wf_putL _ _ h fun z hz => ?_
      have hz := List.of_mem_zip (show (z.1, z.2) ∈ _ from hz)
      exact ⟨(places_in hL _ hz.1).1, hb _ hz.2⟩
theorem hasAll_eq (p u : Nat) : hasAll p u = decide (p &&& u = u) := by
  unfold hasAll
  rw [Nat.and_comm, Bool.eq_iff_iff]
  simp
theorem some0_eq (l : List Nat) : some0 l = (l.map fun x => !decide (x = 0)).any id := by
  unfold some0
  rw [List.any_map]
  refine congrArg l.any (funext fun x => ?_)
  show (x != 0) = !decide (x = 0)
  by_cases h : x = 0
  · subst h; rfl
  · rw [decide_eq_false h]; simp [h]
end VM

set_option maxRecDepth 100000
set_option linter.all false
namespace VM
open Sd62
/-- a state whose lanes are g's -/
def grid (m k : List Nat) (g : Nat → Nat → Nat) : St := ⟨m, (List.range 32).map fun n => (List.range 8).map fun j => g n j, k⟩
def nums (f : Nat → Nat) (n : Nat) : List Nat := (List.range n).map f
def re (m k : List Nat) (h : Nat → Nat) (s : St) : St := ⟨m, s.v.map fun r => r.map h, k⟩
theorem re_V (m k : List Nat) (h : Nat → Nat) (s : St) (n : Nat) : (re m k h s).V n = (s.V n).map h := by
  show (s.v.map fun r => r.map h).getD n [] = (s.v.getD n []).map h
  rw [List.getD_eq_getElem?_getD, List.getD_eq_getElem?_getD, List.getElem?_map]
  cases s.v[n]? <;> rfl
theorem re_set (m k : List Nat) (h : Nat → Nat) (s : St) (n j w : Nat) : re m k h (St_setLane s n j w) = St_setLane (re m k h s) n j (h w) := by
  show (⟨m, (s.v.set n ((s.V n).set j w)).map fun r => r.map h, k⟩ : St) = ⟨m, (s.v.map fun r => r.map h).set n (((re m k h s).V n).set j (h w)), k⟩
  rw [re_V, List.map_set, List.map_set]
theorem re_putL (m k : List Nat) (h : Nat → Nat) : ∀ (L : List ((Nat × Nat) × Nat)) (s : St), re m k h (putL s L) = putL (re m k h s) (L.map fun z => (z.1, h z.2))
  | [], _ => rfl
  | z :: L, s => by
    show re m k h (putL (St_setLane s z.1.1 z.1.2 z.2) L) = putL (St_setLane (re m k h s) z.1.1 z.1.2 (h z.2)) _
    rw [re_putL m k h L, re_set]
def inn (w n j : Nat) : Bool := decide (first w ≤ n) && (decide (n < first w + 16) && (decide (low w ≤ j) && decide (j < low w + wide w)))
def idx (w n j : Nat) : Nat := (n - first w) * wide w + (j - low w)
theorem put_codes : ∀ w ∈ [2, 4, 64, 128], putL (grid [] [] fun n j => 8 * n + j) ((places w).zip (nums (fun i => 256 + i) (count w))) = grid [] [] fun n j => if inn w n j = true then 256 + idx w n j else 8 * n + j := by
  decide +kernel
theorem map_range_congr {α : Type} {n : Nat} {f g : Nat → α} (h : ∀ i < n, f i = g i) : (List.range n).map f = (List.range n).map g := List.map_congr_left fun i hi => h i (List.mem_range.mp hi)
theorem re_grid (m k : List Nat) (h : Nat → Nat) (g : Nat → Nat → Nat) : re m k h (grid [] [] g) = grid m k fun n j => h (g n j) := by
  show (⟨m, ((List.range 32).map fun n => (List.range 8).map fun j => g n j).map fun r => r.map h, k⟩ : St) = ⟨m, _, k⟩
  rw [List.map_map]
  refine congrArg (fun v => St.mk m v k) (map_range_congr fun n _ => ?_)
  show List.map h (List.map (g n) (List.range 8)) = _
  rw [List.map_map]
  rfl
theorem grid_congr (m k : List Nat) {g g' : Nat → Nat → Nat} (h : ∀ n < 32, ∀ j < 8, g n j = g' n j) : grid m k g = grid m k g' :=
  congrArg (fun v => St.mk m v k) (map_range_congr fun n hn => map_range_congr fun j hj => h n hn j hj)
theorem put_grid {w : Nat} (hw : isLanes w) (m k : List Nat) (g : Nat → Nat → Nat) (f : Nat → Nat) : put (grid m k g) w (nums f (count w)) = grid m k fun n j => if inn w n j = true then f (idx w n j) else g n j := by
  have hn : w ≠ 1 ∧ w ≠ 32 := by
    unfold isLanes at hw
    omega
  unfold put
  rw [if_neg hn.1, if_neg hn.2]
  have e := congrArg (re m k fun c => if c < 256 then g (c / 8) (c % 8) else f (c - 256)) (put_codes w (by unfold isLanes at hw; simp; omega))
  rw [re_putL, re_grid, re_grid] at e
  have e1 : (grid m k fun n j => (fun c => if c < 256 then g (c / 8) (c % 8) else f (c - 256)) (8 * n + j)) = grid m k g := grid_congr m k fun n hn j hj => by
    show (if 8 * n + j < 256 then g ((8 * n + j) / 8) ((8 * n + j) % 8) else f (8 * n + j - 256)) = g n j
    rw [if_pos (by omega), show (8 * n + j) / 8 = n by omega, show (8 * n + j) % 8 = j by omega]
  rw [e1] at e
  have e2 : ((places w).zip (nums (fun i => 256 + i) (count w))).map (fun z => (z.1, (fun c => if c < 256 then g (c / 8) (c % 8) else f (c - 256)) z.2)) = (places w).zip (nums f (count w)) := by
    have e3 : nums f (count w) = (nums (fun i => 256 + i) (count w)).map fun c => if c < 256 then g (c / 8) (c % 8) else f (c - 256) := by
      unfold nums
      rw [List.map_map]
      refine map_range_congr fun i hi => ?_
      show f i = if 256 + i < 256 then _ else f (256 + i - 256)
      rw [if_neg (by omega), Nat.add_sub_cancel_left]
    rw [e3, List.zip_map_right]
    rfl
  rw [e2] at e
  rw [e]
  refine grid_congr m k fun n hn j hj => ?_
  by_cases c : inn w n j = true
  · rw [if_pos c, if_pos c]
    show (if 256 + idx w n j < 256 then _ else f (256 + idx w n j - 256)) = _
    rw [if_neg (by omega), Nat.add_sub_cancel_left]
  · rw [if_neg c, if_neg c]
    show (if 8 * n + j < 256 then g ((8 * n + j) / 8) ((8 * n + j) % 8) else f (8 * n + j - 256)) = g n j
    rw [if_pos (by omega), show (8 * n + j) / 8 = n by omega, show (8 * n + j) % 8 = j by omega]
/-! ## what reading makes -/
theorem fresh_grid : fresh = grid (List.replicate 8 0) (List.replicate 8 0) fun _ _ => 0 := by decide +kernel
theorem slice_nums (f : Nat → Nat) (N a b : Nat) (h : a + b ≤ N) : ((nums f N).drop a).take b = (List.range b).map fun i => f (a + i) := by
  rw [slice_map 0 _ a b (by unfold nums; rw [List.length_map, List.length_range]; exact h)]
  refine map_range_congr fun i hi => ?_
  unfold nums
  rw [List.getD_eq_getElem?_getD, List.getElem?_map, List.getElem?_range (by omega)]
  rfl
theorem taken_grid (m k : List Nat) (fx fy fz fw : Nat → Nat) :
    (⟨m, ((List.range 16).map fun i => ((nums fx 32).drop (2 * i)).take 2 ++ (((nums fy 32).drop (2 * i)).take 2 ++ ((nums fz 64).drop (4 * i)).take 4)) ++ (List.range 16).map fun i => ((nums fw 128).drop (8 * i)).take 8, k⟩ : St)
    = grid m k fun n j => if n < 16 then (if j < 2 then fx (2 * n + j) else if j < 4 then fy (2 * n + (j - 2)) else fz (4 * n + (j - 4))) else fw (8 * (n - 16) + j) := by
  refine congrArg (fun v => St.mk m v k) ?_
  rw [show List.range 32 = List.range 16 ++ (List.range 16).map (16 + ·) from by decide +kernel, List.map_append, List.map_map]
  refine congr (congrArg _ (map_range_congr fun i hi => ?_)) (map_range_congr fun i hi => ?_)
  · rw [slice_nums fx 32 _ _ (by omega), slice_nums fy 32 _ _ (by omega), slice_nums fz 64 _ _ (by omega)]
    show _ = (List.range 8).map fun j => if i < 16 then (if j < 2 then fx (2 * i + j) else if j < 4 then fy (2 * i + (j - 2)) else fz (4 * i + (j - 4))) else fw (8 * (i - 16) + j)
    rw [map_range_congr fun j _ => if_pos hi]
    rfl
  · rw [slice_nums fw 128 _ _ (by omega)]
    refine map_range_congr fun j hj => ?_
    show fw (8 * i + j) = if 16 + i < 16 then _ else fw (8 * (16 + i - 16) + j)
    rw [if_neg (by omega), Nat.add_sub_cancel_left]
def src (l : B) (o : Option Nat) : Nat → Nat := match o with
  | none => fun _ => 0
  | some k => fun i => number l (k + 8 * i) 8
def putO (s : St) (w : Nat) (l : B) (o : Option Nat) : St := match o with
  | none => s
  | some k => put s w (numbers l k (count w))
def atO (l : B) (o : Option Nat) (n : Nat) : List Nat := match o with
  | none => List.replicate n 0
  | some k => numbers l k n
theorem src_nums (l : B) (o : Option Nat) (n : Nat) : atO l o n = nums (src l o) n := by
  cases o with
  | none =>
    show List.replicate n 0 = (List.range n).map fun _ => 0
    refine List.ext_getElem? fun i => ?_
    rw [List.getElem?_replicate, List.getElem?_map]
    by_cases h : i < n
    · rw [if_pos h, List.getElem?_range h]
      rfl
    · rw [if_neg h, List.getElem?_eq_none (by rw [List.length_range]; omega)]
      rfl
  | some k => rfl
theorem numbers_nums (l : B) (k n : Nat) : numbers l k n = nums (fun i => number l (k + 8 * i) 8) n := rfl
def head (l : B) : St := put (put fresh 1 ((List.range 8).map fun i => number l (32 + 16 * i) 8)) 2 (numbers l 160 32)
def made (l : B) (o2 o5 o6 o7 : Option Nat) : St := putO (putO (putO (putO (head l) 4 l o2) 32 l o5) 64 l o6) 128 l o7
theorem putO_grid {w : Nat} (hw : isLanes w) (m k : List Nat) (g : Nat → Nat → Nat) (l : B) (o : Option Nat) (h0 : ∀ n j, inn w n j = true → g n j = 0) :
    putO (grid m k g) w l o = grid m k fun n j => if inn w n j = true then src l o (idx w n j) else g n j := by
  cases o with
  | none =>
    show grid m k g = _
    refine grid_congr m k fun n _ j _ => ?_
    by_cases c : inn w n j = true
    · rw [if_pos c, h0 n j c]
      rfl
    · rw [if_neg c]
  | some x => exact put_grid hw m k g _
theorem made_taken (l : B) (o2 o5 o6 o7 : Option Nat) : made l o2 o5 o6 o7 = taken l o2 o5 o6 o7 := by
  have eT : taken l o2 o5 o6 o7 = ⟨(List.range 8).map fun i => number l (32 + 16 * i) 8, ((List.range 16).map fun i => ((nums (fun i => number l (160 + 8 * i) 8) 32).drop (2 * i)).take 2 ++ (((nums (src l o2) 32).drop (2 * i)).take 2 ++ ((nums (src l o6) 64).drop (4 * i)).take 4)) ++ (List.range 16).map fun i => ((nums (src l o7) 128).drop (8 * i)).take 8, nums (src l o5) 8⟩ := by
    rw [← src_nums, ← src_nums, ← src_nums, ← src_nums]
    rfl
  rw [eT, taken_grid]
  unfold made head
  have e1 : put fresh 1 ((List.range 8).map fun i => number l (32 + 16 * i) 8) = grid ((List.range 8).map fun i => number l (32 + 16 * i) 8) (List.replicate 8 0) fun _ _ => 0 := by
    rw [fresh_grid]
    rfl
  rw [e1, show numbers l 160 32 = nums (fun i => number l (160 + 8 * i) 8) (count 2) from rfl, put_grid (w := 2) (.inl rfl)]
  rw [putO_grid (w := 4) (.inr (.inl rfl)) _ _ _ _ _ (fun n j h => by
    rw [if_neg]
    intro z
    simp [inn, first, low, wide] at h z
    omega)]
  have e5 : ∀ g, putO (grid ((List.range 8).map fun i => number l (32 + 16 * i) 8) (List.replicate 8 0) g) 32 l o5 = grid ((List.range 8).map fun i => number l (32 + 16 * i) 8) (nums (src l o5) 8) g := fun g => by
    rw [← src_nums]
    cases o5 <;> rfl
  rw [e5]
  rw [putO_grid (w := 64) (.inr (.inr (.inl rfl))) _ _ _ _ _ (fun n j h => by
    rw [if_neg, if_neg]
    all_goals
      intro z
      simp [inn, first, low, wide] at h z
      omega)]
  rw [putO_grid (w := 128) (.inr (.inr (.inr rfl))) _ _ _ _ _ (fun n j h => by
    rw [if_neg, if_neg, if_neg]
    all_goals
      intro z
      simp [inn, first, low, wide] at h z
      omega)]
  refine grid_congr _ _ fun n hn j hj => ?_
  by_cases c : n < 16
  · by_cases c2 : j < 2
    · simp [inn, idx, first, low, wide, c, c2]
      rw [if_neg (by omega), if_neg (by omega), if_neg (by omega)]
      exact congrArg (fun z => number l z 8) (by omega)
    · by_cases c4 : j < 4
      · simp [inn, idx, first, low, wide, c, c2, c4]
        rw [if_neg (by omega), if_neg (by omega), if_pos (by omega)]
        exact congrArg (src l o2) (by omega)
      · simp [inn, idx, first, low, wide, c, c2, c4]
        rw [if_neg (by omega), if_pos (by omega)]
        exact congrArg (src l o6) (by omega)
  · simp [inn, idx, first, low, wide, c]
    rw [if_pos (by omega)]
    exact congrArg (src l o7) (by omega)
end VM

set_option maxRecDepth 100000
set_option linter.all false
namespace VM
open Sd62
/-! ## a state copied part by part -/
def val (s : St) (n j : Nat) : Nat := (s.V n).getD j 0
theorem setLane_V {t : St} (ht : Wf t) {n : Nat} (hn : n < 32) (j x i : Nat) : (St_setLane t n j x).V i = if i = n then (t.V n).set j x else t.V i := by
  show (t.v.set n ((t.V n).set j x)).getD i [] = _
  rw [List.getD_eq_getElem?_getD, List.getElem?_set]
  by_cases e : i = n
  · subst e
    rw [if_pos rfl, if_pos (by rw [ht.v32]; exact hn), if_pos rfl]
    rfl
  · rw [if_neg (fun z => e z.symm), if_neg e]
    unfold St.V
    rw [List.getD_eq_getElem?_getD]
theorem val_set {t : St} (ht : Wf t) {n j : Nat} (hn : n < 32) (hj : j < 8) (x n' j' : Nat) : val (St_setLane t n j x) n' j' = if n' = n ∧ j' = j then x else val t n' j' := by
  unfold val
  rw [setLane_V ht hn]
  by_cases e : n' = n
  · subst e
    rw [if_pos rfl, List.getD_eq_getElem?_getD, List.getElem?_set]
    by_cases e2 : j' = j
    · subst e2
      rw [if_pos rfl, if_pos (by rw [(ht.V hn).2.1]; exact hj), if_pos ⟨rfl, rfl⟩]
      rfl
    · rw [if_neg (fun z => e2 z.symm), if_neg (fun z => e2 z.2), List.getD_eq_getElem?_getD]
  · rw [if_neg e, if_neg (fun z => e z.1)]
theorem putL_agree {s : St} (hs : Wf s) : ∀ (L : List (Nat × Nat)) (t : St), Wf t → (∀ z ∈ L, z.1 < 32 ∧ z.2 < 8) →
    (∀ n j, val t n j = val s n j → val (putL t (L.map fun z => (z, val s z.1 z.2))) n j = val s n j) ∧ (∀ z ∈ L, val (putL t (L.map fun z => (z, val s z.1 z.2))) z.1 z.2 = val s z.1 z.2) ∧
    (putL t (L.map fun z => (z, val s z.1 z.2))).m = t.m ∧ (putL t (L.map fun z => (z, val s z.1 z.2))).k = t.k
  | [], t, _, _ => ⟨(fun n j (h : val t n j = val s n j) => h), (fun z h => absurd h List.not_mem_nil), rfl, rfl⟩
  | z :: L, t, ht, h => by
    have hz := h z (.head _)
    have hx : val s z.1 z.2 < W := getD_lt (hs.V hz.1).2.2
    have ht' := ht.setLane hz.1 z.2 _ hx
    obtain ⟨i1, i2, i3, i4⟩ := putL_agree hs L _ ht' fun y hy => h y (.tail _ hy)
    have e : putL t ((z :: L).map fun z => (z, val s z.1 z.2)) = putL (St_setLane t z.1 z.2 (val s z.1 z.2)) (L.map fun z => (z, val s z.1 z.2)) := rfl
    rw [e]
    refine ⟨fun n j hv => i1 n j ?_, fun y hy => ?_, i3, i4⟩
    · rw [val_set ht hz.1 hz.2]
      by_cases c : n = z.1 ∧ j = z.2
      · rw [if_pos c, c.1, c.2]
      · rw [if_neg c]
        exact hv
    · rcases List.mem_cons.mp hy with rfl | hy
      · refine i1 _ _ ?_
        rw [val_set ht hz.1 hz.2, if_pos ⟨rfl, rfl⟩]
      · exact i2 y hy
theorem zip_map_self {α β : Type} (f : α → β) : ∀ l : List α, l.zip (l.map f) = l.map fun z => (z, f z)
  | [] => rfl
  | x :: l => by
    rw [List.map_cons, List.zip_cons_cons, zip_map_self f l]
    rfl
theorem put_lanes {s : St} (hs : Wf s) {w : Nat} (hw : isLanes w) (t : St) : put t w (comp s w) = putL t ((places w).map fun z => (z, val s z.1 z.2)) := by
  have hn : w ≠ 1 ∧ w ≠ 32 := by
    unfold isLanes at hw
    omega
  unfold put
  rw [if_neg hn.1, if_neg hn.2, comp_lanes hs hw, zip_map_self]
  rfl
theorem comp_lt {s : St} (hs : Wf s) {w : Nat} (hw : isPart w) : ∀ x ∈ comp s w, x < W := by
  intro x hx
  by_cases c : isLanes w
  · rw [comp_lanes hs c] at hx
    obtain ⟨z, hz, rfl⟩ := List.mem_map.mp hx
    exact getD_lt (hs.V (places_in c z hz).1).2.2
  · have : w = 1 ∨ w = 32 := by
      unfold isLanes isPart at *
      omega
    rcases this with rfl | rfl
    · exact hs.mB x hx
    · exact hs.kB x hx
def copied (s : St) (L : List Nat) : St := L.foldl (fun t w => put t w (comp s w)) fresh
theorem copied_more {s : St} {i w : Nat} {L : List Nat} (h : L[i]? = some w) : copied s (L.take (i + 1)) = put (copied s (L.take i)) w (comp s w) := by
  unfold copied
  rw [take_more h, List.foldl_append]
  rfl
theorem all_places' : ∀ n ∈ List.range 32, ∀ j ∈ List.range 8, (n, j) ∈ places 2 ∨ (n, j) ∈ places 4 ∨ (n, j) ∈ places 64 ∨ (n, j) ∈ places 128 := by decide +kernel
theorem all_places : ∀ n < 32, ∀ j < 8, (n, j) ∈ places 2 ∨ (n, j) ∈ places 4 ∨ (n, j) ∈ places 64 ∨ (n, j) ∈ places 128 := fun n hn j hj => all_places' n (List.mem_range.mpr hn) j (List.mem_range.mpr hj)
theorem ext_getD {α : Type} (d : α) {a b : List α} {n : Nat} (ha : a.length = n) (hb : b.length = n) (h : ∀ j < n, a.getD j d = b.getD j d) : a = b := by
  refine List.ext_getElem? fun j => ?_
  by_cases hj : j < n
  · have h := h j hj
    have ea : a[j]? = some a[j] := List.getElem?_eq_getElem (by omega)
    have eb : b[j]? = some b[j] := List.getElem?_eq_getElem (by omega)
    rw [List.getD_eq_getElem?_getD, List.getD_eq_getElem?_getD, ea, eb] at h
    rw [ea, eb]
    exact congrArg some h
  · rw [List.getElem?_eq_none (by omega), List.getElem?_eq_none (by omega)]
theorem wf_ext {s t : St} (hs : Wf s) (ht : Wf t) (hm : t.m = s.m) (hk : t.k = s.k) (h : ∀ n < 32, ∀ j < 8, val t n j = val s n j) : t = s := by
  have hv : t.v = s.v := ext_getD [] ht.v32 hs.v32 fun n hn => ext_getD 0 (ht.V hn).2.1 (hs.V hn).2.1 fun j hj => h n hn j hj
  obtain ⟨m, v, k⟩ := t
  obtain ⟨m', v', k'⟩ := s
  have hm : m = m' := hm
  have hk : k = k' := hk
  have hv : v = v' := hv
  rw [hm, hk, hv]
theorem copied_all {s : St} (hs : Wf s) : copied s [1, 2, 4, 32, 64, 128] = s := by
  have pt : ∀ w, isPart w → isPart w := fun _ h => h
  have p1 : isPart 1 := .inl rfl
  have p2 : isPart 2 := .inr (.inl rfl)
  have p4 : isPart 4 := .inr (.inr (.inl rfl))
  have p32 : isPart 32 := .inr (.inr (.inr (.inl rfl)))
  have p64 : isPart 64 := .inr (.inr (.inr (.inr (.inl rfl))))
  have p128 : isPart 128 := .inr (.inr (.inr (.inr (.inr rfl))))
  have wf : ∀ (t : St) (w : Nat), Wf t → isPart w → Wf (put t w (comp s w)) := fun t w ht hw => wf_put ht hw (comp_length hs hw) (comp_lt hs hw)
  have ag : ∀ (t : St) (w : Nat), Wf t → isLanes w → (∀ n j, val t n j = val s n j → val (put t w (comp s w)) n j = val s n j) ∧ (∀ z ∈ places w, val (put t w (comp s w)) z.1 z.2 = val s z.1 z.2) ∧ (put t w (comp s w)).m = t.m ∧ (put t w (comp s w)).k = t.k := fun t w ht hw => by
    rw [put_lanes hs hw]
    exact putL_agree hs (places w) t ht (places_in hw)
  have e : copied s [1, 2, 4, 32, 64, 128] = put (put (put (put (put (put fresh 1 (comp s 1)) 2 (comp s 2)) 4 (comp s 4)) 32 (comp s 32)) 64 (comp s 64)) 128 (comp s 128) := rfl
  rw [e]
  have w1 := wf _ 1 wf_fresh p1
  have m1 : (put fresh 1 (comp s 1)).m = s.m := rfl
  generalize put fresh 1 (comp s 1) = t1 at *
  have w2 := wf t1 2 w1 p2
  obtain ⟨a2, b2, c2, d2⟩ := ag t1 2 w1 (.inl rfl)
  generalize put t1 2 (comp s 2) = t2 at *
  have w4 := wf t2 4 w2 p4
  obtain ⟨a4, b4, c4, d4⟩ := ag t2 4 w2 (.inr (.inl rfl))
  generalize put t2 4 (comp s 4) = t4 at *
  have w32 := wf t4 32 w4 p32
  have m32 : (put t4 32 (comp s 32)).m = t4.m := rfl
  have k32 : (put t4 32 (comp s 32)).k = s.k := rfl
  have v32 : ∀ n j, val (put t4 32 (comp s 32)) n j = val t4 n j := fun n j => rfl
  generalize put t4 32 (comp s 32) = t32 at *
  have w64 := wf t32 64 w32 p64
  obtain ⟨a64, b64, c64, d64⟩ := ag t32 64 w32 (.inr (.inr (.inl rfl)))
  generalize put t32 64 (comp s 64) = t64 at *
  have w128 := wf t64 128 w64 p128
  obtain ⟨a128, b128, c128, d128⟩ := ag t64 128 w64 (.inr (.inr (.inr rfl)))
  generalize put t64 128 (comp s 128) = t128 at *
  refine wf_ext hs w128 ?_ ?_ fun n hn j hj => ?_
  · rw [c128, c64, m32, c4, c2, m1]
  · rw [d128, d64, k32]
  · rcases all_places n hn j hj with h | h | h | h
    · exact a128 _ _ (a64 _ _ ((v32 n j).trans (a4 _ _ (b2 _ h))))
    · exact a128 _ _ (a64 _ _ ((v32 n j).trans (b4 _ h)))
    · exact a128 _ _ (b64 _ h)
    · exact b128 _ h
/-! ## components that differ -/
def diffAt (s t : St) (w : Nat) : Nat := bit (comp s w != comp t w) w
def diff (s t : St) : Nat := (([1, 2, 4, 32, 64, 128] : List Nat).map (diffAt s t)).sum
theorem diff_eq (s t : St) : (bit (s.m != t.m) 1 + (bit (lanesOf s 0 16 0 2 != lanesOf t 0 16 0 2) 2 + (bit (lanesOf s 0 16 2 2 != lanesOf t 0 16 2 2) 4 + (bit (s.k != t.k) 32 + (bit (lanesOf s 0 16 4 4 != lanesOf t 0 16 4 4) 64 + bit (lanesOf s 16 16 0 8 != lanesOf t 16 16 0 8) 128))))) = diff s t := by
  unfold diff
  simp only [List.map_cons, List.map_nil, List.sum_cons, List.sum_nil, Nat.add_zero]
  rfl
/-! ## registers by number -/
def regW (s : St) (n : Nat) : List Nat := if n < 32 then s.V n else if n < 40 then [s.M (n - 32), 0, 0, 0, 0, 0, 0, 0] else [s.K (n - 40), 0, 0, 0, 0, 0, 0, 0]
theorem words_zeros : ∀ k, words (List.replicate k 0) = zeros (8 * k)
  | 0 => rfl
  | k + 1 => by
    have ih := words_zeros k
    unfold words at ih ⊢
    rw [List.replicate_succ, List.flatMap_cons, ih]
    show zeros 8 ++ zeros (8 * k) = _
    unfold zeros
    rw [List.replicate_append_replicate]
    exact congrArg (fun n => List.replicate n 0) (by omega)
theorem words_app (a b : List Nat) : words (a ++ b) = words a ++ words b := by
  unfold words
  rw [List.flatMap_append]
theorem register_reg (o : Obj) {n : Nat} (h : n < 48) : register o n = words (regW o.st n) := by
  unfold register regW
  by_cases c : n < 32
  · rw [if_pos c, if_pos c]
  · rw [if_neg c, if_neg c]
    by_cases c2 : n < 40
    · rw [if_pos c2, if_pos c2]
      show words [_] ++ zeros (8 * 7) = words ([_] ++ List.replicate 7 0)
      rw [words_app, words_zeros]
    · rw [if_neg c2, if_neg c2, if_pos h]
      show words [_] ++ zeros (8 * 7) = words ([_] ++ List.replicate 7 0)
      rw [words_app, words_zeros]
theorem register_48 (o : Obj) : register o 48 = words [used o.st, o.parts, 0, 0, 0, 0, 0, 0] := by
  unfold register
  rw [if_neg (by decide), if_neg (by decide), if_neg (by decide)]
  show words [_, _] ++ zeros (8 * 6) = words ([_, _] ++ List.replicate 6 0)
  rw [words_app, words_zeros]
theorem regW_length {s : St} (hs : Wf s) {n : Nat} (h : n < 48) : (regW s n).length = 8 := by
  unfold regW
  split
  · exact (hs.V (by assumption)).2.1
  · split <;> rfl
def holds (n : Nat) (ws : List Nat) : Bool := decide (n < 32) || !(some0 (ws.drop 1))
def putR (s : St) (n : Nat) (ws : List Nat) : St := if n < 32 then { s with v := s.v.set n ws } else if n < 40 then s.setM (n - 32) (ws.getD 0 0) else s.setK (n - 40) (ws.getD 0 0)
theorem number_cons' (x : Nat) (l : List Nat) : ∀ (k o : Nat), number (x :: l) (o + 1) k = number l o k
  | 0, _ => rfl
  | k + 1, o => by
    rw [number_succ, number_succ, number_cons' x l k (o + 1)]
    rfl
theorem numbers_cons (x : Nat) (l : List Nat) (o n : Nat) : numbers (x :: l) (o + 1) n = numbers l o n := by
  unfold numbers
  refine List.map_congr_left fun i _ => ?_
  rw [show o + 1 + 8 * i = (o + 8 * i) + 1 by omega, number_cons']
theorem numbers_eight (l : List Nat) : numbers l 0 8 = number l 0 8 :: numbers l 8 7 := by
  unfold numbers
  rw [show List.range 8 = 0 :: (List.range 7).map (1 + ·) from by decide, List.map_cons, List.map_map]
  refine congr (congrArg _ (congrArg (fun o => number l o 8) (by omega))) (List.map_congr_left fun i _ => ?_)
  exact congrArg (fun o => number l o 8) (show 0 + 8 * (1 + i) = 8 + 8 * i by omega)
theorem given_eq (s : St) (n : Nat) (l : List Nat) : given s n l = if holds n (numbers l 0 8) = true then some (putR s n (numbers l 0 8)) else none := by
  rw [numbers_eight]
  unfold given holds putR
  rw [numbers_eight, List.drop_succ_cons, List.drop_zero, List.getD_cons_zero]
  by_cases c : n < 32
  · rw [if_pos c, decide_eq_true c, Bool.true_or, if_pos rfl, if_pos c]
  · rw [if_neg c, decide_eq_false c, if_neg c]
    cases some0 (numbers l 8 7) with
    | true => rfl
    | false =>
      show (if n < 40 then _ else _) = some (if n < 40 then _ else _)
      split <;> rfl
end VM

set_option maxRecDepth 100000
set_option linter.all false
namespace VM
open Sd62
/-! ## the list of calls -/
def toI (l : List Nat) : List Int := l.map fun n : Nat => (n : Int)
theorem toI_nats (l : List Nat) : Sd62Neutral.natsOf (toI l) = l := by
  unfold Sd62Neutral.natsOf toI
  rw [List.map_map]
  exact (List.map_congr_left fun x _ => Int.toNat_natCast x).trans (List.map_id l)
theorem toI_back : ∀ (xs : List Int), (∀ x ∈ xs, 0 ≤ x) → toI (xs.map Int.toNat) = xs
  | [], _ => rfl
  | x :: xs, h => by
    have ih := toI_back xs fun y hy => h y (.tail _ hy)
    have hx := h x (.head _)
    unfold toI at ih ⊢
    rw [List.map_cons, List.map_cons, ih]
    exact congrArg (· :: xs) (Int.toNat_of_nonneg hx)
theorem call_le {k : Nat} {ns : List Nat} {q : Sd62.Call} (h : Sd62Neutral.callOf (k :: ns) = some q) : k ≤ 7 := by
  match k, h with
  | 0, _ => decide
  | 1, _ => decide
  | 2, _ => decide
  | 3, _ => decide
  | 4, _ => decide
  | 5, _ => decide
  | 6, _ => decide
  | 7, _ => decide
  | n + 8, h => simp [Sd62Neutral.callOf] at h
def leadOf (k : Nat) : Nat := [1, 3, 2, 2, 4, 1, 1, 2].getD k 0
theorem lead_eq {k : Nat} (h : k ≤ 7) (ns : List Int) : Sd62Neutral.leading ((k : Int) :: ns) = leadOf k + 1 := by
  rcases (show k = 0 ∨ k = 1 ∨ k = 2 ∨ k = 3 ∨ k = 4 ∨ k = 5 ∨ k = 6 ∨ k = 7 by omega) with rfl | rfl | rfl | rfl | rfl | rfl | rfl | rfl <;> rfl
theorem rows_nil {k : Nat} {t u : List Int} (h : PyFlat.rows k t = some ([], u)) : k = 0 ∧ u = t := by
  cases k with
  | zero =>
    have h : some (([] : List (List Int)), t) = some ([], u) := h
    cases h
    exact ⟨rfl, rfl⟩
  | succ k =>
    unfold PyFlat.rows at h
    split at h
    · cases h
    · split at h <;> cases h
/-- a call told wide that has no rows -/
theorem wide_call {p : Int} {r t : List Int} {c : List (List Int)} (h : PyWide.call (p :: r) = some (c, t)) (h1 : c.length = 1) : ∃ ns : List Int, r = (ns.length : Int) :: (ns ++ 0 :: t) ∧ c = [p :: ns] := by
  unfold PyWide.call at h
  dsimp only at h
  split at h
  · cases h
  · cases h
  · rename_i ns k t' hr
    split at h
    · rename_i hk
      split at h
      · cases h
      · rename_i xs u hx
        cases h
        have hxs : xs = [] := by
          cases xs with
          | nil => rfl
          | cons a b => simp at h1
        subst hxs
        obtain ⟨k0, ku⟩ := rows_nil hx
        rw [ku]
        have hk0 : k = 0 := by omega
        subst hk0
        cases r with
        | nil => cases hr
        | cons n r' =>
          unfold PyFlat.row at hr
          dsimp only at hr
          split at hr
          · rename_i hn
            have e := Option.some.inj hr
            have e1 : r'.take n.toNat = ns := congrArg Prod.fst e
            have e2 : r'.drop n.toNat = 0 :: t' := congrArg Prod.snd e
            refine ⟨ns, ?_, rfl⟩
            have hl : ns.length = n.toNat := by
              rw [← e1, List.length_take]
              omega
            rw [hl, ← e1, ← e2, List.take_append_drop]
            exact congrArg (· :: r') (by omega)
          · cases hr
    · cases h
/-- what one more call tells -/
theorem calls_more {f : Nat} {p : Int} {r : List Int} {cs : List (List (List Int))} (h : PyWide.calls f (p :: r) = some cs) (ha : cs.all Sd62Neutral.asked1 = true) : ∃ (ns t : List Int) (g : Nat) (ds : List (List (List Int))), r = (ns.length : Int) :: (ns ++ 0 :: t) ∧ cs = [p :: ns] :: ds ∧ PyWide.calls g t = some ds := by
  cases f with
  | zero => cases h
  | succ f =>
    unfold PyWide.calls at h
    split at h
    · cases h
    · rename_i c t hc
      split at h
      · cases h
      · rename_i ds hd
        have e : c :: ds = cs := Option.some.inj h
        subst e
        rw [List.all_cons, Bool.and_eq_true] at ha
        have h1 : c.length = 1 := by
          have := ha.1
          unfold Sd62Neutral.asked1 at this
          rw [Bool.and_eq_true] at this
          simpa using this.1
        obtain ⟨ns, e1, e2⟩ := wide_call hc h1
        exact ⟨ns, t, f, ds, e1, by rw [e2], hd⟩
theorem calls_end {f : Nat} {cs : List (List (List Int))} (h : PyWide.calls f [] = some cs) : cs = [] := by
  cases f with
  | zero => exact (Option.some.inj h).symm
  | succ f => exact (Option.some.inj h).symm
/-- what a call that is asked tells -/
theorem asked_call {k : Nat} {ns : List Nat} (h : Sd62Neutral.asked1 [(k : Int) :: toI ns] = true) : ∃ q, Sd62Neutral.callOf (k :: ns) = some q ∧ ∀ x ∈ ns.drop (leadOf k), x < 256 := by
  unfold Sd62Neutral.asked1 at h
  simp only [Bool.and_eq_true] at h
  obtain ⟨_, _, h2, _, h4⟩ := h
  have e : Sd62Neutral.natsOf ((k : Int) :: toI ns) = k :: ns := toI_nats (k :: ns)
  have h2 : (Sd62Neutral.callOf (Sd62Neutral.natsOf ((k : Int) :: toI ns))).isSome = true := h2
  rw [e] at h2
  obtain ⟨q, hq⟩ := Option.isSome_iff_exists.mp h2
  refine ⟨q, hq, fun x hx => ?_⟩
  have h4 : (((k : Int) :: toI ns).drop (Sd62Neutral.leading ((k : Int) :: toI ns))).all (fun (z : Int) => decide (z < 256)) = true := h4
  rw [lead_eq (call_le hq), List.drop_succ_cons] at h4
  have h5 := List.all_eq_true.mp h4 (x : Int) (by
    unfold toI
    rw [← List.map_drop]
    exact List.mem_map.mpr ⟨x, hx, rfl⟩)
  have := of_decide_eq_true h5
  omega
end VM

set_option Elab.async false
set_option linter.all false
set_option maxRecDepth 100000
set_option maxHeartbeats 4000000
namespace VP
open PySem PySem.Spec PyProof.Rows L2
open PySem.W (Codec)
def top (i : Nat) : Stmt := PySem.Challenge.pw_vectorpoints_s01_answers.main.body.getD i (.Pass ⟨0, 0, 0, 0⟩)
abbrev nv (n : Nat) : V := .int (n : Int)
def nl (l : List Nat) : List V := l.map nv
theorem nl_length (l : List Nat) : (nl l).length = l.length := List.length_map _
theorem nl_get {l : List Nat} {i : Nat} {x : Nat} (h : l[i]? = some x) : (nl l)[i]? = some (nv x) := by
  unfold nl
  rw [List.getElem?_map, h] <;> rfl
theorem of_nl {l : List Nat} {i : Nat} {v : V} (h : (nl l)[i]? = some v) : ∃ x, l[i]? = some x ∧ v = nv x := by
  unfold nl at h
  rw [List.getElem?_map] at h
  cases e : l[i]? with
  | none =>
    rw [e] at h
    cases h
  | some x =>
    rw [e] at h
    exact ⟨x, rfl, (Option.some.inj h).symm⟩
theorem nl_app (a b : List Nat) : nl (a ++ b) = nl a ++ nl b := List.map_append
theorem nv_inj {a b : Nat} (h : nv a = nv b) : a = b := Int.ofNat.inj (V.int.inj h)
theorem nl_inj {a b : List Nat} (h : nl a = nl b) : a = b := List.map_inj_right (fun _ _ => nv_inj) |>.mp h
theorem nl_rep (n x : Nat) : nl (List.replicate n x) = List.replicate n (nv x) := List.map_replicate
theorem nl_set (l : List Nat) (i x : Nat) : (nl l).set i (nv x) = nl (l.set i x) := List.map_set.symm
theorem nl_take (l : List Nat) (n : Nat) : nl (l.take n) = (nl l).take n := List.map_take
theorem nl_drop (l : List Nat) (n : Nat) : nl (l.drop n) = (nl l).drop n := List.map_drop
theorem at_nl {l : List Nat} {i x : Nat} (h : l[i]? = some x) : atI (nl l) (i : Int) = some (nv x) := atI_nat (nl_get h)
theorem ix_nat {n i : Nat} (h : i < n) : ixN n (i : Int) = some i := by
  unfold ixN
  rw [if_pos (by omega), if_pos (by omega)]
  simp
theorem sIx_nat (n d i : Nat) : HT.sIx n d (some (i : Int)) = min i n := by
  unfold HT.sIx
  simp
  try omega
theorem cut_both (xs : List V) (a b : Nat) : cutV xs (some (a : Int)) (some (b : Int)) = (xs.drop a).take (b - a) := by
  unfold cutV
  rw [sIx_nat, sIx_nat]
  refine List.ext_getElem? fun i => ?_
  rw [List.getElem?_take, List.getElem?_take, List.getElem?_drop, List.getElem?_drop]
  by_cases c : i < b - a
  · rw [if_pos c]
    by_cases h : a ≤ xs.length
    · rw [Nat.min_eq_left h]
      by_cases hb : b ≤ xs.length
      · rw [Nat.min_eq_left hb, if_pos c]
      · rw [Nat.min_eq_right (by omega)]
        by_cases c2 : i < xs.length - a
        · rw [if_pos c2]
        · rw [if_neg c2, List.getElem?_eq_none (by omega)]
    · rw [if_neg (by omega), List.getElem?_eq_none (by omega)]
  · rw [if_neg c, if_neg (by omega)]
theorem cut_to (xs : List V) (b : Nat) : cutV xs none (some (b : Int)) = xs.take b := by
  have e : cutV xs none (some (b : Int)) = cutV xs (some ((0 : Nat) : Int)) (some (b : Int)) := by
    unfold cutV
    rw [sIx_nat xs.length 0 0]
    show (xs.drop 0).take (_ - 0) = (xs.drop (min 0 xs.length)).take (_ - min 0 xs.length)
    rw [Nat.zero_min]
  rw [e, cut_both, List.drop_zero, Nat.sub_zero]
theorem cut_from (xs : List V) (a : Nat) : cutV xs (some (a : Int)) none = xs.drop a := by
  unfold cutV
  rw [sIx_nat]
  show (xs.drop (min a xs.length)).take (xs.length - min a xs.length) = _
  by_cases h : a ≤ xs.length
  · rw [Nat.min_eq_left h, List.take_of_length_le (by rw [List.length_drop]; omega)]
  · rw [Nat.min_eq_right (by omega), List.drop_length, List.take_nil, List.drop_eq_nil_of_le (by omega)]
theorem dec_nv (n m : Nat) : decide (nv n = nv m) = decide (n = m) := by
  by_cases c : n = m
  · rw [c]
    simp
  · rw [decide_eq_false c, decide_eq_false (fun z => c (nv_inj z))]
/-! ### operators over whole numbers that are not negative -/
def rN (g : Nat → Nat → Nat) : R2 := fun x y H Q => ∃ n m : Nat, x = nv n ∧ y = nv m ∧ Q (nv (g n m)) H
def rNC (C : Nat → Nat → Prop) (g : Nat → Nat → Nat) : R2 := fun x y H Q => ∃ n m : Nat, x = nv n ∧ y = nv m ∧ C n m ∧ Q (nv (g n m)) H
def rNB (g : Nat → Nat → Bool) : R2 := fun x y H Q => ∃ n m : Nat, x = nv n ∧ y = nv m ∧ Q (.bl (g n m)) H
section
variable {X : Cx}
theorem bitAnd_nat (n m : Nat) : Builtin.bitAnd (n : Int) (m : Int) = ((n &&& m : Nat) : Int) := by
  rw [bitAnd_pp (Int.natCast_nonneg _) (Int.natCast_nonneg _), Int.toNat_natCast, Int.toNat_natCast]
theorem bitOr_nat (n m : Nat) : Builtin.bitOr (n : Int) (m : Int) = ((n ||| m : Nat) : Int) := by
  rw [Bits.bitOr_pp (Int.natCast_nonneg _) (Int.natCast_nonneg _), Int.toNat_natCast, Int.toNat_natCast]
theorem bitXor_nat (n m : Nat) : Builtin.bitXor (n : Int) (m : Int) = ((n ^^^ m : Nat) : Int) := by
  rw [Bits.bitXor_pp (Int.natCast_nonneg _) (Int.natCast_nonneg _), Int.toNat_natCast, Int.toNat_natCast]
theorem OpR.imp {f : Value → Value → Sem Value} {r r' : R2} (h : OpR X f r) (k : ∀ x y H Q, r' x y H Q → r x y H Q) : OpR X f r' := by
  intro pins s σ H x y v u Q I rx ry q
  exact h pins s σ H x y v u Q I rx ry (k _ _ _ _ q)
theorem n_and : OpR X (binaryOp .BitAnd) (rN fun n m => n &&& m) := OpR.imp op_and fun x y H Q ⟨n, m, e1, e2, q⟩ => ⟨n, m, e1, e2, by show Q (.int (Builtin.bitAnd n m)) H; rw [bitAnd_nat]; exact q⟩
theorem n_or : OpR X (binaryOp .BitOr) (rN fun n m => n ||| m) := OpR.imp op_or fun x y H Q ⟨n, m, e1, e2, q⟩ => ⟨n, m, e1, e2, by show Q (.int (Builtin.bitOr n m)) H; rw [bitOr_nat]; exact q⟩
theorem n_xor : OpR X (binaryOp .BitXor) (rN fun n m => n ^^^ m) := OpR.imp op_xor fun x y H Q ⟨n, m, e1, e2, q⟩ => ⟨n, m, e1, e2, by show Q (.int (Builtin.bitXor n m)) H; rw [bitXor_nat]; exact q⟩
theorem n_add : OpR X (binaryOp .Add) (rN fun n m => n + m) := OpR.imp op_add fun x y H Q ⟨n, m, e1, e2, q⟩ => ⟨n, m, e1, e2, q⟩
theorem n_sub : OpR X (binaryOp .Sub) (rNC (fun n m => m ≤ n) fun n m => n - m) := OpR.imp op_sub fun x y H Q ⟨n, m, e1, e2, c, q⟩ => ⟨n, m, e1, e2, by show Q (.int ((n : Int) - m)) H; rw [← Int.ofNat_sub c]; exact q⟩
theorem n_mul : OpR X (binaryOp .Mult) (rNC (fun n m => n < 2 ^ 64 ∨ m < 2 ^ 64) fun n m => n * m) := OpR.imp op_mul fun x y H Q ⟨n, m, e1, e2, c, q⟩ => ⟨n, m, e1, e2, by
  rcases c with c | c
  · exact .inl ⟨by omega, by omega⟩
  · exact .inr ⟨by omega, by omega⟩, q⟩
theorem n_mod : OpR X (binaryOp .Mod) (rNC (fun _ m => 0 < m) fun n m => n % m) := OpR.imp op_mod fun x y H Q ⟨n, m, e1, e2, c, q⟩ => ⟨n, m, e1, e2, by show (0 : Int) < (m : Int); omega, q⟩
theorem n_shl : OpR X (binaryOp .LShift) (rNC (fun n m => n < 2 ^ 64 ∧ m ≤ 1000000) fun n m => n * 2 ^ m) := OpR.imp op_shl fun x y H Q ⟨n, m, e1, e2, c, q⟩ => ⟨n, m, e1, e2, ⟨Int.natCast_nonneg _, by omega, by rw [Int.natAbs_natCast]; exact c.1⟩, by
  show Q (.int ((n : Int) * 2 ^ (m : Int).toNat)) H
  have e : ((n * 2 ^ m : Nat) : Int) = (n : Int) * 2 ^ (m : Int).toNat := by rw [Int.toNat_natCast]; push_cast; rfl
  rw [← e]
  exact q⟩
theorem n_shr : OpR X (binaryOp .RShift) (rN fun n m => n / 2 ^ m) := OpR.imp op_shr fun x y H Q ⟨n, m, e1, e2, q⟩ => ⟨n, m, e1, e2, Int.natCast_nonneg _, by
  show Q (.int ((n : Int) / 2 ^ (m : Int).toNat)) H
  have e : ((n / 2 ^ m : Nat) : Int) = (n : Int) / 2 ^ (m : Int).toNat := by rw [Int.toNat_natCast]; push_cast; rfl
  rw [← e]
  exact q⟩
theorem dec_lt (n m : Nat) : decide ((n : Int) < (m : Int)) = decide (n < m) := decide_eq_decide.mpr Int.ofNat_lt
theorem dec_le (n m : Nat) : decide ((n : Int) ≤ (m : Int)) = decide (n ≤ m) := decide_eq_decide.mpr Int.ofNat_le
theorem n_lt : OpR X (compareOp .Lt) (rNB fun n m => decide (n < m)) := OpR.imp op_lt fun x y H Q ⟨n, m, e1, e2, q⟩ => ⟨n, m, e1, e2, by show Q (.bl (decide ((n : Int) < m))) H; rw [dec_lt]; exact q⟩
theorem n_le : OpR X (compareOp .LtE) (rNB fun n m => decide (n ≤ m)) := OpR.imp op_le fun x y H Q ⟨n, m, e1, e2, q⟩ => ⟨n, m, e1, e2, by show Q (.bl (decide ((n : Int) ≤ m))) H; rw [dec_le]; exact q⟩
theorem n_gt : OpR X (compareOp .Gt) (rNB fun n m => decide (m < n)) := OpR.imp op_gt fun x y H Q ⟨n, m, e1, e2, q⟩ => ⟨n, m, e1, e2, by show Q (.bl (decide ((m : Int) < n))) H; rw [dec_lt]; exact q⟩
theorem n_ge : OpR X (compareOp .GtE) (rNB fun n m => decide (m ≤ n)) := OpR.imp op_ge fun x y H Q ⟨n, m, e1, e2, q⟩ => ⟨n, m, e1, e2, by show Q (.bl (decide ((m : Int) ≤ n))) H; rw [dec_le]; exact q⟩
theorem n_eq : OpR X (compareOp .Eq) (rNB fun n m => decide (n = m)) := OpR.imp op_eq fun x y H Q ⟨n, m, e1, e2, q⟩ => by
  subst e1 e2
  exact ⟨rfl, by rw [dec_nv]; exact q⟩
theorem n_ne : OpR X (compareOp .NotEq) (rNB fun n m => !decide (n = m)) := OpR.imp op_ne fun x y H Q ⟨n, m, e1, e2, q⟩ => by
  subst e1 e2
  exact ⟨rfl, by rw [dec_nv]; exact q⟩
end
/-! ### heaps -/
theorem same_lay {H H' : Hp} (h : Same H H') {p : Addr} {o : HO} (hp : H' p = none) : Same H (upd H' p o) := fun b u e => by
  rw [upd_ne (ne_of_none (h b u e) hp)]
  exact h b u e
theorem same_over {H H' : Hp} (h : Same H H') {p : Addr} {o : HO} (hp : H p = none) : Same H (upd H' p o) := fun b u e => by
  rw [upd_ne (ne_of_none e hp)]
  exact h b u e
theorem same_new {H : Hp} {p : Addr} {o : HO} (hp : H p = none) : Same H (upd H p o) := same_lay (Same.refl H) hp
theorem same_tup {K : PySem.W.Frag} {H H' : Hp} {a : Addr} {xs : List V} (e : Same H H') (h : SqT K H a xs) : SqT K H' a xs := by
  rcases h with (h | ⟨o, h⟩) | h
  · exact .inl (.inl (e _ _ h))
  · exact .inl (.inr ⟨o, e _ _ h⟩)
  · exact .inr h
/-- a new list of whole numbers -/
def NewL (H : Hp) (l : List Nat) (Q : VK) : Prop := ∀ (H' : Hp) (p : Addr), Same H H' → H p = none → H' p = some (.lst (nl l)) → Q (.ref p) H'
theorem if_true_of {c : Bool} {A B : Prop} (hc : c = true) (h : A) : if c = true then A else B := by
  rw [if_pos hc]
  exact h
theorem if_false_of {c : Bool} {A B : Prop} (hc : c = false) (h : B) : if c = true then A else B := by
  rw [hc, if_neg Bool.false_ne_true]
  exact h
theorem app_nl (a : List Nat) (x : Nat) : nl a ++ [nv x] = nl (a ++ [x]) := (nl_app a [x]).symm
theorem upd_app {H : Hp} {q : Addr} {a b : List Nat} {x : Nat} (h : a ++ [x] = b) : upd H q (.lst (nl a ++ [nv x])) q = some (.lst (nl b)) := by
  rw [upd_same, app_nl, h]
theorem rg_size (a n c : Nat) (hc : 0 < c) : Builtin.Range.rangeSize (a : Int) ((a : Int) + (c : Int) * (n : Int)) (c : Int) = (n : Int) := by
  unfold Builtin.Range.rangeSize
  rw [if_pos (by omega)]
  by_cases h : n = 0
  · subst h
    rw [if_neg (by simp)]
    rfl
  · have hp : 0 < (c : Int) * (n : Int) := Int.mul_pos (by omega) (by omega)
    rw [if_pos (by omega)]
    have e : ((a : Int) + (c : Int) * (n : Int) - a - 1) / (c : Int) = (n : Int) - 1 := by
      rw [show (a : Int) + (c : Int) * (n : Int) - a - 1 = ((c : Int) - 1) + (c : Int) * ((n : Int) - 1) from by rw [Int.mul_sub, Int.mul_one]; omega, Int.add_mul_ediv_left _ _ (by omega), Int.ediv_eq_zero_of_lt (by omega) (by omega)]
      omega
    rw [e]
    omega
theorem RgC.up (a n c : Nat) (hc : 0 < c) (hc2 : c < 1073741824) (h : a + c * n < 2 ^ 61) : RgC (a : Int) ((a : Int) + (c : Int) * (n : Int)) (c : Int) n := by
  refine ⟨by omega, by rw [Int.natAbs_natCast]; exact hc2, ?_, rg_size a n c hc⟩
  unfold Builtin.Range.small
  rw [rg_size a n c hc]
  have e : ((c * n : Nat) : Int) = (c : Int) * (n : Int) := by push_cast; rfl
  have hn : n ≤ c * n := Nat.le_mul_of_pos_left n hc
  have h0 : (c : Int) > 0 := by omega
  rw [← e, if_pos h0]
  simp only [Builtin.Range.rangeFitsLong, Bool.and_eq_true, Bool.or_eq_true, decide_eq_true_eq, beq_iff_eq]
  generalize c * n = m at *
  omega
theorem ix_listK {X : Cx} {K : PySem.W.Frag} (h : X.K = K := by rfl) : IxR X (rIxL K) := by
  subst h
  exact ix_list
theorem ix_tupK {X : Cx} {K : PySem.W.Frag} (h : X.K = K := by rfl) : IxR X (rIxT K) := by
  subst h
  exact ix_tup
theorem yes_ok {σ : L2.St} {H : Hp} {A B : Hp → Prop} (h : A H) : tYes σ H (fun b H3 => if b = true then A H3 else B H3) := by
  show if true = true then A H else B H
  rw [if_pos rfl]
  exact h
theorem sz (n : Nat) (h : n ≤ 16777216) : n ≤ sizeLine := h
end VP

set_option Elab.async false
set_option linter.all false
set_option maxRecDepth 100000
set_option maxHeartbeats 4000000
namespace VP
open PySem PySem.Spec PyProof.Rows L2
abbrev sWordBytes : Stmt := top 17
abbrev sWordsAt : Stmt := top 18
abbrev sChosen : Stmt := top 50
structure Txt0 (mg : Str → Option Value) : Prop where
  len : mg "len" = none
  range : mg "range" = none
  list : mg "list" = none
  zip : mg "zip" = none
  any : mg "any" = none
  sum : mg "sum" = none
  min : mg "min" = none
  max : mg "max" = none
  reversed : mg "reversed" = none
  enumerate : mg "enumerate" = none
section
variable {P : Program} {w : World} {K : PySem.W.Frag} {mg : Str → Option Value} {base : Heap}
/-! ### word_bytes -/
def spWordBytes (K : PySem.W.Frag) : Sp := fun vs H Q _ => ∃ (a : Addr) (l : List Nat), vs = [.ref a] ∧ SqL K H a (nl l) ∧ l.length ≤ 1000 ∧ NewL H (Sd62.words l) Q
theorem scWordBytes : FnScope ["words", "content", "word", "place"] ["words"] (defScope sWordBytes) := ⟨rfl, rfl, rfl, by decide +kernel, rfl, by decide +kernel, by decide +kernel⟩
theorem ok_wordBytes {f : Addr} {fd : FuncData} (F : Fun K "word_bytes" "word_bytes" sWordBytes f fd) (T : Txt0 mg) : FnOk P w K mg base CX0 1 f fd ["words"] (spWordBytes K) := by
  refine F.ok scWordBytes (fun vs H Q E h => ?_) (fun cdv A outer s H vs Q E hr h => ?_)
  · obtain ⟨a, l, rfl, _⟩ := h
    rfl
  · obtain ⟨a, l, rfl, hS, hlen, k⟩ := h
    refine ⟨_, pss_cons (ps_set (i := 1) scWordBytes.nd rfl (.inl rfl) (pe_lst pa_nil))
      (pss_cons (ps_for PassesOwn.never rfl (pi_list (pv 0)) (pg_name (i := 2) scWordBytes.nd rfl (.inl rfl))
        (pss_one (ps_for PassesOwn.never rfl (pi_range3 rfl T.range (pa_cons pe_int (pa_cons pe_int (pa_cons pe_int pa_nil)))) (pg_name (i := 3) scWordBytes.nd rfl (.inl rfl))
          (pss_one (ps_expr (pe_bm PySem.F.plainAttrs_list PySem.F.slot_list_append PySem.F.type_list_append mt_append (pv 1) (pa_cons (pe_op n_and (pe_op n_shr (pv 2) (pv 3)) pe_int) pa_nil)))))))
      (pss_one (ps_ret (pv 1)))), ?_⟩
    refine ⟨Nat.zero_le _, fun q hq => ?_⟩
    have s0 : Same H (upd H q (.lst [])) := same_new hq
    refine ⟨_, rfl, a, rfl, ⟨_, s0.seq hS⟩, for_list (K := K) (a := a) (xs := nl l) (fun i σ H' => ∃ v2 v3 : Option V, σ = [some (.ref a), some (.ref q), v2, v3] ∧ Same H H' ∧ H' q = some (.lst (nl (Sd62.words (l.take i)))))
      ⟨none, none, rfl, s0, upd_same⟩ (fun i σ H' _ ⟨_, _, _, s5, _⟩ => s5.seq hS) ?_ ?_⟩
    · rintro i y σ H' hi ⟨v2, v3, rfl, s5, hc⟩
      obtain ⟨x, hx, rfl⟩ := of_nl hi
      have hil : i < l.length := (List.getElem?_eq_some_iff.mp hx).1
      refine ⟨0, 64, 8, 8, rfl, ⟨by decide, by decide, by decide, by decide⟩, for_rangeC (fun j σ H' => ∃ v3 : Option V, σ = [some (.ref a), some (.ref q), some (nv x), v3] ∧ Same H H' ∧ H' q = some (.lst (nl (Sd62.words (l.take i) ++ (Sd62.spread x 8).take j))))
        ⟨v3, rfl, s5, ?_⟩ ?_ ?_⟩
      · rw [List.take_zero, List.append_nil]
        exact hc
      · rintro j σ H' hj ⟨v3, rfl, s6, hc6⟩
        have e : (0 : Int) + (j : Int) * 8 = ((8 * j : Nat) : Int) := by omega
        have hb := VM.spread_get 8 x j hj
        refine ⟨_, rfl, .inl ⟨rfl, _, SqL.of hc6⟩, _, rfl, _, rfl, x, 8 * j, rfl, congrArg V.int e, _, 255, rfl, rfl, q, _, _, rfl, rfl, hc6, ?_, ?_⟩
        · rw [nl_length, List.length_append, VM.words_length, List.length_take, List.length_take, VM.spread_length]
          show _ < 16777216
          omega
        · refine ⟨_, rfl, same_over s6 hq, upd_app ?_⟩
          rw [VM.take_more hb, ← List.append_assoc]
          exact congrArg (fun z => _ ++ [z]) (Nat.and_two_pow_sub_one_eq_mod _ 8)
      · rintro σ H' ⟨v3, rfl, s6, hc6⟩
        refine ⟨_, _, rfl, s6, ?_⟩
        rw [hc6, VM.words_more hx, List.take_of_length_le (Nat.le_of_eq (VM.spread_length 8 x))]
    · rintro σ H' ⟨v2, v3, rfl, s5, hc⟩
      refine ⟨_, rfl, k H' q s5 hq ?_⟩
      rw [hc, nl_length, List.take_length]
end
end VP

set_option Elab.async false
set_option linter.all false
set_option maxRecDepth 100000
set_option maxHeartbeats 4000000
namespace VP
open PySem PySem.Spec PyProof.Rows L2
section
variable {P : Program} {w : World} {K : PySem.W.Frag} {mg : Str → Option Value} {base : Heap}
/-! ### words_at -/
def spWordsAt (K : PySem.W.Frag) : Sp := fun vs H Q _ => ∃ (a : Addr) (l : List Nat) (o n : Nat), vs = [.ref a, nv o, nv n] ∧ SqL K H a (nl l) ∧ o ≤ 100000000 ∧ n ≤ 1000 ∧ NewL H (Sd62.numbers l o n) Q
theorem scWordsAt : FnScope ["content", "at", "count", "words", "first", "word", "byte"] ["content", "at", "count"] (defScope sWordsAt) := ⟨rfl, rfl, rfl, by decide +kernel, rfl, by decide +kernel, by decide +kernel⟩
theorem ok_wordsAt {f : Addr} {fd : FuncData} (F : Fun K "words_at" "words_at" sWordsAt f fd) (T : Txt0 mg) : FnOk P w K mg base CX0 1 f fd ["content", "at", "count"] (spWordsAt K) := by
  refine F.ok scWordsAt (fun vs H Q E h => ?_) (fun cdv A outer s H vs Q E hr h => ?_)
  · obtain ⟨a, l, o, n, rfl, _⟩ := h
    rfl
  · obtain ⟨a, l, o, n, rfl, hS, ho, hn, k⟩ := h
    refine ⟨_, pss_cons (ps_set (i := 3) scWordsAt.nd rfl (.inl rfl) (pe_lst pa_nil))
      (pss_cons (ps_for PassesOwn.never rfl (pi_range3 rfl T.range (pa_cons (pv 1) (pa_cons (pe_op n_add (pv 1) (pe_op n_mul pe_int (pv 2))) (pa_cons pe_int pa_nil)))) (pg_name (i := 4) scWordsAt.nd rfl (.inl rfl))
        (pss_cons (ps_set (i := 5) scWordsAt.nd rfl (.inl rfl) pe_int)
        (pss_cons (ps_for PassesOwn.never rfl (pi_reversed rfl T.reversed (pa_cons (pe_slice sl_list (pv 0) (po_some (pv 4)) (po_some (pe_op n_add (pv 4) pe_int))) pa_nil)) (pg_name (i := 6) scWordsAt.nd rfl (.inl rfl))
          (pss_one (ps_set (i := 5) scWordsAt.nd rfl (.inl rfl) (pe_op n_add (pe_op n_mul (pv 5) pe_int) (pv 6)))))
        (pss_one (ps_expr (pe_bm PySem.F.plainAttrs_list PySem.F.slot_list_append PySem.F.type_list_append mt_append (pv 3) (pa_cons (pv 5) pa_nil)))))))
      (pss_one (ps_ret (pv 3)))), ?_⟩
    refine ⟨Nat.zero_le _, fun q hq => ?_⟩
    have s0 : Same H (upd H q (.lst [])) := same_new hq
    refine ⟨_, rfl, _, rfl, _, rfl, 8, n, rfl, rfl, .inl (by decide), o, 8 * n, rfl, rfl, o, _, 8, n, rfl, ?_, for_rangeC (fun i σ H' => ∃ v4 v5 v6 : Option V, σ = [some (.ref a), some (nv o), some (nv n), some (.ref q), v4, v5, v6] ∧ Same H H' ∧ H' q = some (.lst (nl ((Sd62.numbers l o n).take i))))
      ⟨none, none, none, rfl, s0, upd_same⟩ ?_ ?_⟩
    · have e := RgC.up o n 8 (by decide) (by decide) (by omega)
      rw [show ((o + 8 * n : Nat) : Int) = (o : Int) + (8 : Int) * (n : Int) from by omega]
      exact e
    · rintro i σ H' hi ⟨v4, v5, v6, rfl, s5, hc⟩
      have e : (o : Int) + (i : Int) * 8 = ((o + 8 * i : Nat) : Int) := by omega
      rw [e]
      generalize hfirst : o + 8 * i = first
      refine ⟨_, rfl, _, rfl, ⟨_, rfl, _, rfl, _, 8, rfl, rfl, _, rfl, a, _, rfl, s5.seq hS, fun p hp => ?_⟩⟩
      have hcut : cutV (nl l) (some (first : Int)) (some ((first + 8 : Nat) : Int)) = nl ((l.drop first).take 8) := by
        rw [cut_both, Nat.add_sub_cancel_left, nl_take, nl_drop]
      have hsl : (upd H' p (.lst (cutV (nl l) (some (first : Int)) (some ((first + 8 : Nat) : Int))))) p = some (.lst (nl ((l.drop first).take 8))) := by
        rw [upd_same, hcut]
      generalize hxs : (l.drop first).take 8 = xs at hsl
      have hnum : Sd62.number xs 0 xs.length = Sd62.number l first 8 := by
        rw [← hxs]
        exact VM.number_slice l first
      have s6 := same_lay s5 hp (o := .lst (cutV (nl l) (some (first : Int)) (some ((first + 8 : Nat) : Int))))
      have nqp : q ≠ p := ne_of_none hc hp
      refine ⟨p, nl xs, rfl, SqL.of hsl, for_it (walk_rev (K := K) (a := p) (xs := nl xs)) (fun j σ H' => ∃ v6 : Option V, σ = [some (.ref a), some (nv o), some (nv n), some (.ref q), some (nv first), some (nv (Sd62.number xs (xs.length - j) j)), v6] ∧ Same H H' ∧ H' q = some (.lst (nl ((Sd62.numbers l o n).take i))) ∧ H' p = some (.lst (nl xs)))
        ⟨v6, rfl, s6, ?_, hsl⟩ (fun j σ H' _ ⟨_, _, _, _, s7⟩ => SqL.of s7) ?_ ?_⟩
      · rw [upd_ne nqp]
        exact hc
      · rintro j x σ H1 H2 hj ⟨v6, rfl, s7, hc7, hp7⟩ ⟨rfl, hx⟩
        rw [nl_length] at hj hx
        obtain ⟨y, hy, rfl⟩ := of_nl hx
        refine ⟨_, rfl, _, 256, rfl, rfl, .inr (by decide), _, rfl, _, _, rfl, rfl, ?_⟩
        refine ⟨some (nv y), ?_, s7, hc7, hp7⟩
        have e : Sd62.number xs (xs.length - j) j * 256 + y = Sd62.number xs (xs.length - (j + 1)) (j + 1) := by
          rw [← VM.number_turn xs j hj, List.getD_eq_getElem?_getD, hy]
          rfl
        rw [← e]
        rfl
      · rintro σ H1 ⟨v6, rfl, s7, hc7, hp7⟩
        refine ⟨_, rfl, .inl ⟨rfl, _, SqL.of hc7⟩, _, rfl, q, _, _, rfl, rfl, hc7, ?_, ?_⟩
        · rw [nl_length, List.length_take, VM.numbers_length]
          show _ < 16777216
          omega
        · refine ⟨_, _, _, rfl, same_over s7 hq, ?_⟩
          rw [nl_length, Nat.sub_self, hnum]
          exact upd_app (VM.take_more (by rw [VM.numbers_get l o n i hi, hfirst])).symm
    · rintro σ H' ⟨v4, v5, v6, rfl, s5, hc⟩
      refine ⟨_, rfl, k H' q s5 hq ?_⟩
      rw [hc, List.take_of_length_le (Nat.le_of_eq (VM.numbers_length l o n))]
end
end VP

set_option Elab.async false
set_option linter.all false
set_option maxRecDepth 100000
set_option maxHeartbeats 4000000
namespace VP
open PySem PySem.Spec PyProof.Rows L2
/-- a comprehension over two lists of whole numbers, the target two names in the slots i and j -/
theorem lc_zip2 {K : PySem.W.Frag} {a b D : Addr} {A B : List Nat} {te : TE} {σ : L2.St} {H H1 : Hp} {Q : VK} {i j : Nat} (f : Nat → Nat → Nat) (hA : SqL K H a (nl A)) (hB : SqL K H b (nl B)) (s1 : Same H H1) (hD : H1 D = none) (hlen : A.length ≤ 1000)
    (hte : ∀ (x y : Nat) (H2 : Hp) (Q' : VK), x ∈ A → y ∈ B → Q' (nv (f x y)) H2 → te (((wipe σ [i, j]).set i (some (nv x))).set j (some (nv y))) H2 Q')
    (hw : ∀ x y : V, wipe (((wipe σ [i, j]).set i (some x)).set j (some y)) [i, j] = wipe σ [i, j])
    (k : NewL H ((A.zip B).map fun z => f z.1 z.2) Q) :
    ∃ W : Nat → Nat → Hp → Prop, (∃ m, W 0 m (upd H1 D (.lst []))) ∧ ∀ n m H, W n m H →
      ((Itz K a b).stop n H ∧ Q (.ref D) H) ∨ ((Itz K a b).go n H ∧ ∃ Nx : Hp → Prop, (∀ H', Nx H' → ∃ m', m' < m ∧ W (n + 1) m' H') ∧ ∀ x H', (Itz K a b).yld n H x H' → gTup K 2 (gCons (gName i) (gCons (gName j) gNil)) x (wipe σ [i, j]) H' fun σ2 H2 => wipe σ2 [i, j] = wipe σ [i, j] ∧ tYes σ2 H2 fun b H3 =>
        if b = true then te σ2 H3 fun y H4 => ∃ acc, H4 D = some (.lst acc) ∧ acc.length < sizeLine ∧ Nx (upd H4 D (.lst (acc ++ [y]))) else Nx H3) := by
  have hHD : H D = none := Same.free s1 hD
  refine lc_it (walk_zip (K := K) (a := a) (b := b) (xs := nl A) (ys := nl B) (n := min A.length B.length) (by rw [nl_length, nl_length])) (fun n H' => Same H H' ∧ H' D = some (.lst (nl (((A.zip B).map fun z => f z.1 z.2).take n)))) ⟨same_lay s1 hD, upd_same⟩ (fun n H' _ h => ⟨h.1.seq hA, h.1.seq hB⟩) ?_ ?_
  · rintro n v H2 H3 hn ⟨s2, hc⟩ ⟨T, x, y, rfl, hT, rfl, hx, hy⟩
    obtain ⟨x, hx1, rfl⟩ := of_nl hx
    obtain ⟨y, hy1, rfl⟩ := of_nl hy
    have nDT : D ≠ T := ne_of_none hc hT
    refine ⟨T, _, rfl, .inl (.inl upd_same), rfl, _, _, rfl, _, _, rfl, rfl, hw _ _, ?_⟩
    refine yes_ok ?_
    refine hte x y _ _ (List.mem_of_getElem? hx1) (List.mem_of_getElem? hy1) ⟨_, by rw [upd_ne nDT]; exact hc, ?_, same_over (same_lay s2 hT) hHD, upd_app (VM.take_more ?_).symm⟩
    · rw [nl_length, List.length_take, List.length_map, List.length_zip]
      show _ < 16777216
      omega
    · have e : (A.zip B)[n]? = some (x, y) := by
        rw [List.getElem?_zip_eq_some]
        exact ⟨hx1, hy1⟩
      rw [List.getElem?_map, e]
      rfl
  · rintro H2 ⟨s2, hc⟩
    refine k H2 D s2 hHD ?_
    rw [hc, List.take_of_length_le (by rw [List.length_map, List.length_zip]; exact Nat.le_refl _)]
section
variable {P : Program} {w : World} {K : PySem.W.Frag} {mg : Str → Option Value} {base : Heap}
/-! ### chosen_lanes -/
def spChosen (K : PySem.W.Frag) : Sp := fun vs H Q _ => ∃ (b : Nat) (a c : Addr) (fr kp : List Nat), vs = [nv b, .ref a, .ref c] ∧ SqL K H a (nl fr) ∧ SqL K H c (nl kp) ∧ fr.length ≤ kp.length ∧ fr.length ≤ 8 ∧ NewL H (VM.chosen b fr kp) Q
theorem scChosen : FnScope ["bits", "fresh", "kept", "lane"] ["bits", "fresh", "kept"] (defScope sChosen) := ⟨rfl, rfl, rfl, by decide +kernel, rfl, by decide +kernel, by decide +kernel⟩
theorem ok_chosen {f : Addr} {fd : FuncData} (F : Fun K "chosen_lanes" "chosen_lanes" sChosen f fd) (T : Txt0 mg) : FnOk P w K mg base CX0 1 f fd ["bits", "fresh", "kept"] (spChosen K) := by
  refine F.ok scChosen (fun vs H Q E h => ?_) (fun cdv A outer s H vs Q E hr h => ?_)
  · obtain ⟨b, a, c, fr, kp, rfl, _⟩ := h
    rfl
  · obtain ⟨b, a, c', fr, kp, rfl, hS, hC, hle, h8, k⟩ := h
    refine ⟨_, pss_one (ps_ret (pe_lc (own := [("lane", 3)]) (g := gName 3) (tt := tYes) rfl scChosen.nd (pi_range1 rfl T.range (pa_cons (pe_callB call_len_seq (by rfl) T.len PySem.boot_len (pa_cons (pv 1) pa_nil)) pa_nil))
      (blkOk_by (N := ["bits", "fresh", "kept", "lane"]) (sc := defScope sChosen) (by decide +kernel)) (fun _ _ _ _ _ => pg_name (i := 3) scChosen.nd rfl (Or.inl rfl)) (fun _ _ _ _ _ => pts_nil)
      (fun _ _ _ _ _ => pe_ifExp (pt_cmpR n_eq (pe_op n_and (pe_op n_shr (pv 0) (pv 3)) pe_int) pe_int (nomark _)) (pe_ix (ix_listK (K := K)) (pv 1) (pv 3) (fun _ _ => rfl)) (pe_ix (ix_listK (K := K)) (pv 2) (pv 3) (fun _ _ => rfl))))), ?_⟩
    refine ⟨_, rfl, a, _, rfl, .inl hS, ((nl fr).length : Int), rfl, ?_, ?_, fun D hD => ?_⟩
    · omega
    · rw [nl_length]
      omega
    · refine lc_range (lo := 0) (fun i H' => Same H H' ∧ H' D = some (.lst (nl ((VM.chosen b fr kp).take i)))) ⟨same_new hD, upd_same⟩ ?_ ?_
      · rintro i H' hi ⟨s5, hc⟩
        have hi : i < fr.length := by
          rw [nl_length] at hi
          omega
        rw [show (0 : Int) + (i : Int) = (i : Int) from by omega]
        have e1 : fr[i]? = some (fr.getD i 0) := by
          rw [List.getD_eq_getElem?_getD, List.getElem?_eq_getElem hi]
          rfl
        have e2 : kp[i]? = some (kp.getD i 0) := by
          rw [List.getD_eq_getElem?_getD, List.getElem?_eq_getElem (by omega)]
          rfl
        have e3 : (VM.chosen b fr kp)[i]? = some (if b / 2 ^ i &&& 1 = 1 then fr.getD i 0 else kp.getD i 0) := by
          unfold VM.chosen
          rw [List.getElem?_map, List.getElem?_range hi]
          rfl
        have hz : (nl ((VM.chosen b fr kp).take i)).length < sizeLine := by
          rw [nl_length, List.length_take]
          show _ < 16777216
          omega
        refine ⟨rfl, _, rfl, _, rfl, b, i, rfl, rfl, _, 1, rfl, rfl, _, 1, rfl, rfl, _, rfl, ?_⟩
        by_cases c : b / 2 ^ i &&& 1 = 1
        · refine if_true_of (decide_eq_true c) ?_
          rw [if_pos c] at e3
          exact ⟨_, rfl, _, rfl, a, _, _, _, rfl, rfl, s5.seq hS, at_nl e1, _, hc, hz, same_over s5 hD, upd_app (VM.take_more e3).symm⟩
        · refine if_false_of (decide_eq_false c) ?_
          rw [if_neg c] at e3
          exact ⟨_, rfl, _, rfl, c', _, _, _, rfl, rfl, s5.seq hC, at_nl e2, _, hc, hz, same_over s5 hD, upd_app (VM.take_more e3).symm⟩
      · rintro H' ⟨s5, hc⟩
        refine k H' D s5 hD ?_
        rw [hc, List.take_of_length_le (by rw [VM.chosen_length, nl_length]; omega)]
end
end VP

set_option Elab.async false
set_option linter.all false
set_option maxRecDepth 100000
set_option maxHeartbeats 4000000
namespace VP
open PySem PySem.Spec PyProof.Rows L2
section
variable {P : Program} {w : World} {K : PySem.W.Frag} {mg : Str → Option Value} {base : Heap}
abbrev sCombined : Stmt := top 52
/-! ### combined_lanes -/
/-- the constants of execution -/
structure TxtE (mg : Str → Option Value) : Prop where
  modulus : ∃ t, mg "MODULUS" = some (.int 18446744073709551616 t)
  low : ∃ t, mg "LOWER_HALF" = some (.int 4294967295 t)
def spCombined (K : PySem.W.Frag) : Sp := fun vs H Q _ => ∃ (k : Nat) (a b : Addr) (A B : List Nat), vs = [nv k, .ref a, .ref b] ∧ k < 8 ∧ SqL K H a (nl A) ∧ SqL K H b (nl B) ∧ A.length ≤ 8 ∧ (∀ x ∈ A, x < Sd62.W) ∧ (∀ x ∈ B, x < Sd62.W) ∧ NewL H ((A.zip B).map fun y => Sd62.lane k y.1 y.2) Q
theorem scCombined : FnScope ["kind", "left", "right", "x", "y"] ["kind", "left", "right"] (defScope sCombined) := ⟨rfl, rfl, rfl, by decide +kernel, rfl, by decide +kernel, by decide +kernel⟩
theorem ok_combined {f : Addr} {fd : FuncData} (F : Fun K "combined_lanes" "combined_lanes" sCombined f fd) (T : Txt0 mg) (TE : TxtE mg) : FnOk P w K mg base CX0 1 f fd ["kind", "left", "right"] (spCombined K) := by
  obtain ⟨t1, e1⟩ := TE.modulus
  obtain ⟨t2, e2⟩ := TE.low
  refine F.ok scCombined (fun vs H Q E h => ?_) (fun cdv A outer s H vs Q E hr h => ?_)
  · obtain ⟨k, a, b, A, B, rfl, _⟩ := h
    rfl
  · obtain ⟨kd, a, b, la, lb, rfl, hk, hA, hB, h8, bA, bB, k⟩ := h
    refine ⟨_, (pss_cons (ps_if (pt_cmpR n_eq (pv 0) pe_int (nomark _)) (pss_one (ps_ret (pe_lc (own := [("x", 3), ("y", 4)]) (g := gTup K 2 (gCons (gName 3) (gCons (gName 4) gNil))) (tt := tYes) rfl scCombined.nd (pi_zip (by rfl) T.zip (pa_cons (pv 1) (pa_cons (pv 2) pa_nil)))
          (blkOk_by (N := ["kind", "left", "right", "x", "y"]) (sc := defScope sCombined) (by decide +kernel)) (fun _ _ _ _ _ => (pg_tup rfl (pgs_cons (pg_name (i := 3) scCombined.nd rfl (Or.inl rfl)) (pgs_cons (pg_name (i := 4) scCombined.nd rfl (Or.inl rfl)) pgs_nil)))) (fun _ _ _ _ _ => pts_nil)
          (fun _ _ _ _ _ => (pe_op n_mod (pe_op n_add (pv 3) (pv 4)) (pe_glob (v := .int 18446744073709551616) rfl e1 ⟨_, rfl⟩)))))) pss_nil)
      (pss_cons (ps_if (pt_cmpR n_eq (pv 0) pe_int (nomark _)) (pss_one (ps_ret (pe_lc (own := [("x", 3), ("y", 4)]) (g := gTup K 2 (gCons (gName 3) (gCons (gName 4) gNil))) (tt := tYes) rfl scCombined.nd (pi_zip (by rfl) T.zip (pa_cons (pv 1) (pa_cons (pv 2) pa_nil)))
          (blkOk_by (N := ["kind", "left", "right", "x", "y"]) (sc := defScope sCombined) (by decide +kernel)) (fun _ _ _ _ _ => (pg_tup rfl (pgs_cons (pg_name (i := 3) scCombined.nd rfl (Or.inl rfl)) (pgs_cons (pg_name (i := 4) scCombined.nd rfl (Or.inl rfl)) pgs_nil)))) (fun _ _ _ _ _ => pts_nil)
          (fun _ _ _ _ _ => (pe_op op_mod (pe_op op_sub (pv 3) (pv 4)) (pe_glob (v := .int 18446744073709551616) rfl e1 ⟨_, rfl⟩)))))) pss_nil)
      (pss_cons (ps_if (pt_cmpR n_eq (pv 0) pe_int (nomark _)) (pss_one (ps_ret (pe_lc (own := [("x", 3), ("y", 4)]) (g := gTup K 2 (gCons (gName 3) (gCons (gName 4) gNil))) (tt := tYes) rfl scCombined.nd (pi_zip (by rfl) T.zip (pa_cons (pv 1) (pa_cons (pv 2) pa_nil)))
          (blkOk_by (N := ["kind", "left", "right", "x", "y"]) (sc := defScope sCombined) (by decide +kernel)) (fun _ _ _ _ _ => (pg_tup rfl (pgs_cons (pg_name (i := 3) scCombined.nd rfl (Or.inl rfl)) (pgs_cons (pg_name (i := 4) scCombined.nd rfl (Or.inl rfl)) pgs_nil)))) (fun _ _ _ _ _ => pts_nil)
          (fun _ _ _ _ _ => (pe_op n_mul (pe_op n_and (pv 3) (pe_glob (v := .int 4294967295) rfl e2 ⟨_, rfl⟩)) (pe_op n_and (pv 4) (pe_glob (v := .int 4294967295) rfl e2 ⟨_, rfl⟩))))))) pss_nil)
      (pss_cons (ps_if (pt_cmpR n_eq (pv 0) pe_int (nomark _)) (pss_one (ps_ret (pe_lc (own := [("x", 3), ("y", 4)]) (g := gTup K 2 (gCons (gName 3) (gCons (gName 4) gNil))) (tt := tYes) rfl scCombined.nd (pi_zip (by rfl) T.zip (pa_cons (pv 1) (pa_cons (pv 2) pa_nil)))
          (blkOk_by (N := ["kind", "left", "right", "x", "y"]) (sc := defScope sCombined) (by decide +kernel)) (fun _ _ _ _ _ => (pg_tup rfl (pgs_cons (pg_name (i := 3) scCombined.nd rfl (Or.inl rfl)) (pgs_cons (pg_name (i := 4) scCombined.nd rfl (Or.inl rfl)) pgs_nil)))) (fun _ _ _ _ _ => pts_nil)
          (fun _ _ _ _ _ => (pe_op n_xor (pv 3) (pv 4)))))) pss_nil)
      (pss_cons (ps_if (pt_cmpR n_eq (pv 0) pe_int (nomark _)) (pss_one (ps_ret (pe_lc (own := [("x", 3), ("y", 4)]) (g := gTup K 2 (gCons (gName 3) (gCons (gName 4) gNil))) (tt := tYes) rfl scCombined.nd (pi_zip (by rfl) T.zip (pa_cons (pv 1) (pa_cons (pv 2) pa_nil)))
          (blkOk_by (N := ["kind", "left", "right", "x", "y"]) (sc := defScope sCombined) (by decide +kernel)) (fun _ _ _ _ _ => (pg_tup rfl (pgs_cons (pg_name (i := 3) scCombined.nd rfl (Or.inl rfl)) (pgs_cons (pg_name (i := 4) scCombined.nd rfl (Or.inl rfl)) pgs_nil)))) (fun _ _ _ _ _ => pts_nil)
          (fun _ _ _ _ _ => (pe_op n_and (pv 3) (pv 4)))))) pss_nil)
      (pss_cons (ps_if (pt_cmpR n_eq (pv 0) pe_int (nomark _)) (pss_one (ps_ret (pe_lc (own := [("x", 3), ("y", 4)]) (g := gTup K 2 (gCons (gName 3) (gCons (gName 4) gNil))) (tt := tYes) rfl scCombined.nd (pi_zip (by rfl) T.zip (pa_cons (pv 1) (pa_cons (pv 2) pa_nil)))
          (blkOk_by (N := ["kind", "left", "right", "x", "y"]) (sc := defScope sCombined) (by decide +kernel)) (fun _ _ _ _ _ => (pg_tup rfl (pgs_cons (pg_name (i := 3) scCombined.nd rfl (Or.inl rfl)) (pgs_cons (pg_name (i := 4) scCombined.nd rfl (Or.inl rfl)) pgs_nil)))) (fun _ _ _ _ _ => pts_nil)
          (fun _ _ _ _ _ => (pe_op n_or (pv 3) (pv 4)))))) pss_nil)
      (pss_cons (ps_if (pt_cmpR n_eq (pv 0) pe_int (nomark _)) (pss_one (ps_ret (pe_lc (own := [("x", 3), ("y", 4)]) (g := gTup K 2 (gCons (gName 3) (gCons (gName 4) gNil))) (tt := tYes) rfl scCombined.nd (pi_zip (by rfl) T.zip (pa_cons (pv 1) (pa_cons (pv 2) pa_nil)))
          (blkOk_by (N := ["kind", "left", "right", "x", "y"]) (sc := defScope sCombined) (by decide +kernel)) (fun _ _ _ _ _ => (pg_tup rfl (pgs_cons (pg_name (i := 3) scCombined.nd rfl (Or.inl rfl)) (pgs_cons (pg_name (i := 4) scCombined.nd rfl (Or.inl rfl)) pgs_nil)))) (fun _ _ _ _ _ => pts_nil)
          (fun _ _ _ _ _ => (pe_callB (call_min2 rfl) (by rfl) T.min (by decide +kernel) (pa_cons (pv 3) (pa_cons (pv 4) pa_nil))))))) pss_nil)
      (pss_one (ps_ret (pe_lc (own := [("x", 3), ("y", 4)]) (g := gTup K 2 (gCons (gName 3) (gCons (gName 4) gNil))) (tt := tYes) rfl scCombined.nd (pi_zip (by rfl) T.zip (pa_cons (pv 1) (pa_cons (pv 2) pa_nil)))
          (blkOk_by (N := ["kind", "left", "right", "x", "y"]) (sc := defScope sCombined) (by decide +kernel)) (fun _ _ _ _ _ => (pg_tup rfl (pgs_cons (pg_name (i := 3) scCombined.nd rfl (Or.inl rfl)) (pgs_cons (pg_name (i := 4) scCombined.nd rfl (Or.inl rfl)) pgs_nil)))) (fun _ _ _ _ _ => pts_nil)
          (fun _ _ _ _ _ => (pe_callB (call_max2 rfl) (by rfl) T.max (by decide +kernel) (pa_cons (pv 3) (pa_cons (pv 4) pa_nil)))))))))))))), ?_⟩
    have h1000 : la.length ≤ 1000 := Nat.le_trans h8 (by decide)
    have hw : ∀ (σ : L2.St) (x y : V), wipe (((wipe σ [3, 4]).set 3 (some x)).set 4 (some y)) [3, 4] = wipe σ [3, 4] := fun σ x y => by
      simp only [wipe]
      simp [List.set_comm _ _ (show (3 : Nat) ≠ 4 by decide)]
    have go : ∀ (c : Nat), NewL H ((la.zip lb).map fun y => Sd62.lane kd y.1 y.2) Q → kd = c → NewL H ((la.zip lb).map fun y => Sd62.lane c y.1 y.2) Q := fun c h e => by
      subst e
      exact h
    refine ⟨_, rfl, _, 0, rfl, rfl, _, rfl, ite2 (fun c => ?_) (fun c0 => ?_)⟩
    · refine ⟨_, rfl, _, rfl, a, b, _, _, rfl, hA, hB, fun D hD => ?_⟩
      refine lc_zip2 (K := K) (fun x y => Sd62.lane 0 x y) hA hB (Same.refl H) hD h1000 (fun x y H2 Q' hx hy q => ?_) (hw _) (go 0 k (of_decide_eq_true c))
      refine ⟨_, rfl, _, rfl, _, _, rfl, rfl, _, 18446744073709551616, rfl, rfl, (by show 0 < 18446744073709551616; decide), ?_⟩
      exact cast (congrArg (fun z => Q' (nv z) H2) (VM.ln0 x y)) q
    refine ⟨_, rfl, _, 1, rfl, rfl, _, rfl, ite2 (fun c => ?_) (fun c1 => ?_)⟩
    · refine ⟨_, rfl, _, rfl, a, b, _, _, rfl, hA, hB, fun D hD => ?_⟩
      refine lc_zip2 (K := K) (fun x y => Sd62.lane 1 x y) hA hB (Same.refl H) hD h1000 (fun x y H2 Q' hx hy q => ?_) (hw _) (go 1 k (of_decide_eq_true c))
      refine ⟨_, rfl, _, rfl, _, _, rfl, rfl, _, _, rfl, rfl, (by show (0 : Int) < 18446744073709551616; decide), ?_⟩
      refine cast (congrArg (fun z => Q' (.int z) H2) ?_) q
      rw [VM.ln1, VM.sub_mod x y (bB y hy)]
    refine ⟨_, rfl, _, 2, rfl, rfl, _, rfl, ite2 (fun c => ?_) (fun c2 => ?_)⟩
    · refine ⟨_, rfl, _, rfl, a, b, _, _, rfl, hA, hB, fun D hD => ?_⟩
      refine lc_zip2 (K := K) (fun x y => Sd62.lane 2 x y) hA hB (Same.refl H) hD h1000 (fun x y H2 Q' hx hy q => ?_) (hw _) (go 2 k (of_decide_eq_true c))
      refine ⟨_, rfl, x, 4294967295, rfl, rfl, _, rfl, y, 4294967295, rfl, rfl, _, _, rfl, rfl, .inl ?_, ?_⟩
      · exact Nat.lt_of_le_of_lt Nat.and_le_right (by decide)
      · refine cast (congrArg (fun z => Q' (nv z) H2) ?_) q
        rw [VM.ln2, ← VM.low32, ← VM.low32]
    refine ⟨_, rfl, _, 3, rfl, rfl, _, rfl, ite2 (fun c => ?_) (fun c3 => ?_)⟩
    · refine ⟨_, rfl, _, rfl, a, b, _, _, rfl, hA, hB, fun D hD => ?_⟩
      refine lc_zip2 (K := K) (fun x y => Sd62.lane 3 x y) hA hB (Same.refl H) hD h1000 (fun x y H2 Q' hx hy q => ?_) (hw _) (go 3 k (of_decide_eq_true c))
      refine ⟨_, rfl, _, rfl, _, _, rfl, rfl, ?_⟩
      exact cast (congrArg (fun z => Q' (nv z) H2) (VM.ln3 x y)) q
    refine ⟨_, rfl, _, 4, rfl, rfl, _, rfl, ite2 (fun c => ?_) (fun c4 => ?_)⟩
    · refine ⟨_, rfl, _, rfl, a, b, _, _, rfl, hA, hB, fun D hD => ?_⟩
      refine lc_zip2 (K := K) (fun x y => Sd62.lane 4 x y) hA hB (Same.refl H) hD h1000 (fun x y H2 Q' hx hy q => ?_) (hw _) (go 4 k (of_decide_eq_true c))
      refine ⟨_, rfl, _, rfl, _, _, rfl, rfl, ?_⟩
      exact cast (congrArg (fun z => Q' (nv z) H2) (VM.ln4 x y)) q
    refine ⟨_, rfl, _, 5, rfl, rfl, _, rfl, ite2 (fun c => ?_) (fun c5 => ?_)⟩
    · refine ⟨_, rfl, _, rfl, a, b, _, _, rfl, hA, hB, fun D hD => ?_⟩
      refine lc_zip2 (K := K) (fun x y => Sd62.lane 5 x y) hA hB (Same.refl H) hD h1000 (fun x y H2 Q' hx hy q => ?_) (hw _) (go 5 k (of_decide_eq_true c))
      refine ⟨_, rfl, _, rfl, _, _, rfl, rfl, ?_⟩
      exact cast (congrArg (fun z => Q' (nv z) H2) (VM.ln5 x y)) q
    refine ⟨_, rfl, _, 6, rfl, rfl, _, rfl, ite2 (fun c => ?_) (fun c6 => ?_)⟩
    · refine ⟨_, rfl, _, rfl, a, b, _, _, rfl, hA, hB, fun D hD => ?_⟩
      refine lc_zip2 (K := K) (fun x y => Sd62.lane 6 x y) hA hB (Same.refl H) hD h1000 (fun x y H2 Q' hx hy q => ?_) (hw _) (go 6 k (of_decide_eq_true c))
      refine ⟨_, rfl, _, rfl, _, _, rfl, ?_⟩
      refine cast (congrArg (fun z => Q' (.int z) H2) ?_) q
      rw [VM.ln6]
      split <;> omega
    · refine ⟨_, rfl, _, rfl, a, b, _, _, rfl, hA, hB, fun D hD => ?_⟩
      refine lc_zip2 (K := K) (fun x y => Sd62.lane 7 x y) hA hB (Same.refl H) hD h1000 (fun x y H2 Q' hx hy q => ?_) (hw _) (go 7 k (by
        have g0 := of_decide_eq_false (Bool.eq_false_iff.mpr c0)
        have g1 := of_decide_eq_false (Bool.eq_false_iff.mpr c1)
        have g2 := of_decide_eq_false (Bool.eq_false_iff.mpr c2)
        have g3 := of_decide_eq_false (Bool.eq_false_iff.mpr c3)
        have g4 := of_decide_eq_false (Bool.eq_false_iff.mpr c4)
        have g5 := of_decide_eq_false (Bool.eq_false_iff.mpr c5)
        have g6 := of_decide_eq_false (Bool.eq_false_iff.mpr c6)
        omega))
      refine ⟨_, rfl, _, rfl, _, _, rfl, ?_⟩
      refine cast (congrArg (fun z => Q' (.int z) H2) ?_) q
      rw [VM.ln7]
      split <;> omega
end
end VP

set_option Elab.async false
set_option linter.all false
set_option maxRecDepth 100000
set_option maxHeartbeats 4000000
namespace VP
open PySem PySem.Spec PyProof.Rows L2
/-! ### the state in the heap -/
theorem lk_here {k : Str} {v : V} {r : List (Str × V)} : List.lookup k ((k, v) :: r) = some v := by
  have e : (k == k) = true := beq_self_eq_true k
  simp only [List.lookup, e]
theorem lk_past {k g : Str} {v : V} {r : List (Str × V)} (h : (k == g) = false) : List.lookup k ((g, v) :: r) = List.lookup k r := by
  simp only [List.lookup, h]
theorem put_here {f : Str} {v x : V} {r : List (Str × V)} : putF f v ((f, x) :: r) = (f, v) :: r := if_pos rfl
theorem put_past {f g : Str} {v x : V} {r : List (Str × V)} (h : ¬ g = f) : putF f v ((g, x) :: r) = (g, x) :: putF f v r := if_neg h
def sF (a b c : V) : List (Str × V) := [("scalars", a), ("vectors", b), ("masks", c)]
theorem sF_s {a b c : V} : (sF a b c).lookup ("scalars" : Str) = some a := lk_here
theorem sF_v {a b c : V} : (sF a b c).lookup ("vectors" : Str) = some b := (lk_past (by decide +kernel)).trans lk_here
theorem sF_m {a b c : V} : (sF a b c).lookup ("masks" : Str) = some c := (lk_past (by decide +kernel)).trans ((lk_past (by decide +kernel)).trans lk_here)
theorem sF_ps {a b c y : V} : putF "scalars" y (sF a b c) = sF y b c := put_here
theorem sF_pm {a b c y : V} : putF "masks" y (sF a b c) = sF a b y := (put_past (by decide +kernel)).trans (congrArg _ ((put_past (by decide +kernel)).trans (congrArg _ put_here)))
structure Rg where
  a : Addr
  p1 : Addr
  p2 : Addr
  p3 : Addr
  vs : List Addr
def Rg.foot (r : Rg) : List Addr := r.a :: r.p1 :: r.p2 :: r.p3 :: r.vs
structure StAt (C : Addr) (H : Hp) (r : Rg) (s : Sd62.St) : Prop where
  obj : ∃ dx, H r.a = some (.ins C dx (sF (.ref r.p1) (.ref r.p2) (.ref r.p3)))
  m : H r.p1 = some (.lst (nl s.m))
  k : H r.p3 = some (.lst (nl s.k))
  v : H r.p2 = some (.lst (r.vs.map V.ref))
  at_ : ∀ (i : Nat) (c : Addr), r.vs[i]? = some c → ∃ l, s.v[i]? = some l ∧ H c = some (.lst (nl l))
  len : r.vs.length = 32
  nd : (r.p1 :: r.p2 :: r.p3 :: r.vs).Nodup
  wf : VM.Wf s
structure TxtS (K : PySem.W.Frag) (mg : Str → Option Value) (C : Addr) : Prop where
  cl : Cls K C
  nS : NoAttr K C "scalars"
  nV : NoAttr K C "vectors"
  nM : NoAttr K C "masks"
  gC : mg "State" = some (.ref C)
/-- what a change of the state at r leaves: the state s', all else as it was -/
def Mod (C : Addr) (H : Hp) (r : Rg) (s' : Sd62.St) (k : Hp → Prop) : Prop :=
  ∀ (H' : Hp) (r' : Rg), StAt C H' r' s' → r'.a = r.a → (∀ b ∈ r'.foot, b ∈ r.foot ∨ H b = none) → (∀ b o, H b = some o → b ∉ r.foot → H' b = some o) → k H'
section
variable {C : Addr} {H H' : Hp} {r : Rg} {s : Sd62.St}
theorem StAt.there (S : StAt C H r s) : ∀ b ∈ r.foot, ∃ o, H b = some o := by
  intro b hb
  unfold Rg.foot at hb
  simp only [List.mem_cons] at hb
  rcases hb with e | e | e | e | hb
  · obtain ⟨dx, h⟩ := S.obj
    exact ⟨_, by rw [e]; exact h⟩
  · exact ⟨_, by rw [e]; exact S.m⟩
  · exact ⟨_, by rw [e]; exact S.v⟩
  · exact ⟨_, by rw [e]; exact S.k⟩
  · obtain ⟨i, hi⟩ := List.mem_iff_getElem?.mp hb
    obtain ⟨l, _, h⟩ := S.at_ i b hi
    exact ⟨_, h⟩
theorem StAt.off (S : StAt C H r s) {b : Addr} (h : H b = none) : b ∉ r.foot := fun hb => by
  obtain ⟨o, e⟩ := S.there b hb
  rw [h] at e
  cases e
/-- what stands where the state does not is as it was: the state stands -/
theorem StAt.keep (S : StAt C H r s) (k : ∀ b ∈ r.foot, ∀ o, H b = some o → H' b = some o) : StAt C H' r s := by
  have f : ∀ b, b = r.a ∨ b = r.p1 ∨ b = r.p2 ∨ b = r.p3 ∨ b ∈ r.vs → b ∈ r.foot := fun b h => by
    unfold Rg.foot
    simp only [List.mem_cons]
    exact h
  refine ⟨?_, k _ (f _ (.inr (.inl rfl))) _ S.m, k _ (f _ (.inr (.inr (.inr (.inl rfl))))) _ S.k, k _ (f _ (.inr (.inr (.inl rfl)))) _ S.v, fun i c h => ?_, S.len, S.nd, S.wf⟩
  · obtain ⟨dx, h⟩ := S.obj
    exact ⟨dx, k _ (f _ (.inl rfl)) _ h⟩
  · obtain ⟨l, h1, h2⟩ := S.at_ i c h
    exact ⟨l, h1, k _ (f _ (.inr (.inr (.inr (.inr (List.mem_of_getElem? h)))))) _ h2⟩
theorem StAt.same (S : StAt C H r s) (e : Same H H') : StAt C H' r s := S.keep fun b _ o h => e b o h
theorem StAt.vec (S : StAt C H r s) {i : Nat} (hi : i < 32) : ∃ c, r.vs[i]? = some c ∧ H c = some (.lst (nl (s.V i))) := by
  have e : r.vs[i]? = some (r.vs[i]'(by rw [S.len]; exact hi)) := List.getElem?_eq_getElem _
  obtain ⟨l, h1, h2⟩ := S.at_ _ _ e
  refine ⟨_, e, ?_⟩
  rw [(S.wf.V hi).1] at h1
  rw [Option.some.inj h1]
  exact h2
theorem StAt.ap1 (S : StAt C H r s) : r.a ≠ r.p1 := by
  obtain ⟨dx, h⟩ := S.obj
  exact ne_of h S.m (by intro q; cases q)
theorem StAt.ap2 (S : StAt C H r s) : r.a ≠ r.p2 := by
  obtain ⟨dx, h⟩ := S.obj
  exact ne_of h S.v (by intro q; cases q)
theorem StAt.ap3 (S : StAt C H r s) : r.a ≠ r.p3 := by
  obtain ⟨dx, h⟩ := S.obj
  exact ne_of h S.k (by intro q; cases q)
theorem StAt.avs (S : StAt C H r s) : r.a ∉ r.vs := fun hb => by
  obtain ⟨dx, h⟩ := S.obj
  obtain ⟨i, hi⟩ := List.mem_iff_getElem?.mp hb
  obtain ⟨l, _, h2⟩ := S.at_ i _ hi
  rw [h] at h2
  cases h2
theorem StAt.nds (S : StAt C H r s) : r.p1 ≠ r.p2 ∧ r.p1 ≠ r.p3 ∧ r.p1 ∉ r.vs ∧ r.p2 ≠ r.p3 ∧ r.p2 ∉ r.vs ∧ r.p3 ∉ r.vs ∧ r.vs.Nodup := by
  have h := S.nd
  simp only [List.nodup_cons, List.mem_cons, not_or] at h
  obtain ⟨⟨h1, h2, h3⟩, ⟨h4, h5⟩, h6, h7⟩ := h
  exact ⟨h1, h2, h3, h4, h5, h6, h7⟩
/-- an M register is written -/
theorem StAt.setM (S : StAt C H r s) (i n : Nat) (hn : n < Sd62.W) : StAt C (upd H r.p1 (.lst (nl (s.m.set i n)))) r (s.setM i n) := by
  obtain ⟨n12, n13, n1v, n23, n2v, n3v, _⟩ := S.nds
  refine ⟨?_, upd_same, ?_, ?_, fun j c h => ?_, S.len, S.nd, S.wf.setM i n hn⟩
  · obtain ⟨dx, h⟩ := S.obj
    exact ⟨dx, by rw [upd_ne S.ap1]; exact h⟩
  · rw [upd_ne (Ne.symm n13)]
    exact S.k
  · rw [upd_ne (Ne.symm n12)]
    exact S.v
  · obtain ⟨l, h1, h2⟩ := S.at_ j c h
    refine ⟨l, h1, ?_⟩
    rw [upd_ne (fun e => n1v (by rw [← e]; exact List.mem_of_getElem? h))]
    exact h2
theorem StAt.setK (S : StAt C H r s) (i n : Nat) (hn : n < Sd62.W) : StAt C (upd H r.p3 (.lst (nl (s.k.set i n)))) r (s.setK i n) := by
  obtain ⟨n12, n13, n1v, n23, n2v, n3v, _⟩ := S.nds
  refine ⟨?_, ?_, upd_same, ?_, fun j c h => ?_, S.len, S.nd, S.wf.setK i n hn⟩
  · obtain ⟨dx, h⟩ := S.obj
    exact ⟨dx, by rw [upd_ne S.ap3]; exact h⟩
  · rw [upd_ne n13]
    exact S.m
  · rw [upd_ne n23]
    exact S.v
  · obtain ⟨l, h1, h2⟩ := S.at_ j c h
    refine ⟨l, h1, ?_⟩
    rw [upd_ne (fun e => n3v (by rw [← e]; exact List.mem_of_getElem? h))]
    exact h2
/-- a V register gets a new list at q -/
theorem StAt.setV (S : StAt C H r s) {q : Addr} {l : List Nat} (i : Nat) (hi : i < 32) (hq : H q = some (.lst (nl l))) (nq : q ∉ r.foot) (hl : l.length = 8) (hb : ∀ x ∈ l, x < Sd62.W) :
    StAt C (upd H r.p2 (.lst ((r.vs.set i q).map V.ref))) { r with vs := r.vs.set i q } { s with v := s.v.set i l } := by
  obtain ⟨n12, n13, n1v, n23, n2v, n3v, nv⟩ := S.nds
  unfold Rg.foot at nq
  simp only [List.mem_cons, not_or] at nq
  obtain ⟨q0, q1, q2, q3, qv⟩ := nq
  have mem : ∀ c, c ∈ r.vs.set i q → c = q ∨ c ∈ r.vs := fun c h => VM.mem_set' h
  refine ⟨?_, ?_, ?_, upd_same, fun j c h => ?_, ?_, ?_, S.wf.setV i l hl hb⟩
  · obtain ⟨dx, h⟩ := S.obj
    exact ⟨dx, by rw [upd_ne S.ap2]; exact h⟩
  · show upd H r.p2 _ r.p1 = _
    rw [upd_ne n12]
    exact S.m
  · show upd H r.p2 _ r.p3 = _
    rw [upd_ne (Ne.symm n23)]
    exact S.k
  · have h : (r.vs.set i q)[j]? = some c := h
    show ∃ l', (s.v.set i l)[j]? = some l' ∧ _
    by_cases e : j = i
    · subst e
      rw [List.getElem?_set_self (by rw [S.len]; exact hi)] at h
      have e := Option.some.inj h
      subst e
      refine ⟨l, ?_, ?_⟩
      · rw [List.getElem?_set_self (by rw [S.wf.v32]; exact hi)]
      · rw [upd_ne q2]
        exact hq
    · rw [List.getElem?_set_ne (fun z => e z.symm)] at h
      obtain ⟨l', h1, h2⟩ := S.at_ j c h
      refine ⟨l', ?_, ?_⟩
      · rw [List.getElem?_set_ne (fun z => e z.symm)]
        exact h1
      · rw [upd_ne (fun z => n2v (by rw [← z]; exact List.mem_of_getElem? h))]
        exact h2
  · show (r.vs.set i q).length = 32
    rw [List.length_set]
    exact S.len
  · show (r.p1 :: r.p2 :: r.p3 :: r.vs.set i q).Nodup
    simp only [List.nodup_cons, List.mem_cons, not_or]
    refine ⟨⟨n12, n13, fun z => ?_⟩, ⟨n23, fun z => ?_⟩, fun z => ?_, ?_⟩
    · rcases mem _ z with z | z
      · exact q1 z.symm
      · exact n1v z
    · rcases mem _ z with z | z
      · exact q2 z.symm
      · exact n2v z
    · rcases mem _ z with z | z
      · exact q3 z.symm
      · exact n3v z
    · refine List.pairwise_iff_getElem.mpr fun j k hj hk hjk hx => ?_
      have hjl : j < r.vs.length := by rw [List.length_set] at hj; exact hj
      have hkl : k < r.vs.length := by rw [List.length_set] at hk; exact hk
      have gj : (r.vs.set i q)[j]? = some ((r.vs.set i q)[j]) := List.getElem?_eq_getElem hj
      have gk : (r.vs.set i q)[k]? = some ((r.vs.set i q)[k]) := List.getElem?_eq_getElem hk
      rw [← hx, List.getElem?_set] at gk
      rw [List.getElem?_set] at gj
      generalize (r.vs.set i q)[j] = z at gj gk
      by_cases ej : i = j
      · rw [if_pos ej, if_pos (by omega)] at gj
        rw [if_neg (by omega), ← gj] at gk
        exact qv (List.mem_of_getElem? gk)
      · rw [if_neg ej] at gj
        by_cases ek : i = k
        · rw [if_pos ek, if_pos (by omega)] at gk
          rw [← gk] at gj
          exact qv (List.mem_of_getElem? gj)
        · rw [if_neg ek] at gk
          exact absurd (nd_ix nv gj gk) (by omega)
end
/-- an instruction in the heap -/
def InsAt (H : Hp) (c : Addr) (x : Sd62.Step) : Prop := H c = some (.lst (nl (VM.ins x)))
theorem in0 (x : Sd62.Step) : atI (nl (VM.ins x)) 0 = some (nv x.kind) := at_nl (l := VM.ins x) (i := 0) rfl
theorem in1 (x : Sd62.Step) : atI (nl (VM.ins x)) 1 = some (nv x.width) := at_nl (l := VM.ins x) (i := 1) rfl
theorem in2 (x : Sd62.Step) : atI (nl (VM.ins x)) 2 = some (nv x.mask) := at_nl (l := VM.ins x) (i := 2) rfl
theorem in3 (x : Sd62.Step) : atI (nl (VM.ins x)) 3 = some (nv x.d) := at_nl (l := VM.ins x) (i := 3) rfl
theorem in4 (x : Sd62.Step) : atI (nl (VM.ins x)) 4 = some (nv x.a) := at_nl (l := VM.ins x) (i := 4) rfl
theorem in5 (x : Sd62.Step) : atI (nl (VM.ins x)) 5 = some (nv x.b) := at_nl (l := VM.ins x) (i := 5) rfl
theorem pe_fldK {X : Cx} {K : PySem.W.Frag} {e : Expr} {ta : TE} {f : Str} {pos : Pos} (he : PE X e ta) (hK : X.K = K := by rfl) (hb : attributeBase e f X.env (eval e X.env) = eval e X.env := by rfl) : PE X (.Attribute e f pos) (tFld K ta f) := by
  subst hK
  exact pe_fld he hb
/-- a comprehension over range(n) -/
theorem lc_rng {D : Addr} {n : Nat} {te : TE} {σ : L2.St} {H H1 : Hp} {Q : VK} {j : Nat} (f : Nat → Nat) (s1 : Same H H1) (hD : H1 D = none) (hn : n ≤ 1000)
    (hte : ∀ (i : Nat) (H2 : Hp) (Q' : VK), i < n → Same H H2 → (∀ H3, Same H2 H3 → Q' (nv (f i)) H3) → te ((wipe σ [j]).set j (some (nv i))) H2 Q')
    (hw : ∀ x : V, wipe ((wipe σ [j]).set j (some x)) [j] = wipe σ [j]) (k : NewL H ((List.range n).map f) Q) :
    ∃ W : Nat → Nat → Hp → Prop, (∃ m, W 0 m (upd H1 D (.lst []))) ∧ ∀ i m H, W i m H →
      ((Itr 0 n).stop i H ∧ Q (.ref D) H) ∨ ((Itr 0 n).go i H ∧ ∃ Nx : Hp → Prop, (∀ H', Nx H' → ∃ m', m' < m ∧ W (i + 1) m' H') ∧ ∀ x H', (Itr 0 n).yld i H x H' → gName j x (wipe σ [j]) H' fun σ2 H2 => wipe σ2 [j] = wipe σ [j] ∧ tYes σ2 H2 fun b H3 =>
        if b = true then te σ2 H3 fun y H4 => ∃ acc, H4 D = some (.lst acc) ∧ acc.length < sizeLine ∧ Nx (upd H4 D (.lst (acc ++ [y]))) else Nx H3) := by
  have hHD : H D = none := Same.free s1 hD
  refine lc_range (lo := 0) (fun i H' => Same H H' ∧ H' D = some (.lst (nl (((List.range n).map f).take i)))) ⟨same_lay s1 hD, upd_same⟩ ?_ ?_
  · rintro i H' hi ⟨s5, hc⟩
    rw [show (0 : Int) + (i : Int) = (i : Int) from by omega]
    refine ⟨hw _, yes_ok ?_⟩
    refine hte i _ _ hi s5 fun H3 s6 => ⟨_, s6 _ _ hc, ?_, same_over (s5.trans s6) hHD, upd_app (VM.take_more ?_).symm⟩
    · rw [nl_length, List.length_take, List.length_map, List.length_range]
      show _ < 16777216
      omega
    · rw [List.getElem?_map, List.getElem?_range hi]
      rfl
  · rintro H2 ⟨s2, hc⟩
    refine k H2 D s2 hHD ?_
    rw [hc, List.take_of_length_le (by rw [List.length_map, List.length_range]; exact Nat.le_refl _)]
/-- a comprehension over a list of whole numbers -/
theorem lc_lst {K : PySem.W.Frag} {a D : Addr} {l : List Nat} {te : TE} {σ : L2.St} {H H1 : Hp} {Q : VK} {j : Nat} (f : Nat → Nat) (hA : SqL K H a (nl l)) (s1 : Same H H1) (hD : H1 D = none) (hn : l.length ≤ 1000)
    (hte : ∀ (x : Nat) (H2 : Hp) (Q' : VK), x ∈ l → Same H H2 → (∀ H3, Same H2 H3 → Q' (nv (f x)) H3) → te ((wipe σ [j]).set j (some (nv x))) H2 Q')
    (hw : ∀ x : V, wipe ((wipe σ [j]).set j (some x)) [j] = wipe σ [j]) (k : NewL H (l.map f) Q) :
    ∃ W : Nat → Nat → Hp → Prop, (∃ m, W 0 m (upd H1 D (.lst []))) ∧ ∀ i m H, W i m H →
      ((Itl K a).stop i H ∧ Q (.ref D) H) ∨ ((Itl K a).go i H ∧ ∃ Nx : Hp → Prop, (∀ H', Nx H' → ∃ m', m' < m ∧ W (i + 1) m' H') ∧ ∀ x H', (Itl K a).yld i H x H' → gName j x (wipe σ [j]) H' fun σ2 H2 => wipe σ2 [j] = wipe σ [j] ∧ tYes σ2 H2 fun b H3 =>
        if b = true then te σ2 H3 fun y H4 => ∃ acc, H4 D = some (.lst acc) ∧ acc.length < sizeLine ∧ Nx (upd H4 D (.lst (acc ++ [y]))) else Nx H3) := by
  have hHD : H D = none := Same.free s1 hD
  refine lc_list (K := K) (a := a) (xs := nl l) (fun i H' => Same H H' ∧ H' D = some (.lst (nl ((l.map f).take i)))) ⟨same_lay s1 hD, upd_same⟩ (fun i H' _ h => h.1.seq hA) ?_ ?_
  · rintro i y H' hi ⟨s5, hc⟩
    obtain ⟨x, hx, rfl⟩ := of_nl hi
    refine ⟨hw _, yes_ok ?_⟩
    refine hte x _ _ (List.mem_of_getElem? hx) s5 fun H3 s6 => ⟨_, s6 _ _ hc, ?_, same_over (s5.trans s6) hHD, upd_app (VM.take_more ?_).symm⟩
    · rw [nl_length, List.length_take, List.length_map]
      show _ < 16777216
      omega
    · rw [List.getElem?_map, hx]
      rfl
  · rintro H2 ⟨s2, hc⟩
    refine k H2 D s2 hHD ?_
    rw [hc, nl_length, List.take_of_length_le (by rw [List.length_map]; exact Nat.le_refl _)]
end VP

set_option Elab.async false
set_option linter.all false
set_option maxRecDepth 100000
set_option maxHeartbeats 4000000
namespace VP
open PySem PySem.Spec PyProof.Rows L2
section
variable {P : Program} {w : World} {K : PySem.W.Frag} {mg : Str → Option Value} {base : Heap}
abbrev sShifted : Stmt := top 53
abbrev sLess : Stmt := top 56
/-! ### shifted_lanes -/
def spShifted (K : PySem.W.Frag) : Sp := fun vs H Q _ => ∃ (k d : Nat) (a : Addr) (A : List Nat), vs = [nv k, .ref a, nv d] ∧ (k = 8 ∨ k = 9 ∨ k = 10) ∧ d < 64 ∧ SqL K H a (nl A) ∧ A.length ≤ 8 ∧ (∀ x ∈ A, x < Sd62.W) ∧ NewL H (A.map fun y => Sd62.lane k y d) Q
theorem scShifted : FnScope ["kind", "lanes", "distance", "x"] ["kind", "lanes", "distance"] (defScope sShifted) := ⟨rfl, rfl, rfl, by decide +kernel, rfl, by decide +kernel, by decide +kernel⟩
theorem ok_shifted {f : Addr} {fd : FuncData} (F : Fun K "shifted_lanes" "shifted_lanes" sShifted f fd) (TE : TxtE mg) : FnOk P w K mg base CX0 1 f fd ["kind", "lanes", "distance"] (spShifted K) := by
  obtain ⟨t1, e1⟩ := TE.modulus
  refine F.ok scShifted (fun vs H Q E h => ?_) (fun cdv A outer s H vs Q E hr h => ?_)
  · obtain ⟨k, d, a, A, rfl, _⟩ := h
    rfl
  · obtain ⟨kd, d, a, la, rfl, hk, hd, hA, h8, bA, k⟩ := h
    refine ⟨_, (pss_cons (ps_if (pt_cmpR n_eq (pv 0) pe_int (nomark _)) (pss_one (ps_ret (pe_lc (own := [("x", 3)]) (g := gName 3) (tt := tYes) rfl scShifted.nd (pi_list (pv 1))
          (blkOk_by (N := ["kind", "lanes", "distance", "x"]) (sc := defScope sShifted) (by decide +kernel)) (fun _ _ _ _ _ => (pg_name (i := 3) scShifted.nd rfl (Or.inl rfl))) (fun _ _ _ _ _ => pts_nil)
          (fun _ _ _ _ _ => (pe_op n_mod (pe_op n_shl (pv 3) (pv 2)) (pe_glob (v := .int 18446744073709551616) rfl e1 ⟨_, rfl⟩)))))) pss_nil)
      (pss_cons (ps_if (pt_cmpR n_eq (pv 0) pe_int (nomark _)) (pss_one (ps_ret (pe_lc (own := [("x", 3)]) (g := gName 3) (tt := tYes) rfl scShifted.nd (pi_list (pv 1))
          (blkOk_by (N := ["kind", "lanes", "distance", "x"]) (sc := defScope sShifted) (by decide +kernel)) (fun _ _ _ _ _ => (pg_name (i := 3) scShifted.nd rfl (Or.inl rfl))) (fun _ _ _ _ _ => pts_nil)
          (fun _ _ _ _ _ => (pe_op n_shr (pv 3) (pv 2)))))) pss_nil)
      (pss_one (ps_ret (pe_lc (own := [("x", 3)]) (g := gName 3) (tt := tYes) rfl scShifted.nd (pi_list (pv 1))
          (blkOk_by (N := ["kind", "lanes", "distance", "x"]) (sc := defScope sShifted) (by decide +kernel)) (fun _ _ _ _ _ => (pg_name (i := 3) scShifted.nd rfl (Or.inl rfl))) (fun _ _ _ _ _ => pts_nil)
          (fun _ _ _ _ _ => (pe_op n_mod (pe_op n_or (pe_op n_shl (pv 3) (pv 2)) (pe_op n_shr (pv 3) (pe_op n_sub pe_int (pv 2)))) (pe_glob (v := .int 18446744073709551616) rfl e1 ⟨_, rfl⟩)))))))), ?_⟩
    have h1000 : la.length ≤ 1000 := Nat.le_trans h8 (by decide)
    have go : ∀ (c : Nat), NewL H (la.map fun y => Sd62.lane kd y d) Q → kd = c → NewL H (la.map fun y => Sd62.lane c y d) Q := fun c h e => by
      subst e
      exact h
    refine ⟨_, rfl, _, 8, rfl, rfl, _, rfl, ite2 (fun c => ?_) (fun c0 => ?_)⟩
    · refine ⟨_, rfl, a, rfl, ⟨_, hA⟩, fun D hD => ?_⟩
      refine lc_lst (K := K) (fun x => Sd62.lane 8 x d) hA (Same.refl H) hD h1000 (fun x H2 Q' hx _ q => ?_) (fun x => rfl) (go 8 k (of_decide_eq_true c))
      refine ⟨_, rfl, _, rfl, x, d, rfl, rfl, ⟨bA x hx, by omega⟩, _, 18446744073709551616, rfl, rfl, (by show 0 < 18446744073709551616; decide), ?_⟩
      exact cast (congrArg (fun z => Q' (nv z) H2) (VM.ln8 x d)) (q H2 (Same.refl _))
    refine ⟨_, rfl, _, 9, rfl, rfl, _, rfl, ite2 (fun c => ?_) (fun c1 => ?_)⟩
    · refine ⟨_, rfl, a, rfl, ⟨_, hA⟩, fun D hD => ?_⟩
      refine lc_lst (K := K) (fun x => Sd62.lane 9 x d) hA (Same.refl H) hD h1000 (fun x H2 Q' hx _ q => ?_) (fun x => rfl) (go 9 k (of_decide_eq_true c))
      refine ⟨_, rfl, _, rfl, x, d, rfl, rfl, ?_⟩
      exact cast (congrArg (fun z => Q' (nv z) H2) (VM.ln9 x d)) (q H2 (Same.refl _))
    · have g0 := of_decide_eq_false (Bool.eq_false_iff.mpr c0)
      have g1 := of_decide_eq_false (Bool.eq_false_iff.mpr c1)
      refine ⟨_, rfl, a, rfl, ⟨_, hA⟩, fun D hD => ?_⟩
      refine lc_lst (K := K) (fun x => Sd62.lane 10 x d) hA (Same.refl H) hD h1000 (fun x H2 Q' hx _ q => ?_) (fun x => rfl) (go 10 k (by omega))
      refine ⟨_, rfl, _, rfl, x, d, rfl, rfl, ⟨bA x hx, by omega⟩, _, rfl, _, rfl, 64, d, rfl, rfl, by omega, x, _, rfl, rfl, _, _, rfl, rfl, _, 18446744073709551616, rfl, rfl, (by show 0 < 18446744073709551616; decide), ?_⟩
      refine cast (congrArg (fun z => Q' (nv z) H2) ?_) (q H2 (Same.refl _))
      show Sd62.lane 10 x d = ((x * 2 ^ d) ||| (x / 2 ^ (64 - d))) % Sd62.W
      rw [VM.ln10, VM.rot x d (bA x hx) hd]
/-! ### less_bits -/
def spLess (K : PySem.W.Frag) : Sp := fun vs H Q _ => ∃ (a b : Addr) (A B : List Nat), vs = [.ref a, .ref b] ∧ SqL K H a (nl A) ∧ SqL K H b (nl B) ∧ A.length = B.length ∧ A.length ≤ 8 ∧ Q (nv (Sd62.bits ((A.zip B).map fun y => decide (y.1 < y.2)))) H
theorem scLess : FnScope ["left", "right", "bits", "lane"] ["left", "right"] (defScope sLess) := ⟨rfl, rfl, rfl, by decide +kernel, rfl, by decide +kernel, by decide +kernel⟩
theorem ok_less {f : Addr} {fd : FuncData} (F : Fun K "less_bits" "less_bits" sLess f fd) (T : Txt0 mg) : FnOk P w K mg base CX0 1 f fd ["left", "right"] (spLess K) := by
  refine F.ok scLess (fun vs H Q E h => ?_) (fun cdv A outer s H vs Q E hr h => ?_)
  · obtain ⟨a, b, A, B, rfl, _⟩ := h
    rfl
  · obtain ⟨a, b, la, lb, rfl, hA, hB, hl, h8, k⟩ := h
    refine ⟨_, (pss_cons (ps_set (i := 2) scLess.nd rfl (.inl rfl) pe_int)
      (pss_cons (ps_for PassesOwn.never rfl (pi_range1 rfl T.range (pa_cons (pe_callB call_len_seq (by rfl) T.len PySem.boot_len (pa_cons (pv 0) pa_nil)) pa_nil)) (pg_name (i := 3) scLess.nd rfl (Or.inl rfl)) (pss_one (ps_if (pt_cmpR n_lt (pe_ix (ix_listK (K := K)) (pv 0) (pv 3) (fun _ _ => rfl)) (pe_ix (ix_listK (K := K)) (pv 1) (pv 3) (fun _ _ => rfl)) (nomark _)) (pss_one (ps_set (i := 2) scLess.nd rfl (.inl rfl) (pe_op n_or (pv 2) (pe_op n_shl pe_int (pv 3))))) pss_nil)))
      (pss_one (ps_ret (pv 2))))), ?_⟩
    generalize hbs : (la.zip lb).map (fun y => decide (y.1 < y.2)) = bs at k
    have hbl : bs.length = la.length := by rw [← hbs, List.length_map, List.length_zip]; omega
    refine ⟨_, rfl, a, _, rfl, .inl hA, ((nl la).length : Int), rfl, by omega, by rw [nl_length]; omega, for_range (lo := 0) (n := ((nl la).length : Int).toNat) (fun i σ H' => ∃ v3 : Option V, σ = [some (.ref a), some (.ref b), some (nv (Sd62.bits (bs.take i))), v3] ∧ H' = H) ⟨none, rfl, rfl⟩ ?_ ?_⟩
    · rintro i σ H' hi ⟨v3, rfl, rfl⟩
      have hi : i < la.length := by
        rw [nl_length] at hi
        omega
      rw [show (0 : Int) + (i : Int) = (i : Int) from by omega]
      have ea : la[i]? = some (la[i]) := List.getElem?_eq_getElem hi
      have eb : lb[i]? = some (lb[i]'(by omega)) := List.getElem?_eq_getElem _
      generalize la[i] = x at ea
      generalize lb[i]'(by omega) = y at eb
      have e : bs[i]? = some (decide (x < y)) := by
        have ez : (la.zip lb)[i]? = some (x, y) := by
          rw [List.getElem?_zip_eq_some]
          exact ⟨ea, eb⟩
        rw [← hbs, List.getElem?_map, ez]
        rfl
      have hlt : Sd62.bits (bs.take i) < 2 ^ i := by
        have h := VM.bits_lt i (bs.take i) (by rw [List.length_take]; omega)
        exact h
      have em : bs.take (i + 1) = bs.take i ++ [decide (x < y)] := VM.take_more e
      have e2 : Sd62.bits (bs.take (i + 1)) = Sd62.bits (bs.take i) + Sd62.bit (decide (x < y)) (2 ^ i) := by
        rw [em, VM.bits_snoc, List.length_take, Nat.min_eq_left (by omega)]
      refine ⟨_, rfl, _, rfl, a, _, _, _, rfl, rfl, hA, at_nl ea, _, rfl, _, rfl, b, _, _, _, rfl, rfl, hB, at_nl eb, _, _, rfl, rfl, _, rfl, ite2 (fun c => ?_) (fun c => ?_)⟩
      · refine ⟨_, rfl, _, rfl, 1, i, rfl, rfl, ⟨by decide, by omega⟩, _, _, rfl, rfl, ?_⟩
        refine ⟨some (nv i), ?_, rfl⟩
        rw [e2, show decide (x < y) = true from c, ← show _ = _ + Sd62.bit true (2 ^ i) from VM.or_shift _ i hlt]
        rfl
      · refine ⟨some (nv i), ?_, rfl⟩
        rw [e2, show decide (x < y) = false from Bool.eq_false_iff.mpr c]
        rfl
    · rintro σ H' ⟨v3, rfl, rfl⟩
      refine ⟨_, rfl, ?_⟩
      rw [List.take_of_length_le (by rw [nl_length]; omega)]
      exact k
end
end VP

set_option Elab.async false
set_option linter.all false
set_option maxRecDepth 100000
set_option maxHeartbeats 4000000
namespace VP
open PySem PySem.Spec PyProof.Rows L2
section
variable {P : Program} {w : World} {K : PySem.W.Frag} {mg : Str → Option Value} {base : Heap}
abbrev sVector : Stmt := top 51
abbrev sScalar : Stmt := top 54
abbrev sMask : Stmt := top 55
abbrev sCount : Stmt := top 57
/-- a def of the top that keeps a promise -/
structure Cal (P : Program) (w : World) (K : PySem.W.Frag) (mg : Str → Option Value) (base : Heap) (k : Nat) (x : Str) (ps : List Str) (sp : Sp) : Prop where
  ok : ∃ (f : Addr) (fd : FuncData), mg x = some (.ref f) ∧ PySem.W.keepIn K (.ref f) = true ∧ Binds K fd ps [] ∧ FnOk P w K mg base CX0 k f fd ps sp
structure TxtL (K : PySem.W.Frag) (mg : Str → Option Value) : Prop where
  lanes : ∃ a, mg "LANE_COUNTS" = some (.ref a) ∧ ∀ H, SqT K H a (nl [2, 4, 8])
theorem at_refs {l : List Addr} {i : Nat} {c : Addr} (h : l[i]? = some c) : atI (l.map V.ref) (i : Int) = some (.ref c) := atI_nat (by rw [List.getElem?_map, h] <;> rfl)
theorem lanes_at {x : Nat} (h : x < 3) : atI (nl [2, 4, 8]) (x : Int) = some (nv (Sd62.lanes x)) := by
  refine at_nl ?_
  have : x = 0 ∨ x = 1 ∨ x = 2 := by omega
  rcases this with rfl | rfl | rfl <;> rfl
theorem lres0 {s : Sd62.St} {x : Sd62.Step} (h : x.kind < 8) : VM.lres s x = (((s.V x.a).take (Sd62.lanes x.width)).zip ((s.V x.b).take (Sd62.lanes x.width))).map fun y => Sd62.lane x.kind y.1 y.2 := by
  unfold VM.lres
  dsimp only
  rw [if_pos h]
theorem lres8 {s : Sd62.St} {x : Sd62.Step} (h : ¬ x.kind < 8) (h2 : x.kind < 11) : VM.lres s x = ((s.V x.a).take (Sd62.lanes x.width)).map fun y => Sd62.lane x.kind y x.b := by
  unfold VM.lres
  dsimp only
  rw [if_neg h, if_pos h2]
theorem lres11 {s : Sd62.St} {x : Sd62.Step} (h : x.kind = 11) : VM.lres s x = (List.range (Sd62.lanes x.width)).map fun i => ((s.V x.a).take (Sd62.lanes x.width)).getD ((i + x.b) % Sd62.lanes x.width) 0 := by
  unfold VM.lres
  dsimp only
  rw [if_neg (by omega), if_neg (by omega), if_pos h]
theorem lres12 {s : Sd62.St} {x : Sd62.Step} (h : x.kind = 12) : VM.lres s x = List.replicate (Sd62.lanes x.width) (s.M x.a) := by
  unfold VM.lres
  dsimp only
  rw [if_neg (by omega), if_neg (by omega), if_neg (by omega), if_pos h]
theorem lres13 {s : Sd62.St} {x : Sd62.Step} (h : x.kind = 13) : VM.lres s x = (List.range (Sd62.lanes x.width)).map fun i => (s.M x.a + i) % Sd62.W := by
  unfold VM.lres
  dsimp only
  rw [if_neg (by omega), if_neg (by omega), if_neg (by omega), if_neg (by omega)]
/-! ### vector_result -/
def spVector (K : PySem.W.Frag) (C : Addr) : Sp := fun vs H Q _ => ∃ (r : Rg) (c : Addr) (s : Sd62.St) (x : Sd62.Step) (p : Nat), vs = [.ref r.a, .ref c] ∧ StAt C H r s ∧ InsAt H c x ∧ VM.Good p x ∧ x.kind ≤ 13 ∧ NewL H (VM.lres s x) Q
theorem scVector : FnScope ["state", "instruction", "kind", "count", "a", "b", "source", "lane"] ["state", "instruction"] (defScope sVector) := ⟨rfl, rfl, rfl, by decide +kernel, rfl, by decide +kernel, by decide +kernel⟩
theorem ok_vector {C : Addr} {f : Addr} {fd : FuncData} (F : Fun K "vector_result" "vector_result" sVector f fd) (T : Txt0 mg) (TE : TxtE mg) (TS : TxtS K mg C) (TL : TxtL K mg)
    (CC : Cal P w K mg base 1 "combined_lanes" ["kind", "left", "right"] (spCombined K)) (CS : Cal P w K mg base 1 "shifted_lanes" ["kind", "lanes", "distance"] (spShifted K)) :
    FnOk P w K mg base CX0 2 f fd ["state", "instruction"] (spVector K C) := by
  obtain ⟨t1, e1⟩ := TE.modulus
  obtain ⟨aL, eL, tL⟩ := TL.lanes
  obtain ⟨fC, fdC, mC, kC, bC, GC⟩ := CC.ok
  obtain ⟨fS, fdS, mS, kS, bS, GS⟩ := CS.ok
  refine F.ok scVector (fun vs H Q E h => ?_) (fun cdv A outer sh H vs Q E hr h => ?_)
  · obtain ⟨r, c, s, x, p, rfl, _⟩ := h
    rfl
  · obtain ⟨r, c, s, x, p, rfl, S, hI, g, h13, k⟩ := h
    have hr1 : Room 1 _ := hr.mono (by decide)
    have hc : SqL K H c (nl (VM.ins x)) := SqL.of hI
    obtain ⟨dx, hO⟩ := S.obj
    have hn8 : Sd62.lanes x.width ≤ 8 := VM.lanes_le g.width
    have ha : x.a < 32 := g.a (by omega)
    refine ⟨_, (pss_cons (ps_set (i := 2) scVector.nd rfl (.inl rfl) (pe_ix (ix_listK (K := K)) (pv 1) pe_int (fun _ _ => rfl)))
      (pss_cons (ps_set (i := 3) scVector.nd rfl (.inr rfl) (pe_ix (ix_tupK (K := K)) (pe_glob (v := .ref aL) rfl eL rfl) (pe_ix (ix_listK (K := K)) (pv 1) pe_int (fun _ _ => rfl)) (fun _ _ => rfl)))
      (pss_cons (ps_set (i := 4) scVector.nd rfl (.inr rfl) (pe_ix (ix_listK (K := K)) (pv 1) pe_int (fun _ _ => rfl)))
      (pss_cons (ps_set (i := 5) scVector.nd rfl (.inr rfl) (pe_ix (ix_listK (K := K)) (pv 1) pe_int (fun _ _ => rfl)))
      (pss_cons (ps_if (pt_cmpR n_le (pv 2) pe_int (nomark _)) (pss_one (ps_ret (pe_call GC hr1 rfl mC kC bC .nil pass0 (pa_cons (pv 2) (pa_cons (pe_slice sl_list (pe_ix (ix_listK (K := K)) (pe_fldK (K := K) (pv 0)) (pv 4) (fun _ _ => rfl)) po_none (po_some (pv 3))) (pa_cons (pe_slice sl_list (pe_ix (ix_listK (K := K)) (pe_fldK (K := K) (pv 0)) (pv 5) (fun _ _ => rfl)) po_none (po_some (pv 3))) pa_nil)))))) pss_nil)
      (pss_cons (ps_if (pt_cmpR n_le (pv 2) pe_int (nomark _)) (pss_one (ps_ret (pe_call GS hr1 rfl mS kS bS .nil pass0 (pa_cons (pv 2) (pa_cons (pe_slice sl_list (pe_ix (ix_listK (K := K)) (pe_fldK (K := K) (pv 0)) (pv 4) (fun _ _ => rfl)) po_none (po_some (pv 3))) (pa_cons (pv 5) pa_nil)))))) pss_nil)
      (pss_cons (ps_if (pt_cmpR n_eq (pv 2) pe_int (nomark _)) (pss_cons (ps_set (i := 6) scVector.nd rfl (.inr rfl) (pe_ix (ix_listK (K := K)) (pe_fldK (K := K) (pv 0)) (pv 4) (fun _ _ => rfl)))
      (pss_one (ps_ret (pe_lc (own := [("lane", 7)]) (g := gName 7) (tt := tYes) rfl scVector.nd (pi_range1 rfl T.range (pa_cons (pv 3) pa_nil))
          (blkOk_by (N := ["state", "instruction", "kind", "count", "a", "b", "source", "lane"]) (sc := defScope sVector) (by decide +kernel)) (fun _ _ _ _ _ => (pg_name (i := 7) scVector.nd rfl (Or.inl rfl))) (fun _ _ _ _ _ => pts_nil)
          (fun _ _ _ _ _ => (pe_ix (ix_listK (K := K)) (pv 6) (pe_op n_mod (pe_op n_add (pv 7) (pv 5)) (pv 3)) (fun _ _ => rfl))))))) pss_nil)
      (pss_cons (ps_if (pt_cmpR n_eq (pv 2) pe_int (nomark _)) (pss_one (ps_ret (pe_op op_rep (pe_lst (pa_cons (pe_ix (ix_listK (K := K)) (pe_fldK (K := K) (pv 0)) (pv 4) (fun _ _ => rfl)) pa_nil)) (pv 3)))) pss_nil)
      (pss_one (ps_ret (pe_lc (own := [("lane", 7)]) (g := gName 7) (tt := tYes) rfl scVector.nd (pi_range1 rfl T.range (pa_cons (pv 3) pa_nil))
          (blkOk_by (N := ["state", "instruction", "kind", "count", "a", "b", "source", "lane"]) (sc := defScope sVector) (by decide +kernel)) (fun _ _ _ _ _ => (pg_name (i := 7) scVector.nd rfl (Or.inl rfl))) (fun _ _ _ _ _ => pts_nil)
          (fun _ _ _ _ _ => (pe_op n_mod (pe_op n_add (pe_ix (ix_listK (K := K)) (pe_fldK (K := K) (pv 0)) (pv 4) (fun _ _ => rfl)) (pv 7)) (pe_glob (v := .int 18446744073709551616) rfl e1 ⟨_, rfl⟩)))))))))))))), ?_⟩
    refine ⟨_, rfl, c, _, _, _, rfl, rfl, hc, in0 x, _, rfl, c, _, _, _, rfl, rfl, hc, in1 x, aL, _, _, _, rfl, rfl, tL _, lanes_at g.width, _, rfl, c, _, _, _, rfl, rfl, hc, in4 x, _, rfl, c, _, _, _, rfl, rfl, hc, in5 x, ?_⟩
    have vecA : ∀ (H' : Hp) (i : Nat), i < 32 → Same H H' → ∃ c', atI (r.vs.map V.ref) (i : Int) = some (.ref c') ∧ H' c' = some (.lst (nl (s.V i))) := fun H' i hi e => by
      obtain ⟨c', h1, h2⟩ := S.vec hi
      exact ⟨c', at_refs h1, e _ _ h2⟩
    refine ⟨_, rfl, _, 7, rfl, rfl, _, rfl, ite2 (fun c7 => ?_) (fun c7 => ?_)⟩
    · have h8 : x.kind < 8 := Nat.lt_succ_of_le (of_decide_eq_true c7)
      have hb : x.b < 32 := g.b32 (.inl h8)
      obtain ⟨cA, atA, hA⟩ := vecA H x.a ha (Same.refl H)
      refine ⟨_, rfl, _, rfl, _, C, dx, _, _, rfl, hO, TS.cl, TS.nV, sF_v, _, rfl, r.p2, _, _, _, rfl, rfl, SqL.of S.v, atA, _, rfl, _, rfl, cA, _, rfl, SqL.of hA, fun q1 hq1 => ?_⟩
      rw [cut_to, ← nl_take]
      have sm1 : Same H (upd H q1 (.lst (nl ((s.V x.a).take (Sd62.lanes x.width))))) := same_new hq1
      obtain ⟨cB, atB, hB⟩ := vecA _ x.b hb sm1
      refine ⟨_, rfl, _, C, dx, _, _, rfl, sm1 _ _ hO, TS.cl, TS.nV, sF_v, _, rfl, r.p2, _, _, _, rfl, rfl, SqL.of (sm1 _ _ S.v), atB, _, rfl, _, rfl, cB, _, rfl, SqL.of hB, fun q2 hq2 => ?_⟩
      rw [cut_to, ← nl_take]
      have sm2 := same_lay sm1 hq2 (o := .lst (nl ((s.V x.b).take (Sd62.lanes x.width))))
      have n12 : q1 ≠ q2 := ne_of_none upd_same hq2
      refine ⟨x.kind, q1, q2, _, _, rfl, h8, SqL.of (by rw [upd_ne n12]; exact upd_same), SqL.of upd_same, ?_, fun y hy => (S.wf.V ha).2.2 y (List.mem_of_mem_take hy), fun y hy => (S.wf.V hb).2.2 y (List.mem_of_mem_take hy), fun H' q s3 hq hl => ?_⟩
      · rw [List.length_take]
        omega
      · refine k H' q (sm2.trans s3) (Same.free sm2 hq) ?_
        rw [hl, lres0 h8]
    have h8 : ¬ x.kind < 8 := fun z => c7 (decide_eq_true (Nat.le_of_lt_succ z))
    refine ⟨_, rfl, _, 10, rfl, rfl, _, rfl, ite2 (fun c10 => ?_) (fun c10 => ?_)⟩
    · have h11 : x.kind < 11 := Nat.lt_succ_of_le (of_decide_eq_true c10)
      obtain ⟨cA, atA, hA⟩ := vecA H x.a ha (Same.refl H)
      refine ⟨_, rfl, _, rfl, _, C, dx, _, _, rfl, hO, TS.cl, TS.nV, sF_v, _, rfl, r.p2, _, _, _, rfl, rfl, SqL.of S.v, atA, _, rfl, _, rfl, cA, _, rfl, SqL.of hA, fun q1 hq1 => ?_⟩
      rw [cut_to, ← nl_take]
      have sm1 : Same H (upd H q1 (.lst (nl ((s.V x.a).take (Sd62.lanes x.width))))) := same_new hq1
      refine ⟨_, rfl, x.kind, x.b, q1, _, rfl, by omega, g.b, SqL.of upd_same, ?_, fun y hy => (S.wf.V ha).2.2 y (List.mem_of_mem_take hy), fun H' q s3 hq hl => ?_⟩
      · rw [List.length_take]
        omega
      · refine k H' q (sm1.trans s3) (Same.free sm1 hq) ?_
        rw [hl, lres8 h8 h11]
    have h11 : ¬ x.kind < 11 := fun z => c10 (decide_eq_true (Nat.le_of_lt_succ z))
    refine ⟨_, rfl, _, 11, rfl, rfl, _, rfl, ite2 (fun c11 => ?_) (fun c11 => ?_)⟩
    · have e11 : x.kind = 11 := of_decide_eq_true c11
      obtain ⟨cA, atA, hA⟩ := vecA H x.a ha (Same.refl H)
      refine ⟨_, rfl, _, C, dx, _, _, rfl, hO, TS.cl, TS.nV, sF_v, _, rfl, r.p2, _, _, _, rfl, rfl, SqL.of S.v, atA, ?_⟩
      refine ⟨_, rfl, _, rfl, by omega, by omega, fun D hD => ?_⟩
      rw [Int.toNat_natCast]
      refine lc_rng (fun i => ((s.V x.a).take (Sd62.lanes x.width)).getD ((i + x.b) % Sd62.lanes x.width) 0) (Same.refl H) hD (by omega) (fun i H2 Q' hi e q => ?_) (fun y => rfl) (by rw [← lres11 e11]; exact k)
      have hp := VM.lanes_pos x.width
      have hlt : (i + x.b) % Sd62.lanes x.width < Sd62.lanes x.width := Nat.mod_lt _ hp
      refine ⟨_, rfl, _, rfl, _, rfl, i, x.b, rfl, rfl, _, rfl, _, _, rfl, rfl, hp, cA, _, _, _, rfl, rfl, SqL.of (e _ _ hA), at_nl (x := ((s.V x.a).take (Sd62.lanes x.width)).getD ((i + x.b) % Sd62.lanes x.width) 0) ?_, q H2 (Same.refl _)⟩
      rw [List.getD_eq_getElem?_getD, List.getElem?_take, if_pos hlt, List.getElem?_eq_getElem (by rw [(S.wf.V ha).2.1]; exact Nat.lt_of_lt_of_le hlt hn8)]
      rfl
    have e11 : ¬ x.kind = 11 := fun z => c11 (decide_eq_true z)
    refine ⟨_, rfl, _, 12, rfl, rfl, _, rfl, ite2 (fun c12 => ?_) (fun c12 => ?_)⟩
    · have e12 : x.kind = 12 := of_decide_eq_true c12
      have ha8 : x.a < 8 := g.a8 (.inl e12)
      refine ⟨_, rfl, _, C, dx, _, _, rfl, hO, TS.cl, TS.nS, sF_s, _, rfl, r.p1, _, _, _, rfl, rfl, SqL.of S.m, at_nl (S.wf.M ha8).1, (by show 1 ≤ 16777216; decide), fun q1 hq1 => ?_⟩
      refine ⟨_, rfl, q1, _, _, rfl, rfl, upd_same, by omega, by omega, ?_, fun q2 hq2 => ?_⟩
      · rw [Int.toNat_natCast]
        show 1 * _ ≤ 16777216
        omega
      · have sm1 : Same H (upd H q1 (.lst [nv (s.M x.a)])) := same_new hq1
        refine k _ q2 (same_lay sm1 hq2) (Same.free sm1 hq2) ?_
        rw [upd_same, lres12 e12, Int.toNat_natCast, nl_rep, List.flatten_replicate_singleton]
    · have e13 : x.kind = 13 := by
        have e12 : ¬ x.kind = 12 := fun z => c12 (decide_eq_true z)
        omega
      have ha8 : x.a < 8 := g.a8 (.inr (.inl e13))
      refine ⟨_, rfl, _, rfl, by omega, by omega, fun D hD => ?_⟩
      rw [Int.toNat_natCast]
      refine lc_rng (fun i => (s.M x.a + i) % Sd62.W) (Same.refl H) hD (by omega) (fun i H2 Q' hi e q => ?_) (fun y => rfl) (by rw [← lres13 e13]; exact k)
      refine ⟨_, rfl, _, C, dx, _, _, rfl, e _ _ hO, TS.cl, TS.nS, sF_s, _, rfl, r.p1, _, _, _, rfl, rfl, SqL.of (e _ _ S.m), at_nl (S.wf.M ha8).1, _, rfl, _, _, rfl, rfl, _, 18446744073709551616, rfl, rfl, (by show 0 < 18446744073709551616; decide), q H2 (Same.refl _)⟩
end
end VP

set_option Elab.async false
set_option linter.all false
set_option maxRecDepth 100000
set_option maxHeartbeats 4000000
namespace VP
open PySem PySem.Spec PyProof.Rows L2
section
variable {P : Program} {w : World} {K : PySem.W.Frag} {mg : Str → Option Value} {base : Heap}
theorem nl_ints (l : List Nat) : nl l = (l.map fun n : Nat => (n : Int)).map V.int := by
  unfold nl
  rw [List.map_map]
  rfl
theorem sum_ints : ∀ l : List Nat, (l.map fun n : Nat => (n : Int)).sum = ((l.sum : Nat) : Int)
  | [] => rfl
  | x :: l => by
    rw [List.map_cons, List.sum_cons, List.sum_cons, sum_ints l]
    omega
theorem m14 {s : Sd62.St} {x : Sd62.Step} (h : x.kind = 14) : VM.mres s x = ((s.V x.a).take (Sd62.lanes x.width)).sum % 18446744073709551616 := by
  unfold VM.mres
  rw [if_pos h, VM.sum_eq]
  rfl
theorem m15 {s : Sd62.St} {x : Sd62.Step} (h : x.kind = 15) : VM.mres s x = (s.M x.a + s.M x.b) % 18446744073709551616 := by
  unfold VM.mres
  rw [if_neg (by omega), if_pos h]
  rfl
theorem m16 {s : Sd62.St} {x : Sd62.Step} (h : x.kind = 16) : VM.mres s x = s.M x.a ^^^ s.M x.b := by
  unfold VM.mres
  rw [if_neg (by omega), if_neg (by omega), if_pos h]
theorem m21 {s : Sd62.St} {x : Sd62.Step} (h : x.kind = 21) : VM.mres s x = s.K x.a := by
  unfold VM.mres
  rw [if_neg (by omega), if_neg (by omega), if_neg (by omega)]
/-! ### scalar_result -/
def isM (k : Nat) : Prop := k = 14 ∨ k = 15 ∨ k = 16 ∨ k = 21
def spScalar (C : Addr) : Sp := fun vs H Q _ => ∃ (r : Rg) (c : Addr) (s : Sd62.St) (x : Sd62.Step) (p : Nat), vs = [.ref r.a, .ref c] ∧ StAt C H r s ∧ InsAt H c x ∧ VM.Good p x ∧ isM x.kind ∧ ∀ H', Same H H' → Q (nv (VM.mres s x)) H'
theorem scScalar : FnScope ["state", "instruction", "kind", "a", "b"] ["state", "instruction"] (defScope sScalar) := ⟨rfl, rfl, rfl, by decide +kernel, rfl, by decide +kernel, by decide +kernel⟩
theorem ok_scalar {C : Addr} {f : Addr} {fd : FuncData} (F : Fun K "scalar_result" "scalar_result" sScalar f fd) (T : Txt0 mg) (TE : TxtE mg) (TS : TxtS K mg C) (TL : TxtL K mg) :
    FnOk P w K mg base CX0 1 f fd ["state", "instruction"] (spScalar C) := by
  obtain ⟨t1, e1⟩ := TE.modulus
  obtain ⟨aL, eL, tL⟩ := TL.lanes
  refine F.ok scScalar (fun vs H Q E h => ?_) (fun cdv A outer sh H vs Q E hr h => ?_)
  · obtain ⟨r, c, s, x, p, rfl, _⟩ := h
    rfl
  · obtain ⟨r, c, s, x, p, rfl, S, hI, g, hM, k⟩ := h
    have hc : SqL K H c (nl (VM.ins x)) := SqL.of hI
    obtain ⟨dx, hO⟩ := S.obj
    refine ⟨_, (pss_cons (ps_set (i := 2) scScalar.nd rfl (.inl rfl) (pe_ix (ix_listK (K := K)) (pv 1) pe_int (fun _ _ => rfl)))
      (pss_cons (ps_set (i := 3) scScalar.nd rfl (.inl rfl) (pe_ix (ix_listK (K := K)) (pv 1) pe_int (fun _ _ => rfl)))
      (pss_cons (ps_set (i := 4) scScalar.nd rfl (.inl rfl) (pe_ix (ix_listK (K := K)) (pv 1) pe_int (fun _ _ => rfl)))
      (pss_cons (ps_if (pt_cmpR n_eq (pv 2) pe_int (nomark _))
        (pss_one (ps_ret (pe_op n_mod (pe_callB (cr_sum rfl) (by rfl) T.sum (by decide +kernel) (pa_cons (pe_slice sl_list (pe_ix (ix_listK (K := K)) (pe_fldK (K := K) (pv 0)) (pv 3) (fun _ _ => rfl)) po_none (po_some (pe_ix (ix_tupK (K := K)) (pe_glob (v := .ref aL) rfl eL rfl) (pe_ix (ix_listK (K := K)) (pv 1) pe_int (fun _ _ => rfl)) (fun _ _ => rfl)))) pa_nil)) (pe_glob (v := .int 18446744073709551616) rfl e1 ⟨_, rfl⟩))))
        pss_nil)
      (pss_cons (ps_if (pt_cmpR n_eq (pv 2) pe_int (nomark _))
        (pss_one (ps_ret (pe_op n_mod (pe_op n_add (pe_ix (ix_listK (K := K)) (pe_fldK (K := K) (pv 0)) (pv 3) (fun _ _ => rfl)) (pe_ix (ix_listK (K := K)) (pe_fldK (K := K) (pv 0)) (pv 4) (fun _ _ => rfl))) (pe_glob (v := .int 18446744073709551616) rfl e1 ⟨_, rfl⟩))))
        pss_nil)
      (pss_cons (ps_if (pt_cmpR n_eq (pv 2) pe_int (nomark _))
        (pss_one (ps_ret (pe_op n_xor (pe_ix (ix_listK (K := K)) (pe_fldK (K := K) (pv 0)) (pv 3) (fun _ _ => rfl)) (pe_ix (ix_listK (K := K)) (pe_fldK (K := K) (pv 0)) (pv 4) (fun _ _ => rfl)))))
        pss_nil)
      (pss_one (ps_ret (pe_ix (ix_listK (K := K)) (pe_fldK (K := K) (pv 0)) (pv 3) (fun _ _ => rfl)))))))))), ?_⟩
    refine ⟨_, rfl, c, _, _, _, rfl, rfl, hc, in0 x, _, rfl, c, _, _, _, rfl, rfl, hc, in4 x, _, rfl, c, _, _, _, rfl, rfl, hc, in5 x, ?_⟩
    unfold isM at hM
    refine ⟨_, rfl, _, 14, rfl, rfl, _, rfl, ite2 (fun c => ?_) (fun c14 => ?_)⟩
    · have e : x.kind = 14 := of_decide_eq_true c
      obtain ⟨cA, h1, hA⟩ := S.vec (g.a (by omega))
      refine ⟨_, rfl, _, C, dx, _, _, rfl, hO, TS.cl, TS.nV, sF_v, _, rfl, r.p2, _, _, _, rfl, rfl, SqL.of S.v, at_refs h1, _, rfl, _, _, _, _, rfl, rfl, hc, in1 x, aL, _, _, _, rfl, rfl, tL _, lanes_at g.width, _, rfl, cA, _, rfl, SqL.of hA, fun q1 hq1 => ?_⟩
      rw [cut_to, ← nl_take]
      refine ⟨q1, _, rfl, SqL.of (by rw [← nl_ints]; exact upd_same), _, 18446744073709551616, congrArg V.int (sum_ints _), rfl, (by show 0 < 18446744073709551616; decide), ?_⟩
      refine cast (congrArg (fun z => Q (nv z) _) (m14 e)) (k _ (same_new hq1))
    have n14 : ¬ x.kind = 14 := fun z => c14 (decide_eq_true z)
    refine ⟨_, rfl, _, 15, rfl, rfl, _, rfl, ite2 (fun c => ?_) (fun c15 => ?_)⟩
    · have e : x.kind = 15 := of_decide_eq_true c
      refine ⟨_, rfl, _, C, dx, _, _, rfl, hO, TS.cl, TS.nS, sF_s, _, rfl, r.p1, _, _, _, rfl, rfl, SqL.of S.m, at_nl (S.wf.M (g.a8 (by omega))).1, _, rfl, _, C, dx, _, _, rfl, hO, TS.cl, TS.nS, sF_s, _, rfl, r.p1, _, _, _, rfl, rfl, SqL.of S.m, at_nl (S.wf.M (g.b8 (by omega))).1, _, _, rfl, rfl, _, 18446744073709551616, rfl, rfl, (by show 0 < 18446744073709551616; decide), ?_⟩
      exact cast (congrArg (fun z => Q (nv z) _) (m15 e)) (k _ (Same.refl H))
    have n15 : ¬ x.kind = 15 := fun z => c15 (decide_eq_true z)
    refine ⟨_, rfl, _, 16, rfl, rfl, _, rfl, ite2 (fun c => ?_) (fun c16 => ?_)⟩
    · have e : x.kind = 16 := of_decide_eq_true c
      refine ⟨_, rfl, _, C, dx, _, _, rfl, hO, TS.cl, TS.nS, sF_s, _, rfl, r.p1, _, _, _, rfl, rfl, SqL.of S.m, at_nl (S.wf.M (g.a8 (by omega))).1, _, rfl, _, C, dx, _, _, rfl, hO, TS.cl, TS.nS, sF_s, _, rfl, r.p1, _, _, _, rfl, rfl, SqL.of S.m, at_nl (S.wf.M (g.b8 (by omega))).1, _, _, rfl, rfl, ?_⟩
      exact cast (congrArg (fun z => Q (nv z) _) (m16 e)) (k _ (Same.refl H))
    · have n16 : ¬ x.kind = 16 := fun z => c16 (decide_eq_true z)
      have e : x.kind = 21 := by omega
      refine ⟨_, rfl, _, C, dx, _, _, rfl, hO, TS.cl, TS.nM, sF_m, _, rfl, r.p3, _, _, _, rfl, rfl, SqL.of S.k, at_nl (S.wf.K (g.a8 (by omega))).1, ?_⟩
      exact cast (congrArg (fun z => Q (nv z) _) (m21 e)) (k _ (Same.refl H))
end
end VP

set_option Elab.async false
set_option linter.all false
set_option maxRecDepth 100000
set_option maxHeartbeats 4000000
namespace VP
open PySem PySem.Spec PyProof.Rows L2
section
variable {P : Program} {w : World} {K : PySem.W.Frag} {mg : Str → Option Value} {base : Heap}
theorem k17 {s : Sd62.St} {x : Sd62.Step} (h : x.kind = 17) : VM.kres s x = Sd62.bits ((((s.V x.a).take (Sd62.lanes x.width)).zip ((s.V x.b).take (Sd62.lanes x.width))).map fun y => decide (y.1 < y.2)) := by
  unfold VM.kres
  dsimp only
  rw [if_pos h]
theorem k18 {s : Sd62.St} {x : Sd62.Step} (h : x.kind = 18) : VM.kres s x = s.K x.a &&& s.K x.b := by
  unfold VM.kres
  dsimp only
  rw [if_neg (by omega), if_pos h]
theorem k19 {s : Sd62.St} {x : Sd62.Step} (h : x.kind = 19) : VM.kres s x = s.K x.a ^^^ s.K x.b := by
  unfold VM.kres
  dsimp only
  rw [if_neg (by omega), if_neg (by omega), if_pos h]
theorem k20 {s : Sd62.St} {x : Sd62.Step} (h : x.kind = 20) : VM.kres s x = 2 ^ Sd62.lanes x.width - 1 - s.K x.a % 2 ^ Sd62.lanes x.width := by
  unfold VM.kres
  dsimp only
  rw [if_neg (by omega), if_neg (by omega), if_neg (by omega), if_pos h]
theorem k22 {s : Sd62.St} {x : Sd62.Step} (h : x.kind = 22) : VM.kres s x = s.M x.a := by
  unfold VM.kres
  dsimp only
  rw [if_neg (by omega), if_neg (by omega), if_neg (by omega), if_neg (by omega)]
/-! ### mask_result -/
def isK (k : Nat) : Prop := k = 17 ∨ k = 18 ∨ k = 19 ∨ k = 20 ∨ k = 22
def spMask (C : Addr) : Sp := fun vs H Q _ => ∃ (r : Rg) (c : Addr) (s : Sd62.St) (x : Sd62.Step) (p : Nat), vs = [.ref r.a, .ref c] ∧ StAt C H r s ∧ InsAt H c x ∧ VM.Good p x ∧ isK x.kind ∧ ∀ H', Same H H' → Q (nv (VM.kres s x)) H'
theorem scMask : FnScope ["state", "instruction", "kind", "count", "a", "b", "lowest"] ["state", "instruction"] (defScope sMask) := ⟨rfl, rfl, rfl, by decide +kernel, rfl, by decide +kernel, by decide +kernel⟩
theorem ok_mask {C : Addr} {f : Addr} {fd : FuncData} (F : Fun K "mask_result" "mask_result" sMask f fd) (T : Txt0 mg) (TS : TxtS K mg C) (TL : TxtL K mg)
    (CL : Cal P w K mg base 1 "less_bits" ["left", "right"] (spLess K)) :
    FnOk P w K mg base CX0 2 f fd ["state", "instruction"] (spMask C) := by
  obtain ⟨aL, eL, tL⟩ := TL.lanes
  obtain ⟨f_L, fd_L, m_L, k_L, b_L, G_L⟩ := CL.ok
  refine F.ok scMask (fun vs H Q E h => ?_) (fun cdv A outer sh H vs Q E hr h => ?_)
  · obtain ⟨r, c, s, x, p, rfl, _⟩ := h
    rfl
  · obtain ⟨r, c, s, x, p, rfl, S, hI, g, hM, k⟩ := h
    have hr1 : Room 1 _ := hr.mono (by decide)
    have hc : SqL K H c (nl (VM.ins x)) := SqL.of hI
    obtain ⟨dx, hO⟩ := S.obj
    refine ⟨_, (pss_cons (ps_set (i := 2) scMask.nd rfl (.inl rfl) (pe_ix (ix_listK (K := K)) (pv 1) pe_int (fun _ _ => rfl)))
      (pss_cons (ps_set (i := 3) scMask.nd rfl (.inl rfl) (pe_ix (ix_tupK (K := K)) (pe_glob (v := .ref aL) rfl eL rfl) (pe_ix (ix_listK (K := K)) (pv 1) pe_int (fun _ _ => rfl)) (fun _ _ => rfl)))
      (pss_cons (ps_set (i := 4) scMask.nd rfl (.inl rfl) (pe_ix (ix_listK (K := K)) (pv 1) pe_int (fun _ _ => rfl)))
      (pss_cons (ps_set (i := 5) scMask.nd rfl (.inl rfl) (pe_ix (ix_listK (K := K)) (pv 1) pe_int (fun _ _ => rfl)))
      (pss_cons (ps_if (pt_cmpR n_eq (pv 2) pe_int (nomark _))
        (pss_one (ps_ret (pe_call G_L hr1 rfl m_L k_L b_L .nil pass0 (pa_cons (pe_slice sl_list (pe_ix (ix_listK (K := K)) (pe_fldK (K := K) (pv 0)) (pv 4) (fun _ _ => rfl)) po_none (po_some (pv 3))) (pa_cons (pe_slice sl_list (pe_ix (ix_listK (K := K)) (pe_fldK (K := K) (pv 0)) (pv 5) (fun _ _ => rfl)) po_none (po_some (pv 3))) pa_nil)))))
        pss_nil)
      (pss_cons (ps_if (pt_cmpR n_eq (pv 2) pe_int (nomark _))
        (pss_one (ps_ret (pe_op n_and (pe_ix (ix_listK (K := K)) (pe_fldK (K := K) (pv 0)) (pv 4) (fun _ _ => rfl)) (pe_ix (ix_listK (K := K)) (pe_fldK (K := K) (pv 0)) (pv 5) (fun _ _ => rfl)))))
        pss_nil)
      (pss_cons (ps_if (pt_cmpR n_eq (pv 2) pe_int (nomark _))
        (pss_one (ps_ret (pe_op n_xor (pe_ix (ix_listK (K := K)) (pe_fldK (K := K) (pv 0)) (pv 4) (fun _ _ => rfl)) (pe_ix (ix_listK (K := K)) (pe_fldK (K := K) (pv 0)) (pv 5) (fun _ _ => rfl)))))
        pss_nil)
      (pss_cons (ps_if (pt_cmpR n_eq (pv 2) pe_int (nomark _))
        (pss_cons (ps_set (i := 6) scMask.nd rfl (.inl rfl) (pe_op n_sub (pe_op n_shl pe_int (pv 3)) pe_int))
      (pss_one (ps_ret (pe_op n_xor (pe_op n_and (pe_ix (ix_listK (K := K)) (pe_fldK (K := K) (pv 0)) (pv 4) (fun _ _ => rfl)) (pv 6)) (pv 6)))))
        pss_nil)
      (pss_one (ps_ret (pe_ix (ix_listK (K := K)) (pe_fldK (K := K) (pv 0)) (pv 4) (fun _ _ => rfl)))))))))))), ?_⟩
    refine ⟨_, rfl, c, _, _, _, rfl, rfl, hc, in0 x, _, rfl, c, _, _, _, rfl, rfl, hc, in1 x, aL, _, _, _, rfl, rfl, tL _, lanes_at g.width, _, rfl, c, _, _, _, rfl, rfl, hc, in4 x, _, rfl, c, _, _, _, rfl, rfl, hc, in5 x, ?_⟩
    have hn8 : Sd62.lanes x.width ≤ 8 := VM.lanes_le g.width
    unfold isK at hM
    refine ⟨_, rfl, _, 17, rfl, rfl, _, rfl, ite2 (fun c => ?_) (fun c17 => ?_)⟩
    · have e : x.kind = 17 := of_decide_eq_true c
      have ha : x.a < 32 := g.a (by omega)
      have hb : x.b < 32 := g.b32 (.inr e)
      obtain ⟨cA, h1, hA⟩ := S.vec ha
      refine ⟨_, rfl, _, C, dx, _, _, rfl, hO, TS.cl, TS.nV, sF_v, _, rfl, r.p2, _, _, _, rfl, rfl, SqL.of S.v, at_refs h1, _, rfl, _, rfl, cA, _, rfl, SqL.of hA, fun q1 hq1 => ?_⟩
      rw [cut_to, ← nl_take]
      have sm1 : Same H (upd H q1 (.lst (nl ((s.V x.a).take (Sd62.lanes x.width))))) := same_new hq1
      obtain ⟨cB, h2, hB⟩ := S.vec hb
      refine ⟨_, rfl, _, C, dx, _, _, rfl, sm1 _ _ hO, TS.cl, TS.nV, sF_v, _, rfl, r.p2, _, _, _, rfl, rfl, SqL.of (sm1 _ _ S.v), at_refs h2, _, rfl, _, rfl, cB, _, rfl, SqL.of (sm1 _ _ hB), fun q2 hq2 => ?_⟩
      rw [cut_to, ← nl_take]
      have sm2 := same_lay sm1 hq2 (o := .lst (nl ((s.V x.b).take (Sd62.lanes x.width))))
      have n12 : q1 ≠ q2 := ne_of_none upd_same hq2
      refine ⟨q1, q2, _, _, rfl, SqL.of (by rw [upd_ne n12]; exact upd_same), SqL.of upd_same, ?_, ?_, ?_⟩
      · rw [List.length_take, List.length_take, (S.wf.V ha).2.1, (S.wf.V hb).2.1]
      · rw [List.length_take]
        omega
      · exact cast (congrArg (fun z => Q (nv z) _) (k17 e)) (k _ sm2)
    have n17 : ¬ x.kind = 17 := fun z => c17 (decide_eq_true z)
    refine ⟨_, rfl, _, 18, rfl, rfl, _, rfl, ite2 (fun c => ?_) (fun c18 => ?_)⟩
    · have e : x.kind = 18 := of_decide_eq_true c
      refine ⟨_, rfl, _, C, dx, _, _, rfl, hO, TS.cl, TS.nM, sF_m, _, rfl, r.p3, _, _, _, rfl, rfl, SqL.of S.k, at_nl (S.wf.K (g.a8 (by omega))).1, _, rfl, _, C, dx, _, _, rfl, hO, TS.cl, TS.nM, sF_m, _, rfl, r.p3, _, _, _, rfl, rfl, SqL.of S.k, at_nl (S.wf.K (g.b8 (by omega))).1, _, _, rfl, rfl, ?_⟩
      exact cast (congrArg (fun z => Q (nv z) _) (k18 e)) (k _ (Same.refl H))
    have n18 : ¬ x.kind = 18 := fun z => c18 (decide_eq_true z)
    refine ⟨_, rfl, _, 19, rfl, rfl, _, rfl, ite2 (fun c => ?_) (fun c19 => ?_)⟩
    · have e : x.kind = 19 := of_decide_eq_true c
      refine ⟨_, rfl, _, C, dx, _, _, rfl, hO, TS.cl, TS.nM, sF_m, _, rfl, r.p3, _, _, _, rfl, rfl, SqL.of S.k, at_nl (S.wf.K (g.a8 (by omega))).1, _, rfl, _, C, dx, _, _, rfl, hO, TS.cl, TS.nM, sF_m, _, rfl, r.p3, _, _, _, rfl, rfl, SqL.of S.k, at_nl (S.wf.K (g.b8 (by omega))).1, _, _, rfl, rfl, ?_⟩
      exact cast (congrArg (fun z => Q (nv z) _) (k19 e)) (k _ (Same.refl H))
    have n19 : ¬ x.kind = 19 := fun z => c19 (decide_eq_true z)
    refine ⟨_, rfl, _, 20, rfl, rfl, _, rfl, ite2 (fun c => ?_) (fun c20 => ?_)⟩
    · have e : x.kind = 20 := of_decide_eq_true c
      have h2 : 1 ≤ 1 * 2 ^ Sd62.lanes x.width := by
        rw [Nat.one_mul]
        exact Nat.two_pow_pos _
      refine ⟨_, rfl, 1, Sd62.lanes x.width, rfl, rfl, ⟨by decide, by omega⟩, _, 1, rfl, rfl, h2, ?_⟩
      refine ⟨_, rfl, _, C, dx, _, _, rfl, hO, TS.cl, TS.nM, sF_m, _, rfl, r.p3, _, _, _, rfl, rfl, SqL.of S.k, at_nl (S.wf.K (g.a8 (by omega))).1, _, rfl, _, _, rfl, rfl, _, rfl, _, _, rfl, rfl, ?_⟩
      exact cast (congrArg (fun z => Q (nv z) _) ((k20 e).trans (VM.inv_bits _ _).symm)) (k _ (Same.refl H))
    · have n20 : ¬ x.kind = 20 := fun z => c20 (decide_eq_true z)
      have e : x.kind = 22 := by omega
      refine ⟨_, rfl, _, C, dx, _, _, rfl, hO, TS.cl, TS.nS, sF_s, _, rfl, r.p1, _, _, _, rfl, rfl, SqL.of S.m, at_nl (S.wf.M (g.a8 (by omega))).1, ?_⟩
      exact cast (congrArg (fun z => Q (nv z) _) (k22 e)) (k _ (Same.refl H))
/-! ### an instruction is no part of a state -/
theorem foot_len {C : Addr} {H : Hp} {r : Rg} {s : Sd62.St} (S : StAt C H r s) {b : Addr} {l : List V} (h : H b = some (.lst l)) (n8 : l.length ≠ 8) (n32 : l.length ≠ 32) : b ∉ r.foot := by
  intro hb
  unfold Rg.foot at hb
  simp only [List.mem_cons] at hb
  have fin : ∀ {l' : List V}, H b = some (.lst l') → l'.length = 8 ∨ l'.length = 32 → False := fun h' e => by
    rw [h] at h'
    have e2 := HO.lst.inj (Option.some.inj h')
    rw [← e2] at e
    rcases e with e | e
    · exact n8 e
    · exact n32 e
  rcases hb with e | e | e | e | hb
  · obtain ⟨dx, h'⟩ := S.obj
    rw [← e, h] at h'
    cases h'
  · exact fin (by rw [e]; exact S.m) (.inl (by rw [nl_length]; exact S.wf.m8))
  · exact fin (by rw [e]; exact S.v) (.inr (by rw [List.length_map]; exact S.len))
  · exact fin (by rw [e]; exact S.k) (.inl (by rw [nl_length]; exact S.wf.k8))
  · obtain ⟨i, hi⟩ := List.mem_iff_getElem?.mp hb
    obtain ⟨l', h1, h2⟩ := S.at_ i _ hi
    exact fin h2 (.inl (by rw [nl_length]; exact S.wf.l8 _ (List.mem_of_getElem? h1)))
theorem foot_in {C : Addr} {H : Hp} {r : Rg} {s : Sd62.St} (S : StAt C H r s) {b : Addr} {x : Sd62.Step} (h : InsAt H b x) : b ∉ r.foot := foot_len S h (by rw [nl_length, VM.ins_length]; decide) (by rw [nl_length, VM.ins_length]; decide)
theorem p1_foot (r : Rg) : r.p1 ∈ r.foot := .tail _ (.head _)
theorem p2_foot (r : Rg) : r.p2 ∈ r.foot := .tail _ (.tail _ (.head _))
theorem p3_foot (r : Rg) : r.p3 ∈ r.foot := .tail _ (.tail _ (.tail _ (.head _)))
/-! ### count_down -/
def spCount (C : Addr) : Sp := fun vs H Q _ => ∃ (r : Rg) (c : Addr) (s : Sd62.St) (x : Sd62.Step) (p : Nat), vs = [.ref r.a, .ref c, nv p] ∧ StAt C H r s ∧ InsAt H c x ∧ VM.Good p x ∧ x.kind = 23 ∧
  Mod C H r (Sd62.step s p x).1 (Q (nv (Sd62.step s p x).2))
theorem scCount : FnScope ["state", "instruction", "index", "number", "value"] ["state", "instruction", "index"] (defScope sCount) := ⟨rfl, rfl, rfl, by decide +kernel, rfl, by decide +kernel, by decide +kernel⟩
theorem ok_count {C : Addr} {f : Addr} {fd : FuncData} (F : Fun K "count_down" "count_down" sCount f fd) (TE : TxtE mg) (TS : TxtS K mg C) :
    FnOk P w K mg base CX0 1 f fd ["state", "instruction", "index"] (spCount C) := by
  obtain ⟨t1, e1⟩ := TE.modulus
  refine F.ok scCount (fun vs H Q E h => ?_) (fun cdv A outer sh H vs Q E hr h => ?_)
  · obtain ⟨r, c, s, x, p, rfl, _⟩ := h
    rfl
  · obtain ⟨r, c, s, x, p, rfl, S, hI, g, hM, k⟩ := h
    have hc : SqL K H c (nl (VM.ins x)) := SqL.of hI
    obtain ⟨dx, hO⟩ := S.obj
    have hd : x.d < 8 := g.d8 (by omega)
    have hM1 := S.wf.M hd
    rw [VM.step_b hM] at k
    dsimp only at k
    generalize hy : (s.M x.d + Sd62.W - 1) % Sd62.W = y at k
    have hyW : y < Sd62.W := by rw [← hy]; exact Nat.mod_lt _ VM.W_pos
    refine ⟨_, (pss_cons (ps_set (i := 3) scCount.nd rfl (.inl rfl) (pe_ix (ix_listK (K := K)) (pv 1) pe_int (fun _ _ => rfl)))
      (pss_cons (ps_set (i := 4) scCount.nd rfl (.inl rfl) (pe_op op_mod (pe_op op_sub (pe_ix (ix_listK (K := K)) (pe_fldK (K := K) (pv 0)) (pv 3) (fun _ _ => rfl)) pe_int) (pe_glob (v := .int 18446744073709551616) rfl e1 ⟨_, rfl⟩)))
      (pss_cons (ps_asg (pv 4) (pg_sub (pe_fldK (K := K) (pv 0)) (pv 3) set_list))
      (pss_cons (ps_if (pt_cmpR n_ne (pv 4) pe_int (nomark _))
        (pss_one (ps_ret (pe_op n_sub (pv 2) (pe_ix (ix_listK (K := K)) (pv 1) pe_int (fun _ _ => rfl)))))
        pss_nil)
      (pss_one (ps_ret (pe_op n_add (pv 2) pe_int))))))), ?_⟩
    refine ⟨_, rfl, c, _, _, _, rfl, rfl, hc, in3 x, _, rfl, _, C, dx, _, _, rfl, hO, TS.cl, TS.nS, sF_s, _, rfl, r.p1, _, _, _, rfl, rfl, SqL.of S.m, at_nl hM1.1, _, 1, rfl, rfl, _, 18446744073709551616, rfl, rfl, (by show (0 : Int) < 18446744073709551616; decide), ?_⟩
    have ev : ((s.M x.d : Int) - 1) % 18446744073709551616 = (y : Int) := by
      rw [← hy]
      exact VM.sub_mod (s.M x.d) 1 (by decide)
    show gName 4 (V.int (((s.M x.d : Int) - 1) % 18446744073709551616)) _ _ _
    rw [ev]
    refine ⟨_, rfl, _, rfl, _, C, dx, _, _, rfl, hO, TS.cl, TS.nS, sF_s, _, rfl, r.p1, _, _, x.d, rfl, rfl, S.m, ix_nat (by rw [nl_length, S.wf.m8]; exact hd), ?_⟩
    rw [nl_set]
    have S' := S.setM x.d y hyW
    have kk := k _ r S' rfl (fun b hb => .inl hb) (fun b o h hb => by
      rw [upd_ne (fun z => hb (by rw [z]; exact p1_foot r))]
      exact h)
    have hI' : InsAt (upd H r.p1 (.lst (nl (s.m.set x.d y)))) c x := by
      show upd H r.p1 _ c = _
      rw [upd_ne (fun z => foot_in S hI (by rw [z]; exact p1_foot r))]
      exact hI
    refine ⟨_, rfl, _, 0, rfl, rfl, _, rfl, ite2 (fun c0 => ?_) (fun c0 => ?_)⟩
    · have hne : ¬ y = 0 := fun z => by
        rw [z] at c0
        exact absurd c0 (by decide)
      rw [if_neg hne] at kk
      exact ⟨_, rfl, _, rfl, c, _, _, _, rfl, rfl, SqL.of hI', in4 x, _, _, rfl, rfl, (g.back hM).2, kk⟩
    · have he : y = 0 := by
        by_cases z : y = 0
        · exact z
        · exact absurd (show (!decide (y = 0)) = true by rw [decide_eq_false z]; rfl) c0
      rw [if_pos he] at kk
      exact ⟨_, rfl, _, 1, rfl, rfl, kk⟩
end
end VP

set_option Elab.async false
set_option linter.all false
set_option maxRecDepth 100000
set_option maxHeartbeats 4000000
namespace VP
open PySem PySem.Spec PyProof.Rows L2
section
variable {P : Program} {w : World} {K : PySem.W.Frag} {mg : Str → Option Value} {base : Heap}
/-! ### write_vector -/
def spWrite (C : Addr) : Sp := fun vs H Q _ => ∃ (r : Rg) (c q : Addr) (s : Sd62.St) (x : Sd62.Step) (p : Nat) (l : List Nat), vs = [.ref r.a, .ref c, .ref q] ∧ StAt C H r s ∧ InsAt H c x ∧ VM.Good p x ∧ H q = some (.lst (nl l)) ∧
  l.length = Sd62.lanes x.width ∧ (∀ y ∈ l, y < Sd62.W) ∧ Mod C H r (s.write x l) (Q .non)
abbrev sWrite : Stmt := top 49
theorem scWrite : FnScope ["state", "instruction", "lanes", "mask", "number"] ["state", "instruction", "lanes"] (defScope sWrite) := ⟨rfl, rfl, rfl, by decide +kernel, rfl, by decide +kernel, by decide +kernel⟩
theorem ok_write {C : Addr} {f : Addr} {fd : FuncData} (F : Fun K "write_vector" "write_vector" sWrite f fd) (T : Txt0 mg) (TS : TxtS K mg C)
    (CC : Cal P w K mg base 1 "chosen_lanes" ["bits", "fresh", "kept"] (spChosen K)) :
    FnOk P w K mg base CX0 2 f fd ["state", "instruction", "lanes"] (spWrite C) := by
  obtain ⟨f_C, fd_C, m_C, k_C, b_C, G_C⟩ := CC.ok
  refine F.ok scWrite (fun vs H Q E h => ?_) (fun cdv A outer sh H vs Q E hr h => ?_)
  · obtain ⟨r, c, q, s, x, p, l, rfl, _⟩ := h
    rfl
  · obtain ⟨r, c, q, s, x, p, l, rfl, S, hI, g, hq, hl, hb, k⟩ := h
    have hr1 : Room 1 _ := hr.mono (by decide)
    have hc : SqL K H c (nl (VM.ins x)) := SqL.of hI
    obtain ⟨dx, hO⟩ := S.obj
    have hn8 : Sd62.lanes x.width ≤ 8 := VM.lanes_le g.width
    have fin : ∀ (HB : Hp) (t3 : Addr), Same H HB → HB t3 = none → ∀ v, v = upd (upd HB t3 (.lst (nl (VM.wrote s x l)))) r.p2 (.lst ((r.vs.map V.ref).set x.d (.ref t3))) → Q .non v := fun HB t3 s3 ht3 v ev => by
      subst ev
      have SB := S.same s3
      have SC := S.same (same_lay s3 ht3 (o := .lst (nl (VM.wrote s x l))))
      have S' := SC.setV (q := t3) (l := VM.wrote s x l) x.d g.d upd_same (SB.off ht3) (VM.wrote_length s x l) (VM.wrote_lt S.wf g hb)
      rw [List.map_set] at S'
      refine k _ _ S' rfl (fun b hb => ?_) (fun b o h hb => ?_)
      · unfold Rg.foot at hb ⊢
        simp only [List.mem_cons] at hb ⊢
        rcases hb with e | e | e | e | e
        · exact .inl (.inl e)
        · exact .inl (.inr (.inl e))
        · exact .inl (.inr (.inr (.inl e)))
        · exact .inl (.inr (.inr (.inr (.inl e))))
        · rcases VM.mem_set' e with e | e
          · rw [e]
            exact .inr (Same.free s3 ht3)
          · exact .inl (.inr (.inr (.inr (.inr e))))
      · rw [upd_ne (fun z => hb (by rw [z]; exact p2_foot r)), upd_ne (ne_of_none (s3 _ _ h) ht3)]
        exact s3 _ _ h
    refine ⟨_, (pss_cons (ps_set (i := 3) scWrite.nd rfl (.inl rfl) (pe_ix (ix_listK (K := K)) (pv 1) pe_int (fun _ _ => rfl)))
      (pss_cons (ps_set (i := 4) scWrite.nd rfl (.inl rfl) (pe_ix (ix_listK (K := K)) (pv 1) pe_int (fun _ _ => rfl)))
      (pss_cons (ps_if (pt_cmpR n_ne (pv 3) pe_int (nomark _))
        (pss_one (ps_set (i := 2) scWrite.nd rfl (.inl rfl) (pe_call G_C hr1 rfl m_C k_C b_C .nil pass0 (pa_cons (pe_ix (ix_listK (K := K)) (pe_fldK (K := K) (pv 0)) (pv 3) (fun _ _ => rfl)) (pa_cons (pv 2) (pa_cons (pe_ix (ix_listK (K := K)) (pe_fldK (K := K) (pv 0)) (pv 4) (fun _ _ => rfl)) pa_nil))))))
        pss_nil)
      (pss_one (ps_asg (pe_op op_cat (pv 2) (pe_op op_rep (pe_lst (pa_cons pe_int pa_nil)) (pe_op n_sub pe_int (pe_callB call_len_seq (by rfl) T.len PySem.boot_len (pa_cons (pv 2) pa_nil))))) (pg_sub (pe_fldK (K := K) (pv 0)) (pv 4) set_list)))))), ?_⟩
    refine ⟨_, rfl, c, _, _, _, rfl, rfl, hc, in2 x, _, rfl, c, _, _, _, rfl, rfl, hc, in3 x, ?_⟩
    refine ⟨_, rfl, _, 0, rfl, rfl, _, rfl, ite2 (fun c0 => ?_) (fun c0 => ?_)⟩
    · have hm : x.mask ≠ 0 := fun z => by
        rw [z] at c0
        exact absurd c0 (by decide)
      obtain ⟨cV, h1, hV⟩ := S.vec g.d
      refine ⟨_, rfl, _, C, dx, _, _, rfl, hO, TS.cl, TS.nM, sF_m, _, rfl, r.p3, _, _, _, rfl, rfl, SqL.of S.k, at_nl (S.wf.K g.mask).1, _, rfl, _, rfl, _, C, dx, _, _, rfl, hO, TS.cl, TS.nV, sF_v, _, rfl, r.p2, _, _, _, rfl, rfl, SqL.of S.v, at_refs h1, ?_⟩
      refine ⟨_, q, cV, l, _, rfl, SqL.of hq, SqL.of hV, ?_, by omega, fun H' q' s1 hq' hl' => ?_⟩
      · rw [(S.wf.V g.d).2.1]
        omega
      have s1 := s1
      have hq1 : H' q' = some (.lst (nl (VM.chosen (s.K x.mask) l (s.V x.d)))) := hl'
      have el : (VM.chosen (s.K x.mask) l (s.V x.d)).length = Sd62.lanes x.width := (by rw [VM.chosen_length]; exact hl)
      have hw : nl (VM.chosen (s.K x.mask) l (s.V x.d)) ++ (List.replicate ((8 - (VM.chosen (s.K x.mask) l (s.V x.d)).length : Nat) : Int).toNat [nv 0]).flatten = nl (VM.wrote s x l) := by
        rw [List.flatten_replicate_singleton, Int.toNat_natCast, ← nl_rep, ← nl_app, VM.wrote_mask s x l hm hl hn8, VM.chosen_length]
      refine ⟨_, rfl, (by show 1 ≤ 16777216; decide), fun t1 ht1 => ?_⟩
      have s2 := same_lay s1 ht1 (o := .lst [nv 0])
      have hq2 : upd H' t1 (.lst [nv 0]) q' = some (.lst (nl (VM.chosen (s.K x.mask) l (s.V x.d)))) := by
        rw [upd_ne (ne_of_none hq1 ht1)]
        exact hq1
      refine ⟨_, rfl, q', _, rfl, .inl (SqL.of hq2), 8, (VM.chosen (s.K x.mask) l (s.V x.d)).length, rfl, congrArg (fun n : Nat => V.int (n : Int)) (nl_length _), (by omega), ?_⟩
      refine ⟨t1, ((8 - (VM.chosen (s.K x.mask) l (s.V x.d)).length : Nat) : Int), _, rfl, rfl, upd_same, by omega, by omega, ?_, fun t2 ht2 => ?_⟩
      · rw [Int.toNat_natCast]
        show 1 * _ ≤ 16777216
        omega
      have s3 := same_lay s2 ht2 (o := .lst (List.replicate ((8 - (VM.chosen (s.K x.mask) l (s.V x.d)).length : Nat) : Int).toNat [nv 0]).flatten)
      have hq3 : upd (upd H' t1 (.lst [nv 0])) t2 (.lst (List.replicate ((8 - (VM.chosen (s.K x.mask) l (s.V x.d)).length : Nat) : Int).toNat [nv 0]).flatten) q' = some (.lst (nl (VM.chosen (s.K x.mask) l (s.V x.d)))) := by
        rw [upd_ne (ne_of_none hq2 ht2)]
        exact hq2
      refine ⟨q', t2, _, _, rfl, rfl, hq3, upd_same, ?_, fun t3 ht3 => ?_⟩
      · rw [List.flatten_replicate_singleton, List.length_replicate, nl_length, Int.toNat_natCast]
        show _ ≤ 16777216
        omega
      have s4 := same_lay s3 ht3 (o := .lst (nl (VM.chosen (s.K x.mask) l (s.V x.d)) ++ (List.replicate ((8 - (VM.chosen (s.K x.mask) l (s.V x.d)).length : Nat) : Int).toNat [nv 0]).flatten))
      refine ⟨_, rfl, _, C, dx, _, _, rfl, s4 _ _ hO, TS.cl, TS.nV, sF_v, _, rfl, r.p2, _, _, x.d, rfl, rfl, s4 _ _ S.v, ix_nat (by rw [List.length_map, S.len]; exact g.d), fin _ t3 s3 ht3 _ (congrArg (fun z => upd (upd _ t3 (.lst z)) r.p2 _) hw)⟩
    · have hm : x.mask = 0 := by
        by_cases z : x.mask = 0
        · exact z
        · exact absurd (show (!decide (x.mask = 0)) = true by rw [decide_eq_false z]; rfl) c0
      have s1 : Same H H := Same.refl H
      have hq1 : H q = some (.lst (nl l)) := hq
      have el : l.length = Sd62.lanes x.width := hl
      have hw : nl l ++ (List.replicate ((8 - l.length : Nat) : Int).toNat [nv 0]).flatten = nl (VM.wrote s x l) := by
        rw [List.flatten_replicate_singleton, Int.toNat_natCast, ← nl_rep, ← nl_app, VM.wrote_plain s x l hm hl hn8]
      refine ⟨_, rfl, (by show 1 ≤ 16777216; decide), fun t1 ht1 => ?_⟩
      have s2 := same_lay s1 ht1 (o := .lst [nv 0])
      have hq2 : upd H t1 (.lst [nv 0]) q = some (.lst (nl l)) := by
        rw [upd_ne (ne_of_none hq1 ht1)]
        exact hq1
      refine ⟨_, rfl, q, _, rfl, .inl (SqL.of hq2), 8, l.length, rfl, congrArg (fun n : Nat => V.int (n : Int)) (nl_length _), (by omega), ?_⟩
      refine ⟨t1, ((8 - l.length : Nat) : Int), _, rfl, rfl, upd_same, by omega, by omega, ?_, fun t2 ht2 => ?_⟩
      · rw [Int.toNat_natCast]
        show 1 * _ ≤ 16777216
        omega
      have s3 := same_lay s2 ht2 (o := .lst (List.replicate ((8 - l.length : Nat) : Int).toNat [nv 0]).flatten)
      have hq3 : upd (upd H t1 (.lst [nv 0])) t2 (.lst (List.replicate ((8 - l.length : Nat) : Int).toNat [nv 0]).flatten) q = some (.lst (nl l)) := by
        rw [upd_ne (ne_of_none hq2 ht2)]
        exact hq2
      refine ⟨q, t2, _, _, rfl, rfl, hq3, upd_same, ?_, fun t3 ht3 => ?_⟩
      · rw [List.flatten_replicate_singleton, List.length_replicate, nl_length, Int.toNat_natCast]
        show _ ≤ 16777216
        omega
      have s4 := same_lay s3 ht3 (o := .lst (nl l ++ (List.replicate ((8 - l.length : Nat) : Int).toNat [nv 0]).flatten))
      refine ⟨_, rfl, _, C, dx, _, _, rfl, s4 _ _ hO, TS.cl, TS.nV, sF_v, _, rfl, r.p2, _, _, x.d, rfl, rfl, s4 _ _ S.v, ix_nat (by rw [List.length_map, S.len]; exact g.d), fin _ t3 s3 ht3 _ (congrArg (fun z => upd (upd _ t3 (.lst z)) r.p2 _) hw)⟩
end
end VP

set_option Elab.async false
set_option linter.all false
set_option maxRecDepth 100000
set_option maxHeartbeats 4000000
namespace VP
open PySem PySem.Spec PyProof.Rows L2
section
variable {P : Program} {w : World} {K : PySem.W.Frag} {mg : Str → Option Value} {base : Heap}
theorem Mod.same {C : Addr} {H H1 : Hp} {r : Rg} {s' : Sd62.St} {k : Hp → Prop} (e : Same H H1) (m : Mod C H r s' k) : Mod C H1 r s' k := fun H2 r2 S2 a2 f1 f2 =>
  m H2 r2 S2 a2 (fun b hb => (f1 b hb).imp id (Same.free e)) (fun b o h n => f2 b o (e _ _ h) n)
/-- a register is written in place -/
theorem Mod.setM {C : Addr} {H : Hp} {r : Rg} {s : Sd62.St} {k : Hp → Prop} {i n : Nat} (S : StAt C H r s) (hn : n < Sd62.W) (m : Mod C H r (s.setM i n) k) : k (upd H r.p1 (.lst (nl (s.m.set i n)))) :=
  m _ r (S.setM i n hn) rfl (fun b hb => .inl hb) fun b o h hb => by
    rw [upd_ne (fun z => hb (by rw [z]; exact p1_foot r))]
    exact h
theorem Mod.setK {C : Addr} {H : Hp} {r : Rg} {s : Sd62.St} {k : Hp → Prop} {i n : Nat} (S : StAt C H r s) (hn : n < Sd62.W) (m : Mod C H r (s.setK i n) k) : k (upd H r.p3 (.lst (nl (s.k.set i n)))) :=
  m _ r (S.setK i n hn) rfl (fun b hb => .inl hb) fun b o h hb => by
    rw [upd_ne (fun z => hb (by rw [z]; exact p3_foot r))]
    exact h
/-! ### step -/
theorem in_marks {k : Nat} (h : k < 24) : inV (nv k) [V.int 14, V.int 15, V.int 16, V.int 21] = decide (k = 14 ∨ k = 15 ∨ k = 16 ∨ k = 21) := by
  rcases VM.kinds h with e | e | e | e | e | e | e | e | e | e | e | e | e | e | e | e | e | e | e | e | e | e | e | e <;> (subst e; rfl)
def spStep (C : Addr) : Sp := fun vs H Q _ => ∃ (r : Rg) (c : Addr) (s : Sd62.St) (x : Sd62.Step) (p : Nat), vs = [.ref r.a, .ref c, nv p] ∧ StAt C H r s ∧ InsAt H c x ∧ VM.Good p x ∧
  Mod C H r (Sd62.step s p x).1 (Q (nv (Sd62.step s p x).2))
abbrev sStep : Stmt := top 48
theorem scStep : FnScope ["state", "instruction", "index", "kind"] ["state", "instruction", "index"] (defScope sStep) := ⟨rfl, rfl, rfl, by decide +kernel, rfl, by decide +kernel, by decide +kernel⟩
theorem ok_step {C : Addr} {f : Addr} {fd : FuncData} (F : Fun K "step" "step" sStep f fd) (TS : TxtS K mg C)
    (CW : Cal P w K mg base 2 "write_vector" ["state", "instruction", "lanes"] (spWrite C)) (CV : Cal P w K mg base 2 "vector_result" ["state", "instruction"] (spVector K C))
    (CS : Cal P w K mg base 1 "scalar_result" ["state", "instruction"] (spScalar C)) (CM : Cal P w K mg base 2 "mask_result" ["state", "instruction"] (spMask C))
    (CD : Cal P w K mg base 1 "count_down" ["state", "instruction", "index"] (spCount C)) :
    FnOk P w K mg base CX0 3 f fd ["state", "instruction", "index"] (spStep C) := by
  obtain ⟨f_W, fd_W, m_W, k_W, b_W, G_W⟩ := CW.ok
  obtain ⟨f_V, fd_V, m_V, k_V, b_V, G_V⟩ := CV.ok
  obtain ⟨f_S, fd_S, m_S, k_S, b_S, G_S⟩ := CS.ok
  obtain ⟨f_M, fd_M, m_M, k_M, b_M, G_M⟩ := CM.ok
  obtain ⟨f_D, fd_D, m_D, k_D, b_D, G_D⟩ := CD.ok
  refine F.ok scStep (fun vs H Q E h => ?_) (fun cdv A outer sh H vs Q E hr h => ?_)
  · obtain ⟨r, c, s, x, p, rfl, _⟩ := h
    rfl
  · obtain ⟨r, c, s, x, p, rfl, S, hI, g, k⟩ := h
    have hr2 : Room 2 _ := hr.mono (by decide)
    have hr1 : Room 1 _ := hr.mono (by decide)
    have hc : SqL K H c (nl (VM.ins x)) := SqL.of hI
    obtain ⟨dx, hO⟩ := S.obj
    refine ⟨_, (pss_cons (ps_set (i := 3) scStep.nd rfl (.inl rfl) (pe_ix (ix_listK (K := K)) (pv 1) pe_int (fun _ _ => rfl)))
      (pss_cons (ps_if (pt_cmpR n_le (pv 3) pe_int (nomark _))
        (pss_one (ps_expr (pe_call G_W hr2 rfl m_W k_W b_W .nil pass0 (pa_cons (pv 0) (pa_cons (pv 1) (pa_cons (pe_call G_V hr2 rfl m_V k_V b_V .nil pass0 (pa_cons (pv 0) (pa_cons (pv 1) pa_nil))) pa_nil))))))
        (pss_one (ps_if (pt_cmpR op_in_seq (pv 3) (pe_tup (pa_cons pe_int (pa_cons pe_int (pa_cons pe_int (pa_cons pe_int pa_nil))))) (by rfl))
        (pss_one (ps_asg (pe_call G_S hr1 rfl m_S k_S b_S .nil pass0 (pa_cons (pv 0) (pa_cons (pv 1) pa_nil))) (pg_sub (pe_fldK (K := K) (pv 0)) (pe_ix (ix_listK (K := K)) (pv 1) pe_int (fun _ _ => rfl)) set_list)))
        (pss_one (ps_if (pt_cmpR n_le (pv 3) pe_int (nomark _))
        (pss_one (ps_asg (pe_call G_M hr2 rfl m_M k_M b_M .nil pass0 (pa_cons (pv 0) (pa_cons (pv 1) pa_nil))) (pg_sub (pe_fldK (K := K) (pv 0)) (pe_ix (ix_listK (K := K)) (pv 1) pe_int (fun _ _ => rfl)) set_list)))
        (pss_one (ps_ret (pe_call G_D hr1 rfl m_D k_D b_D .nil pass0 (pa_cons (pv 0) (pa_cons (pv 1) (pa_cons (pv 2) pa_nil)))))))))))
      (pss_one (ps_ret (pe_op n_add (pv 2) pe_int))))), ?_⟩
    refine ⟨_, rfl, c, _, _, _, rfl, rfl, hc, in0 x, ?_⟩
    refine ⟨_, rfl, _, 13, rfl, rfl, _, rfl, ite2 (fun c0 => ?_) (fun c0 => ?_)⟩
    · have h13 : x.kind ≤ 13 := of_decide_eq_true c0
      rw [VM.step_v h13] at k
      refine ⟨_, rfl, _, rfl, _, rfl, _, rfl, r, c, s, x, p, rfl, S, hI, g, h13, fun H1 q s1 hq hl => ?_⟩
      refine ⟨r, c, q, s, x, p, _, rfl, S.same s1, s1 _ _ hI, g, hl, VM.lres_length S.wf h13 g, VM.lres_lt S.wf h13 g, fun H2 r2 S2 a2 f1 f2 => ?_⟩
      exact ⟨_, rfl, _, 1, rfl, rfl, (k.same s1) H2 r2 S2 a2 f1 f2⟩
    have h14 : ¬ x.kind ≤ 13 := fun z => c0 (decide_eq_true z)
    refine ⟨_, rfl, (by show 4 ≤ 16777216; decide), fun t ht => ?_⟩
    have s1 := same_new ht (o := .tup [V.int 14, V.int 15, V.int 16, V.int 21])
    have S1 := S.same s1
    have hI1 : InsAt _ c x := s1 _ _ hI
    have hO1 := s1 _ _ hO
    have k1 := k.same s1
    refine ⟨t, _, rfl, .inr (SqT.of upd_same), rfl, rfl, _, rfl, ?_⟩
    rw [show (if (false = true) then _ else inV (nv x.kind) [V.int 14, V.int 15, V.int 16, V.int 21]) = _ from in_marks g.kind]
    refine ite2 (fun cm => ?_) (fun cm => ?_)
    · have hM : x.kind = 14 ∨ x.kind = 15 ∨ x.kind = 16 ∨ x.kind = 21 := of_decide_eq_true cm
      rw [VM.step_m hM] at k1
      refine ⟨_, rfl, _, rfl, r, c, s, x, p, rfl, S1, hI1, g, hM, fun H1 s2 => ?_⟩
      have S2 := S1.same s2
      refine ⟨_, rfl, _, C, dx, _, _, rfl, s2 _ _ hO1, TS.cl, TS.nS, sF_s, _, rfl, c, _, _, _, rfl, rfl, SqL.of (s2 _ _ hI1), in3 x, r.p1, _, _, x.d, rfl, rfl, S2.m, ix_nat (by rw [nl_length, S.wf.m8]; exact g.d8 (by omega)), ?_⟩
      rw [nl_set]
      exact ⟨_, rfl, _, 1, rfl, rfl, Mod.setM S2 (VM.mres_lt S.wf g hM) (k1.same s2)⟩
    have hM : ¬ (x.kind = 14 ∨ x.kind = 15 ∨ x.kind = 16 ∨ x.kind = 21) := fun z => cm (decide_eq_true z)
    refine ⟨_, rfl, _, 22, rfl, rfl, _, rfl, ite2 (fun c22 => ?_) (fun c22 => ?_)⟩
    · have h22 : x.kind ≤ 22 := of_decide_eq_true c22
      have hK : x.kind = 17 ∨ x.kind = 18 ∨ x.kind = 19 ∨ x.kind = 20 ∨ x.kind = 22 := by omega
      rw [VM.step_k hK] at k1
      refine ⟨_, rfl, _, rfl, r, c, s, x, p, rfl, S1, hI1, g, hK, fun H1 s2 => ?_⟩
      have S2 := S1.same s2
      refine ⟨_, rfl, _, C, dx, _, _, rfl, s2 _ _ hO1, TS.cl, TS.nM, sF_m, _, rfl, c, _, _, _, rfl, rfl, SqL.of (s2 _ _ hI1), in3 x, r.p3, _, _, x.d, rfl, rfl, S2.k, ix_nat (by rw [nl_length, S.wf.k8]; exact g.d8 (by omega)), ?_⟩
      rw [nl_set]
      exact ⟨_, rfl, _, 1, rfl, rfl, Mod.setK S2 (VM.kres_lt S.wf g hK) (k1.same s2)⟩
    · have h22 : ¬ x.kind ≤ 22 := fun z => c22 (decide_eq_true z)
      have hk := g.kind
      have e : x.kind = 23 := by omega
      exact ⟨_, rfl, _, rfl, _, rfl, r, c, s, x, p, rfl, S1, hI1, g, e, k1⟩
theorem foot_trans {H H' : Hp} {r r' r2 : Rg} (f1 : ∀ b ∈ r'.foot, b ∈ r.foot ∨ H b = none) (f2 : ∀ b o, H b = some o → b ∉ r.foot → H' b = some o) (g1 : ∀ b ∈ r2.foot, b ∈ r'.foot ∨ H' b = none) : ∀ b ∈ r2.foot, b ∈ r.foot ∨ H b = none := fun b hb => by
  rcases g1 b hb with h | h
  · exact f1 b h
  · by_cases c : b ∈ r.foot
    · exact .inl c
    · cases e : H b with
      | none => exact .inr rfl
      | some o =>
        rw [f2 b o e c] at h
        cases h
theorem keep_trans {H H' H2 : Hp} {r r' : Rg} (f1 : ∀ b ∈ r'.foot, b ∈ r.foot ∨ H b = none) (f2 : ∀ b o, H b = some o → b ∉ r.foot → H' b = some o) (g2 : ∀ b o, H' b = some o → b ∉ r'.foot → H2 b = some o) : ∀ b o, H b = some o → b ∉ r.foot → H2 b = some o := fun b o h n =>
  g2 b o (f2 b o h n) fun z => by
    rcases f1 b z with q | q
    · exact n q
    · rw [h] at q
      cases q
/-! ### execute -/
def spExec (C : Addr) : Sp := fun vs H Q _ => ∃ (r : Rg) (a : Addr) (s : Sd62.St) (cs : List Addr) (xs : List Sd62.Step) (p m : Nat), vs = [.ref r.a, .ref a, nv p, nv m] ∧ StAt C H r s ∧ H a = some (.lst (cs.map V.ref)) ∧ a ∉ r.foot ∧
  cs.length = xs.length ∧ (∀ (i : Nat) (c : Addr) (x : Sd62.Step), cs[i]? = some c → xs[i]? = some x → InsAt H c x ∧ VM.Good i x) ∧ Mod C H r (Sd62.run xs m s p).1 (Q (nv (Sd62.run xs m s p).2))
abbrev sExec : Stmt := top 47
theorem scExec : FnScope ["state", "instructions", "start", "most", "index", "executed"] ["state", "instructions", "start", "most"] (defScope sExec) := ⟨rfl, rfl, rfl, by decide +kernel, rfl, by decide +kernel, by decide +kernel⟩
theorem ok_exec {C : Addr} {f : Addr} {fd : FuncData} (F : Fun K "execute" "execute" sExec f fd) (T : Txt0 mg)
    (CS : Cal P w K mg base 3 "step" ["state", "instruction", "index"] (spStep C)) :
    FnOk P w K mg base CX0 4 f fd ["state", "instructions", "start", "most"] (spExec C) := by
  obtain ⟨f_S, fd_S, m_S, k_S, b_S, G_S⟩ := CS.ok
  refine F.ok scExec (fun vs H Q E h => ?_) (fun cdv A outer sh H vs Q E hr h => ?_)
  · obtain ⟨r, a, s, cs, xs, p, m, rfl, _⟩ := h
    rfl
  · obtain ⟨r, a, s, cs, xs, p, m, rfl, S, hA, na, hl, hX, k⟩ := h
    have hr3 : Room 3 _ := hr.mono (by decide)
    refine ⟨_, (pss_cons (ps_set (i := 4) scExec.nd rfl (.inl rfl) (pv 2))
      (pss_cons (ps_set (i := 5) scExec.nd rfl (.inl rfl) pe_int)
      (pss_cons (ps_while PassesOwn.never (PW.pt (pw_and (pt_cmpR n_lt (pv 5) (pv 3) (nomark _)) (pw_and1 (pt_cmpR n_lt (pv 4) (pe_callB call_len_seq (by rfl) T.len PySem.boot_len (pa_cons (pv 1) pa_nil)) (nomark _)))))
        (pss_cons (ps_set (i := 4) scExec.nd rfl (.inl rfl) (pe_call G_S hr3 rfl m_S k_S b_S .nil pass0 (pa_cons (pv 0) (pa_cons (pe_ix (ix_listK (K := K)) (pv 1) (pv 4) (fun _ _ => rfl)) (pa_cons (pv 4) pa_nil)))))
      (pss_one (ps_set (i := 5) scExec.nd rfl (.inl rfl) (pe_op n_add (pv 5) pe_int)))))
      (pss_one (ps_ret (pv 4)))))), ?_⟩
    refine ⟨_, rfl, ?_⟩
    refine ⟨fun n σ H' => ∃ (q e : Nat) (r' : Rg) (s' : Sd62.St), σ = [some (.ref r.a), some (.ref a), some (nv p), some (nv m), some (nv q), some (nv e)] ∧ n + e = m ∧ StAt C H' r' s' ∧ r'.a = r.a ∧ (∀ b ∈ r'.foot, b ∈ r.foot ∨ H b = none) ∧ (∀ b o, H b = some o → b ∉ r.foot → H' b = some o) ∧ Sd62.run xs n s' q = Sd62.run xs m s p,
      ⟨m, p, 0, r, s, rfl, rfl, S, rfl, fun b hb => .inl hb, fun b o h _ => h, rfl⟩, ?_⟩
    rintro n σ H' ⟨q, e, r', s', rfl, hn, S', ea, f1, f2, er⟩
    have hA' := f2 _ _ hA na
    refine ⟨_, rfl, _, rfl, _, _, rfl, rfl, _, rfl, ite2 (fun c0 => ?_) (fun c0 => ?_)⟩
    · have hlt : e < m := of_decide_eq_true c0
      refine ⟨_, rfl, _, rfl, a, _, rfl, .inl (SqL.of hA'), q, (cs.map V.ref).length, rfl, rfl, _, rfl, ite2 (fun c1 => ?_) (fun c1 => ?_)⟩
      · have hq : q < cs.length := by
          have h := of_decide_eq_true c1
          rw [List.length_map] at h
          exact h
        obtain ⟨n', rfl⟩ : ∃ n', n = n' + 1 := ⟨n - 1, by omega⟩
        have ec : cs[q]? = some (cs[q]) := List.getElem?_eq_getElem hq
        have ex : xs[q]? = some (xs[q]'(by omega)) := List.getElem?_eq_getElem _
        generalize cs[q] = c at ec
        generalize xs[q]'(by omega) = x at ex
        obtain ⟨hI, g⟩ := hX q c x ec ex
        have hI' : InsAt H' c x := f2 _ _ hI (foot_in S hI)
        rw [VM.run_step ex] at er
        refine ⟨_, fun σ' H'' h => ⟨n', Nat.lt_succ_self _, h⟩, ?_⟩
        refine ⟨_, rfl, _, rfl, _, rfl, a, _, _, _, rfl, rfl, SqL.of hA', at_refs ec, _, rfl, r', c, s', x, q, (by rw [ea]; rfl), S', hI', g, fun H2 r2 S2 a2 g1 g2 => ?_⟩
        exact ⟨_, rfl, _, 1, rfl, rfl, _, e + 1, r2, _, rfl, by omega, S2, a2.trans ea, foot_trans f1 f2 g1, keep_trans f1 f2 g2, er⟩
      · have hq : cs.length ≤ q := Nat.le_of_not_lt fun z => c1 (decide_eq_true (by rw [List.length_map]; exact z))
        rw [VM.run_end (by omega)] at er
        rw [← er] at k
        exact ⟨_, rfl, k H' r' S' ea f1 f2⟩
    · have hge : ¬ e < m := fun z => c0 (decide_eq_true z)
      obtain rfl : n = 0 := by omega
      rw [show Sd62.run xs 0 s' q = (s', q) from rfl] at er
      rw [← er] at k
      exact ⟨_, rfl, k H' r' S' ea f1 f2⟩
end
end VP

set_option Elab.async false
set_option linter.all false
set_option maxRecDepth 100000
set_option maxHeartbeats 4000000
namespace VP
open PySem PySem.Spec PyProof.Rows L2
/-! ### a dict of the top with whole numbers as keys -/
def KeysInt : List DictEntry → Prop
  | [] => True
  | e :: r => (∃ k t, e.key = .int k t ∧ e.hash = hashInt k) ∧ KeysInt r
theorem KeysInt.all : ∀ {l : List DictEntry}, KeysInt l → ∀ e ∈ l, ∃ k t, e.key = .int k t ∧ e.hash = hashInt k
  | _ :: _, ⟨h, _⟩, _, .head _ => h
  | _ :: _, ⟨_, r⟩, _, .tail _ m => r.all _ m
theorem mapOf_I {prog : Program} {w : World} {K : PySem.W.Frag} {h : Heap} {a : Addr} {es : Array DictEntry} {n : Nat} (X : K.In h) (hl : K.lookup a = some ⟨.type "dict", none, .dict es n, #[]⟩) (hk : KeysInt es.toList) :
    h.MapOf (intKind prog w) a (fun k => findBy Value.isInt es k) :=
  ⟨_, es, n, X _ _ hl, ⟨rfl, rfl, rfl⟩, rfl, fun e he => by
    obtain ⟨k, t, e1, e2⟩ := hk.all e (Array.mem_toList_iff.mpr he)
    exact ⟨k, by rw [e1]; exact intKind_is prog w k t, e2⟩, fun _ => rfl⟩
/-- at a: a written dict that holds o at the key k -/
structure KInt (K : PySem.W.Frag) (a : Addr) (k : Int) (o : Option V) : Prop where
  ok : ∃ es n, K.lookup a = some ⟨.type "dict", none, .dict es n, #[]⟩ ∧ KeysInt es.toList ∧ (∀ v, o = some v → ∃ u, findBy Value.isInt es k = some u ∧ RelV v u) ∧ (o = none → findBy Value.isInt es k = none)
def rIxI (K : PySem.W.Frag) : R2 := fun x y H Q => ∃ p k v, x = .ref p ∧ y = .int k ∧ KInt K p k (some v) ∧ Q v H
theorem ix_kint {X : Cx} {K : PySem.W.Frag} (hK : X.K = K := by rfl) : IxR X (rIxI K) := by
  subst hK
  intro value slice pins s σ H x y v u Q I rx ry h hs
  obtain ⟨p, k, r, rfl, rfl, ⟨⟨es, n, hl, hk, e, _⟩⟩, q⟩ := h
  obtain ⟨u0, e, ru⟩ := e r rfl
  obtain rfl : v = Value.ref p := rx
  obtain ⟨t, rfl⟩ := ry
  have hm := mapOf_I (prog := X.prog) (w := X.w) I.kIn hl hk
  exact tail_any hm.typeIs slot_dict_getitem.lookup (wpAny_getItem_of (intKind_is X.prog X.w k t) hm e ⟨r, H, I.tok _, ru, q⟩) hs
def tKGet (K : PySem.W.Frag) (td ty tx : TE) : TE := fun σ H Q => td σ H fun x H1 => ∃ a, x = .ref a ∧ (a == sysModules) = false ∧ (∃ k o, KInt K a k o) ∧ ty σ H1 fun y H2 => tx σ H2 fun z H3 => ∃ k o, y = .int k ∧ KInt K a k o ∧ Q (o.getD z) H3
theorem pe_kget {X : Cx} {K : PySem.W.Frag} {o e f : Expr} {td ty tx : TE} {apos cpos : Pos} (ho : PE X o td) (he : PE X e ty) (hf : PE X f tx) (m : M2 X o "get" apos e f cpos) (hK : X.K = K := by rfl) :
    PE X (.Call (.Attribute o "get" apos) [e, f] [] cpos) (tKGet K td ty tx) := by
  subst hK
  refine ⟨fun pins s σ H Q I h => ?_⟩
  refine wpAny_Call_method m.base m.few m.line PySem.F.plainAttrs_dict PySem.F.slot_dict_get PySem.F.type_dict_get (thn (ho.run pins s σ H _ I h) fun u s1 ⟨x, H1, I1, rx, a, ex, hd, ⟨k0, o0, ⟨es0, n0, hl0, hk0, _⟩⟩, q1⟩ => ?_)
  subst ex
  obtain rfl : u = Value.ref a := rx
  have hm0 := mapOf_I (prog := X.prog) (w := X.w) I1.kIn hl0 hk0
  refine ⟨hm0.typeIs, hm0.noDict, ?_⟩
  rw [m.trees]
  refine Calls.callWith_builtin rfl (Calls.evalArgs_plain (Calls.spliced_cons (thn (he.run pins s1 σ H1 _ I1 q1) fun iv s2 ⟨y, H2, I2, ry, q2⟩ =>
    Calls.spliced_cons (thn (hf.run pins s2 σ H2 _ I2 q2) fun fv s3 ⟨z, H3, I3, rz, k, ov, ey, ⟨es, n, hl, hk, e1, e2⟩, q3⟩ => Calls.spliced_nil ?_))))
  subst ey
  obtain ⟨t, rfl⟩ := ry
  have hm := mapOf_I (prog := X.prog) (w := X.w) I3.kIn hl hk
  refine call_meetsIn PySem.F.slot_dict_get hm.typeIs PySem.F.entry_dict_get (PySem.F.args_dict_get_3 _ _ _) (meets_dict_get_default (intKind X.prog X.w) a (intKind_is X.prog X.w k t) hd fv) ⟨_, hm, ?_⟩
  cases ov with
  | none =>
    rw [e2 rfl]
    exact ⟨z, H3, I3.tok _, rz, q3⟩
  | some v =>
    obtain ⟨u, eu, ru⟩ := e1 v rfl
    rw [eu]
    exact ⟨v, H3, I3.tok _, ru, q3⟩
end VP

set_option Elab.async false
set_option linter.all false
set_option maxRecDepth 100000
set_option maxHeartbeats 4000000
namespace VP
open PySem PySem.Spec PyProof.Rows L2
section
variable {P : Program} {w : World} {K : PySem.W.Frag} {mg : Str → Option Value} {base : Heap}
/-! ### lane_places -/
structure TxtD (K : PySem.W.Frag) (mg : Str → Option Value) : Prop where
  lanes : ∃ d, mg "LANES" = some (.ref d) ∧ ∀ w, VM.isLanes w → ∃ a, KInt K d (w : Int) (some (.ref a)) ∧ ∀ H, SqT K H a (nl [VM.first w, VM.first w + 16, VM.low w, VM.low w + VM.wide w])
  counts : ∃ d, mg "WORD_COUNTS" = some (.ref d) ∧ ∀ w, VM.isPart w → w ≠ 1 → KInt K d (w : Int) (some (nv (VM.count w)))
  one : ∃ t, mg "SCALAR_WEIGHT" = some (.int 1 t)
  mask : ∃ t, mg "MASK_WEIGHT" = some (.int 32 t)
/-- a list of new pairs -/
def PairsAt (H : Hp) (p : Addr) (pl : List (Nat × Nat)) : Prop := ∃ ts : List Addr, H p = some (.lst (ts.map V.ref)) ∧ ts.length = pl.length ∧ ∀ (i : Nat) (t : Addr), ts[i]? = some t → ∃ z, pl[i]? = some z ∧ H t = some (.tup [nv z.1, nv z.2])
theorem PairsAt.same {H H' : Hp} {p : Addr} {pl : List (Nat × Nat)} (h : PairsAt H p pl) (e : Same H H') : PairsAt H' p pl := by
  obtain ⟨ts, h1, h2, h3⟩ := h
  exact ⟨ts, e _ _ h1, h2, fun i t ht => by
    obtain ⟨z, e1, e2⟩ := h3 i t ht
    exact ⟨z, e1, e _ _ e2⟩⟩
theorem PairsAt.more {H : Hp} {p t : Addr} {pl pl' : List (Nat × Nat)} {x y : Nat} (h : PairsAt H p pl) (ht : H t = none) (e : pl ++ [(x, y)] = pl') :
    ∃ xs, upd H t (.tup [nv x, nv y]) p = some (.lst xs) ∧ xs.length = pl.length ∧ PairsAt (upd (upd H t (.tup [nv x, nv y])) p (.lst (xs ++ [.ref t]))) p pl' := by
  obtain ⟨ts, h1, h2, h3⟩ := h
  have npt : p ≠ t := ne_of_none h1 ht
  refine ⟨ts.map V.ref, by rw [upd_ne npt]; exact h1, by rw [List.length_map]; exact h2, ts ++ [t], ?_, ?_, ?_⟩
  · rw [upd_same, List.map_append]
    rfl
  · rw [← e, List.length_append, List.length_append, h2]
    rfl
  · intro i u hu
    have up : u ≠ p → upd (upd H t (.tup [nv x, nv y])) p (.lst (ts.map V.ref ++ [.ref t])) u = upd H t (.tup [nv x, nv y]) u := fun n => upd_ne n
    by_cases c : i < ts.length
    · rw [List.getElem?_append_left c] at hu
      obtain ⟨z, e1, e2⟩ := h3 i u hu
      refine ⟨z, by rw [← e, List.getElem?_append_left (by omega)]; exact e1, ?_⟩
      rw [up (fun q => by rw [q, h1] at e2; cases e2), upd_ne (ne_of_none e2 ht)]
      exact e2
    · rw [List.getElem?_append_right (by omega)] at hu
      have hi : i - ts.length = 0 := by
        by_cases z : i - ts.length = 0
        · exact z
        · rw [List.getElem?_eq_none (by simp; omega)] at hu
          cases hu
      rw [hi] at hu
      have eu : t = u := Option.some.inj hu
      subst eu
      refine ⟨(x, y), ?_, ?_⟩
      · rw [← e, List.getElem?_append_right (by omega), ← h2, hi]
        rfl
      · rw [up (Ne.symm npt), upd_same]
def spPlaces : Sp := fun vs H Q _ => ∃ wt : Nat, vs = [nv wt] ∧ VM.isLanes wt ∧ ∀ (H' : Hp) (p : Addr), Same H H' → H p = none → PairsAt H' p (VM.places wt) → Q (.ref p) H'
abbrev sPlaces : Stmt := top 9
theorem scPlaces : FnScope ["weight", "region", "places", "number", "lane"] ["weight"] (defScope sPlaces) := ⟨rfl, rfl, rfl, by decide +kernel, rfl, by decide +kernel, by decide +kernel⟩
theorem block_more (f c lo n i : Nat) (hi : i < c) : ((List.range (i + 1)).flatMap fun i => (List.range n).map fun j => (f + i, lo + j)) = ((List.range i).flatMap fun i => (List.range n).map fun j => (f + i, lo + j)) ++ (List.range n).map fun j => (f + i, lo + j) := by
  rw [List.range_succ, List.flatMap_append]
  simp
theorem ok_places {f : Addr} {fd : FuncData} (F : Fun K "lane_places" "lane_places" sPlaces f fd) (T : Txt0 mg) (TD : TxtD K mg) :
    FnOk P w K mg base CX0 1 f fd ["weight"] spPlaces := by
  obtain ⟨aD, eD, hD⟩ := TD.lanes
  refine F.ok scPlaces (fun vs H Q E h => ?_) (fun cdv A outer sh H vs Q E hr h => ?_)
  · obtain ⟨wt, rfl, _⟩ := h
    rfl
  · obtain ⟨wt, rfl, hw, k⟩ := h
    obtain ⟨aR, kR, tR⟩ := hD wt hw
    generalize hf : VM.first wt = f0 at tR
    generalize hlo : VM.low wt = l0 at tR
    generalize hn : VM.wide wt = n0 at tR
    have hb : f0 ≤ 16 ∧ l0 ≤ 4 ∧ n0 ≤ 8 := by
      rw [← hf, ← hlo, ← hn]
      rcases hw with rfl | rfl | rfl | rfl <;> decide
    obtain ⟨hb1, hb2, hb3⟩ := hb
    have epl : VM.places wt = VM.block f0 16 l0 n0 := by
      rw [← hf, ← hlo, ← hn]
      rfl
    rw [epl] at k
    refine ⟨_, (pss_cons (ps_set (i := 1) scPlaces.nd rfl (.inl rfl) (pe_ix (ix_kint (K := K)) (pe_glob (v := .ref aD) rfl eD rfl) (pv 0) (fun _ _ => rfl)))
      (pss_cons (ps_set (i := 2) scPlaces.nd rfl (.inl rfl) (pe_lst pa_nil))
      (pss_cons (ps_for PassesOwn.never rfl (pi_range2 rfl T.range (pa_cons (pe_ix (ix_tupK (K := K)) (pv 1) pe_int (fun _ _ => rfl)) (pa_cons (pe_ix (ix_tupK (K := K)) (pv 1) pe_int (fun _ _ => rfl)) pa_nil))) (pg_name (i := 3) scPlaces.nd rfl (.inl rfl))
        (pss_one (ps_for PassesOwn.never rfl (pi_range2 rfl T.range (pa_cons (pe_ix (ix_tupK (K := K)) (pv 1) pe_int (fun _ _ => rfl)) (pa_cons (pe_ix (ix_tupK (K := K)) (pv 1) pe_int (fun _ _ => rfl)) pa_nil))) (pg_name (i := 4) scPlaces.nd rfl (.inl rfl))
        (pss_one (ps_expr (pe_bm PySem.F.plainAttrs_list PySem.F.slot_list_append PySem.F.type_list_append mt_append (pv 2) (pa_cons (pe_tup (pa_cons (pv 3) (pa_cons (pv 4) pa_nil))) pa_nil)))))))
      (pss_one (ps_ret (pv 2)))))), ?_⟩
    refine ⟨_, rfl, aD, _, _, rfl, rfl, kR, Nat.zero_le _, fun q hq => ?_⟩
    have s0 : Same H (upd H q (.lst [])) := same_new hq
    refine ⟨_, rfl, aR, _, _, _, rfl, rfl, tR _, at_nl (i := 0) rfl, _, rfl, aR, _, _, _, rfl, rfl, tR _, at_nl (i := 1) rfl, (f0 : Int), ((f0 + 16 : Nat) : Int), rfl, ⟨by omega, by omega, by omega, by omega⟩, for_range (lo := (f0 : Int)) (n := (((f0 + 16 : Nat) : Int) - (f0 : Int)).toNat)
      (fun i σ H' => ∃ v3 v4 : Option V, σ = [some (nv wt), some (.ref aR), some (.ref q), v3, v4] ∧ Same H H' ∧ PairsAt H' q ((List.range i).flatMap fun i => (List.range n0).map fun j => (f0 + i, l0 + j))) ⟨none, none, rfl, s0, [], upd_same, rfl, fun i t h => by cases h⟩ ?_ ?_⟩
    · rintro i σ H' hi ⟨v3, v4, rfl, s5, hc⟩
      have hi : i < 16 := by omega
      rw [show (f0 : Int) + (i : Int) = ((f0 + i : Nat) : Int) from by omega]
      refine ⟨_, rfl, aR, _, _, _, rfl, rfl, tR _, at_nl (i := 2) rfl, _, rfl, aR, _, _, _, rfl, rfl, tR _, at_nl (i := 3) rfl, (l0 : Int), ((l0 + n0 : Nat) : Int), rfl, ⟨by omega, by omega, by omega, by omega⟩, for_range (lo := (l0 : Int)) (n := (((l0 + n0 : Nat) : Int) - (l0 : Int)).toNat)
        (fun j σ H' => ∃ v4 : Option V, σ = [some (nv wt), some (.ref aR), some (.ref q), some (nv (f0 + i)), v4] ∧ Same H H' ∧ PairsAt H' q (((List.range i).flatMap fun i => (List.range n0).map fun j => (f0 + i, l0 + j)) ++ (List.range j).map fun j => (f0 + i, l0 + j))) ⟨v4, rfl, s5, ?_⟩ ?_ ?_⟩
      · rw [List.range_zero, List.map_nil, List.append_nil]
        exact hc
      · rintro j σ H' hj ⟨v4, rfl, s6, hc6⟩
        have hj : j < n0 := by omega
        rw [show (l0 : Int) + (j : Int) = ((l0 + j : Nat) : Int) from by omega]
        have hq6 : ∃ xs, H' q = some (.lst xs) := by
          obtain ⟨ts, h1, _⟩ := hc6
          exact ⟨_, h1⟩
        obtain ⟨xs0, hx0⟩ := hq6
        refine ⟨_, rfl, .inl ⟨rfl, _, SqL.of hx0⟩, _, rfl, _, rfl, (by show 2 ≤ 16777216; decide), fun t ht => ?_⟩
        obtain ⟨xs, hx, hxl, hP⟩ := hc6.more ht (x := f0 + i) (y := l0 + j) (by rw [List.append_assoc])
        refine ⟨q, _, _, rfl, rfl, hx, ?_, ?_⟩
        · rw [hxl, List.length_append, List.length_map, List.length_range, List.length_flatMap]
          simp only [List.length_map, List.length_range, List.map_const', List.sum_replicate_nat]
          show _ < 16777216
          have : i * n0 ≤ 16 * 8 := Nat.mul_le_mul (by omega) hb3
          omega
        · refine ⟨_, rfl, same_over (same_lay s6 ht) hq, ?_⟩
          rw [List.range_succ, List.map_append]
          exact hP
      · rintro σ H' ⟨v4, rfl, s6, hc6⟩
        refine ⟨_, _, rfl, s6, ?_⟩
        rw [block_more f0 16 l0 n0 i hi]
        rw [show (((l0 + n0 : Nat) : Int) - (l0 : Int)).toNat = n0 from by omega] at hc6
        exact hc6
    · rintro σ H' ⟨v3, v4, rfl, s5, hc⟩
      rw [show (((f0 + 16 : Nat) : Int) - (f0 : Int)).toNat = 16 from by omega] at hc
      exact ⟨_, rfl, k H' q s5 hq hc⟩
/-! ### component_words -/
def spWords (C : Addr) : Sp := fun vs H Q _ => ∃ (r : Rg) (s : Sd62.St) (wt : Nat), vs = [.ref r.a, nv wt] ∧ StAt C H r s ∧ VM.isPart wt ∧ NewL H (VM.comp s wt) Q
abbrev sWords : Stmt := top 10
theorem scWords : FnScope ["state", "weight", "number", "lane"] ["state", "weight"] (defScope sWords) := ⟨rfl, rfl, rfl, by decide +kernel, rfl, by decide +kernel, by decide +kernel⟩
theorem ok_words {C : Addr} {f : Addr} {fd : FuncData} (F : Fun K "component_words" "component_words" sWords f fd) (T : Txt0 mg) (TS : TxtS K mg C) (TD : TxtD K mg)
    (CL : Cal P w K mg base 1 "lane_places" ["weight"] spPlaces) :
    FnOk P w K mg base CX0 2 f fd ["state", "weight"] (spWords C) := by
  obtain ⟨t1, e1⟩ := TD.one
  obtain ⟨t32, e32⟩ := TD.mask
  obtain ⟨f_L, fd_L, m_L, k_L, b_L, G_L⟩ := CL.ok
  refine F.ok scWords (fun vs H Q E h => ?_) (fun cdv A outer sh H vs Q E hr h => ?_)
  · obtain ⟨r, s, wt, rfl, _⟩ := h
    rfl
  · obtain ⟨r, s, wt, rfl, S, hw, k⟩ := h
    have hr1 : Room 1 _ := hr.mono (by decide)
    obtain ⟨dx, hO⟩ := S.obj
    refine ⟨_, (pss_cons (ps_if (pt_cmpR n_eq (pv 1) (pe_glob (v := .int 1) rfl e1 ⟨_, rfl⟩) (nomark _))
        (pss_one (ps_ret (pe_callTy call_list_of (by rfl) T.list (by decide +kernel) (pa_cons (pe_fldK (K := K) (pv 0)) pa_nil))))
        pss_nil)
      (pss_cons (ps_if (pt_cmpR n_eq (pv 1) (pe_glob (v := .int 32) rfl e32 ⟨_, rfl⟩) (nomark _))
        (pss_one (ps_ret (pe_callTy call_list_of (by rfl) T.list (by decide +kernel) (pa_cons (pe_fldK (K := K) (pv 0)) pa_nil))))
        pss_nil)
      (pss_one (ps_ret (pe_lc (own := [("number", 2), ("lane", 3)]) (g := gTup K 2 (gCons (gName 2) (gCons (gName 3) gNil))) (tt := tYes) rfl scWords.nd (pi_list (pe_call G_L hr1 rfl m_L k_L b_L .nil pass0 (pa_cons (pv 1) pa_nil))) (blkOk_by (N := ["state", "weight", "number", "lane"]) (sc := defScope sWords) (by decide +kernel)) (fun _ _ _ _ _ => (pg_tup rfl (pgs_cons (pg_name (i := 2) scWords.nd rfl (Or.inl rfl)) (pgs_cons (pg_name (i := 3) scWords.nd rfl (Or.inl rfl)) pgs_nil)))) (fun _ _ _ _ _ => pts_nil) (fun _ _ _ _ _ => (pe_ix (ix_listK (K := K)) (pe_ix (ix_listK (K := K)) (pe_fldK (K := K) (pv 0)) (pv 2) (fun _ _ => rfl)) (pv 3) (fun _ _ => rfl)))))))), ?_⟩
    refine ⟨_, rfl, _, 1, rfl, rfl, _, rfl, ite2 (fun c => ?_) (fun c => ?_)⟩
    · have e : wt = 1 := of_decide_eq_true c
      subst e
      exact ⟨_, rfl, _, C, dx, _, _, rfl, hO, TS.cl, TS.nS, sF_s, r.p1, _, rfl, .inl (SqL.of S.m), fun l hl => k _ l (same_new hl) hl upd_same⟩
    have n1 : ¬ wt = 1 := fun z => c (decide_eq_true z)
    refine ⟨_, rfl, _, 32, rfl, rfl, _, rfl, ite2 (fun c => ?_) (fun c => ?_)⟩
    · have e : wt = 32 := of_decide_eq_true c
      subst e
      exact ⟨_, rfl, _, C, dx, _, _, rfl, hO, TS.cl, TS.nM, sF_m, r.p3, _, rfl, .inl (SqL.of S.k), fun l hl => k _ l (same_new hl) hl upd_same⟩
    · have n32 : ¬ wt = 32 := fun z => c (decide_eq_true z)
      have hL : VM.isLanes wt := by
        unfold VM.isPart at hw
        unfold VM.isLanes
        omega
      rw [VM.comp_lanes S.wf hL] at k
      have hin := VM.places_in hL
      have hlen : (VM.places wt).length ≤ 128 := by
        rw [VM.places_length hL]
        exact VM.count_le hw
      refine ⟨_, rfl, wt, rfl, hL, fun H1 p s1 hp hP => ?_⟩
      obtain ⟨ts, hts, htl, hT⟩ := hP
      generalize VM.places wt = pl at *
      refine ⟨p, rfl, ⟨_, SqL.of hts⟩, fun D hD => ?_⟩
      have hHD : H D = none := Same.free s1 hD
      refine lc_list (K := K) (a := p) (xs := ts.map V.ref) (fun i H' => Same H1 H' ∧ H' D = some (.lst (nl ((pl.map fun z => (s.V z.1).getD z.2 0).take i)))) ⟨same_new hD, upd_same⟩ (fun i H' _ h => h.1.seq (SqL.of hts)) ?_ ?_
      · rintro i y H' hi ⟨s5, hc⟩
        rw [List.getElem?_map] at hi
        cases et : ts[i]? with
        | none =>
          rw [et] at hi
          cases hi
        | some t =>
          rw [et] at hi
          obtain rfl : V.ref t = y := Option.some.inj hi
          obtain ⟨⟨n, j⟩, hz, ht⟩ := hT i t et
          obtain ⟨hn, hj⟩ := hin _ (List.mem_of_getElem? hz)
          have hn : n < 32 := hn
          have hj : j < 8 := hj
          have s6 := s1.trans s5
          obtain ⟨cV, h1, hV⟩ := S.vec hn
          refine ⟨t, _, rfl, .inl (.inl (s5 _ _ ht)), rfl, _, _, rfl, _, _, rfl, rfl, rfl, yes_ok ?_⟩
          refine ⟨_, rfl, _, C, dx, _, _, rfl, s6 _ _ hO, TS.cl, TS.nV, sF_v, _, rfl, r.p2, _, _, _, rfl, rfl, SqL.of (s6 _ _ S.v), at_refs h1, _, rfl, cV, _, _, _, rfl, rfl, SqL.of (s6 _ _ hV), at_nl (x := (s.V n).getD j 0) ?_, ?_⟩
          · rw [List.getD_eq_getElem?_getD, List.getElem?_eq_getElem (by rw [(S.wf.V hn).2.1]; exact hj)]
            rfl
          · refine ⟨_, hc, ?_, same_over s5 hD, upd_app (VM.take_more ?_).symm⟩
            · rw [nl_length, List.length_take, List.length_map]
              show _ < 16777216
              omega
            · rw [List.getElem?_map, hz]
              rfl
      · rintro H2 ⟨s2, hc⟩
        refine k H2 D (s1.trans s2) hHD ?_
        rw [hc, List.take_of_length_le (by rw [List.length_map, List.length_map, htl]; exact Nat.le_refl _)]
end
end VP

set_option Elab.async false
set_option linter.all false
set_option maxRecDepth 100000
set_option maxHeartbeats 4000000
namespace VP
open PySem PySem.Spec PyProof.Rows L2
section
variable {P : Program} {w : World} {K : PySem.W.Frag} {mg : Str → Option Value} {base : Heap}
section
variable {C : Addr} {H H' : Hp} {r : Rg} {s : Sd62.St}
/-- a lane of a V register is written in place -/
theorem StAt.setLane (S : StAt C H r s) {n : Nat} (hn : n < 32) (j x : Nat) (hx : x < Sd62.W) {c : Addr} (hc : r.vs[n]? = some c) : StAt C (upd H c (.lst (nl ((s.V n).set j x)))) r (VM.St_setLane s n j x) := by
  obtain ⟨n12, n13, n1v, n23, n2v, n3v, nv⟩ := S.nds
  have mc : c ∈ r.vs := List.mem_of_getElem? hc
  refine ⟨?_, ?_, ?_, ?_, fun i d h => ?_, S.len, S.nd, S.wf.setLane hn j x hx⟩
  · obtain ⟨dx, h⟩ := S.obj
    exact ⟨dx, by rw [upd_ne (fun z => S.avs (by rw [z]; exact mc))]; exact h⟩
  · rw [upd_ne (fun z => n1v (by rw [z]; exact mc))]
    exact S.m
  · rw [upd_ne (fun z => n3v (by rw [z]; exact mc))]
    exact S.k
  · rw [upd_ne (fun z => n2v (by rw [z]; exact mc))]
    exact S.v
  · show ∃ l', (s.v.set n ((s.V n).set j x))[i]? = some l' ∧ _
    by_cases e : i = n
    · subst e
      rw [hc] at h
      obtain rfl := Option.some.inj h
      exact ⟨_, List.getElem?_set_self (by rw [S.wf.v32]; exact hn), upd_same⟩
    · obtain ⟨l', h1, h2⟩ := S.at_ i d h
      refine ⟨l', by rw [List.getElem?_set_ne (fun z => e z.symm)]; exact h1, ?_⟩
      rw [upd_ne (fun z => e (nd_ix nv (by rw [← z]; exact h) hc))]
      exact h2
/-- the M registers are a new list -/
theorem StAt.newM (S : StAt C H r s) {q dx : Addr} {l : List Nat} (hO : H r.a = some (.ins C dx (sF (.ref r.p1) (.ref r.p2) (.ref r.p3)))) (hq : H q = some (.lst (nl l))) (nq : q ∉ r.foot) (hl : l.length = 8) (hb : ∀ x ∈ l, x < Sd62.W) :
    StAt C (upd H r.a (.ins C dx (sF (.ref q) (.ref r.p2) (.ref r.p3)))) { r with p1 := q } { s with m := l } := by
  obtain ⟨n12, n13, n1v, n23, n2v, n3v, nv⟩ := S.nds
  unfold Rg.foot at nq
  simp only [List.mem_cons, not_or] at nq
  obtain ⟨q0, q1, q2, q3, qv⟩ := nq
  refine ⟨⟨dx, upd_same⟩, ?_, ?_, ?_, fun i d h => ?_, S.len, ?_, ⟨hl, S.wf.k8, S.wf.v32, S.wf.l8, hb, S.wf.kB, S.wf.vB⟩⟩
  · show upd H r.a _ q = _
    rw [upd_ne q0]
    exact hq
  · show upd H r.a _ r.p3 = _
    rw [upd_ne (Ne.symm S.ap3)]
    exact S.k
  · show upd H r.a _ r.p2 = _
    rw [upd_ne (Ne.symm S.ap2)]
    exact S.v
  · have h : r.vs[i]? = some d := h
    obtain ⟨l', h1, h2⟩ := S.at_ i d h
    refine ⟨l', h1, ?_⟩
    rw [upd_ne (fun z => S.avs (by rw [← z]; exact List.mem_of_getElem? h))]
    exact h2
  · show (q :: r.p2 :: r.p3 :: r.vs).Nodup
    simp only [List.nodup_cons, List.mem_cons, not_or]
    exact ⟨⟨q2, q3, qv⟩, ⟨n23, n2v⟩, n3v, nv⟩
theorem StAt.newK (S : StAt C H r s) {q dx : Addr} {l : List Nat} (hO : H r.a = some (.ins C dx (sF (.ref r.p1) (.ref r.p2) (.ref r.p3)))) (hq : H q = some (.lst (nl l))) (nq : q ∉ r.foot) (hl : l.length = 8) (hb : ∀ x ∈ l, x < Sd62.W) :
    StAt C (upd H r.a (.ins C dx (sF (.ref r.p1) (.ref r.p2) (.ref q)))) { r with p3 := q } { s with k := l } := by
  obtain ⟨n12, n13, n1v, n23, n2v, n3v, nv⟩ := S.nds
  unfold Rg.foot at nq
  simp only [List.mem_cons, not_or] at nq
  obtain ⟨q0, q1, q2, q3, qv⟩ := nq
  refine ⟨⟨dx, upd_same⟩, ?_, ?_, ?_, fun i d h => ?_, S.len, ?_, ⟨S.wf.m8, hl, S.wf.v32, S.wf.l8, S.wf.mB, hb, S.wf.vB⟩⟩
  · show upd H r.a _ r.p1 = _
    rw [upd_ne (Ne.symm S.ap1)]
    exact S.m
  · show upd H r.a _ q = _
    rw [upd_ne q0]
    exact hq
  · show upd H r.a _ r.p2 = _
    rw [upd_ne (Ne.symm S.ap2)]
    exact S.v
  · have h : r.vs[i]? = some d := h
    obtain ⟨l', h1, h2⟩ := S.at_ i d h
    refine ⟨l', h1, ?_⟩
    rw [upd_ne (fun z => S.avs (by rw [← z]; exact List.mem_of_getElem? h))]
    exact h2
  · show (r.p1 :: r.p2 :: q :: r.vs).Nodup
    simp only [List.nodup_cons, List.mem_cons, not_or]
    exact ⟨⟨n12, Ne.symm q1, n1v⟩, ⟨Ne.symm q2, n2v⟩, qv, nv⟩
theorem foot_tup (S : StAt C H r s) {b : Addr} {l : List V} (h : H b = some (.tup l)) : b ∉ r.foot := by
  intro hb
  unfold Rg.foot at hb
  simp only [List.mem_cons] at hb
  rcases hb with e | e | e | e | hb
  · obtain ⟨dx, h'⟩ := S.obj
    rw [← e, h] at h'
    cases h'
  · have := S.m
    rw [← e, h] at this
    cases this
  · have := S.v
    rw [← e, h] at this
    cases this
  · have := S.k
    rw [← e, h] at this
    cases this
  · obtain ⟨i, hi⟩ := List.mem_iff_getElem?.mp hb
    obtain ⟨l', h1, h2⟩ := S.at_ i _ hi
    rw [h] at h2
    cases h2
theorem a_foot (r : Rg) : r.a ∈ r.foot := .head _
theorem vs_foot {r : Rg} {b : Addr} (h : b ∈ r.vs) : b ∈ r.foot := .tail _ (.tail _ (.tail _ (.tail _ h)))
end
/-! ### put_component -/
def spPut (C : Addr) : Sp := fun vs H Q _ => ∃ (r : Rg) (s : Sd62.St) (wt : Nat) (a : Addr) (ws : List Nat), vs = [.ref r.a, nv wt, .ref a] ∧ StAt C H r s ∧ VM.isPart wt ∧ H a = some (.lst (nl ws)) ∧ a ∉ r.foot ∧ ws.length = VM.count wt ∧ (∀ x ∈ ws, x < Sd62.W) ∧
  Mod C H r (VM.put s wt ws) (Q .non)
abbrev sPut : Stmt := top 11
theorem scPut : FnScope ["state", "weight", "words", "place", "word"] ["state", "weight", "words"] (defScope sPut) := ⟨rfl, rfl, rfl, by decide +kernel, rfl, by decide +kernel, by decide +kernel⟩
theorem ok_put {C : Addr} {f : Addr} {fd : FuncData} (F : Fun K "put_component" "put_component" sPut f fd) (T : Txt0 mg) (TS : TxtS K mg C) (TD : TxtD K mg)
    (CL : Cal P w K mg base 1 "lane_places" ["weight"] spPlaces) :
    FnOk P w K mg base CX0 2 f fd ["state", "weight", "words"] (spPut C) := by
  obtain ⟨t1, e1⟩ := TD.one
  obtain ⟨t32, e32⟩ := TD.mask
  obtain ⟨f_L, fd_L, m_L, k_L, b_L, G_L⟩ := CL.ok
  refine F.ok scPut (fun vs H Q E h => ?_) (fun cdv A outer sh H vs Q E hr h => ?_)
  · obtain ⟨r, s, wt, a, ws, rfl, _⟩ := h
    rfl
  · obtain ⟨r, s, wt, a, ws, rfl, S, hw, hA, na, hl, hb, k⟩ := h
    have hr1 : Room 1 _ := hr.mono (by decide)
    obtain ⟨dx, hO⟩ := S.obj
    refine ⟨_, (pss_one (ps_if (pt_cmpR n_eq (pv 1) (pe_glob (v := .int 1) rfl e1 ⟨_, rfl⟩) (nomark _))
        (pss_one (ps_fld (pv 0) (pe_callTy call_list_of (by rfl) T.list (by decide +kernel) (pa_cons (pv 2) pa_nil)) rfl))
        (pss_one (ps_if (pt_cmpR n_eq (pv 1) (pe_glob (v := .int 32) rfl e32 ⟨_, rfl⟩) (nomark _))
        (pss_one (ps_fld (pv 0) (pe_callTy call_list_of (by rfl) T.list (by decide +kernel) (pa_cons (pv 2) pa_nil)) rfl))
        (pss_one (ps_for PassesOwn.never rfl (pi_zip (by rfl) T.zip (pa_cons (pe_call G_L hr1 rfl m_L k_L b_L .nil pass0 (pa_cons (pv 1) pa_nil)) (pa_cons (pv 2) pa_nil))) (pg_tup rfl (pgs_cons (pg_name (i := 3) scPut.nd rfl (.inl rfl)) (pgs_cons (pg_name (i := 4) scPut.nd rfl (.inl rfl)) pgs_nil)))
        (pss_one (ps_asg (pv 4) (pg_sub (pe_ix (ix_listK (K := K)) (pe_fldK (K := K) (pv 0)) (pe_ix (ix_tupK (K := K)) (pv 3) pe_int (fun _ _ => rfl)) (fun _ _ => rfl)) (pe_ix (ix_tupK (K := K)) (pv 3) pe_int (fun _ _ => rfl)) set_list))))))))), ?_⟩
    refine ⟨_, rfl, _, 1, rfl, rfl, _, rfl, ite2 (fun c => ?_) (fun c => ?_)⟩
    · have e : wt = 1 := of_decide_eq_true c
      subst e
      refine ⟨_, rfl, a, _, rfl, .inl (SqL.of hA), fun q hq => ?_⟩
      have s1 := same_new hq (o := .lst (nl ws))
      refine ⟨_, rfl, _, C, dx, _, rfl, s1 _ _ hO, TS.cl, TS.nS, (by show 3 < 1000; decide), ?_⟩
      rw [sF_ps]
      have S1 := S.same s1
      refine k _ _ (S1.newM (s1 _ _ hO) upd_same (S.off hq) hl hb) rfl (fun b hb => ?_) (fun b o h nb => ?_)
      · unfold Rg.foot at hb ⊢
        simp only [List.mem_cons] at hb ⊢
        rcases hb with e | e | e | e | e
        · exact .inl (.inl e)
        · exact .inr (by rw [e]; exact hq)
        · exact .inl (.inr (.inr (.inl e)))
        · exact .inl (.inr (.inr (.inr (.inl e))))
        · exact .inl (.inr (.inr (.inr (.inr e))))
      · rw [upd_ne (fun z => nb (by rw [z]; exact a_foot r))]
        exact s1 _ _ h
    have n1 : ¬ wt = 1 := fun z => c (decide_eq_true z)
    refine ⟨_, rfl, _, 32, rfl, rfl, _, rfl, ite2 (fun c => ?_) (fun c => ?_)⟩
    · have e : wt = 32 := of_decide_eq_true c
      subst e
      refine ⟨_, rfl, a, _, rfl, .inl (SqL.of hA), fun q hq => ?_⟩
      have s1 := same_new hq (o := .lst (nl ws))
      refine ⟨_, rfl, _, C, dx, _, rfl, s1 _ _ hO, TS.cl, TS.nM, (by show 3 < 1000; decide), ?_⟩
      rw [sF_pm]
      have S1 := S.same s1
      refine k _ _ (S1.newK (s1 _ _ hO) upd_same (S.off hq) hl hb) rfl (fun b hb => ?_) (fun b o h nb => ?_)
      · unfold Rg.foot at hb ⊢
        simp only [List.mem_cons] at hb ⊢
        rcases hb with e | e | e | e | e
        · exact .inl (.inl e)
        · exact .inl (.inr (.inl e))
        · exact .inl (.inr (.inr (.inl e)))
        · exact .inr (by rw [e]; exact hq)
        · exact .inl (.inr (.inr (.inr (.inr e))))
      · rw [upd_ne (fun z => nb (by rw [z]; exact a_foot r))]
        exact s1 _ _ h
    · have n32 : ¬ wt = 32 := fun z => c (decide_eq_true z)
      have hL : VM.isLanes wt := by
        unfold VM.isPart at hw
        unfold VM.isLanes
        omega
      have hin := VM.places_in hL
      have hpl := VM.places_length hL
      unfold VM.put at k
      rw [if_neg n1, if_neg n32] at k
      refine ⟨_, rfl, wt, rfl, hL, fun H1 p s1 hp hP => ?_⟩
      obtain ⟨ts, hts, htl, hT⟩ := hP
      generalize VM.places wt = pl at *
      have S1 := S.same s1
      have np : p ∉ r.foot := S.off hp
      have hA1 := s1 _ _ hA
      have elen : ts.length = ws.length := by omega
      refine ⟨_, rfl, p, a, _, _, rfl, SqL.of hts, SqL.of hA1, for_it (walk_zip (K := K) (a := p) (b := a) (xs := ts.map V.ref) (ys := nl ws) (n := ws.length) (by rw [nl_length, List.length_map]; omega))
        (fun i σ H' => ∃ v3 v4 : Option V, σ = [some (.ref r.a), some (nv wt), some (.ref a), v3, v4] ∧ StAt C H' r (VM.putL s ((pl.zip ws).take i)) ∧ ∀ b o, H1 b = some o → b ∉ r.foot → H' b = some o) ⟨none, none, rfl, S1, fun b o h _ => h⟩ (fun i σ H' _ h => ?_) ?_ ?_⟩
      · obtain ⟨_, _, _, _, f2⟩ := h
        exact ⟨SqL.of (f2 _ _ hts np), SqL.of (f2 _ _ hA1 na)⟩
      · rintro i v σ H2 H3 hi ⟨v3, v4, rfl, S2, f2⟩ ⟨T0, x, y, rfl, hT0, rfl, hx, hy⟩
        obtain ⟨y, hy1, rfl⟩ := of_nl hy
        have hx : (ts.map V.ref)[i]? = some x := hx
        rw [List.getElem?_map] at hx
        cases et : ts[i]? with
        | none =>
          rw [et] at hx
          cases hx
        | some t =>
          rw [et] at hx
          obtain rfl : V.ref t = x := Option.some.inj hx
          obtain ⟨⟨n, j⟩, hz, ht⟩ := hT i t et
          obtain ⟨hn, hj⟩ := hin _ (List.mem_of_getElem? hz)
          have hn : n < 32 := hn
          have hj : j < 8 := hj
          have s3 := same_new hT0 (o := .tup [V.ref t, nv y])
          have S3 := S2.same s3
          have ht3 := s3 _ _ (f2 _ _ ht (foot_tup S1 ht))
          obtain ⟨dx3, hO3⟩ := S3.obj
          obtain ⟨cV, h1, hV⟩ := S3.vec hn
          refine ⟨T0, _, rfl, .inl (.inl upd_same), rfl, _, _, rfl, _, _, rfl, rfl, ?_⟩
          refine ⟨_, rfl, _, rfl, _, C, dx3, _, _, rfl, hO3, TS.cl, TS.nV, sF_v, _, rfl, t, _, _, _, rfl, rfl, .inl (.inl ht3), rfl, r.p2, _, _, _, rfl, rfl, SqL.of S3.v, at_refs h1, _, rfl, t, _, _, _, rfl, rfl, .inl (.inl ht3), rfl, cV, _, _, j, rfl, rfl, hV, ix_nat (by rw [nl_length, (S3.wf.V hn).2.1]; exact hj), ?_⟩
          rw [nl_set]
          have ez : (pl.zip ws)[i]? = some ((n, j), y) := by
            rw [List.getElem?_zip_eq_some]
            exact ⟨hz, hy1⟩
          refine ⟨_, _, rfl, ?_, fun b o h nb => ?_⟩
          · rw [VM.putL_more ez]
            exact S3.setLane hn j y (hb _ (List.mem_of_getElem? hy1)) h1
          · rw [upd_ne (fun z => nb (by rw [z]; exact vs_foot (List.mem_of_getElem? h1)))]
            exact s3 _ _ (f2 _ _ h nb)
      · rintro σ H2 ⟨v3, v4, rfl, S2, f2⟩
        rw [List.take_of_length_le (by rw [List.length_zip]; omega)] at S2
        exact k H2 r S2 rfl (fun b hb => .inl hb) fun b o h nb => f2 b o (s1 _ _ h) nb
end
end VP

set_option Elab.async false
set_option linter.all false
set_option maxRecDepth 100000
set_option maxHeartbeats 4000000
namespace VP
open PySem PySem.Spec PyProof.Rows L2
section
variable {P : Program} {w : World} {K : PySem.W.Frag} {mg : Str → Option Value} {base : Heap}
/-! ### weights_in_use -/
structure TxtW (K : PySem.W.Frag) (mg : Str → Option Value) : Prop where
  weights : ∃ a, mg "WEIGHTS" = some (.ref a) ∧ ∀ H, SqT K H a (nl [1, 2, 4, 32, 64, 128])
def partAt (s : Sd62.St) (w : Nat) : Nat := Sd62.bit (Sd62.some0 (VM.comp s w)) w
def spUsed (C : Addr) : Sp := fun vs H Q _ => ∃ (r : Rg) (s : Sd62.St), vs = [.ref r.a] ∧ StAt C H r s ∧ ∀ H', Same H H' → Q (nv (Sd62.used s)) H'
abbrev sUsed : Stmt := top 12
theorem scUsed : FnScope ["state", "total", "weight", "word"] ["state"] (defScope sUsed) := ⟨rfl, rfl, rfl, by decide +kernel, rfl, by decide +kernel, by decide +kernel⟩
theorem used_sum (s : Sd62.St) : (([1, 2, 4, 32, 64, 128] : List Nat).map (partAt s)).sum = Sd62.used s := by
  rw [VM.used_eq]
  simp [partAt]
theorem part_of {w : Nat} (h : w ∈ ([1, 2, 4, 32, 64, 128] : List Nat)) : VM.isPart w := by
  simp at h
  exact h
theorem ok_used {C : Addr} {f : Addr} {fd : FuncData} (F : Fun K "weights_in_use" "weights_in_use" sUsed f fd) (T : Txt0 mg) (TW : TxtW K mg)
    (CW : Cal P w K mg base 2 "component_words" ["state", "weight"] (spWords C)) :
    FnOk P w K mg base CX0 3 f fd ["state"] (spUsed C) := by
  obtain ⟨aW, eW, tW⟩ := TW.weights
  obtain ⟨f_W, fd_W, m_W, k_W, b_W, G_W⟩ := CW.ok
  refine F.ok scUsed (fun vs H Q E h => ?_) (fun cdv A outer sh H vs Q E hr h => ?_)
  · obtain ⟨r, s, rfl, _⟩ := h
    rfl
  · obtain ⟨r, s, rfl, S, k⟩ := h
    have hr2 : Room 2 _ := hr.mono (by decide)
    refine ⟨_, (pss_cons (ps_set (i := 1) scUsed.nd rfl (.inl rfl) pe_int)
      (pss_cons (ps_for PassesOwn.never rfl (pi_tup (pe_glob (v := .ref aW) rfl eW rfl)) (pg_name (i := 2) scUsed.nd rfl (.inl rfl))
        (pss_one (ps_if (pt_val (pe_callB (cr_any rfl) (by rfl) T.any (by decide +kernel) (pa_cons (pe_lc (own := [("word", 3)]) (g := gName 3) (tt := tYes) rfl scUsed.nd (pi_list (pe_call G_W hr2 rfl m_W k_W b_W .nil pass0 (pa_cons (pv 0) (pa_cons (pv 2) pa_nil)))) (blkOk_by (N := ["state", "total", "weight", "word"]) (sc := defScope sUsed) (by decide +kernel)) (fun _ _ _ _ _ => (pg_name (i := 3) scUsed.nd rfl (Or.inl rfl))) (fun _ _ _ _ _ => pts_nil) (fun _ _ _ _ _ => (pe_cmpR n_ne (pv 3) pe_int (nomark _)))) pa_nil)))
        (pss_one (ps_set (i := 1) scUsed.nd rfl (.inl rfl) (pe_op n_add (pv 1) (pv 2))))
        pss_nil)))
      (pss_one (ps_ret (pv 1))))), ?_⟩
    generalize hL : ([1, 2, 4, 32, 64, 128] : List Nat) = L at tW
    refine ⟨aW, rfl, ⟨_, tW _⟩, for_tup (K := K) (a := aW) (xs := nl L) (fun i σ H' => ∃ v2 v3 : Option V, σ = [some (.ref r.a), some (nv ((L.take i).map (partAt s)).sum), v2, v3] ∧ Same H H') ⟨none, none, rfl, Same.refl H⟩ (fun i σ H' _ _ => tW _) ?_ ?_⟩
    · rintro i y σ H' hi ⟨v2, v3, rfl, s5⟩
      obtain ⟨x, hx, rfl⟩ := of_nl hi
      have hp : VM.isPart x := part_of (by rw [hL]; exact List.mem_of_getElem? hx)
      refine ⟨_, rfl, _, rfl, r, s, x, rfl, S.same s5, hp, fun H1 p s1 hpn hl => ?_⟩
      refine ⟨p, rfl, ⟨_, SqL.of hl⟩, fun D hD => ?_⟩
      have hlen := VM.comp_length S.wf hp
      have hc128 := VM.count_le hp
      generalize hcw : VM.comp s x = cw at hl hlen
      refine lc_list (K := K) (a := p) (xs := nl cw) (fun j H2 => Same H1 H2 ∧ H2 D = some (.lst (((cw.map fun z => !decide (z = 0)).take j).map V.bl))) ⟨same_new hD, upd_same⟩ (fun j H2 _ h => h.1.seq (SqL.of hl)) ?_ ?_
      · rintro j z H2 hj ⟨s2, hc⟩
        obtain ⟨z, hz, rfl⟩ := of_nl hj
        refine ⟨rfl, yes_ok ?_⟩
        refine ⟨_, rfl, _, 0, rfl, rfl, _, hc, ?_, same_over s2 hD, ?_⟩
        · rw [List.length_map, List.length_take, List.length_map]
          show _ < 16777216
          omega
        · have em : (cw.map fun z => !decide (z = 0))[j]? = some (!decide (z = 0)) := by rw [List.getElem?_map, hz]; rfl
          rw [upd_same, VM.take_more em, List.map_append]
          rfl
      · rintro H2 ⟨s2, hc⟩
        have s6 := s5.trans (s1.trans s2)
        rw [List.take_of_length_le (by rw [List.length_map, nl_length]; exact Nat.le_refl _)] at hc
        have em : (L.take (i + 1)).map (partAt s) = (L.take i).map (partAt s) ++ [partAt s x] := by rw [VM.take_more hx, List.map_append]; rfl
        have ep : partAt s x = Sd62.bit ((cw.map fun z => !decide (z = 0)).any id) x := by
          unfold partAt
          rw [hcw, VM.some0_eq]
        refine ⟨D, _, rfl, SqL.of hc, _, rfl, ite2 (fun c => ?_) (fun c => ?_)⟩
        · refine ⟨_, rfl, _, rfl, _, _, rfl, rfl, some (nv x), v3, ?_, s6⟩
          rw [em, List.sum_append, ep, c]
          simp [Sd62.bit]
        · refine ⟨some (nv x), v3, ?_, s6⟩
          rw [em, List.sum_append, ep, Bool.eq_false_iff.mpr c]
          simp [Sd62.bit]
    · rintro σ H' ⟨v2, v3, rfl, s5⟩
      refine ⟨_, rfl, ?_⟩
      rw [nl_length, List.take_length, ← hL, used_sum]
      exact k H' s5
/-! ### has_components -/
def spHas : Sp := fun vs H Q _ => ∃ p u : Nat, vs = [nv p, nv u] ∧ Q (.bl (Sd62.hasAll p u)) H
abbrev sHas : Stmt := top 15
theorem scHas : FnScope ["components", "needed"] ["components", "needed"] (defScope sHas) := ⟨rfl, rfl, rfl, by decide +kernel, rfl, by decide +kernel, by decide +kernel⟩
theorem ok_has {f : Addr} {fd : FuncData} (F : Fun K "has_components" "has_components" sHas f fd) : FnOk P w K mg base CX0 1 f fd ["components", "needed"] spHas := by
  refine F.ok scHas (fun vs H Q E h => ?_) (fun cdv A outer sh H vs Q E hr h => ?_)
  · obtain ⟨p, u, rfl, _⟩ := h
    rfl
  · obtain ⟨p, u, rfl, k⟩ := h
    rw [VM.hasAll_eq] at k
    exact ⟨_, (pss_one (ps_ret (pe_cmpR n_eq (pe_op n_and (pv 0) (pv 1)) (pv 1) (nomark _)))), _, rfl, _, rfl, _, _, rfl, rfl, _, rfl, _, _, rfl, rfl, k⟩
/-! ### State.__init__ -/
def spStInit (C : Addr) : Sp := fun vs H Q _ => ∃ p dx : Addr, vs = [.ref p] ∧ H p = some (.ins C dx []) ∧
  ∀ (H' : Hp) (r : Rg), StAt C H' r Sd62.fresh → r.a = p → (∀ b ∈ r.foot, b = p ∨ H b = none) → (∀ b o, H b = some o → b ≠ p → H' b = some o) → Q .non H'
abbrev sStInit : Stmt := inClass (top 8) 0
theorem scStInit : FnScope ["self", "number"] ["self"] (defScope sStInit) := ⟨rfl, rfl, rfl, by decide +kernel, rfl, by decide +kernel, by decide +kernel⟩
theorem ok_stInit {C : Addr} {f : Addr} {fd : FuncData} (F : Fun K "__init__" "State.__init__" sStInit f fd) (T : Txt0 mg) (TS : TxtS K mg C) : FnOk P w K mg base CX0 1 f fd ["self"] (spStInit C) := by
  refine F.ok scStInit (fun vs H Q E h => ?_) (fun cdv A outer sh H vs Q E hr h => ?_)
  · obtain ⟨p, dx, rfl, _⟩ := h
    rfl
  · obtain ⟨p, dx, rfl, hp, k⟩ := h
    refine ⟨_, (pss_cons (ps_fld (pv 0) (pe_op op_rep (pe_lst (pa_cons pe_int pa_nil)) pe_int) rfl)
      (pss_cons (ps_fld (pv 0) (pe_lc (own := [("number", 1)]) (g := gName 1) (tt := tYes) rfl scStInit.nd (pi_range1 rfl T.range (pa_cons pe_int pa_nil)) (blkOk_by (N := ["self", "number"]) (sc := defScope sStInit) (by decide +kernel)) (fun _ _ _ _ _ => (pg_name (i := 1) scStInit.nd rfl (Or.inl rfl))) (fun _ _ _ _ _ => pts_nil) (fun _ _ _ _ _ => (pe_op op_rep (pe_lst (pa_cons pe_int pa_nil)) pe_int))) rfl)
      (pss_one (ps_fld (pv 0) (pe_op op_rep (pe_lst (pa_cons pe_int pa_nil)) pe_int) rfl)))), ?_⟩
    have e8 : (List.replicate (8 : Int).toNat [V.int 0]).flatten = nl (List.replicate 8 0) := rfl
    -- self.scalars
    refine ⟨(by show 1 ≤ 16777216; decide), fun t1 ht1 => ⟨t1, 8, _, rfl, rfl, upd_same, by decide, by decide, (by show 8 ≤ 16777216; decide), fun q1 hq1 => ?_⟩⟩
    rw [e8]
    have s1 := same_lay (same_new ht1 (o := .lst [V.int 0])) hq1 (o := .lst (nl (List.replicate 8 0)))
    have hq1H : H q1 = none := Same.free (same_new ht1 (o := .lst [V.int 0])) hq1
    generalize hH1 : upd (upd H t1 (.lst [V.int 0])) q1 (.lst (nl (List.replicate 8 0))) = H1 at *
    have h1q : H1 q1 = some (.lst (nl (List.replicate 8 0))) := by rw [← hH1]; exact upd_same
    have pq1 : p ≠ q1 := ne_of_none hp hq1H
    refine ⟨_, rfl, p, C, dx, _, rfl, s1 _ _ hp, TS.cl, TS.nS, (by show 0 < 1000; decide), ?_⟩
    generalize hH2 : upd H1 p _ = H2
    have h2p : H2 p = some (.ins C dx [("scalars", .ref q1)]) := by rw [← hH2]; exact upd_same
    have h2o : ∀ b o, H1 b = some o → b ≠ p → H2 b = some o := fun b o h n => by rw [← hH2, upd_ne n]; exact h
    have h2n : ∀ b, H2 b = none → H1 b = none := fun b h => by
      by_cases e : b = p
      · rw [e, h2p] at h
        cases h
      · rw [← hH2, upd_ne e] at h
        exact h
    -- self.vectors
    refine ⟨32, rfl, by decide, by decide, fun D hD => ?_⟩
    have hD1 := h2n _ hD
    have hDH : H D = none := Same.free s1 hD1
    refine lc_range (lo := 0) (n := (32 : Int).toNat) (fun i H' => ∃ cs : List Addr, Same H2 H' ∧ H' D = some (.lst (cs.map V.ref)) ∧ cs.length = i ∧ cs.Nodup ∧ ∀ c ∈ cs, c ≠ D ∧ H2 c = none ∧ H' c = some (.lst (nl (List.replicate 8 0)))) ⟨[], same_new hD, upd_same, rfl, List.nodup_nil, fun c h => by cases h⟩ ?_ ?_
    · rintro i H' hi ⟨cs, s3, hc, hl, nd, hcs⟩
      refine ⟨rfl, yes_ok ?_⟩
      refine ⟨(by show 1 ≤ 16777216; decide), fun t2 ht2 => ⟨t2, 8, _, rfl, rfl, upd_same, by decide, by decide, (by show 8 ≤ 16777216; decide), fun q2 hq2 => ?_⟩⟩
      rw [e8]
      have s4 := same_lay (same_new ht2 (o := .lst [V.int 0])) hq2 (o := .lst (nl (List.replicate 8 0)))
      have hq2' : H' q2 = none := Same.free (same_new ht2 (o := .lst [V.int 0])) hq2
      have nq2 : q2 ≠ D := fun z => by
        rw [z, hc] at hq2'
        cases hq2'
      refine ⟨_, s4 _ _ hc, ?_, cs ++ [q2], ?_, ?_, ?_, ?_, ?_⟩
      · rw [List.length_map, hl]
        show _ < 16777216
        have : i < 32 := hi
        omega
      · exact same_over (s3.trans s4) hD
      · rw [upd_same, List.map_append]
        rfl
      · rw [List.length_append, hl]
        rfl
      · rw [List.nodup_append]
        refine ⟨nd, by simp, fun a ha b hb => ?_⟩
        have hb : b = q2 := by simpa using hb
        rw [hb]
        exact ne_of_none (hcs a ha).2.2 hq2'
      · intro c hc'
        rcases List.mem_append.mp hc' with h | h
        · obtain ⟨n1, n2, n3⟩ := hcs c h
          exact ⟨n1, n2, by rw [upd_ne n1]; exact s4 _ _ n3⟩
        · have h : c = q2 := by simpa using h
          rw [h]
          exact ⟨nq2, Same.free s3 hq2', by rw [upd_ne nq2]; exact upd_same⟩
    · rintro H3 ⟨cs, s3, hc, hl, nd, hcs⟩
      have hl : cs.length = 32 := hl
      have h3p := s3 _ _ h2p
      refine ⟨_, rfl, p, C, dx, _, rfl, h3p, TS.cl, TS.nV, (by show 1 < 1000; decide), ?_⟩
      have pD : p ≠ D := ne_of_none hp hDH
      generalize hH4 : upd H3 p _ = H4
      have h4p : H4 p = some (.ins C dx [("scalars", .ref q1), ("vectors", .ref D)]) := by rw [← hH4]; exact upd_same
      have h4o : ∀ b o, H3 b = some o → b ≠ p → H4 b = some o := fun b o h n => by rw [← hH4, upd_ne n]; exact h
      have h4n : ∀ b, H4 b = none → H3 b = none := fun b h => by
        by_cases e : b = p
        · rw [e, h4p] at h
          cases h
        · rw [← hH4, upd_ne e] at h
          exact h
      -- self.masks
      refine ⟨(by show 1 ≤ 16777216; decide), fun t3 ht3 => ⟨t3, 8, _, rfl, rfl, upd_same, by decide, by decide, (by show 8 ≤ 16777216; decide), fun q3 hq3 => ?_⟩⟩
      rw [e8]
      have s5 := same_lay (same_new ht3 (o := .lst [V.int 0])) hq3 (o := .lst (nl (List.replicate 8 0)))
      have hq34 : H4 q3 = none := Same.free (same_new ht3 (o := .lst [V.int 0])) hq3
      have hq33 := h4n _ hq34
      have hq32 := Same.free s3 hq33
      have hq31 := h2n _ hq32
      have hq3H : H q3 = none := Same.free s1 hq31
      have pq3 : p ≠ q3 := ne_of_none hp hq3H
      refine ⟨_, rfl, p, C, dx, _, rfl, s5 _ _ h4p, TS.cl, TS.nM, (by show 2 < 1000; decide), ?_⟩
      have ef : putF "masks" (.ref q3) [("scalars", V.ref q1), ("vectors", V.ref D)] = sF (.ref q1) (.ref D) (.ref q3) := rfl
      have csp : ∀ c ∈ cs, c ≠ p := fun c h z => by
        have := (hcs c h).2.1
        rw [z, h2p] at this
        cases this
      have q1H2 : H2 q1 = some (.lst (nl (List.replicate 8 0))) := h2o _ _ h1q (Ne.symm pq1)
      have q13 : q1 ≠ q3 := ne_of_none q1H2 hq32
      have q1D : q1 ≠ D := ne_of_none q1H2 hD
      have Dq3 : D ≠ q3 := ne_of_none hc hq33
      refine k _ ⟨p, q1, D, q3, cs⟩ ?_ rfl ?_ ?_
      · have up : ∀ b o, b ≠ p → H3 b = some o → upd (upd (upd H4 t3 (.lst [V.int 0])) q3 (.lst (nl (List.replicate 8 0)))) p (.ins C dx (putF "masks" (.ref q3) [("scalars", V.ref q1), ("vectors", V.ref D)])) b = some o := fun b o n h => by
          rw [upd_ne n]
          exact s5 _ _ (h4o _ _ h n)
        refine ⟨⟨dx, upd_same⟩, up _ _ (Ne.symm pq1) (s3 _ _ q1H2), ?_, up _ _ (Ne.symm pD) hc, fun i c h => ?_, hl, ?_, VM.wf_fresh⟩
        · show upd _ p _ q3 = _
          rw [upd_ne (Ne.symm pq3)]
          exact upd_same
        · have h : cs[i]? = some c := h
          have m := List.mem_of_getElem? h
          have hi : i < 32 := by
            rw [← hl]
            exact (List.getElem?_eq_some_iff.mp h).1
          refine ⟨List.replicate 8 0, ?_, up _ _ (csp c m) (hcs c m).2.2⟩
          show (List.replicate 32 (List.replicate 8 0))[i]? = _
          rw [List.getElem?_replicate, if_pos hi]
        · show (q1 :: D :: q3 :: cs).Nodup
          simp only [List.nodup_cons, List.mem_cons, not_or]
          refine ⟨⟨q1D, q13, fun h => ?_⟩, ⟨Dq3, fun h => (hcs D h).1 rfl⟩, fun h => ?_, nd⟩
          · have := (hcs q1 h).2.1
            rw [q1H2] at this
            cases this
          · have := (hcs q3 h).2.2
            rw [hq33] at this
            cases this
      · intro b hb
        unfold Rg.foot at hb
        simp only [List.mem_cons] at hb
        rcases hb with e | e | e | e | e
        · exact .inl e
        · exact .inr (by rw [e]; exact hq1H)
        · exact .inr (by rw [e]; exact hDH)
        · exact .inr (by rw [e]; exact hq3H)
        · exact .inr (Same.free s1 (h2n _ (hcs b e).2.1))
      · intro b o h n
        rw [upd_ne n]
        exact s5 _ _ (h4o _ _ (s3 _ _ (h2o _ _ (s1 _ _ h) n)) n)
end
end VP

set_option Elab.async false
set_option linter.all false
set_option maxRecDepth 100000
set_option maxHeartbeats 4000000
namespace VP
open PySem PySem.Spec PyProof.Rows L2
section
variable {P : Program} {w : World} {K : PySem.W.Frag} {mg : Str → Option Value} {base : Heap}
/-! ### component_bytes -/
def spCBytes (C : Addr) : Sp := fun vs H Q _ => ∃ (r : Rg) (s : Sd62.St) (wt : Nat), vs = [.ref r.a, nv wt] ∧ StAt C H r s ∧ VM.isPart wt ∧ NewL H (Sd62.words (VM.comp s wt)) Q
abbrev sCBytes : Stmt := top 28
theorem scCBytes : FnScope ["state", "weight"] ["state", "weight"] (defScope sCBytes) := ⟨rfl, rfl, rfl, by decide +kernel, rfl, by decide +kernel, by decide +kernel⟩
theorem ok_cBytes {C : Addr} {f : Addr} {fd : FuncData} (F : Fun K "component_bytes" "component_bytes" sCBytes f fd)
    (CW : Cal P w K mg base 2 "component_words" ["state", "weight"] (spWords C)) (CB : Cal P w K mg base 1 "word_bytes" ["words"] (spWordBytes K)) :
    FnOk P w K mg base CX0 3 f fd ["state", "weight"] (spCBytes C) := by
  obtain ⟨f_W, fd_W, m_W, k_W, b_W, G_W⟩ := CW.ok
  obtain ⟨f_B, fd_B, m_B, k_B, b_B, G_B⟩ := CB.ok
  refine F.ok scCBytes (fun vs H Q E h => ?_) (fun cdv A outer sh H vs Q E hr h => ?_)
  · obtain ⟨r, s, wt, rfl, _⟩ := h
    rfl
  · obtain ⟨r, s, wt, rfl, S, hw, k⟩ := h
    have hr2 : Room 2 _ := hr.mono (by decide)
    have hr1 : Room 1 _ := hr.mono (by decide)
    refine ⟨_, (pss_one (ps_ret (pe_call G_B hr1 rfl m_B k_B b_B .nil pass0 (pa_cons (pe_call G_W hr2 rfl m_W k_W b_W .nil pass0 (pa_cons (pv 0) (pa_cons (pv 1) pa_nil))) pa_nil)))), ?_⟩
    refine ⟨_, rfl, _, rfl, r, s, wt, rfl, S, hw, fun H1 p s1 hp hl => ?_⟩
    have hlen := VM.comp_length S.wf hw
    have hc := VM.count_le hw
    exact ⟨p, _, rfl, SqL.of hl, by omega, fun H2 q s2 hq hl2 => k H2 q (s1.trans s2) (Same.free s1 hq) hl2⟩
/-! ### scalar_bytes -/
def scalarB (l : List Nat) (mark : Nat) : List Nat := l.flatMap fun x => Sd62.spread x 8 ++ ([mark, mark] ++ Sd62.zeros 6)
def spSBytes (C : Addr) : Sp := fun vs H Q _ => ∃ (r : Rg) (s : Sd62.St) (m : Nat), vs = [.ref r.a, nv m] ∧ StAt C H r s ∧ NewL H (scalarB s.m m) Q
theorem scalarB_length (l : List Nat) (m : Nat) : (scalarB l m).length = 16 * l.length := by
  unfold scalarB
  induction l with
  | nil => rfl
  | cons x l ih =>
    rw [List.flatMap_cons, List.length_append, ih, List.length_append, VM.spread_length]
    show 8 + 8 + _ = 16 * (l.length + 1)
    omega
theorem scalarB_more {l : List Nat} {m i x : Nat} (h : l[i]? = some x) : scalarB (l.take (i + 1)) m = (scalarB (l.take i) m ++ Sd62.words [x]) ++ [m, m, 0, 0, 0, 0, 0, 0] := by
  unfold scalarB Sd62.words
  rw [VM.take_more h, List.flatMap_append]
  simp [Sd62.zeros, List.replicate]
abbrev sSBytes : Stmt := top 29
theorem scSBytes : FnScope ["state", "mark", "content", "word"] ["state", "mark"] (defScope sSBytes) := ⟨rfl, rfl, rfl, by decide +kernel, rfl, by decide +kernel, by decide +kernel⟩
theorem ok_sBytes {C : Addr} {f : Addr} {fd : FuncData} (F : Fun K "scalar_bytes" "scalar_bytes" sSBytes f fd) (T : Txt0 mg) (TS : TxtS K mg C) (CB : Cal P w K mg base 1 "word_bytes" ["words"] (spWordBytes K)) :
    FnOk P w K mg base CX0 2 f fd ["state", "mark"] (spSBytes C) := by
  obtain ⟨f_B, fd_B, m_B, k_B, b_B, G_B⟩ := CB.ok
  refine F.ok scSBytes (fun vs H Q E h => ?_) (fun cdv A outer sh H vs Q E hr h => ?_)
  · obtain ⟨r, s, m, rfl, _⟩ := h
    rfl
  · obtain ⟨r, s, m, rfl, S, k⟩ := h
    have hr1 : Room 1 _ := hr.mono (by decide)
    obtain ⟨dx, hO⟩ := S.obj
    refine ⟨_, (pss_cons (ps_set (i := 2) scSBytes.nd rfl (.inl rfl) (pe_lst pa_nil))
      (pss_cons (ps_for PassesOwn.never rfl (pi_list (pe_fldK (K := K) (pv 0))) (pg_name (i := 3) scSBytes.nd rfl (.inl rfl))
        (pss_cons (ps_expr (pe_bm PySem.F.plainAttrs_list PySem.F.slot_list_extend PySem.F.type_list_extend mt_extend (pv 2) (pa_cons (pe_call G_B hr1 rfl m_B k_B b_B .nil pass0 (pa_cons (pe_lst (pa_cons (pv 3) pa_nil)) pa_nil)) pa_nil)))
      (pss_one (ps_expr (pe_bm PySem.F.plainAttrs_list PySem.F.slot_list_extend PySem.F.type_list_extend mt_extend (pv 2) (pa_cons (pe_lst (pa_cons (pv 1) (pa_cons (pv 1) (pa_cons pe_int (pa_cons pe_int (pa_cons pe_int (pa_cons pe_int (pa_cons pe_int (pa_cons pe_int pa_nil))))))))) pa_nil))))))
      (pss_one (ps_ret (pv 2))))), ?_⟩
    refine ⟨Nat.zero_le _, fun q hq => ?_⟩
    have s0 : Same H (upd H q (.lst [])) := same_new hq
    refine ⟨_, rfl, _, C, dx, _, _, rfl, s0 _ _ hO, TS.cl, TS.nS, sF_s, r.p1, rfl, ⟨_, SqL.of (s0 _ _ S.m)⟩, for_list (K := K) (a := r.p1) (xs := nl s.m) (fun i σ H' => ∃ v3 : Option V, σ = [some (.ref r.a), some (nv m), some (.ref q), v3] ∧ Same H H' ∧ H' q = some (.lst (nl (scalarB (s.m.take i) m))))
      ⟨none, rfl, s0, upd_same⟩ (fun i σ H' _ h => ?_) ?_ ?_⟩
    · obtain ⟨_, _, s5, _⟩ := h
      exact SqL.of (s5 _ _ S.m)
    · rintro i y σ H' hi ⟨v3, rfl, s5, hc⟩
      obtain ⟨x, hx, rfl⟩ := of_nl hi
      have hi8 : i < 8 := by
        rw [← S.wf.m8]
        exact (List.getElem?_eq_some_iff.mp hx).1
      refine ⟨_, rfl, .inl ⟨rfl, _, SqL.of hc⟩, _, rfl, (by show 1 ≤ 16777216; decide), fun t ht => ⟨t, [x], rfl, SqL.of upd_same, (by show 1 ≤ 1000; decide), fun H2 p s6 hp hl => ?_⟩⟩
      have s7 := (same_new ht).trans s6
      have hc2 := s7 _ _ hc
      refine ⟨q, p, _, _, rfl, rfl, hc2, hl, ?_, ?_⟩
      · rw [nl_length, nl_length, scalarB_length, VM.words_length, List.length_take]
        show _ ≤ 16777216
        simp
        omega
      have s8 : Same H (upd H2 q (.lst (nl (scalarB (s.m.take i) m) ++ nl (Sd62.words [x])))) := same_over (s5.trans s7) hq
      refine ⟨_, rfl, .inl ⟨rfl, _, SqL.of upd_same⟩, _, rfl, _, rfl, (by show 8 ≤ 16777216; decide), fun u hu => ?_⟩
      have nqu : q ≠ u := ne_of_none upd_same hu
      refine ⟨q, u, _, _, rfl, rfl, by rw [upd_ne nqu]; exact upd_same, upd_same, ?_, ?_⟩
      · rw [List.length_append, nl_length, nl_length, scalarB_length, VM.words_length, List.length_take]
        show _ ≤ 16777216
        simp
        omega
      · refine ⟨_, rfl, same_over (same_lay s8 hu) hq, ?_⟩
        rw [upd_same, scalarB_more hx, nl_app, nl_app]
        rfl
    · rintro σ H' ⟨v3, rfl, s5, hc⟩
      refine ⟨_, rfl, k H' q s5 hq ?_⟩
      rw [hc, nl_length, List.take_length]
end
end VP

set_option Elab.async false
set_option linter.all false
set_option maxRecDepth 100000
set_option maxHeartbeats 4000000
namespace VP
open PySem PySem.Spec PyProof.Rows L2
section
variable {P : Program} {w : World} {K : PySem.W.Frag} {mg : Str → Option Value} {base : Heap}
theorem zeros_nl (k : Nat) : (List.replicate (k : Int).toNat [V.int 0]).flatten = nl (Sd62.zeros k) := by
  rw [List.flatten_replicate_singleton, Int.toNat_natCast]
  exact (nl_rep k 0).symm
/-! ### what u tells of the parts -/
theorem bits6 : ∀ b1 b2 b4 b5 b6 b7 : Bool, let u := Sd62.bit b1 1 + (Sd62.bit b2 2 + (Sd62.bit b4 4 + (Sd62.bit b5 32 + (Sd62.bit b6 64 + Sd62.bit b7 128))));
    decide (u &&& 1 = 1) = b1 ∧ decide (u &&& 4 = 0) = !b4 ∧ decide (u &&& 32 = 0) = !b5 ∧ decide (u &&& 64 = 0) = !b6 ∧ decide (u &&& 128 = 0) = !b7 ∧ decide (u &&& 1 = 0) = !b1 ∧ decide (u &&& 2 = 0) = !b2 ∧ u ≤ 231 := by decide +kernel
theorem used_1 (s : Sd62.St) : decide (Sd62.used s &&& 1 = 1) = Sd62.some0 s.m := (bits6 (Sd62.some0 s.m) _ _ _ _ _).1
theorem used_le (s : Sd62.St) : Sd62.used s ≤ 231 := (bits6 (Sd62.some0 s.m) _ _ _ _ _).2.2.2.2.2.2.2
theorem used_part (s : Sd62.St) {w : Nat} (h : w = 4 ∨ w = 32 ∨ w = 64 ∨ w = 128) : decide (Sd62.used s &&& w = 0) = !Sd62.some0 (VM.comp s w) := by
  have e := bits6 (Sd62.some0 (VM.comp s 1)) (Sd62.some0 (VM.comp s 2)) (Sd62.some0 (VM.comp s 4)) (Sd62.some0 (VM.comp s 32)) (Sd62.some0 (VM.comp s 64)) (Sd62.some0 (VM.comp s 128))
  rcases h with rfl | rfl | rfl | rfl
  · exact e.2.1
  · exact e.2.2.1
  · exact e.2.2.2.1
  · exact e.2.2.2.2.1
/-! ### head_bytes -/
def headB (s : Sd62.St) (u c : Nat) : List Nat := Sd62.legacy s ++ Sd62.header u c
theorem headB_eq (s : Sd62.St) (u c mk : Nat) (h : Sd62.bit (Sd62.some0 s.m) 255 = mk) :
    ((((((([127, 3, 0, 0, mk] ++ Sd62.zeros 19) ++ [128, 31, 0, 0, 255, 255, 0, 0]) ++ scalarB s.m mk) ++ Sd62.words (VM.comp s 2)) ++ Sd62.zeros 96) ++ Sd62.words [u, c]) ++ Sd62.zeros 48) = headB s u c := by
  unfold headB Sd62.legacy Sd62.header
  dsimp only
  rw [h]
  simp only [List.append_assoc]
  show _ = [127, 3, 0, 0, mk] ++ (Sd62.zeros 19 ++ ([128, 31, 0, 0, 255, 255, 0, 0] ++ (scalarB s.m mk ++ (Sd62.words (VM.comp s 2) ++ (Sd62.zeros 96 ++ (Sd62.spread u 8 ++ (Sd62.spread c 8 ++ Sd62.zeros 48)))))))
  have e : Sd62.words [u, c] = Sd62.spread u 8 ++ Sd62.spread c 8 := by
    unfold Sd62.words
    rw [List.flatMap_cons, List.flatMap_cons, List.flatMap_nil, List.append_nil]
  rw [e, List.append_assoc]
def spHead (C : Addr) : Sp := fun vs H Q _ => ∃ (r : Rg) (s : Sd62.St) (u c : Nat), vs = [.ref r.a, nv u, nv c] ∧ StAt C H r s ∧ u = Sd62.used s ∧ NewL H (headB s u c) Q
abbrev sHead : Stmt := top 30
theorem scHead : FnScope ["state", "weights", "form_word", "mark", "content"] ["state", "weights", "form_word"] (defScope sHead) := ⟨rfl, rfl, rfl, by decide +kernel, rfl, by decide +kernel, by decide +kernel⟩
theorem ok_head {C : Addr} {f : Addr} {fd : FuncData} (F : Fun K "head_bytes" "head_bytes" sHead f fd) (T : Txt0 mg) (TS : TxtS K mg C) (CB : Cal P w K mg base 1 "word_bytes" ["words"] (spWordBytes K))
    (CS : Cal P w K mg base 2 "scalar_bytes" ["state", "mark"] (spSBytes C)) (CC : Cal P w K mg base 3 "component_bytes" ["state", "weight"] (spCBytes C)) :
    FnOk P w K mg base CX0 4 f fd ["state", "weights", "form_word"] (spHead C) := by
  obtain ⟨f_B, fd_B, m_B, k_B, b_B, G_B⟩ := CB.ok
  obtain ⟨f_S, fd_S, m_S, k_S, b_S, G_S⟩ := CS.ok
  obtain ⟨f_C, fd_C, m_C, k_C, b_C, G_C⟩ := CC.ok
  refine F.ok scHead (fun vs H Q E h => ?_) (fun cdv A outer sh H vs Q E hr h => ?_)
  · obtain ⟨r, s, u, c, rfl, _⟩ := h
    rfl
  · obtain ⟨r, s, u, c, rfl, S, hu, k⟩ := h
    have hr3 : Room 3 _ := hr.mono (by decide)
    have hr2 : Room 2 _ := hr.mono (by decide)
    have hr1 : Room 1 _ := hr.mono (by decide)
    refine ⟨_, (pss_cons (ps_set (i := 3) scHead.nd rfl (.inl rfl) (pe_ifExp (pt_cmpR n_eq (pe_op n_and (pv 1) pe_int) pe_int (nomark _)) pe_int pe_int))
      (pss_cons (ps_set (i := 4) scHead.nd rfl (.inl rfl) (pe_op op_cat (pe_lst (pa_cons pe_int (pa_cons pe_int (pa_cons pe_int (pa_cons pe_int (pa_cons (pv 3) pa_nil)))))) (pe_op op_rep (pe_lst (pa_cons pe_int pa_nil)) pe_int)))
      (pss_cons (ps_expr (pe_bm PySem.F.plainAttrs_list PySem.F.slot_list_extend PySem.F.type_list_extend mt_extend (pv 4) (pa_cons (pe_lst (pa_cons pe_int (pa_cons pe_int (pa_cons pe_int (pa_cons pe_int (pa_cons pe_int (pa_cons pe_int (pa_cons pe_int (pa_cons pe_int pa_nil))))))))) pa_nil)))
      (pss_cons (ps_expr (pe_bm PySem.F.plainAttrs_list PySem.F.slot_list_extend PySem.F.type_list_extend mt_extend (pv 4) (pa_cons (pe_call G_S hr2 rfl m_S k_S b_S .nil pass0 (pa_cons (pv 0) (pa_cons (pv 3) pa_nil))) pa_nil)))
      (pss_cons (ps_expr (pe_bm PySem.F.plainAttrs_list PySem.F.slot_list_extend PySem.F.type_list_extend mt_extend (pv 4) (pa_cons (pe_call G_C hr3 rfl m_C k_C b_C .nil pass0 (pa_cons (pv 0) (pa_cons pe_int pa_nil))) pa_nil)))
      (pss_cons (ps_expr (pe_bm PySem.F.plainAttrs_list PySem.F.slot_list_extend PySem.F.type_list_extend mt_extend (pv 4) (pa_cons (pe_op op_rep (pe_lst (pa_cons pe_int pa_nil)) pe_int) pa_nil)))
      (pss_cons (ps_expr (pe_bm PySem.F.plainAttrs_list PySem.F.slot_list_extend PySem.F.type_list_extend mt_extend (pv 4) (pa_cons (pe_call G_B hr1 rfl m_B k_B b_B .nil pass0 (pa_cons (pe_lst (pa_cons (pv 1) (pa_cons (pv 2) pa_nil))) pa_nil)) pa_nil)))
      (pss_cons (ps_expr (pe_bm PySem.F.plainAttrs_list PySem.F.slot_list_extend PySem.F.type_list_extend mt_extend (pv 4) (pa_cons (pe_op op_rep (pe_lst (pa_cons pe_int pa_nil)) pe_int) pa_nil)))
      (pss_one (ps_ret (pv 4))))))))))), ?_⟩
    obtain ⟨mk, hmk⟩ : ∃ mk, Sd62.bit (Sd62.some0 s.m) 255 = mk := ⟨_, rfl⟩
    have hm : ∀ (P : V → Prop), P (nv mk) → (if decide (u &&& 1 = 1) = true then P (V.int 255) else P (V.int 0)) := fun P h => by
      rw [hu, used_1]
      cases e : Sd62.some0 s.m with
      | true =>
        rw [e] at hmk
        obtain rfl : 255 = mk := hmk
        exact h
      | false =>
        rw [e] at hmk
        obtain rfl : 0 = mk := hmk
        exact h
    refine ⟨_, rfl, u, 1, rfl, rfl, _, 1, rfl, rfl, _, rfl, ?_⟩
    refine hm (fun v => gName 3 v _ _ _) ?_
    refine ⟨_, rfl, (by show 5 ≤ 16777216; decide), fun a1 ha1 => ⟨(by show 1 ≤ 16777216; decide), fun a2 ha2 => ⟨a2, 19, _, rfl, rfl, upd_same, by decide, by decide, (by show 19 ≤ 16777216; decide), fun a3 ha3 => ?_⟩⟩⟩
    have e0 : (List.replicate (19 : Int).toNat [V.int 0]).flatten = nl (Sd62.zeros 19) := zeros_nl 19
    rw [e0]
    have z1 := same_new ha1 (o := .lst [V.int 127, V.int 3, V.int 0, V.int 0, nv mk])
    have z2 := same_lay z1 ha2 (o := .lst [V.int 0])
    have z3 := same_lay z2 ha3 (o := .lst (nl (Sd62.zeros 19)))
    have n13 : a1 ≠ a3 := ne_of_none (by rw [upd_ne (ne_of_none upd_same ha2)]; exact upd_same) ha3
    refine ⟨a1, a3, nl [127, 3, 0, 0, mk], _, rfl, rfl, by rw [upd_ne n13, upd_ne (ne_of_none upd_same ha2)]; exact upd_same, upd_same, (by show 24 ≤ 16777216; decide), fun q hq0 => ?_⟩
    rw [← nl_app]
    have hq : H q = none := Same.free z3 hq0
    have s1 := same_over z3 hq (o := .lst (nl ([127, 3, 0, 0, mk] ++ Sd62.zeros 19)))
    generalize upd (upd (upd H a1 (.lst [V.int 127, V.int 3, V.int 0, V.int 0, nv mk])) a2 (.lst [V.int 0])) a3 (.lst (nl (Sd62.zeros 19))) = H0 at *
    have h1 : upd H0 q (.lst (nl ([127, 3, 0, 0, mk] ++ Sd62.zeros 19))) q = some (.lst (nl ([127, 3, 0, 0, mk] ++ Sd62.zeros 19))) := upd_same
    have l1 : ([127, 3, 0, 0, mk] ++ Sd62.zeros 19).length = 24 := rfl
    generalize upd H0 q (.lst (nl ([127, 3, 0, 0, mk] ++ Sd62.zeros 19))) = H1 at *
    have lB2 : ([128, 31, 0, 0, 255, 255, 0, 0] : List Nat).length = 8 := rfl
    refine ⟨_, rfl, .inl ⟨rfl, _, SqL.of h1⟩, (by show 8 ≤ 16777216; decide), fun p2 hp2 => ?_⟩
    have sp2 := same_new hp2 (o := .lst [V.int 128, V.int 31, V.int 0, V.int 0, V.int 255, V.int 255, V.int 0, V.int 0])
    have hl2 : upd H1 p2 (.lst [V.int 128, V.int 31, V.int 0, V.int 0, V.int 255, V.int 255, V.int 0, V.int 0]) p2 = some (.lst (nl [128, 31, 0, 0, 255, 255, 0, 0])) := upd_same
    have l2 : (([127, 3, 0, 0, mk] ++ Sd62.zeros 19) ++ [128, 31, 0, 0, 255, 255, 0, 0]).length = 32 := by rw [List.length_append, l1, lB2]
    refine ⟨q, p2, _, _, rfl, rfl, sp2 _ _ h1, hl2, (by rw [nl_length, nl_length, l1, lB2]; show _ ≤ 16777216; omega), ?_⟩
    rw [← nl_app]
    have s2 := same_over (s1.trans sp2) hq (o := .lst (nl (([127, 3, 0, 0, mk] ++ Sd62.zeros 19) ++ [128, 31, 0, 0, 255, 255, 0, 0])))
    have h2 : upd (upd H1 p2 (.lst [V.int 128, V.int 31, V.int 0, V.int 0, V.int 255, V.int 255, V.int 0, V.int 0])) q (.lst (nl (([127, 3, 0, 0, mk] ++ Sd62.zeros 19) ++ [128, 31, 0, 0, 255, 255, 0, 0]))) q = some (.lst (nl (([127, 3, 0, 0, mk] ++ Sd62.zeros 19) ++ [128, 31, 0, 0, 255, 255, 0, 0]))) := upd_same
    generalize upd (upd H1 p2 (.lst [V.int 128, V.int 31, V.int 0, V.int 0, V.int 255, V.int 255, V.int 0, V.int 0])) q (.lst (nl (([127, 3, 0, 0, mk] ++ Sd62.zeros 19) ++ [128, 31, 0, 0, 255, 255, 0, 0]))) = H2 at *
    have lB3 : (scalarB s.m mk).length = 128 := (by rw [scalarB_length, S.wf.m8])
    refine ⟨_, rfl, .inl ⟨rfl, _, SqL.of h2⟩, _, rfl, _, rfl, r, s, mk, rfl, S.same s2, fun G3 p3 sp3 hp3 hl3 => ?_⟩
    have l3 : ((([127, 3, 0, 0, mk] ++ Sd62.zeros 19) ++ [128, 31, 0, 0, 255, 255, 0, 0]) ++ (scalarB s.m mk)).length = 160 := by rw [List.length_append, l2, lB3]
    refine ⟨q, p3, _, _, rfl, rfl, sp3 _ _ h2, hl3, (by rw [nl_length, nl_length, l2, lB3]; show _ ≤ 16777216; omega), ?_⟩
    rw [← nl_app]
    have s3 := same_over (s2.trans sp3) hq (o := .lst (nl ((([127, 3, 0, 0, mk] ++ Sd62.zeros 19) ++ [128, 31, 0, 0, 255, 255, 0, 0]) ++ (scalarB s.m mk))))
    have h3 : upd G3 q (.lst (nl ((([127, 3, 0, 0, mk] ++ Sd62.zeros 19) ++ [128, 31, 0, 0, 255, 255, 0, 0]) ++ (scalarB s.m mk)))) q = some (.lst (nl ((([127, 3, 0, 0, mk] ++ Sd62.zeros 19) ++ [128, 31, 0, 0, 255, 255, 0, 0]) ++ (scalarB s.m mk)))) := upd_same
    generalize upd G3 q (.lst (nl ((([127, 3, 0, 0, mk] ++ Sd62.zeros 19) ++ [128, 31, 0, 0, 255, 255, 0, 0]) ++ (scalarB s.m mk)))) = H3 at *
    have lB4 : (Sd62.words (VM.comp s 2)).length = 256 := (by rw [VM.words_length, VM.comp_length S.wf (.inr (.inl rfl))]; rfl)
    refine ⟨_, rfl, .inl ⟨rfl, _, SqL.of h3⟩, _, rfl, r, s, 2, rfl, S.same s3, .inr (.inl rfl), fun G4 p4 sp4 hp4 hl4 => ?_⟩
    have l4 : (((([127, 3, 0, 0, mk] ++ Sd62.zeros 19) ++ [128, 31, 0, 0, 255, 255, 0, 0]) ++ (scalarB s.m mk)) ++ (Sd62.words (VM.comp s 2))).length = 416 := by rw [List.length_append, l3, lB4]
    refine ⟨q, p4, _, _, rfl, rfl, sp4 _ _ h3, hl4, (by rw [nl_length, nl_length, l3, lB4]; show _ ≤ 16777216; omega), ?_⟩
    rw [← nl_app]
    have s4 := same_over (s3.trans sp4) hq (o := .lst (nl (((([127, 3, 0, 0, mk] ++ Sd62.zeros 19) ++ [128, 31, 0, 0, 255, 255, 0, 0]) ++ (scalarB s.m mk)) ++ (Sd62.words (VM.comp s 2)))))
    have h4 : upd G4 q (.lst (nl (((([127, 3, 0, 0, mk] ++ Sd62.zeros 19) ++ [128, 31, 0, 0, 255, 255, 0, 0]) ++ (scalarB s.m mk)) ++ (Sd62.words (VM.comp s 2))))) q = some (.lst (nl (((([127, 3, 0, 0, mk] ++ Sd62.zeros 19) ++ [128, 31, 0, 0, 255, 255, 0, 0]) ++ (scalarB s.m mk)) ++ (Sd62.words (VM.comp s 2))))) := upd_same
    generalize upd G4 q (.lst (nl (((([127, 3, 0, 0, mk] ++ Sd62.zeros 19) ++ [128, 31, 0, 0, 255, 255, 0, 0]) ++ (scalarB s.m mk)) ++ (Sd62.words (VM.comp s 2))))) = H4 at *
    have lB5 : (Sd62.zeros 96).length = 96 := List.length_replicate
    refine ⟨_, rfl, .inl ⟨rfl, _, SqL.of h4⟩, (by show 1 ≤ 16777216; decide), fun t5 ht5 => ⟨t5, 96, _, rfl, rfl, upd_same, by decide, by decide, (by show 96 ≤ 16777216; decide), fun p5 hp5 => ?_⟩⟩
    have e5 : (List.replicate (96 : Int).toNat [V.int 0]).flatten = nl (Sd62.zeros 96) := zeros_nl 96
    rw [e5]
    have sp5 := same_lay (same_new ht5 (o := .lst [V.int 0])) hp5 (o := .lst (nl (Sd62.zeros 96)))
    have hl5 : upd (upd H4 t5 (.lst [V.int 0])) p5 (.lst (nl (Sd62.zeros 96))) p5 = some (.lst (nl (Sd62.zeros 96))) := upd_same
    have l5 : ((((([127, 3, 0, 0, mk] ++ Sd62.zeros 19) ++ [128, 31, 0, 0, 255, 255, 0, 0]) ++ (scalarB s.m mk)) ++ (Sd62.words (VM.comp s 2))) ++ (Sd62.zeros 96)).length = 512 := by rw [List.length_append, l4, lB5]
    refine ⟨q, p5, _, _, rfl, rfl, sp5 _ _ h4, hl5, (by rw [nl_length, nl_length, l4, lB5]; show _ ≤ 16777216; omega), ?_⟩
    rw [← nl_app]
    have s5 := same_over (s4.trans sp5) hq (o := .lst (nl ((((([127, 3, 0, 0, mk] ++ Sd62.zeros 19) ++ [128, 31, 0, 0, 255, 255, 0, 0]) ++ (scalarB s.m mk)) ++ (Sd62.words (VM.comp s 2))) ++ (Sd62.zeros 96))))
    have h5 : upd (upd (upd H4 t5 (.lst [V.int 0])) p5 (.lst (nl (Sd62.zeros 96)))) q (.lst (nl ((((([127, 3, 0, 0, mk] ++ Sd62.zeros 19) ++ [128, 31, 0, 0, 255, 255, 0, 0]) ++ (scalarB s.m mk)) ++ (Sd62.words (VM.comp s 2))) ++ (Sd62.zeros 96)))) q = some (.lst (nl ((((([127, 3, 0, 0, mk] ++ Sd62.zeros 19) ++ [128, 31, 0, 0, 255, 255, 0, 0]) ++ (scalarB s.m mk)) ++ (Sd62.words (VM.comp s 2))) ++ (Sd62.zeros 96)))) := upd_same
    generalize upd (upd (upd H4 t5 (.lst [V.int 0])) p5 (.lst (nl (Sd62.zeros 96)))) q (.lst (nl ((((([127, 3, 0, 0, mk] ++ Sd62.zeros 19) ++ [128, 31, 0, 0, 255, 255, 0, 0]) ++ (scalarB s.m mk)) ++ (Sd62.words (VM.comp s 2))) ++ (Sd62.zeros 96)))) = H5 at *
    have lB6 : (Sd62.words [u, c]).length = 16 := (by rw [VM.words_length]; rfl)
    refine ⟨_, rfl, .inl ⟨rfl, _, SqL.of h5⟩, _, rfl, _, rfl, (by show 2 ≤ 16777216; decide), fun t6 ht6 => ⟨t6, [u, c], rfl, SqL.of upd_same, (by show 2 ≤ 1000; decide), fun G6 p6 sp6 hp6 hl6 => ?_⟩⟩
    have sq6 := (same_new ht6 (o := .lst [nv u, nv c])).trans sp6
    have l6 : (((((([127, 3, 0, 0, mk] ++ Sd62.zeros 19) ++ [128, 31, 0, 0, 255, 255, 0, 0]) ++ (scalarB s.m mk)) ++ (Sd62.words (VM.comp s 2))) ++ (Sd62.zeros 96)) ++ (Sd62.words [u, c])).length = 528 := by rw [List.length_append, l5, lB6]
    refine ⟨q, p6, _, _, rfl, rfl, sq6 _ _ h5, hl6, (by rw [nl_length, nl_length, l5, lB6]; show _ ≤ 16777216; omega), ?_⟩
    rw [← nl_app]
    have s6 := same_over (s5.trans sq6) hq (o := .lst (nl (((((([127, 3, 0, 0, mk] ++ Sd62.zeros 19) ++ [128, 31, 0, 0, 255, 255, 0, 0]) ++ (scalarB s.m mk)) ++ (Sd62.words (VM.comp s 2))) ++ (Sd62.zeros 96)) ++ (Sd62.words [u, c]))))
    have h6 : upd G6 q (.lst (nl (((((([127, 3, 0, 0, mk] ++ Sd62.zeros 19) ++ [128, 31, 0, 0, 255, 255, 0, 0]) ++ (scalarB s.m mk)) ++ (Sd62.words (VM.comp s 2))) ++ (Sd62.zeros 96)) ++ (Sd62.words [u, c])))) q = some (.lst (nl (((((([127, 3, 0, 0, mk] ++ Sd62.zeros 19) ++ [128, 31, 0, 0, 255, 255, 0, 0]) ++ (scalarB s.m mk)) ++ (Sd62.words (VM.comp s 2))) ++ (Sd62.zeros 96)) ++ (Sd62.words [u, c])))) := upd_same
    generalize upd G6 q (.lst (nl (((((([127, 3, 0, 0, mk] ++ Sd62.zeros 19) ++ [128, 31, 0, 0, 255, 255, 0, 0]) ++ (scalarB s.m mk)) ++ (Sd62.words (VM.comp s 2))) ++ (Sd62.zeros 96)) ++ (Sd62.words [u, c])))) = H6 at *
    have lB7 : (Sd62.zeros 48).length = 48 := List.length_replicate
    refine ⟨_, rfl, .inl ⟨rfl, _, SqL.of h6⟩, (by show 1 ≤ 16777216; decide), fun t7 ht7 => ⟨t7, 48, _, rfl, rfl, upd_same, by decide, by decide, (by show 48 ≤ 16777216; decide), fun p7 hp7 => ?_⟩⟩
    have e7 : (List.replicate (48 : Int).toNat [V.int 0]).flatten = nl (Sd62.zeros 48) := zeros_nl 48
    rw [e7]
    have sp7 := same_lay (same_new ht7 (o := .lst [V.int 0])) hp7 (o := .lst (nl (Sd62.zeros 48)))
    have hl7 : upd (upd H6 t7 (.lst [V.int 0])) p7 (.lst (nl (Sd62.zeros 48))) p7 = some (.lst (nl (Sd62.zeros 48))) := upd_same
    have l7 : ((((((([127, 3, 0, 0, mk] ++ Sd62.zeros 19) ++ [128, 31, 0, 0, 255, 255, 0, 0]) ++ (scalarB s.m mk)) ++ (Sd62.words (VM.comp s 2))) ++ (Sd62.zeros 96)) ++ (Sd62.words [u, c])) ++ (Sd62.zeros 48)).length = 576 := by rw [List.length_append, l6, lB7]
    refine ⟨q, p7, _, _, rfl, rfl, sp7 _ _ h6, hl7, (by rw [nl_length, nl_length, l6, lB7]; show _ ≤ 16777216; omega), ?_⟩
    rw [← nl_app]
    have s7 := same_over (s6.trans sp7) hq (o := .lst (nl ((((((([127, 3, 0, 0, mk] ++ Sd62.zeros 19) ++ [128, 31, 0, 0, 255, 255, 0, 0]) ++ (scalarB s.m mk)) ++ (Sd62.words (VM.comp s 2))) ++ (Sd62.zeros 96)) ++ (Sd62.words [u, c])) ++ (Sd62.zeros 48))))
    have h7 : upd (upd (upd H6 t7 (.lst [V.int 0])) p7 (.lst (nl (Sd62.zeros 48)))) q (.lst (nl ((((((([127, 3, 0, 0, mk] ++ Sd62.zeros 19) ++ [128, 31, 0, 0, 255, 255, 0, 0]) ++ (scalarB s.m mk)) ++ (Sd62.words (VM.comp s 2))) ++ (Sd62.zeros 96)) ++ (Sd62.words [u, c])) ++ (Sd62.zeros 48)))) q = some (.lst (nl ((((((([127, 3, 0, 0, mk] ++ Sd62.zeros 19) ++ [128, 31, 0, 0, 255, 255, 0, 0]) ++ (scalarB s.m mk)) ++ (Sd62.words (VM.comp s 2))) ++ (Sd62.zeros 96)) ++ (Sd62.words [u, c])) ++ (Sd62.zeros 48)))) := upd_same
    generalize upd (upd (upd H6 t7 (.lst [V.int 0])) p7 (.lst (nl (Sd62.zeros 48)))) q (.lst (nl ((((((([127, 3, 0, 0, mk] ++ Sd62.zeros 19) ++ [128, 31, 0, 0, 255, 255, 0, 0]) ++ (scalarB s.m mk)) ++ (Sd62.words (VM.comp s 2))) ++ (Sd62.zeros 96)) ++ (Sd62.words [u, c])) ++ (Sd62.zeros 48)))) = H7 at *
    refine ⟨_, rfl, k H7 q s7 hq ?_⟩
    rw [h7, headB_eq s u c mk hmk]
end
end VP

set_option Elab.async false
set_option linter.all false
set_option maxRecDepth 100000
set_option maxHeartbeats 4000000
namespace VP
open PySem PySem.Spec PyProof.Rows L2
section
variable {P : Program} {w : World} {K : PySem.W.Frag} {mg : Str → Option Value} {base : Heap}
/-! ### the constants of checkpoints -/
structure TxtC (K : PySem.W.Frag) (mg : Str → Option Value) : Prop where
  head : ∃ t, mg "HEAD_LENGTH" = some (.int 576 t)
  scal : ∃ t, mg "SCALARS_AT" = some (.int 32 t)
  pairs : ∃ t, mg "PAIRS_AT" = some (.int 160 t)
  wat : ∃ t, mg "WEIGHTS_AT" = some (.int 512 t)
  form : ∃ t, mg "FORM_AT" = some (.int 520 t)
  mark : ∃ t, mg "SHORT_MARK" = some (.int 9223372036854775808 t)
  tail : ∃ a, mg "TAIL_WEIGHTS" = some (.ref a) ∧ ∀ H, SqT K H a (nl [4, 32, 64, 128])
  longs : ∃ d, mg "LONG_LENGTHS" = some (.ref d) ∧ (d == sysModules) = false ∧ ∀ n : Nat, KInt K d (n : Int) (if n = 576 then some (nv 3) else if n = 832 then some (nv 7) else if n = 2688 then some (nv 231) else none)
theorem headB_length {s : Sd62.St} (hs : VM.Wf s) (u c : Nat) : (headB s u c).length = 576 := by
  rw [← headB_eq s u c _ rfl]
  have h2 := VM.comp_length hs (w := 2) (.inr (.inl rfl))
  simp only [List.length_append, scalarB_length, VM.words_length, h2, hs.m8, Sd62.zeros, List.length_replicate]
  rfl
/-- parts one after another -/
def tailB (s : Sd62.St) (l : List Nat) : List Nat := l.flatMap fun w => Sd62.words (VM.comp s w)
theorem tailB_length {s : Sd62.St} (hs : VM.Wf s) : ∀ l : List Nat, (∀ w ∈ l, VM.isPart w) → (tailB s l).length ≤ 1024 * l.length
  | [], _ => Nat.le_refl _
  | w :: l, h => by
    have ih := tailB_length hs l fun y hy => h y (.tail _ hy)
    have e := VM.comp_length hs (h w (.head _))
    have c := VM.count_le (h w (.head _))
    unfold tailB at ih ⊢
    rw [List.flatMap_cons, List.length_append, VM.words_length, e, List.length_cons]
    omega
theorem tailB_more {s : Sd62.St} {l : List Nat} {i w : Nat} (h : l[i]? = some w) : tailB s (l.take (i + 1)) = tailB s (l.take i) ++ Sd62.words (VM.comp s w) := by
  unfold tailB
  rw [VM.take_more h, List.flatMap_append]
  simp
/-! ### long_form -/
def spLong (C : Addr) : Sp := fun vs H Q _ => ∃ (r : Rg) (s : Sd62.St) (p : Nat), vs = [.ref r.a, nv p] ∧ StAt C H r s ∧ NewL H (Sd62.long p s) Q
theorem long3 (s : Sd62.St) : Sd62.long 3 s = headB s (Sd62.used s) 0 := by
  unfold Sd62.long headB
  rw [if_pos rfl, if_neg (by decide), List.append_nil, List.append_nil]
theorem long7 {p : Nat} (s : Sd62.St) (h3 : p ≠ 3) (h : p ≠ 231) : Sd62.long p s = headB s (Sd62.used s) 0 ++ Sd62.words (VM.comp s 4) := by
  unfold Sd62.long headB
  rw [if_neg h3, if_neg h, List.append_nil, List.append_assoc]
  rfl
theorem long231 (s : Sd62.St) : Sd62.long 231 s = ((headB s (Sd62.used s) 0 ++ Sd62.words (VM.comp s 4)) ++ Sd62.zeros 256) ++ tailB s [32, 64, 128] := by
  unfold Sd62.long headB tailB
  rw [if_neg (by decide), if_pos rfl]
  simp only [List.append_assoc, List.flatMap_cons, List.flatMap_nil, List.append_nil]
  rfl
abbrev sLong : Stmt := top 31
theorem scLong : FnScope ["state", "components", "content", "weight"] ["state", "components"] (defScope sLong) := ⟨rfl, rfl, rfl, by decide +kernel, rfl, by decide +kernel, by decide +kernel⟩
theorem ok_long {C : Addr} {f : Addr} {fd : FuncData} (F : Fun K "long_form" "long_form" sLong f fd) (T : Txt0 mg) (TS : TxtS K mg C)
    (CH : Cal P w K mg base 4 "head_bytes" ["state", "weights", "form_word"] (spHead C)) (CU : Cal P w K mg base 3 "weights_in_use" ["state"] (spUsed C)) (CC : Cal P w K mg base 3 "component_bytes" ["state", "weight"] (spCBytes C)) :
    FnOk P w K mg base CX0 5 f fd ["state", "components"] (spLong C) := by
  obtain ⟨f_H, fd_H, m_H, k_H, b_H, G_H⟩ := CH.ok
  obtain ⟨f_U, fd_U, m_U, k_U, b_U, G_U⟩ := CU.ok
  obtain ⟨f_C, fd_C, m_C, k_C, b_C, G_C⟩ := CC.ok
  refine F.ok scLong (fun vs H Q E h => ?_) (fun cdv A outer sh H vs Q E hr h => ?_)
  · obtain ⟨r, s, p, rfl, _⟩ := h
    rfl
  · obtain ⟨r, s, p, rfl, S, k⟩ := h
    have hr4 : Room 4 _ := hr.mono (by decide)
    have hr3 : Room 3 _ := hr.mono (by decide)
    refine ⟨_, (pss_cons (ps_set (i := 2) scLong.nd rfl (.inl rfl) (pe_call G_H hr4 rfl m_H k_H b_H .nil pass0 (pa_cons (pv 0) (pa_cons (pe_call G_U hr3 rfl m_U k_U b_U .nil pass0 (pa_cons (pv 0) pa_nil)) (pa_cons pe_int pa_nil)))))
      (pss_cons (ps_if (pt_cmpR n_ne (pv 1) pe_int (nomark _))
        (pss_one (ps_expr (pe_bm PySem.F.plainAttrs_list PySem.F.slot_list_extend PySem.F.type_list_extend mt_extend (pv 2) (pa_cons (pe_call G_C hr3 rfl m_C k_C b_C .nil pass0 (pa_cons (pv 0) (pa_cons pe_int pa_nil))) pa_nil))))
        pss_nil)
      (pss_cons (ps_if (pt_cmpR n_eq (pv 1) pe_int (nomark _))
        (pss_cons (ps_expr (pe_bm PySem.F.plainAttrs_list PySem.F.slot_list_extend PySem.F.type_list_extend mt_extend (pv 2) (pa_cons (pe_op op_rep (pe_lst (pa_cons pe_int pa_nil)) pe_int) pa_nil)))
      (pss_one (ps_for PassesOwn.never rfl (pi_tup (pe_tup (pa_cons pe_int (pa_cons pe_int (pa_cons pe_int pa_nil))))) (pg_name (i := 3) scLong.nd rfl (.inl rfl))
        (pss_one (ps_expr (pe_bm PySem.F.plainAttrs_list PySem.F.slot_list_extend PySem.F.type_list_extend mt_extend (pv 2) (pa_cons (pe_call G_C hr3 rfl m_C k_C b_C .nil pass0 (pa_cons (pv 0) (pa_cons (pv 3) pa_nil))) pa_nil)))))))
        pss_nil)
      (pss_one (ps_ret (pv 2)))))), ?_⟩
    refine ⟨_, rfl, _, rfl, r, s, rfl, S, fun G1 z1 => ⟨r, s, _, 0, rfl, S.same z1, rfl, fun H1 q z2 hq1 h1 => ?_⟩⟩
    have s1 := z1.trans z2
    have hq : H q = none := Same.free z1 hq1
    have l1 := headB_length S.wf (Sd62.used s) 0
    generalize hB : headB s (Sd62.used s) 0 = HB at *
    have i4 : VM.isPart 4 := .inr (.inr (.inl rfl))
    refine ⟨_, rfl, _, 3, rfl, rfl, _, rfl, ite2 (fun c => ?_) (fun c => ?_)⟩
    · have n3 : p ≠ 3 := fun z => by
        rw [z] at c
        exact absurd c (by decide)
      have lB2 : (Sd62.words (VM.comp s 4)).length = 256 := (by rw [VM.words_length, VM.comp_length S.wf i4]; rfl)
      refine ⟨_, rfl, .inl ⟨rfl, _, SqL.of h1⟩, _, rfl, r, s, 4, rfl, S.same s1, i4, fun G2 p2 sp2 hp2 hl2 => ?_⟩
      have l2 : (HB ++ (Sd62.words (VM.comp s 4))).length = 832 := by rw [List.length_append, l1, lB2]
      refine ⟨q, p2, _, _, rfl, rfl, sp2 _ _ h1, hl2, (by rw [nl_length, nl_length, l1, lB2]; show _ ≤ 16777216; omega), ?_⟩
      rw [← nl_app]
      have s2 := same_over (s1.trans sp2) hq (o := .lst (nl (HB ++ (Sd62.words (VM.comp s 4)))))
      have h2 : upd G2 q (.lst (nl (HB ++ (Sd62.words (VM.comp s 4))))) q = some (.lst (nl (HB ++ (Sd62.words (VM.comp s 4))))) := upd_same
      generalize upd G2 q (.lst (nl (HB ++ (Sd62.words (VM.comp s 4))))) = H2 at *
      refine ⟨_, rfl, _, 231, rfl, rfl, _, rfl, ite2 (fun c2 => ?_) (fun c2 => ?_)⟩
      · obtain rfl : p = 231 := of_decide_eq_true c2
        have lB3 : (Sd62.zeros 256).length = 256 := List.length_replicate
        refine ⟨_, rfl, .inl ⟨rfl, _, SqL.of h2⟩, (by show 1 ≤ 16777216; decide), fun t3 ht3 => ⟨t3, 256, _, rfl, rfl, upd_same, by decide, by decide, (by show 256 ≤ 16777216; decide), fun p3 hp3 => ?_⟩⟩
        have e3 : (List.replicate (256 : Int).toNat [V.int 0]).flatten = nl (Sd62.zeros 256) := zeros_nl 256
        rw [e3]
        have sp3 := same_lay (same_new ht3 (o := .lst [V.int 0])) hp3 (o := .lst (nl (Sd62.zeros 256)))
        have hl3 : upd (upd H2 t3 (.lst [V.int 0])) p3 (.lst (nl (Sd62.zeros 256))) p3 = some (.lst (nl (Sd62.zeros 256))) := upd_same
        have l3 : ((HB ++ (Sd62.words (VM.comp s 4))) ++ (Sd62.zeros 256)).length = 1088 := by rw [List.length_append, l2, lB3]
        refine ⟨q, p3, _, _, rfl, rfl, sp3 _ _ h2, hl3, (by rw [nl_length, nl_length, l2, lB3]; show _ ≤ 16777216; omega), ?_⟩
        rw [← nl_app]
        have s3 := same_over (s2.trans sp3) hq (o := .lst (nl ((HB ++ (Sd62.words (VM.comp s 4))) ++ (Sd62.zeros 256))))
        have h3 : upd (upd (upd H2 t3 (.lst [V.int 0])) p3 (.lst (nl (Sd62.zeros 256)))) q (.lst (nl ((HB ++ (Sd62.words (VM.comp s 4))) ++ (Sd62.zeros 256)))) q = some (.lst (nl ((HB ++ (Sd62.words (VM.comp s 4))) ++ (Sd62.zeros 256)))) := upd_same
        generalize upd (upd (upd H2 t3 (.lst [V.int 0])) p3 (.lst (nl (Sd62.zeros 256)))) q (.lst (nl ((HB ++ (Sd62.words (VM.comp s 4))) ++ (Sd62.zeros 256)))) = H3 at *
        refine ⟨(by show 3 ≤ 16777216; decide), fun t ht => ?_⟩
        have s4 := same_lay s3 ht (o := .tup [V.int 32, V.int 64, V.int 128])
        have nqt : q ≠ t := ne_of_none h3 ht
        generalize hL : ([32, 64, 128] : List Nat) = L
        have hT0 : upd H3 t (.tup [V.int 32, V.int 64, V.int 128]) t = some (.tup (nl L)) := by rw [← hL]; exact upd_same
        have hLl : L.length = 3 := by rw [← hL]; rfl
        generalize hA : HB ++ Sd62.words (VM.comp s 4) ++ Sd62.zeros 256 = A at *
        refine ⟨t, rfl, ⟨_, SqT.of upd_same⟩, for_tup (K := K) (a := t) (xs := nl L) (fun i σ H' => ∃ v3 : Option V, σ = [some (.ref r.a), some (nv 231), some (.ref q), v3] ∧ Same H H' ∧ H' q = some (.lst (nl (A ++ tailB s (L.take i)))) ∧ H' t = some (.tup (nl L))) ⟨none, rfl, s4, ?_, hT0⟩ (fun i σ H' _ h => ?_) ?_ ?_⟩
        · rw [upd_ne nqt, h3]
          simp [tailB]
        · obtain ⟨_, _, _, _, h⟩ := h
          exact SqT.of h
        · rintro i y σ H' hi ⟨v3, rfl, s5, hc, hT⟩
          obtain ⟨w, hw, rfl⟩ := of_nl hi
          have hp : VM.isPart w := part_of (by
            have m := List.mem_of_getElem? hw
            rw [← hL] at m
            simp at m ⊢
            omega)
          refine ⟨_, rfl, .inl ⟨rfl, _, SqL.of hc⟩, _, rfl, _, rfl, r, s, w, rfl, S.same s5, hp, fun G p sp hpn hl => ⟨q, p, _, _, rfl, rfl, sp _ _ hc, hl, ?_, ?_⟩⟩
          · have e1 := tailB_length S.wf (L.take i) fun y hy => part_of (by
              have m := List.mem_of_mem_take hy
              rw [← hL] at m
              simp at m ⊢
              omega)
            have e2 : (L.take i).length ≤ 3 := by rw [List.length_take]; omega
            have e3 := VM.comp_length S.wf hp
            have e4 := VM.count_le hp
            rw [nl_length, nl_length, List.length_append, VM.words_length, l3]
            show _ ≤ 16777216
            omega
          · refine ⟨_, rfl, same_over (s5.trans sp) hq, ?_, ?_⟩
            · rw [upd_same, ← nl_app, tailB_more hw, List.append_assoc]
            · rw [upd_ne (Ne.symm nqt)]
              exact sp _ _ hT
        · rintro σ H' ⟨v3, rfl, s5, hc, _⟩
          refine ⟨_, rfl, k H' q s5 hq ?_⟩
          rw [hc, nl_length, List.take_length, long231, hB, ← hL, hA]
      · have n231 : p ≠ 231 := fun z => c2 (decide_eq_true z)
        refine ⟨_, rfl, k H2 q s2 hq ?_⟩
        rw [h2, long7 s n3 n231, hB]
    · have e3 : p = 3 := by
        by_cases z : p = 3
        · exact z
        · exact absurd (show (!decide (p = 3)) = true by rw [decide_eq_false z]; rfl) c
      subst e3
      refine ⟨_, rfl, _, 231, rfl, rfl, _, rfl, ?_⟩
      refine if_false_of (by rfl) ?_
      refine ⟨_, rfl, k H1 q s1 hq ?_⟩
      rw [h1, long3, hB]
/-! ### short_form -/
def spShort (C : Addr) : Sp := fun vs H Q _ => ∃ (r : Rg) (s : Sd62.St), vs = [.ref r.a] ∧ StAt C H r s ∧ NewL H (Sd62.short s) Q
def inUse (u : Nat) (l : List Nat) : List Nat := l.filter fun w => !decide (u &&& w = 0)
theorem inUse_more {u : Nat} {l : List Nat} {i w : Nat} (h : l[i]? = some w) : inUse u (l.take (i + 1)) = inUse u (l.take i) ++ (if u &&& w = 0 then [] else [w]) := by
  unfold inUse
  rw [VM.take_more h, List.filter_append]
  by_cases c : u &&& w = 0
  · rw [if_pos c, List.filter_cons_of_neg (by simp [c]), List.filter_nil]
  · rw [if_neg c, List.filter_cons_of_pos (by simp [c]), List.filter_nil]
theorem tailB_app (s : Sd62.St) (a b : List Nat) : tailB s (a ++ b) = tailB s a ++ tailB s b := List.flatMap_append
theorem short_eq (s : Sd62.St) : Sd62.short s = headB s (Sd62.used s) (9223372036854775808 + Sd62.used s) ++ tailB s (inUse (Sd62.used s) [4, 32, 64, 128]) := by
  unfold Sd62.short headB inUse
  dsimp only
  rw [List.append_assoc]
  refine congrArg (Sd62.legacy s ++ ·) (congrArg (Sd62.header (Sd62.used s) (9223372036854775808 + Sd62.used s) ++ ·) ?_)
  have e : ∀ w l, tailB s (List.filter (fun w => !decide (Sd62.used s &&& w = 0)) (w :: l)) = (if Sd62.used s &&& w = 0 then [] else Sd62.words (VM.comp s w)) ++ tailB s (List.filter (fun w => !decide (Sd62.used s &&& w = 0)) l) := fun w l => by
    by_cases c : Sd62.used s &&& w = 0
    · rw [if_pos c, List.filter_cons_of_neg (by simp [c]), List.nil_append]
    · rw [if_neg c, List.filter_cons_of_pos (by simp [c])]
      rfl
  rw [e, e, e, e]
  rw [List.filter_nil]
  show _ = _ ++ (_ ++ (_ ++ (_ ++ [])))
  rw [List.append_nil]
  rfl
abbrev sShort : Stmt := top 32
theorem scShort : FnScope ["state", "weights", "content", "weight"] ["state"] (defScope sShort) := ⟨rfl, rfl, rfl, by decide +kernel, rfl, by decide +kernel, by decide +kernel⟩
theorem ok_short {C : Addr} {f : Addr} {fd : FuncData} (F : Fun K "short_form" "short_form" sShort f fd) (T : Txt0 mg) (TS : TxtS K mg C) (TC : TxtC K mg)
    (CH : Cal P w K mg base 4 "head_bytes" ["state", "weights", "form_word"] (spHead C)) (CU : Cal P w K mg base 3 "weights_in_use" ["state"] (spUsed C)) (CC : Cal P w K mg base 3 "component_bytes" ["state", "weight"] (spCBytes C)) :
    FnOk P w K mg base CX0 5 f fd ["state"] (spShort C) := by
  obtain ⟨t1, eM⟩ := TC.mark
  obtain ⟨aT, eT, tT⟩ := TC.tail
  obtain ⟨f_H, fd_H, m_H, k_H, b_H, G_H⟩ := CH.ok
  obtain ⟨f_U, fd_U, m_U, k_U, b_U, G_U⟩ := CU.ok
  obtain ⟨f_C, fd_C, m_C, k_C, b_C, G_C⟩ := CC.ok
  refine F.ok scShort (fun vs H Q E h => ?_) (fun cdv A outer sh H vs Q E hr h => ?_)
  · obtain ⟨r, s, rfl, _⟩ := h
    rfl
  · obtain ⟨r, s, rfl, S, k⟩ := h
    have hr4 : Room 4 _ := hr.mono (by decide)
    have hr3 : Room 3 _ := hr.mono (by decide)
    rw [short_eq] at k
    refine ⟨_, (pss_cons (ps_set (i := 1) scShort.nd rfl (.inl rfl) (pe_call G_U hr3 rfl m_U k_U b_U .nil pass0 (pa_cons (pv 0) pa_nil)))
      (pss_cons (ps_set (i := 2) scShort.nd rfl (.inl rfl) (pe_call G_H hr4 rfl m_H k_H b_H .nil pass0 (pa_cons (pv 0) (pa_cons (pv 1) (pa_cons (pe_op n_add (pe_glob (v := .int 9223372036854775808) rfl eM ⟨_, rfl⟩) (pv 1)) pa_nil)))))
      (pss_cons (ps_for PassesOwn.never rfl (pi_tup (pe_glob (v := .ref aT) rfl eT rfl)) (pg_name (i := 3) scShort.nd rfl (.inl rfl))
        (pss_one (ps_if (pt_cmpR n_ne (pe_op n_and (pv 1) (pv 3)) pe_int (nomark _))
        (pss_one (ps_expr (pe_bm PySem.F.plainAttrs_list PySem.F.slot_list_extend PySem.F.type_list_extend mt_extend (pv 2) (pa_cons (pe_call G_C hr3 rfl m_C k_C b_C .nil pass0 (pa_cons (pv 0) (pa_cons (pv 3) pa_nil))) pa_nil))))
        pss_nil)))
      (pss_one (ps_ret (pv 2)))))), ?_⟩
    refine ⟨_, rfl, r, s, rfl, S, fun G1 z1 => ?_⟩
    have hule := used_le s
    generalize hu : Sd62.used s = u at *
    refine ⟨_, rfl, _, rfl, _, rfl, 9223372036854775808, u, rfl, rfl, r, s, u, _, rfl, S.same z1, hu.symm, fun H1 q z2 hq1 h1 => ?_⟩
    have s1 := z1.trans z2
    have hq : H q = none := Same.free z1 hq1
    have l1 := headB_length S.wf u (9223372036854775808 + u)
    have h1 : H1 q = some (.lst (nl (headB s u (9223372036854775808 + u)))) := h1
    generalize hB : headB s u (9223372036854775808 + u) = HB at *
    generalize hL : ([4, 32, 64, 128] : List Nat) = L at tT k
    have hLl : L.length = 4 := by rw [← hL]; rfl
    have hLp : ∀ y ∈ L, VM.isPart y := fun y hy => part_of (by
      rw [← hL] at hy
      simp at hy ⊢
      omega)
    refine ⟨aT, rfl, ⟨_, tT _⟩, for_tup (K := K) (a := aT) (xs := nl L) (fun i σ H' => ∃ v3 : Option V, σ = [some (.ref r.a), some (nv u), some (.ref q), v3] ∧ Same H H' ∧ H' q = some (.lst (nl (HB ++ tailB s (inUse u (L.take i)))))) ⟨none, rfl, s1, ?_⟩ (fun i σ H' _ _ => tT _) ?_ ?_⟩
    · rw [h1]
      simp [tailB, inUse]
    · rintro i y σ H' hi ⟨v3, rfl, s5, hc⟩
      obtain ⟨w, hw, rfl⟩ := of_nl hi
      have hp : VM.isPart w := hLp w (List.mem_of_getElem? hw)
      refine ⟨_, rfl, _, rfl, _, _, rfl, rfl, _, 0, rfl, rfl, _, rfl, ite2 (fun c => ?_) (fun c => ?_)⟩
      · have hn : ¬ u &&& w = 0 := fun z => by
          have c : (!decide (u &&& w = 0)) = true := c
          rw [z] at c
          exact absurd c (by decide)
        refine ⟨_, rfl, .inl ⟨rfl, _, SqL.of hc⟩, _, rfl, _, rfl, r, s, w, rfl, S.same s5, hp, fun G p sp hpn hl => ⟨q, p, _, _, rfl, rfl, sp _ _ hc, hl, ?_, ?_⟩⟩
        · have e1 := tailB_length S.wf (inUse u (L.take i)) fun y hy => hLp y (List.mem_of_mem_take (List.mem_filter.mp hy).1)
          have e2 : (inUse u (L.take i)).length ≤ 4 := by
            refine Nat.le_trans (List.length_filter_le _ _) ?_
            rw [List.length_take]
            omega
          have e3 := VM.comp_length S.wf hp
          have e4 := VM.count_le hp
          rw [nl_length, nl_length, List.length_append, VM.words_length, l1]
          show _ ≤ 16777216
          omega
        · refine ⟨_, rfl, same_over (s5.trans sp) hq, ?_⟩
          rw [upd_same, ← nl_app, inUse_more hw, if_neg hn, tailB_app, List.append_assoc]
          simp [tailB]
      · have hz : u &&& w = 0 := by
          by_cases z : u &&& w = 0
          · exact z
          · exact absurd (show (!decide (u &&& w = 0)) = true by rw [decide_eq_false z]; rfl) c
        refine ⟨_, rfl, s5, ?_⟩
        rw [inUse_more hw, if_pos hz, List.append_nil]
        exact hc
    · rintro σ H' ⟨v3, rfl, s5, hc⟩
      refine ⟨_, rfl, k H' q s5 hq ?_⟩
      rw [hc, nl_length, List.take_length]
end
end VP

set_option Elab.async false
set_option linter.all false
set_option maxRecDepth 100000
set_option maxHeartbeats 4000000
namespace VP
open PySem PySem.Spec PyProof.Rows L2
section
variable {P : Program} {w : World} {K : PySem.W.Frag} {mg : Str → Option Value} {base : Heap}
/-- the class State makes a state -/
structure CalNew (P : Program) (w : World) (K : PySem.W.Frag) (mg : Str → Option Value) (base : Heap) (C : Addr) : Prop where
  ok : ∃ (f : Addr) (fd : FuncData), Mk K C f ∧ Binds K fd ["self"] [] ∧ FnOk P w K mg base CX0 1 f fd ["self"] (spStInit C)
/-- a state that stands where nothing stood -/
structure NewAt (C : Addr) (H H' : Hp) (r : Rg) (s : Sd62.St) : Prop where
  st : StAt C H' r s
  same : Same H H'
  new : ∀ b ∈ r.foot, H b = none
theorem NewAt.mod {C : Addr} {H H2 H3 : Hp} {r r3 : Rg} {s s' : Sd62.St} (N : NewAt C H H2 r s) (S3 : StAt C H3 r3 s') (g1 : ∀ b ∈ r3.foot, b ∈ r.foot ∨ H2 b = none) (g2 : ∀ b o, H2 b = some o → b ∉ r.foot → H3 b = some o) : NewAt C H H3 r3 s' :=
  ⟨S3, fun b o h => g2 b o (N.same b o h) (fun z => by
    rw [N.new b z] at h
    cases h), fun b hb => (g1 b hb).elim (N.new b) (Same.free N.same)⟩
theorem NewAt.on {C : Addr} {H H2 H3 : Hp} {r : Rg} {s : Sd62.St} (N : NewAt C H H2 r s) (e : Same H2 H3) : NewAt C H H3 r s := ⟨N.st.same e, N.same.trans e, N.new⟩
def NewSt (C : Addr) (H : Hp) (s : Sd62.St) (Q : VK) : Prop := ∀ (H' : Hp) (r : Rg), NewAt C H H' r s → Q (.ref r.a) H'
theorem numbers_lt {l : List Nat} (h : ∀ x ∈ l, x < 256) (o n : Nat) : ∀ x ∈ Sd62.numbers l o n, x < Sd62.W := by
  intro x hx
  obtain ⟨i, _, rfl⟩ := List.mem_map.mp hx
  exact VM.number8_lt l h _
/-- a comprehension over range(n), whatever comes behind it -/
theorem lc_rngR {D : Addr} {n : Nat} {te : TE} {σ : L2.St} {H H1 : Hp} {R : Hp → Prop} {j : Nat} (f : Nat → Nat) (s1 : Same H H1) (hD : H1 D = none) (hn : n ≤ 1000)
    (hte : ∀ (i : Nat) (H2 : Hp) (Q' : VK), i < n → Same H H2 → (∀ H3, Same H2 H3 → Q' (nv (f i)) H3) → te ((wipe σ [j]).set j (some (nv i))) H2 Q')
    (hw : ∀ x : V, wipe ((wipe σ [j]).set j (some x)) [j] = wipe σ [j]) (k : ∀ H2, Same H H2 → H2 D = some (.lst (nl ((List.range n).map f))) → R H2) :
    ∃ W : Nat → Nat → Hp → Prop, (∃ m, W 0 m (upd H1 D (.lst []))) ∧ ∀ i m H, W i m H →
      ((Itr 0 n).stop i H ∧ R H) ∨ ((Itr 0 n).go i H ∧ ∃ Nx : Hp → Prop, (∀ H', Nx H' → ∃ m', m' < m ∧ W (i + 1) m' H') ∧ ∀ x H', (Itr 0 n).yld i H x H' → gName j x (wipe σ [j]) H' fun σ2 H2 => wipe σ2 [j] = wipe σ [j] ∧ tYes σ2 H2 fun b H3 =>
        if b = true then te σ2 H3 fun y H4 => ∃ acc, H4 D = some (.lst acc) ∧ acc.length < sizeLine ∧ Nx (upd H4 D (.lst (acc ++ [y]))) else Nx H3) := by
  have hHD : H D = none := Same.free s1 hD
  refine lc_range (lo := 0) (fun i H' => Same H H' ∧ H' D = some (.lst (nl (((List.range n).map f).take i)))) ⟨same_lay s1 hD, upd_same⟩ ?_ ?_
  · rintro i H' hi ⟨s5, hc⟩
    rw [show (0 : Int) + (i : Int) = (i : Int) from by omega]
    refine ⟨hw _, yes_ok ?_⟩
    refine hte i _ _ hi s5 fun H3 s6 => ⟨_, s6 _ _ hc, ?_, same_over (s5.trans s6) hHD, upd_app (VM.take_more ?_).symm⟩
    · rw [nl_length, List.length_take, List.length_map, List.length_range]
      show _ < 16777216
      omega
    · rw [List.getElem?_map, List.getElem?_range hi]
      rfl
  · rintro H2 ⟨s2, hc⟩
    refine k H2 s2 ?_
    rw [hc, List.take_of_length_le (by rw [List.length_map, List.length_range]; exact Nat.le_refl _)]
/-! ### read_part -/
def spRPart (K : PySem.W.Frag) (C : Addr) : Sp := fun vs H Q _ => ∃ (r : Rg) (s : Sd62.St) (wt : Nat) (a : Addr) (l : List Nat) (o : Nat), vs = [.ref r.a, nv wt, .ref a, nv o] ∧ StAt C H r s ∧ VM.isPart wt ∧ wt ≠ 1 ∧ SqL K H a (nl l) ∧ (∀ x ∈ l, x < 256) ∧ o ≤ 100000000 ∧
  Mod C H r (VM.put s wt (Sd62.numbers l o (VM.count wt))) (Q .non)
abbrev sRPart : Stmt := top 35
theorem scRPart : FnScope ["state", "weight", "content", "at"] ["state", "weight", "content", "at"] (defScope sRPart) := ⟨rfl, rfl, rfl, by decide +kernel, rfl, by decide +kernel, by decide +kernel⟩
theorem ok_rPart {C : Addr} {f : Addr} {fd : FuncData} (F : Fun K "read_part" "read_part" sRPart f fd) (TD : TxtD K mg)
    (CP : Cal P w K mg base 2 "put_component" ["state", "weight", "words"] (spPut C)) (CA : Cal P w K mg base 1 "words_at" ["content", "at", "count"] (spWordsAt K)) :
    FnOk P w K mg base CX0 3 f fd ["state", "weight", "content", "at"] (spRPart K C) := by
  obtain ⟨aD, eD, hD⟩ := TD.counts
  obtain ⟨f_P, fd_P, m_P, k_P, b_P, G_P⟩ := CP.ok
  obtain ⟨f_A, fd_A, m_A, k_A, b_A, G_A⟩ := CA.ok
  refine F.ok scRPart (fun vs H Q E h => ?_) (fun cdv A outer sh H vs Q E hr h => ?_)
  · obtain ⟨r, s, wt, a, l, o, rfl, _⟩ := h
    rfl
  · obtain ⟨r, s, wt, a, l, o, rfl, S, hw, h1, hA, hb, ho, k⟩ := h
    have hr2 : Room 2 _ := hr.mono (by decide)
    have hr1 : Room 1 _ := hr.mono (by decide)
    have hc := VM.count_le hw
    refine ⟨_, (pss_one (ps_expr (pe_call G_P hr2 rfl m_P k_P b_P .nil pass0 (pa_cons (pv 0) (pa_cons (pv 1) (pa_cons (pe_call G_A hr1 rfl m_A k_A b_A .nil pass0 (pa_cons (pv 2) (pa_cons (pv 3) (pa_cons (pe_ix (ix_kint (K := K)) (pe_glob (v := .ref aD) rfl eD rfl) (pv 1) (fun _ _ => rfl)) pa_nil)))) pa_nil)))))), ?_⟩
    refine ⟨_, rfl, _, rfl, _, rfl, _, rfl, _, rfl, aD, _, _, rfl, rfl, hD wt hw h1, a, l, o, VM.count wt, rfl, hA, ho, by omega, fun H1 p s1 hp hl => ?_⟩
    exact ⟨r, s, wt, p, _, rfl, S.same s1, hw, hl, S.off hp, VM.numbers_length _ _ _, numbers_lt hb _ _, k.same s1⟩
/-! ### read_head -/
def spRHead (K : PySem.W.Frag) (C : Addr) : Sp := fun vs H Q _ => ∃ (a : Addr) (l : List Nat), vs = [.ref a] ∧ SqL K H a (nl l) ∧ (∀ x ∈ l, x < 256) ∧ NewSt C H (VM.head l) Q
abbrev sRHead : Stmt := top 34
theorem scRHead : FnScope ["content", "state", "scalars", "number"] ["content"] (defScope sRHead) := ⟨rfl, rfl, rfl, by decide +kernel, rfl, by decide +kernel, by decide +kernel⟩
theorem ok_rHead {C : Addr} {f : Addr} {fd : FuncData} (F : Fun K "read_head" "read_head" sRHead f fd) (T : Txt0 mg) (TS : TxtS K mg C) (TC : TxtC K mg) (TD : TxtD K mg) (CI : CalNew P w K mg base C)
    (CP : Cal P w K mg base 2 "put_component" ["state", "weight", "words"] (spPut C)) (CA : Cal P w K mg base 1 "words_at" ["content", "at", "count"] (spWordsAt K)) :
    FnOk P w K mg base CX0 3 f fd ["content"] (spRHead K C) := by
  obtain ⟨aD, eD, hD⟩ := TD.counts
  obtain ⟨tS, eS⟩ := TC.scal
  obtain ⟨tP, eP⟩ := TC.pairs
  obtain ⟨f_I, fd_I, M_I, b_I, G_I⟩ := CI.ok
  obtain ⟨f_P, fd_P, m_P, k_P, b_P, G_P⟩ := CP.ok
  obtain ⟨f_A, fd_A, m_A, k_A, b_A, G_A⟩ := CA.ok
  refine F.ok scRHead (fun vs H Q E h => ?_) (fun cdv A outer sh H vs Q E hr h => ?_)
  · obtain ⟨a, l, rfl, _⟩ := h
    rfl
  · obtain ⟨a, l, rfl, hA, hb, k⟩ := h
    have hr2 : Room 2 _ := hr.mono (by decide)
    have hr1 : Room 1 _ := hr.mono (by decide)
    refine ⟨_, (pss_cons (ps_set (i := 1) scRHead.nd rfl (.inl rfl) (pe_make0 M_I G_I hr2 rfl TS.gC b_I .nil pass0))
      (pss_cons (ps_setLc (i := 2) (own := [("number", 3)]) (g := gName 3) (tt := tYes) rfl scRHead.nd rfl rfl (sw_true rfl rfl rfl (by decide +kernel)) (pi_range1 rfl T.range (pa_cons pe_int pa_nil)) (blkOk_by (N := ["content", "state", "scalars", "number"]) (sc := defScope sRHead) (by decide +kernel)) (fun _ _ _ _ _ => (pg_name (i := 3) scRHead.nd rfl (Or.inl rfl))) (fun _ _ _ _ _ => pts_nil) (fun _ _ _ _ _ => (pe_ix (ix_listK (K := K)) (pe_call G_A hr1 rfl m_A k_A b_A .nil pass0 (pa_cons (pv 0) (pa_cons (pe_op n_add (pe_glob (v := .int 32) rfl eS ⟨_, rfl⟩) (pe_op n_mul pe_int (pv 3))) (pa_cons pe_int pa_nil)))) pe_int (fun _ _ => rfl))))
      (pss_cons (ps_expr (pe_call G_P hr2 rfl m_P k_P b_P .nil pass0 (pa_cons (pv 1) (pa_cons pe_int (pa_cons (pv 2) pa_nil)))))
      (pss_cons (ps_expr (pe_call G_P hr2 rfl m_P k_P b_P .nil pass0 (pa_cons (pv 1) (pa_cons pe_int (pa_cons (pe_call G_A hr1 rfl m_A k_A b_A .nil pass0 (pa_cons (pv 0) (pa_cons (pe_glob (v := .int 160) rfl eP ⟨_, rfl⟩) (pa_cons (pe_ix (ix_kint (K := K)) (pe_glob (v := .ref aD) rfl eD rfl) pe_int (fun _ _ => rfl)) pa_nil)))) pa_nil)))))
      (pss_one (ps_ret (pv 1))))))), ?_⟩
    refine fun x dx nx nd ne => ⟨x, dx, rfl, upd_same, fun H1 r S1 ea f1 kp => ⟨rfl, ?_⟩⟩
    have N1 : NewAt C H H1 r Sd62.fresh := ⟨S1, Same.made nx nd kp, fun b hb => by
      rcases f1 b hb with e | e
      · rw [e]
        exact nx
      · exact Same.free (Same.made nx nd fun b o h _ => h) e⟩
    subst ea
    refine ⟨8, rfl, by decide, by decide, fun D hD1 => ?_⟩
    refine lc_rngR (n := (8 : Int).toNat) (j := 3) (fun i => Sd62.number l (32 + 16 * i) 8) (Same.refl H1) hD1 (by show 8 ≤ 1000; decide) (fun i H2 Q' hi e q => ?_) ?_ (fun H2 s2 hl => ?_)
    · refine ⟨_, rfl, _, rfl, 16, i, rfl, rfl, .inl (by decide), 32, 16 * i, rfl, rfl, a, l, 32 + 16 * i, 1, rfl, (N1.same.trans e).seq hA, ?_, by decide, fun H3 p s3 hp hl => ?_⟩
      · have : i < 8 := hi
        omega
      · exact ⟨p, _, _, _, rfl, rfl, SqL.of hl, at_nl (i := 0) rfl, q H3 s3⟩
    · intro y
      rfl
    have N2 := N1.on s2
    refine ⟨_, rfl, _, rfl, r, _, 1, D, _, rfl, N2.st, .inl rfl, hl, S1.off hD1, (by rw [List.length_map]; rfl), fun y hy => ?_, fun H3 r3 S3 a3 g1 g2 => ?_⟩
    · obtain ⟨i, _, rfl⟩ := List.mem_map.mp hy
      exact VM.number8_lt l hb _
    have N3 := N2.mod S3 g1 g2
    refine ⟨_, rfl, _, rfl, aD, _, _, rfl, rfl, hD 2 (.inr (.inl rfl)) (by decide), a, l, 160, VM.count 2, rfl, N3.same.seq hA, by decide, by decide, fun H4 p s4 hp hl4 => ?_⟩
    refine ⟨r3, _, 2, p, _, (by rw [a3]; rfl), S3.same s4, .inr (.inl rfl), hl4, S3.off hp, VM.numbers_length _ _ _, numbers_lt hb _ _, fun H5 r5 S5 a5 g3 g4 => ?_⟩
    have N5 := (N3.on s4).mod S5 g3 g4
    refine ⟨_, rfl, ?_⟩
    rw [← a3, ← a5]
    exact k H5 r5 N5
end
end VP

set_option Elab.async false
set_option linter.all false
set_option maxRecDepth 100000
set_option maxHeartbeats 4000000
namespace VP
open PySem PySem.Spec PyProof.Rows L2
/-! ### reading, the mathematics -/
theorem number_cons (x : Nat) (l : List Nat) : ∀ (k o : Nat), Sd62.number (x :: l) (o + 1) k = Sd62.number l o k
  | 0, _ => rfl
  | k + 1, o => by
    rw [VM.number_succ, VM.number_succ, number_cons x l k (o + 1)]
    rfl
theorem number_spread : ∀ (k n : Nat), Sd62.number (Sd62.spread n k) 0 k = n % 256 ^ k
  | 0, n => by rw [Nat.pow_zero, Nat.mod_one]; rfl
  | k + 1, n => by
    show (n % 256) + 256 * Sd62.number (n % 256 :: Sd62.spread (n / 256) k) (0 + 1) k = _
    rw [number_cons, number_spread k (n / 256), Nat.pow_succ, Nat.mul_comm (256 ^ k) 256, Nat.mod_mul]
theorem header_length (u c : Nat) : (Sd62.header u c).length = 64 := by
  unfold Sd62.header Sd62.zeros
  rw [List.length_append, List.length_append, VM.spread_length, VM.spread_length, List.length_replicate]
theorem legacy_length {s : Sd62.St} (hs : VM.Wf s) : (Sd62.legacy s).length = 512 := by
  have h := headB_length hs 0 0
  unfold headB at h
  rw [List.length_append, header_length] at h
  omega
theorem long_length {s : Sd62.St} (hs : VM.Wf s) (p : Nat) : (Sd62.long p s).length = if p = 3 then 576 else if p = 231 then 2688 else 832 := by
  have h4 := VM.comp_length hs (w := 4) (.inr (.inr (.inl rfl)))
  by_cases c3 : p = 3
  · subst c3
    rw [long3, headB_length hs, if_pos rfl]
  · rw [if_neg c3]
    by_cases c : p = 231
    · subst c
      rw [long231, if_pos rfl]
      have h32 := VM.comp_length hs (w := 32) (.inr (.inr (.inr (.inl rfl))))
      have h64 := VM.comp_length hs (w := 64) (.inr (.inr (.inr (.inr (.inl rfl)))))
      have h128 := VM.comp_length hs (w := 128) (.inr (.inr (.inr (.inr (.inr rfl)))))
      unfold tailB
      simp only [List.length_append, headB_length hs, VM.words_length, h4, Sd62.zeros, List.length_replicate, List.flatMap_cons, List.flatMap_nil, h32, h64, h128, List.length_nil]
      rfl
    · rw [long7 s c3 c, if_neg c, List.length_append, headB_length hs, VM.words_length, h4]
      rfl
theorem wf_putO {s : Sd62.St} (hs : VM.Wf s) {w : Nat} (hw : VM.isPart w) {l : List Nat} (hb : ∀ x ∈ l, x < 256) (o : Option Nat) : VM.Wf (VM.putO s w l o) := by
  cases o with
  | none => exact hs
  | some k => exact VM.wf_put hs hw (VM.numbers_length _ _ _) (numbers_lt hb _ _)
theorem wf_head {l : List Nat} (hb : ∀ x ∈ l, x < 256) : VM.Wf (VM.head l) :=
  VM.wf_put (VM.wf_put VM.wf_fresh (.inl rfl) (by rw [List.length_map]; rfl) fun x hx => by
    obtain ⟨i, _, rfl⟩ := List.mem_map.mp hx
    exact VM.number8_lt l hb _) (.inr (.inl rfl)) (VM.numbers_length _ _ _) (numbers_lt hb _ _)
theorem wf_made {l : List Nat} (hb : ∀ x ∈ l, x < 256) (o2 o5 o6 o7 : Option Nat) : VM.Wf (VM.made l o2 o5 o6 o7) :=
  wf_putO (wf_putO (wf_putO (wf_putO (wf_head hb) (.inr (.inr (.inl rfl))) hb _) (.inr (.inr (.inr (.inl rfl)))) hb _) (.inr (.inr (.inr (.inr (.inl rfl))))) hb _) (.inr (.inr (.inr (.inr (.inr rfl))))) hb _
/-- the long form's state -/
def stLong (l : List Nat) (p : Nat) : Sd62.St := VM.made l (if p = 3 then none else some 576) (if p = 231 then some 1088 else none) (if p = 231 then some 1152 else none) (if p = 231 then some 1664 else none)
theorem read_long0 {l : List Nat} (h0 : Sd62.number l 520 8 = 0) : Sd62.read l = (let p := if l.length = 576 then 3 else if l.length = 832 then 7 else 231; if Sd62.long p (stLong l p) = l then some (stLong l p) else none) := by
  unfold Sd62.read Sd62.guess
  dsimp only
  rw [if_pos h0]
  unfold stLong
  rw [VM.made_taken]
theorem read_long_no {l : List Nat} (hb : ∀ x ∈ l, x < 256) (h0 : Sd62.number l 520 8 = 0) (h1 : l.length ≠ 576) (h2 : l.length ≠ 832) (h3 : l.length ≠ 2688) : Sd62.read l = none := by
  rw [read_long0 h0]
  dsimp only
  rw [if_neg h1, if_neg h2]
  refine if_neg fun e => h3 ?_
  have hw : VM.Wf (stLong l 231) := wf_made hb _ _ _ _
  have h := long_length hw 231
  rw [e, if_neg (by decide), if_pos rfl] at h
  exact h
/-! the short form -/
def stepS (l : List Nat) (u : Nat) (x : Sd62.St × Nat) (w : Nat) : Sd62.St × Nat := if u &&& w = 0 then x else (VM.put x.1 w (Sd62.numbers l x.2 (VM.count w)), x.2 + 8 * VM.count w)
def accS (l : List Nat) (u : Nat) (L : List Nat) : Sd62.St × Nat := L.foldl (stepS l u) (VM.head l, 576)
theorem accS_more {l : List Nat} {u i w : Nat} {L : List Nat} (h : L[i]? = some w) : accS l u (L.take (i + 1)) = stepS l u (accS l u (L.take i)) w := by
  unfold accS
  rw [VM.take_more h, List.foldl_append]
  rfl
theorem fold_le (l : List Nat) (u : Nat) : ∀ (L : List Nat) (x : Sd62.St × Nat), x.2 ≤ (L.foldl (stepS l u) x).2
  | [], x => Nat.le_refl _
  | w :: L, x => by
    refine Nat.le_trans ?_ (fold_le l u L (stepS l u x w))
    unfold stepS
    split
    · exact Nat.le_refl _
    · exact Nat.le_add_right _ _
theorem accS_le (l : List Nat) (u i : Nat) (L : List Nat) : (accS l u (L.take i)).2 ≤ (accS l u L).2 := by
  have e : accS l u L = (L.drop i).foldl (stepS l u) (accS l u (L.take i)) := by
    unfold accS
    rw [← List.foldl_append, List.take_append_drop]
  rw [e]
  exact fold_le l u _ _
theorem accS_snd (l l' : List Nat) (u : Nat) : ∀ (L : List Nat) (x y : Sd62.St × Nat), x.2 = y.2 → (L.foldl (stepS l u) x).2 = (L.foldl (stepS l' u) y).2
  | [], _, _, h => h
  | w :: L, x, y, h => accS_snd l l' u L _ _ (by
    unfold stepS
    split
    · exact h
    · show x.2 + _ = y.2 + _
      rw [h])
theorem accS_end (l : List Nat) (u : Nat) {s : Sd62.St} (hs : VM.Wf s) (L : List Nat) (hL : ∀ w ∈ L, VM.isPart w) : ∀ (x : Sd62.St × Nat), (L.foldl (stepS l u) x).2 = x.2 + (tailB s (inUse u L)).length := by
  induction L with
  | nil => intro x; rfl
  | cons w L ih =>
    intro x
    rw [List.foldl_cons, ih fun y hy => hL y (.tail _ hy)]
    have hw := VM.comp_length hs (hL w (.head _))
    unfold stepS inUse
    by_cases c : u &&& w = 0
    · rw [if_pos c, List.filter_cons_of_neg (by simp [c])]
    · rw [if_neg c, List.filter_cons_of_pos (by simp [c])]
      show x.2 + 8 * VM.count w + _ = x.2 + (Sd62.words (VM.comp s w) ++ _).length
      rw [List.length_append, VM.words_length, hw, Nat.add_assoc]
      rfl
def stShort (l : List Nat) : Sd62.St := (accS l (Sd62.number l 512 8) [4, 32, 64, 128]).1
theorem beq_ne (u w : Nat) : (u &&& w != 0) = !decide (u &&& w = 0) := by
  by_cases c : u &&& w = 0
  · rw [c]; rfl
  · rw [decide_eq_false c]
    simp [c]
theorem stShort_eq (l : List Nat) : stShort l = (let u := Sd62.number l 512 8
    let has (n : Nat) : Bool := u &&& n != 0
    let o5 := 576 + Sd62.bit (has 4) 256
    let o6 := o5 + Sd62.bit (has 32) 64
    let o7 := o6 + Sd62.bit (has 64) 512
    Sd62.taken l (if has 4 = true then some 576 else none) (if has 32 = true then some o5 else none) (if has 64 = true then some o6 else none) (if has 128 = true then some o7 else none)) := by
  dsimp only
  rw [← VM.made_taken]
  unfold stShort accS
  generalize Sd62.number l 512 8 = u
  simp only [List.foldl_cons, List.foldl_nil, stepS, beq_ne]
  by_cases c4 : u &&& 4 = 0 <;> by_cases c32 : u &&& 32 = 0 <;> by_cases c64 : u &&& 64 = 0 <;> by_cases c128 : u &&& 128 = 0 <;> simp only [c4, c32, c64, c128, if_true, if_false, decide_true, decide_false, Bool.not_true, Bool.not_false, Sd62.bit, Bool.false_eq_true, Nat.add_zero] <;> rfl
theorem read_short0 {l : List Nat} (h0 : Sd62.number l 520 8 ≠ 0) : Sd62.read l = if Sd62.short (stShort l) = l then some (stShort l) else none := by
  unfold Sd62.read Sd62.guess
  dsimp only
  rw [if_neg h0, stShort_eq]
theorem inUse_part {u : Nat} : ∀ w ∈ inUse u [4, 32, 64, 128], VM.isPart w := fun w hw => by
  have h := (List.mem_filter.mp hw).1
  unfold VM.isPart
  simp at h
  omega
theorem short_number {s : Sd62.St} (hs : VM.Wf s) : Sd62.number (Sd62.short s) 512 8 = Sd62.used s := by
  have e := VM.number_cut (Sd62.short s) 512 8 8 0 (by decide)
  rw [Nat.add_zero] at e
  rw [← e, short_eq]
  unfold headB
  rw [List.append_assoc, List.drop_left' (legacy_length hs)]
  unfold Sd62.header
  rw [List.append_assoc, List.take_left' (VM.spread_length 8 _), number_spread]
  refine Nat.mod_eq_of_lt (Nat.lt_of_le_of_lt (used_le s) ?_)
  decide
theorem short_length {s : Sd62.St} (hs : VM.Wf s) : (Sd62.short s).length = 576 + (tailB s (inUse (Sd62.used s) [4, 32, 64, 128])).length := by
  rw [short_eq, List.length_append, headB_length hs]
theorem wf_stepS {l : List Nat} (hb : ∀ x ∈ l, x < 256) (u : Nat) : ∀ (L : List Nat) (x : Sd62.St × Nat), (∀ w ∈ L, VM.isPart w) → VM.Wf x.1 → VM.Wf (L.foldl (stepS l u) x).1
  | [], _, _, h => h
  | w :: L, x, hL, h => wf_stepS hb u L _ (fun y hy => hL y (.tail _ hy)) (by
    unfold stepS
    split
    · exact h
    · exact VM.wf_put h (hL w (.head _)) (VM.numbers_length _ _ _) (numbers_lt hb _ _))
theorem tails_part : ∀ w ∈ [4, 32, 64, 128], VM.isPart w := fun w hw => by
  unfold VM.isPart
  simp at hw
  omega
theorem wf_stShort {l : List Nat} (hb : ∀ x ∈ l, x < 256) : VM.Wf (stShort l) := wf_stepS hb _ _ _ tails_part (wf_head hb)
/-- a short form is as long as its parts -/
theorem short_end {l : List Nat} (hb : ∀ x ∈ l, x < 256) (h : Sd62.short (stShort l) = l) : (accS l (Sd62.number l 512 8) [4, 32, 64, 128]).2 = l.length := by
  have hs := wf_stShort hb
  have hn := short_number hs
  have hl := short_length hs
  rw [h] at hn hl
  unfold accS
  rw [accS_end l _ hs _ tails_part, hl, hn]
theorem read_short_no {l : List Nat} (hb : ∀ x ∈ l, x < 256) (h0 : Sd62.number l 520 8 ≠ 0) (i : Nat) (h : l.length < (accS l (Sd62.number l 512 8) ([4, 32, 64, 128].take i)).2) : Sd62.read l = none := by
  rw [read_short0 h0]
  refine if_neg fun e => ?_
  have h1 := short_end hb e
  have h2 := accS_le l (Sd62.number l 512 8) i [4, 32, 64, 128]
  omega
theorem read_few {l : List Nat} (hb : ∀ x ∈ l, x < 256) (h : l.length < 576) : Sd62.read l = none := by
  by_cases h0 : Sd62.number l 520 8 = 0
  · exact read_long_no hb h0 (by omega) (by omega) (by omega)
  · rw [read_short0 h0]
    refine if_neg fun e => ?_
    have h1 := short_length (wf_stShort hb)
    rw [e] at h1
    omega
end VP

set_option Elab.async false
set_option linter.all false
set_option maxRecDepth 100000
set_option maxHeartbeats 4000000
namespace VP
open PySem PySem.Spec PyProof.Rows L2
section
variable {P : Program} {w : World} {K : PySem.W.Frag} {mg : Str → Option Value} {base : Heap}
def ReadSt (C : Addr) (H : Hp) (o : Option Sd62.St) (Q : VK) : Prop := match o with
  | none => ∀ H', Same H H' → Q .non H'
  | some s => NewSt C H s Q
theorem readSt_yes {C : Addr} {H : Hp} {o : Option Sd62.St} {Q : VK} {s : Sd62.St} (k : ReadSt C H o Q) (e : o = some s) : NewSt C H s Q := by
  subst e
  exact k
theorem readSt_no {C : Addr} {H : Hp} {o : Option Sd62.St} {Q : VK} (k : ReadSt C H o Q) (e : o = none) : ∀ H', Same H H' → Q .non H' := by
  subst e
  exact k
/-! ### lists of whole numbers, compared -/
def pyl (l : List Nat) : List PyData := l.map fun n : Nat => .int (n : Int)
theorem dp_all (K : PySem.W.Frag) (H : Hp) : ∀ l : List Nat, DpAll K H (nl l) (pyl l)
  | [] => .nil
  | x :: l => .cons (.int _) (dp_all K H l)
theorem pyl_can : ∀ l : List Nat, PyData.canLayAll0 (pyl l) = true
  | [] => by simp only [pyl, List.map_nil, PyData.canLayAll0]
  | x :: l => by
    have ih := pyl_can l
    unfold pyl at ih ⊢
    simp only [List.map_cons, PyData.canLayAll0, PyData.canLay0, Bool.true_and]
    exact ih
theorem pyl_depth : ∀ l : List Nat, PyData.depthAll (pyl l) = 0
  | [] => by simp only [pyl, List.map_nil, PyData.depthAll]
  | x :: l => by
    have ih := pyl_depth l
    unfold pyl at ih ⊢
    simp only [List.map_cons, PyData.depthAll, PyData.depth, ih]
    rfl
theorem pyl_shaped (l : List Nat) : SeqAt.shaped (.list (pyl l)) = true := by
  unfold SeqAt.shaped
  rw [Bool.and_eq_true]
  refine ⟨?_, decide_eq_true ?_⟩
  · simp only [PyData.canLay0]
    exact pyl_can l
  · simp only [PyData.depth, pyl_depth]
    decide
theorem pyl_eqv : ∀ a b : List Nat, PyData.eqvAll (pyl a) (pyl b) = decide (a = b)
  | [], [] => by simp [pyl, PyData.eqvAll]
  | [], _ :: _ => by simp [pyl, PyData.eqvAll]
  | _ :: _, [] => by simp [pyl, PyData.eqvAll]
  | x :: a, y :: b => by
    have ih := pyl_eqv a b
    unfold pyl at ih ⊢
    simp only [List.map_cons, PyData.eqvAll, PyData.eqv, ih]
    rw [Bool.eq_iff_iff]
    simp
    intro _
    omega
theorem op_nl {X : Cx} {K : PySem.W.Frag} (hu : X.A.units + 64 < cLine) (hK : X.K = K := by rfl) : OpR X (compareOp .Eq) (fun x y H Q => ∃ (a b : Addr) (A B : List Nat), x = .ref a ∧ y = .ref b ∧ SqL K H a (nl A) ∧ SqL K H b (nl B) ∧ Q (.bl (decide (A = B))) H) := by
  subst hK
  refine OpR.imp (op_eqD hu) fun x y H Q ⟨a, b, A, B, e1, e2, hA, hB, q⟩ => ⟨.list (pyl A), .list (pyl B), by rw [e1]; exact .lst hA (dp_all _ _ A), by rw [e2]; exact .lst hB (dp_all _ _ B), pyl_shaped A, pyl_shaped B, ?_⟩
  have e : PyData.eqv (.list (pyl A)) (.list (pyl B)) = decide (A = B) := by
    simp only [PyData.eqv]
    exact pyl_eqv A B
  rw [e]
  exact q
/-! ### read_long -/
def spRead (K : PySem.W.Frag) (C : Addr) (P : List Nat → Prop) : Sp := fun vs H Q _ => ∃ (a : Addr) (l : List Nat), vs = [.ref a] ∧ SqL K H a (nl l) ∧ (∀ x ∈ l, x < 256) ∧ l.length ≤ 100000 ∧ P l ∧ ReadSt C H (Sd62.read l) Q
abbrev sRLong : Stmt := top 36
theorem scRLong : FnScope ["content", "components", "state"] ["content"] (defScope sRLong) := ⟨rfl, rfl, rfl, by decide +kernel, rfl, by decide +kernel, by decide +kernel⟩
theorem ok_rLong {C : Addr} {f : Addr} {fd : FuncData} (F : Fun K "read_long" "read_long" sRLong f fd) (T : Txt0 mg) (TC : TxtC K mg)
    (CL : Cal P w K mg base 5 "long_form" ["state", "components"] (spLong C)) (CH : Cal P w K mg base 3 "read_head" ["content"] (spRHead K C)) (CP : Cal P w K mg base 3 "read_part" ["state", "weight", "content", "at"] (spRPart K C)) :
    FnOk P w K mg base CX0 6 f fd ["content"] (spRead K C fun l => Sd62.number l 520 8 = 0) := by
  obtain ⟨aG, eG, lowG, hG⟩ := TC.longs
  obtain ⟨tH, eH⟩ := TC.head
  obtain ⟨f_L, fd_L, m_L, k_L, b_L, G_L⟩ := CL.ok
  obtain ⟨f_H, fd_H, m_H, k_H, b_H, G_H⟩ := CH.ok
  obtain ⟨f_P, fd_P, m_P, k_P, b_P, G_P⟩ := CP.ok
  refine F.ok scRLong (fun vs H Q E h => ?_) (fun cdv A outer sh H vs Q E hr h => ?_)
  · obtain ⟨a, l, rfl, _⟩ := h
    rfl
  · obtain ⟨a, l, rfl, hA, hb, hlen, h0, k⟩ := h
    have hr5 : Room 5 _ := hr.mono (by decide)
    have hr3 : Room 3 _ := hr.mono (by decide)
    refine ⟨_, (pss_cons (ps_set (i := 1) scRLong.nd rfl (.inl rfl) (pe_kget (pe_glob (v := .ref aG) rfl eG rfl) (pe_callB call_len_seq (by rfl) T.len PySem.boot_len (pa_cons (pv 0) pa_nil)) pe_int ⟨rfl, rfl, rfl, rfl⟩))
      (pss_cons (ps_if (pt_cmpR n_eq (pv 1) pe_int (nomark _))
        (pss_one (ps_ret pe_non))
        pss_nil)
      (pss_cons (ps_set (i := 2) scRLong.nd rfl (.inl rfl) (pe_call G_H hr3 rfl m_H k_H b_H .nil pass0 (pa_cons (pv 0) pa_nil)))
      (pss_cons (ps_if (pt_cmpR n_ne (pv 1) pe_int (nomark _))
        (pss_one (ps_expr (pe_call G_P hr3 rfl m_P k_P b_P .nil pass0 (pa_cons (pv 2) (pa_cons pe_int (pa_cons (pv 0) (pa_cons (pe_glob (v := .int 576) rfl eH ⟨_, rfl⟩) pa_nil)))))))
        pss_nil)
      (pss_cons (ps_if (pt_cmpR n_eq (pv 1) pe_int (nomark _))
        (pss_cons (ps_expr (pe_call G_P hr3 rfl m_P k_P b_P .nil pass0 (pa_cons (pv 2) (pa_cons pe_int (pa_cons (pv 0) (pa_cons pe_int pa_nil))))))
      (pss_cons (ps_expr (pe_call G_P hr3 rfl m_P k_P b_P .nil pass0 (pa_cons (pv 2) (pa_cons pe_int (pa_cons (pv 0) (pa_cons pe_int pa_nil))))))
      (pss_one (ps_expr (pe_call G_P hr3 rfl m_P k_P b_P .nil pass0 (pa_cons (pv 2) (pa_cons pe_int (pa_cons (pv 0) (pa_cons pe_int pa_nil)))))))))
        pss_nil)
      (pss_one (ps_ret (pe_ifExp (pt_cmpR (op_nl hr.units) (pe_call G_L hr5 rfl m_L k_L b_L .nil pass0 (pa_cons (pv 2) (pa_cons (pv 1) pa_nil))) (pv 0) (nomark _)) (pv 2) pe_non)))))))), ?_⟩
    have hk := hG (nl l).length
    have eL := nl_length l
    have hread := read_long0 h0
    dsimp only at hread
    refine ⟨aG, rfl, lowG, ⟨_, _, hk⟩, _, rfl, a, _, rfl, .inl hA, _, _, rfl, hk, ?_⟩
    by_cases c1 : l.length = 576
    · rw [if_pos (eL.trans c1)]
      rw [if_pos c1] at hread
      refine ⟨_, rfl, 3, 0, rfl, rfl, _, rfl, if_false_of (by rfl) ?_⟩
      refine ⟨_, rfl, a, l, rfl, hA, hb, fun H1 r1 N1 => ?_⟩
      have ea1 : r1.a = r1.a := rfl
      refine ⟨_, rfl, 3, 3, rfl, rfl, _, rfl, if_false_of (by rfl) ?_⟩
      refine ⟨_, rfl, 3, 231, rfl, rfl, _, rfl, if_false_of (by rfl) ?_⟩
      refine ⟨_, rfl, _, rfl, r1, _, 3, by rw [← ea1]; rfl, N1.st, fun G q sq hq hl => ?_⟩
      have NG := N1.on sq
      refine ⟨_, rfl, q, a, _, _, rfl, rfl, SqL.of hl, NG.same.seq hA, _, rfl, ite2 (fun c => ?_) (fun c => ?_)⟩
      · have c : Sd62.long 3 (stLong l 3) = l := of_decide_eq_true c
        refine ⟨_, rfl, ?_⟩
        rw [← ea1]
        exact readSt_yes k (hread.trans (if_pos c)) G r1 NG
      · exact readSt_no k (hread.trans (if_neg fun z => c (decide_eq_true z))) G NG.same
    by_cases c2 : l.length = 832
    · rw [if_neg (fun z => c1 (eL.symm.trans z)), if_pos (eL.trans c2)]
      rw [if_neg c1, if_pos c2] at hread
      refine ⟨_, rfl, 7, 0, rfl, rfl, _, rfl, if_false_of (by rfl) ?_⟩
      refine ⟨_, rfl, a, l, rfl, hA, hb, fun H1 r1 N1 => ?_⟩
      have ea1 : r1.a = r1.a := rfl
      refine ⟨_, rfl, 7, 3, rfl, rfl, _, rfl, if_true_of (by rfl) ?_⟩
      refine ⟨_, rfl, _, rfl, r1, _, 4, a, l, 576, by rw [← ea1]; rfl, N1.st, .inr (.inr (.inl rfl)), by decide, N1.same.seq hA, hb, by decide, fun H2 r2 S2 a2 g2 f2 => ?_⟩
      have N2 := N1.mod S2 g2 f2
      have ea2 : r2.a = r1.a := a2.trans ea1
      refine ⟨_, rfl, 7, 231, rfl, rfl, _, rfl, if_false_of (by rfl) ?_⟩
      refine ⟨_, rfl, _, rfl, r2, _, 7, by rw [← ea2]; rfl, N2.st, fun G q sq hq hl => ?_⟩
      have NG := N2.on sq
      refine ⟨_, rfl, q, a, _, _, rfl, rfl, SqL.of hl, NG.same.seq hA, _, rfl, ite2 (fun c => ?_) (fun c => ?_)⟩
      · have c : Sd62.long 7 (stLong l 7) = l := of_decide_eq_true c
        refine ⟨_, rfl, ?_⟩
        rw [← ea2]
        exact readSt_yes k (hread.trans (if_pos c)) G r2 NG
      · exact readSt_no k (hread.trans (if_neg fun z => c (decide_eq_true z))) G NG.same
    by_cases c3 : l.length = 2688
    · rw [if_neg (fun z => c1 (eL.symm.trans z)), if_neg (fun z => c2 (eL.symm.trans z)), if_pos (eL.trans c3)]
      rw [if_neg c1, if_neg c2] at hread
      refine ⟨_, rfl, 231, 0, rfl, rfl, _, rfl, if_false_of (by rfl) ?_⟩
      refine ⟨_, rfl, a, l, rfl, hA, hb, fun H1 r1 N1 => ?_⟩
      have ea1 : r1.a = r1.a := rfl
      refine ⟨_, rfl, 231, 3, rfl, rfl, _, rfl, if_true_of (by rfl) ?_⟩
      refine ⟨_, rfl, _, rfl, r1, _, 4, a, l, 576, by rw [← ea1]; rfl, N1.st, .inr (.inr (.inl rfl)), by decide, N1.same.seq hA, hb, by decide, fun H2 r2 S2 a2 g2 f2 => ?_⟩
      have N2 := N1.mod S2 g2 f2
      have ea2 : r2.a = r1.a := a2.trans ea1
      refine ⟨_, rfl, 231, 231, rfl, rfl, _, rfl, if_true_of (by rfl) ?_⟩
      refine ⟨_, rfl, _, rfl, r2, _, 32, a, l, 1088, by rw [← ea2]; rfl, N2.st, .inr (.inr (.inr (.inl rfl))), by decide, N2.same.seq hA, hb, by decide, fun H3 r3 S3 a3 g3 f3 => ?_⟩
      have N3 := N2.mod S3 g3 f3
      have ea3 : r3.a = r1.a := a3.trans ea2
      refine ⟨_, rfl, _, rfl, r3, _, 64, a, l, 1152, by rw [← ea3]; rfl, N3.st, .inr (.inr (.inr (.inr (.inl rfl)))), by decide, N3.same.seq hA, hb, by decide, fun H4 r4 S4 a4 g4 f4 => ?_⟩
      have N4 := N3.mod S4 g4 f4
      have ea4 : r4.a = r1.a := a4.trans ea3
      refine ⟨_, rfl, _, rfl, r4, _, 128, a, l, 1664, by rw [← ea4]; rfl, N4.st, .inr (.inr (.inr (.inr (.inr rfl)))), by decide, N4.same.seq hA, hb, by decide, fun H5 r5 S5 a5 g5 f5 => ?_⟩
      have N5 := N4.mod S5 g5 f5
      have ea5 : r5.a = r1.a := a5.trans ea4
      refine ⟨_, rfl, _, rfl, r5, _, 231, by rw [← ea5]; rfl, N5.st, fun G q sq hq hl => ?_⟩
      have NG := N5.on sq
      refine ⟨_, rfl, q, a, _, _, rfl, rfl, SqL.of hl, NG.same.seq hA, _, rfl, ite2 (fun c => ?_) (fun c => ?_)⟩
      · have c : Sd62.long 231 (stLong l 231) = l := of_decide_eq_true c
        refine ⟨_, rfl, ?_⟩
        rw [← ea5]
        exact readSt_yes k (hread.trans (if_pos c)) G r5 NG
      · exact readSt_no k (hread.trans (if_neg fun z => c (decide_eq_true z))) G NG.same
    · rw [if_neg (fun z => c1 (eL.symm.trans z)), if_neg (fun z => c2 (eL.symm.trans z)), if_neg (fun z => c3 (eL.symm.trans z))]
      refine ⟨_, rfl, 0, 0, rfl, rfl, _, rfl, if_true_of (by rfl) ?_⟩
      exact readSt_no k (read_long_no hb h0 c1 c2 c3) H (Same.refl H)
/-! ### read_short -/
abbrev sRShort : Stmt := top 37
theorem scRShort : FnScope ["content", "state", "weights", "at", "weight", "behind"] ["content"] (defScope sRShort) := ⟨rfl, rfl, rfl, by decide +kernel, rfl, by decide +kernel, by decide +kernel⟩
theorem ok_rShort {C : Addr} {f : Addr} {fd : FuncData} (F : Fun K "read_short" "read_short" sRShort f fd) (T : Txt0 mg) (TC : TxtC K mg) (TD : TxtD K mg)
    (CL : Cal P w K mg base 5 "short_form" ["state"] (spShort C)) (CH : Cal P w K mg base 3 "read_head" ["content"] (spRHead K C)) (CP : Cal P w K mg base 3 "read_part" ["state", "weight", "content", "at"] (spRPart K C))
    (CA : Cal P w K mg base 1 "words_at" ["content", "at", "count"] (spWordsAt K)) :
    FnOk P w K mg base CX0 6 f fd ["content"] (spRead K C fun l => Sd62.number l 520 8 ≠ 0) := by
  obtain ⟨tH, eH⟩ := TC.head
  obtain ⟨tW, eW⟩ := TC.wat
  obtain ⟨aT, eT, tT⟩ := TC.tail
  obtain ⟨aD, eD, hD⟩ := TD.counts
  obtain ⟨f_L, fd_L, m_L, k_L, b_L, G_L⟩ := CL.ok
  obtain ⟨f_H, fd_H, m_H, k_H, b_H, G_H⟩ := CH.ok
  obtain ⟨f_P, fd_P, m_P, k_P, b_P, G_P⟩ := CP.ok
  obtain ⟨f_A, fd_A, m_A, k_A, b_A, G_A⟩ := CA.ok
  refine F.ok scRShort (fun vs H Q E h => ?_) (fun cdv A outer sh H vs Q E hr h => ?_)
  · obtain ⟨a, l, rfl, _⟩ := h
    rfl
  · obtain ⟨a, l, rfl, hA, hb, hlen, h0, k⟩ := h
    have hr5 : Room 5 _ := hr.mono (by decide)
    have hr3 : Room 3 _ := hr.mono (by decide)
    have hr1 : Room 1 _ := hr.mono (by decide)
    refine ⟨_, (pss_cons (ps_set (i := 1) scRShort.nd rfl (.inl rfl) (pe_call G_H hr3 rfl m_H k_H b_H .nil pass0 (pa_cons (pv 0) pa_nil)))
      (pss_cons (ps_set (i := 2) scRShort.nd rfl (.inl rfl) (pe_ix (ix_listK (K := K)) (pe_call G_A hr1 rfl m_A k_A b_A .nil pass0 (pa_cons (pv 0) (pa_cons (pe_glob (v := .int 512) rfl eW ⟨_, rfl⟩) (pa_cons pe_int pa_nil)))) pe_int (fun _ _ => rfl)))
      (pss_cons (ps_set (i := 3) scRShort.nd rfl (.inl rfl) (pe_glob (v := .int 576) rfl eH ⟨_, rfl⟩))
      (pss_cons (ps_for PassesOwn.never rfl (pi_tup (pe_glob (v := .ref aT) rfl eT rfl)) (pg_name (i := 4) scRShort.nd rfl (.inl rfl))
        (pss_one (ps_if (pt_cmpR n_ne (pe_op n_and (pv 2) (pv 4)) pe_int (nomark _))
        (pss_cons (ps_set (i := 5) scRShort.nd rfl (.inl rfl) (pe_op n_add (pv 3) (pe_op n_mul pe_int (pe_ix (ix_kint (K := K)) (pe_glob (v := .ref aD) rfl eD rfl) (pv 4) (fun _ _ => rfl)))))
      (pss_cons (ps_if (pt_cmpR n_gt (pv 5) (pe_callB call_len_seq (by rfl) T.len PySem.boot_len (pa_cons (pv 0) pa_nil)) (nomark _))
        (pss_one (ps_ret pe_non))
        pss_nil)
      (pss_cons (ps_expr (pe_call G_P hr3 rfl m_P k_P b_P .nil pass0 (pa_cons (pv 1) (pa_cons (pv 4) (pa_cons (pv 0) (pa_cons (pv 3) pa_nil))))))
      (pss_one (ps_set (i := 3) scRShort.nd rfl (.inl rfl) (pv 5))))))
        pss_nil)))
      (pss_one (ps_ret (pe_ifExp (pt_cmpR (op_nl hr.units) (pe_call G_L hr5 rfl m_L k_L b_L .nil pass0 (pa_cons (pv 1) pa_nil)) (pv 0) (nomark _)) (pv 1) pe_non))))))), ?_⟩
    refine ⟨_, rfl, a, l, rfl, hA, hb, fun H1 r1 N1 => ?_⟩
    refine ⟨_, rfl, a, l, 512, 1, rfl, N1.same.seq hA, by decide, by decide, fun H2 p s2 hp hl => ?_⟩
    have N2 := N1.on s2
    have hread := read_short0 h0
    have hno := read_short_no hb h0
    have hst : stShort l = (accS l (Sd62.number l 512 8) [4, 32, 64, 128]).1 := rfl
    have et : ∀ w ∈ [4, 32, 64, 128], w ≠ 1 := by decide
    have etp := tails_part
    refine ⟨p, _, _, nv (Sd62.number l 512 8), rfl, rfl, SqL.of hl, at_nl (i := 0) rfl, ?_⟩
    generalize Sd62.number l 512 8 = u at hno hst ⊢
    generalize hL : ([4, 32, 64, 128] : List Nat) = L at tT hno hst et etp
    have hLl : L.length = 4 := by rw [← hL]; rfl
    refine ⟨aT, rfl, ⟨_, tT _⟩, for_tup (K := K) (a := aT) (xs := nl L) (fun i σ H' => ∃ (v4 v5 : Option V) (r : Rg), σ = [some (.ref a), some (.ref r1.a), some (nv u), some (nv (accS l u (L.take i)).2), v4, v5] ∧ NewAt C H H' r (accS l u (L.take i)).1 ∧ r.a = r1.a)
      ⟨none, none, r1, rfl, N2, rfl⟩ (fun i σ H' _ _ => tT _) ?_ ?_⟩
    · rintro i y σ H' hi ⟨v4, v5, r, rfl, N, ea⟩
      obtain ⟨x, hx, rfl⟩ := of_nl hi
      have hxm := List.mem_of_getElem? hx
      have em := accS_more (l := l) (u := u) hx
      have hno1 := hno (i + 1)
      unfold stepS at em
      refine ⟨_, rfl, _, rfl, _, _, rfl, rfl, _, 0, rfl, rfl, _, rfl, ite2 (fun c => ?_) (fun c => ?_)⟩
      · have hn : ¬ u &&& x = 0 := fun z => by
          have c : (!decide (u &&& x = 0)) = true := c
          rw [z] at c
          exact absurd c (by decide)
        rw [if_neg hn] at em
        refine ⟨_, rfl, _, rfl, aD, _, _, rfl, rfl, hD x (etp x hxm) (et x hxm), 8, VM.count x, rfl, rfl, .inl (by decide), _, _, rfl, rfl, ?_⟩
        refine ⟨_, rfl, _, rfl, a, _, rfl, .inl (N.same.seq hA), _, l.length, rfl, congrArg (fun n : Nat => V.int (n : Int)) (nl_length l), _, rfl, ite2 (fun c2 => ?_) (fun c2 => ?_)⟩
        · have hlt : l.length < (accS l u (L.take i)).2 + 8 * VM.count x := of_decide_eq_true c2
          exact readSt_no k (hno1 (by rw [em]; exact hlt)) H' N.same
        · have hle : (accS l u (L.take i)).2 + 8 * VM.count x ≤ l.length := Nat.le_of_not_lt fun z => c2 (decide_eq_true z)
          refine ⟨_, rfl, _, rfl, _, rfl, _, rfl, r, _, x, a, l, _, by rw [ea]; rfl, N.st, etp x hxm, et x hxm, N.same.seq hA, hb, by omega, fun H3 r3 S3 a3 g1 g2 => ?_⟩
          refine ⟨_, rfl, some (nv x), some (nv ((accS l u (L.take i)).2 + 8 * VM.count x)), r3, ?_, ?_, a3.trans ea⟩
          · rw [em]
            rfl
          · rw [em]
            exact N.mod S3 g1 g2
      · have hz : u &&& x = 0 := by
          by_cases z : u &&& x = 0
          · exact z
          · exact absurd (show (!decide (u &&& x = 0)) = true by rw [decide_eq_false z]; rfl) c
        rw [if_pos hz] at em
        refine ⟨some (nv x), v5, r, ?_, ?_, ea⟩
        · rw [em]
          rfl
        · rw [em]
          exact N
    · rintro σ H' ⟨v4, v5, r, rfl, N, ea⟩
      rw [nl_length, List.take_length, ← hst] at N
      refine ⟨_, rfl, r, _, by rw [ea]; rfl, N.st, fun G q sq hq hl => ?_⟩
      have NG := N.on sq
      refine ⟨_, rfl, q, a, _, _, rfl, rfl, SqL.of hl, NG.same.seq hA, _, rfl, ite2 (fun c => ?_) (fun c => ?_)⟩
      · have c : Sd62.short (stShort l) = l := of_decide_eq_true c
        refine ⟨_, rfl, ?_⟩
        rw [← ea]
        exact readSt_yes k (hread.trans (if_pos c)) G r NG
      · exact readSt_no k (hread.trans (if_neg fun z => c (decide_eq_true z))) G NG.same
/-! ### read_checkpoint -/
abbrev sRCheck : Stmt := top 33
theorem scRCheck : FnScope ["content"] ["content"] (defScope sRCheck) := ⟨rfl, rfl, rfl, by decide +kernel, rfl, by decide +kernel, by decide +kernel⟩
theorem ok_rCheck {C : Addr} {f : Addr} {fd : FuncData} (F : Fun K "read_checkpoint" "read_checkpoint" sRCheck f fd) (T : Txt0 mg) (TC : TxtC K mg)
    (CL : Cal P w K mg base 6 "read_long" ["content"] (spRead K C fun l => Sd62.number l 520 8 = 0)) (CS : Cal P w K mg base 6 "read_short" ["content"] (spRead K C fun l => Sd62.number l 520 8 ≠ 0))
    (CA : Cal P w K mg base 1 "words_at" ["content", "at", "count"] (spWordsAt K)) :
    FnOk P w K mg base CX0 7 f fd ["content"] (spRead K C fun _ => True) := by
  obtain ⟨tH, eH⟩ := TC.head
  obtain ⟨tF, eF⟩ := TC.form
  obtain ⟨f_L, fd_L, m_L, k_L, b_L, G_L⟩ := CL.ok
  obtain ⟨f_S, fd_S, m_S, k_S, b_S, G_S⟩ := CS.ok
  obtain ⟨f_A, fd_A, m_A, k_A, b_A, G_A⟩ := CA.ok
  refine F.ok scRCheck (fun vs H Q E h => ?_) (fun cdv A outer sh H vs Q E hr h => ?_)
  · obtain ⟨a, l, rfl, _⟩ := h
    rfl
  · obtain ⟨a, l, rfl, hA, hb, hlen, _, k⟩ := h
    have hr6 : Room 6 _ := hr.mono (by decide)
    have hr1 : Room 1 _ := hr.mono (by decide)
    refine ⟨_, (pss_cons (ps_if (pt_cmpR n_lt (pe_callB call_len_seq (by rfl) T.len PySem.boot_len (pa_cons (pv 0) pa_nil)) (pe_glob (v := .int 576) rfl eH ⟨_, rfl⟩) (nomark _))
        (pss_one (ps_ret pe_non))
        pss_nil)
      (pss_cons (ps_if (pt_cmpR (op_nl hr.units) (pe_call G_A hr1 rfl m_A k_A b_A .nil pass0 (pa_cons (pv 0) (pa_cons (pe_glob (v := .int 520) rfl eF ⟨_, rfl⟩) (pa_cons pe_int pa_nil)))) (pe_lst (pa_cons pe_int pa_nil)) (nomark _))
        (pss_one (ps_ret (pe_call G_L hr6 rfl m_L k_L b_L .nil pass0 (pa_cons (pv 0) pa_nil))))
        pss_nil)
      (pss_one (ps_ret (pe_call G_S hr6 rfl m_S k_S b_S .nil pass0 (pa_cons (pv 0) pa_nil)))))), ?_⟩
    refine ⟨_, rfl, a, _, rfl, .inl hA, l.length, 576, congrArg (fun n : Nat => V.int (n : Int)) (nl_length l), rfl, _, rfl, ite2 (fun c => ?_) (fun c => ?_)⟩
    · exact readSt_no k (read_few hb (of_decide_eq_true c)) H (Same.refl H)
    have n576 : 576 ≤ l.length := Nat.le_of_not_lt fun z => c (decide_eq_true z)
    refine ⟨_, rfl, a, l, 520, 1, rfl, hA, by decide, by decide, fun H1 p s1 hp hl => ?_⟩
    have e1 : Sd62.numbers l 520 1 = [Sd62.number l 520 8] := rfl
    refine ⟨(by show 1 ≤ 16777216; decide), fun q hq => ?_⟩
    have s2 := same_lay s1 hq (o := .lst [V.int 0])
    have npq : p ≠ q := ne_of_none hl hq
    refine ⟨p, q, _, [0], rfl, rfl, SqL.of (by rw [upd_ne npq]; exact hl), SqL.of upd_same, _, rfl, ite2 (fun c => ?_) (fun c => ?_)⟩
    · have c : Sd62.numbers l 520 1 = [0] := of_decide_eq_true c
      rw [e1] at c
      have c0 : Sd62.number l 520 8 = 0 := List.head_eq_of_cons_eq c
      refine ⟨_, rfl, a, l, rfl, s2.seq hA, hb, hlen, c0, ?_⟩
      cases er : Sd62.read l with
      | none =>
        rw [er] at k
        exact fun H' e => k H' (s2.trans e)
      | some s =>
        rw [er] at k
        exact fun H' r N => k H' r ⟨N.st, s2.trans N.same, fun b hb => Same.free s2 (N.new b hb)⟩
    · have c0 : Sd62.number l 520 8 ≠ 0 := fun z => c (decide_eq_true (by rw [e1, z]))
      refine ⟨_, rfl, a, l, rfl, s2.seq hA, hb, hlen, c0, ?_⟩
      cases er : Sd62.read l with
      | none =>
        rw [er] at k
        exact fun H' e => k H' (s2.trans e)
      | some s =>
        rw [er] at k
        exact fun H' r N => k H' r ⟨N.st, s2.trans N.same, fun b hb => Same.free s2 (N.new b hb)⟩
end
end VP

set_option Elab.async false
set_option linter.all false
set_option maxRecDepth 100000
set_option maxHeartbeats 4000000
namespace VP
open PySem PySem.Spec PyProof.Rows L2
/-! ### zip of two things, each walked by an iterator of its own kind -/
/-- what stands at an address -/
def On (h : Heap) (a : Addr) (R : Obj → Prop) : Prop := ∃ o, h.get? a = some o ∧ R o
theorem On.up {h h' : Heap} {a : Addr} {R : Obj → Prop} (x : On h a R) (k : ∀ o, h.get? a = some o → h'.get? a = some o) : On h' a R := by
  obtain ⟨o, e, r⟩ := x
  exact ⟨o, k o e, r⟩
theorem On.but {h h' : Heap} {a c : Addr} {R : Obj → Prop} (x : On h a R) (b : Heap.SameBut c h h') (n : a ≠ c) : On h' a R := x.up fun o e => b.extBut a o n e
/-- the iterator at i over the thing at l gives v, and is another one then -/
def Gives (prog : Program) (w : World) (i l : Addr) (R L R' : Obj → Prop) (v : Value) : Prop :=
  ∀ (A : Around) (E : Value → Shared → Prop) (t : Shared) (Q : Value → Shared → Prop), On t.heap i R → On t.heap l L → (∀ g, On g i R' → Heap.SameBut i t.heap g → Q v { t with heap := g }) →
    wpAny (model prog w) A (Builtin.SmallTypes.nextOf (.ref i)) Q E t
/-- the iterator at i over the thing at l is at its end -/
def Ends2 (prog : Program) (w : World) (i l : Addr) (R L : Obj → Prop) : Prop :=
  ∀ (A : Around) (E : Value → Shared → Prop) (t : Shared) (Q : Value → Shared → Prop), A.handled = none → On t.heap i R → On t.heap l L →
    (∀ g e, Heap.ExtBut i t.heap g → On g e (fun o => o.cls = .type "StopIteration") → E (.ref e) { t with heap := g }) → wpAny (model prog w) A (Builtin.SmallTypes.nextOf (.ref i)) Q E t
section
variable {prog : Program} {w : World} {A : Around} {E : Value → Shared → Prop} {t : Shared} {z TI TO i j l m : Addr} {R R' L S S' M : Obj → Prop} {x y a b : Value}
theorem two_item {Q : Option Value → Shared → Prop} (D : ZipApart z TI TO i j l m) (oz : IsZip t.heap z TI TO .none) (oI : IsPair t.heap TI (.ref i) (.ref j)) (oO : IsPair t.heap TO a b)
    (r : On t.heap i R) (rl : On t.heap l L) (q : On t.heap j S) (qm : On t.heap m M) (d1 : Gives prog w i l R L R' x) (d2 : Gives prog w j m S M S' y)
    (k : ∀ g, IsZip g z TI TO (rawInt t.heap.objs.size) → IsPair g TO x y → On g i R' → On g j S' → IsPair g t.heap.objs.size x y → g.objs.size = t.heap.objs.size + 1 →
      (∀ c o, c ≠ z → c ≠ TO → c ≠ i → c ≠ j → t.heap.get? c = some o → g.get? c = some o) → Q (some (.ref t.heap.objs.size)) { t with heap := g }) : wpAny (model prog w) A (pyNext (.ref z)) Q E t := by
  have tz : t.TypeIs (.ref z) "zip" := ⟨_, oz, rfl⟩
  unfold pyNext
  refine wpAny_bind (wpAny_attempt (wpAny_callSpecial?_slot (name := Str.ofString "__next__") tz F.slot_zip_next (wpAny_call_entry F.slot_zip_next tz F.entry_zip_next ?_ (F.args_zip_next_1 _))))
  show wpAny (model prog w) _ (field (.ref z) 2 >>= _) _ _ t
  refine wpAny_bind (wpAny_field oz rfl (x := .bool false) rfl ?_)
  show wpAny (model prog w) _ (field (.ref z) 3 >>= _) _ _ t
  refine wpAny_bind (wpAny_field oz rfl (x := .ref TI) rfl (wpAny_bind (wpAny_seqItems oI rfl ?_)))
  show wpAny (model prog w) _ (Builtin.SmallTypes.ownedTupleIsFree (.ref z) >>= _) _ _ t
  refine wpAny_bind ?_
  unfold Builtin.SmallTypes.ownedTupleIsFree
  refine wpAny_bind (wpAny_field oz rfl (x := .none) rfl (wpAny_pure ?_))
  simp only [if_true]
  refine wpAny_bind (wpAny_rule (wpAny_bind (wpAny_field oz rfl (x := .ref TO) rfl (wpAny_bind (wpAny_setField_rec oz (by simp) fun g1 z1 b1 => ?_)))))
  have z1 : IsZip g1 z TI TO .ellipsis := z1
  refine wpAny_bind ?_
  simp only [List.zipIdx_cons, List.zipIdx_nil, List.forIn_cons, List.forIn_nil]
  -- the first
  refine wpAny_bind (wpAny_bind (wpAny_onRaise ?_))
  show wpAny (model prog w) _ (Builtin.SmallTypes.nextOf (.ref i) >>= _) _ _ _
  refine (wpAny_bind (d1 _ _ _ _ (r.but b1 D.i1z) (rl.but b1 D.l1z) fun g2 r2 b2 => wpAny_pure ?_))
  have o2 : IsPair g2 TO a b := b2.extBut _ _ D.TOi1 (b1.extBut _ _ D.TOz oO)
  refine wpAny_bind (wpAny_seqItems o2 rfl (wpAny_bind (wpAny_updateSeq_pair o2 fun g3 o3 b3 => ?_)))
  have o3 : IsPair g3 TO x b := o3
  refine wpAny_bind (wpAny_letGo (wpAny_pure ?_))
  -- the second
  refine wpAny_bind (wpAny_bind (wpAny_onRaise ?_))
  show wpAny (model prog w) _ (Builtin.SmallTypes.nextOf (.ref j) >>= _) _ _ _
  refine (wpAny_bind (d2 _ _ _ _ (((q.but b1 D.i2z).but b2 D.i12.symm).but b3 D.TOi2.symm) (((qm.but b1 D.l2z).but b2 D.l2i1).but b3 D.l2TO) fun g4 q4 b4 => wpAny_pure ?_))
  have o4 : IsPair g4 TO x b := b4.extBut _ _ D.TOi2 o3
  refine wpAny_bind (wpAny_seqItems o4 rfl (wpAny_bind (wpAny_updateSeq_pair o4 fun g5 o5 b5 => ?_)))
  have o5 : IsPair g5 TO x y := o5
  refine wpAny_bind (wpAny_letGo (wpAny_pure (wpAny_pure ?_)))
  -- the pair is handed out
  refine wpAny_bind (wpAny_seqItems o5 rfl (wpAny_bind (wpAny_newTuple ?_)))
  have sz : g5.objs.size = t.heap.objs.size := b5.1.trans (b4.1.trans (b3.1.trans (b2.1.trans b1.1)))
  have z5 : IsZip g5 z TI TO .ellipsis := b5.extBut _ _ D.TOz.symm (b4.extBut _ _ D.i2z.symm (b3.extBut _ _ D.TOz.symm (b2.extBut _ _ D.i1z.symm z1)))
  have r5 : On g5 i R' := ((r2.but b3 D.TOi1.symm).but b4 D.i12).but b5 D.TOi1.symm
  have q5 : On g5 j S' := q4.but b5 D.TOi2.symm
  have zlt := Heap.lt_size z5
  show wpAny (model prog w) _ (Builtin.SmallTypes.ownedTupleHandOut (.ref z) (.ref g5.objs.size) >>= _) _ _ _
  refine wpAny_bind ?_
  unfold Builtin.SmallTypes.ownedTupleHandOut
  have z6 : IsZip (g5.push { cls := .type "tuple", data := .seq #[x, y] }) z TI TO .ellipsis := Heap.get?_push_of_some _ z5
  refine wpAny_bind (wpAny_setField_rec z6 (by simp) fun g7 z7 b7 => ?_)
  have z7 : IsZip g7 z TI TO (rawInt g5.objs.size) := z7
  refine wpAny_setField_rec z7 (by simp) fun g8 z8 b8 => ?_
  have z8 : IsZip g8 z TI TO (rawInt g5.objs.size) := z8
  have up : ∀ c o, c ≠ z → g5.get? c = some o → g8.get? c = some o := fun c o n e => b8.extBut _ _ n (b7.extBut _ _ n (Heap.get?_push_of_some _ e))
  have p8 : IsPair g8 g5.objs.size x y := b8.extBut _ _ (Nat.ne_of_gt zlt) (b7.extBut _ _ (Nat.ne_of_gt zlt) (Heap.get?_push_size _ rfl))
  have s8 : g8.objs.size = g5.objs.size + 1 := b8.1.trans (b7.1.trans (Heap.size_push ..))
  rw [sz] at z8 p8 s8
  refine wpAny_pure ⟨_, rfl, wpAny_pure ?_⟩
  have fin := k g8 z8 (up _ _ D.TOz o5) (r5.up fun o => up _ o D.i1z) (q5.up fun o => up _ o D.i2z) p8 s8 fun c o n1 n2 n3 n4 e => up c o n1 (b5.extBut _ _ n2 (b4.extBut _ _ n4 (b3.extBut _ _ n2 (b2.extBut _ _ n3 (b1.extBut _ _ n1 e)))))
  rw [← sz] at fin
  exact fin
theorem two_end {Q : Option Value → Shared → Prop} (hh : A.handled = none) (D : ZipApart z TI TO i j l m) (oz : IsZip t.heap z TI TO .none) (oI : IsPair t.heap TI (.ref i) (.ref j))
    (r : On t.heap i R) (rl : On t.heap l L) (d1 : Ends2 prog w i l R L) (k : ∀ g, (∀ c o, c ≠ z → c ≠ i → t.heap.get? c = some o → g.get? c = some o) → Q none { t with heap := g }) : wpAny (model prog w) A (pyNext (.ref z)) Q E t := by
  have tz : t.TypeIs (.ref z) "zip" := ⟨_, oz, rfl⟩
  unfold pyNext
  refine wpAny_bind (wpAny_attempt (wpAny_callSpecial?_slot (name := Str.ofString "__next__") tz F.slot_zip_next (wpAny_call_entry F.slot_zip_next tz F.entry_zip_next ?_ (F.args_zip_next_1 _))))
  show wpAny (model prog w) _ (field (.ref z) 2 >>= _) _ _ t
  refine wpAny_bind (wpAny_field oz rfl (x := .bool false) rfl ?_)
  show wpAny (model prog w) _ (field (.ref z) 3 >>= _) _ _ t
  refine wpAny_bind (wpAny_field oz rfl (x := .ref TI) rfl (wpAny_bind (wpAny_seqItems oI rfl ?_)))
  show wpAny (model prog w) _ (Builtin.SmallTypes.ownedTupleIsFree (.ref z) >>= _) _ _ t
  refine wpAny_bind ?_
  unfold Builtin.SmallTypes.ownedTupleIsFree
  refine wpAny_bind (wpAny_field oz rfl (x := .none) rfl (wpAny_pure ?_))
  simp only [if_true]
  refine wpAny_bind (wpAny_rule (wpAny_bind (wpAny_field oz rfl (x := .ref TO) rfl (wpAny_bind (wpAny_setField_rec oz (by simp) fun g1 z1 b1 => ?_)))))
  have z1 : IsZip g1 z TI TO .ellipsis := z1
  refine wpAny_bind ?_
  simp only [List.zipIdx_cons, List.zipIdx_nil, List.forIn_cons, List.forIn_nil]
  refine wpAny_bind (wpAny_bind (wpAny_onRaise ?_))
  show wpAny (model prog w) _ (Builtin.SmallTypes.nextOf (.ref i) >>= _) _ _ _
  refine (wpAny_bind (d1 _ _ _ _ hh (r.but b1 D.i1z) (rl.but b1 D.l1z) fun g2 e b2 oe => ?_))
  obtain ⟨oe, he, ce⟩ := oe
  have z2 : IsZip g2 z TI TO .ellipsis := b2 _ _ D.i1z.symm z1
  have ne : e ≠ z := fun q => by
    rw [q, z2] at he
    cases he
    simp at ce
  refine wpAny_setField_rec z2 (by simp) fun g3 _ b3 => ?_
  refine wpAny_bind (wpAny_isInstance (T := "StopIteration") (b := true) ⟨oe, b3.extBut _ _ ne he, ce⟩ isSubtype_stop (wpAny_pure (k g3 fun c o n1 n3 q => b3.extBut _ _ n1 (b2 _ _ n3 (b1.extBut _ _ n1 q)))))
end
/-! ### a list and a tuple -/
/-- the list at a, the tuple at b, as they stand at each turn; a turn makes a new pair -/
def ItLT (K : PySem.W.Frag) (a b : Addr) : It where
  go := fun n H => ∃ (xs ys : List V) (x y : V), SqL K H a xs ∧ SqT K H b ys ∧ xs[n]? = some x ∧ ys[n]? = some y
  yld := fun n H v H' => ∃ T x y, v = .ref T ∧ H T = none ∧ H' = upd H T (.tup [x, y]) ∧ (∀ l, SqL K H a l → l[n]? = some x) ∧ ∀ l, SqT K H b l → l[n]? = some y
  stop := fun n H => ∃ xs : List V, SqL K H a xs ∧ xs.length ≤ n
theorem gives_list {prog : Program} {w : World} {i l : Addr} {n : Nat} {its : Array Value} {v : Value} (hv : its[n]? = some v) :
    Gives prog w i l (fun o => o.cls = .type "list_iterator" ∧ o.data = .fields #[.ref l, .int n 0]) (fun o => o.cls = .type "list" ∧ ∃ k, o.data = .seq its k) (fun o => o.cls = .type "list_iterator" ∧ o.data = .fields #[.ref l, .int (n + 1 : Nat) 0]) v :=
  fun A E t Q h1 h2 k => wpAny_nextOf_list_item (s := t) h1 h2 hv k
theorem gives_tuple {prog : Program} {w : World} {i l : Addr} {n : Nat} {its : Array Value} {v : Value} (hv : its[n]? = some v) :
    Gives prog w i l (fun o => o.cls = .type "tuple_iterator" ∧ o.data = .fields #[.ref l, .int n 0]) (fun o => o.cls = .type "tuple" ∧ ∃ k, o.data = .seq its k) (fun o => o.cls = .type "tuple_iterator" ∧ o.data = .fields #[.ref l, .int (n + 1 : Nat) 0]) v :=
  fun A E t Q h1 h2 k => RZ.nextOf_tuple_item (s := t) h1 h2 hv k
theorem ends_list {prog : Program} {w : World} {i l : Addr} {n : Nat} {its : Array Value} (hv : its[n]? = none) :
    Ends2 prog w i l (fun o => o.cls = .type "list_iterator" ∧ o.data = .fields #[.ref l, .int n 0]) (fun o => o.cls = .type "list" ∧ ∃ k, o.data = .seq its k) :=
  fun A E t Q hh h1 h2 k => wpAny_nextOf_list_end hh (s := t) h1 h2 hv k
/-- the five things that zip(list, tuple) makes -/
def mk1 (h : Heap) (l : Addr) : Heap := h.push { cls := .type "list_iterator", data := .fields #[.ref l, .int 0 0] }
def mk2 (h : Heap) (l m : Addr) : Heap := (mk1 h l).push { cls := .type "tuple_iterator", data := .fields #[.ref m, .int 0 0] }
def mk3 (h : Heap) (l m : Addr) : Heap := (mk2 h l m).push { cls := .type "tuple", data := .seq #[.ref h.objs.size, .ref (mk1 h l).objs.size] }
def mk4 (h : Heap) (l m : Addr) : Heap := (mk3 h l m).push { cls := .type "tuple", data := .seq #[.none, .none] }
def mk5 (h : Heap) (l m : Addr) : Heap := (mk4 h l m).push { cls := .type "zip", data := .fields #[.none, .bool false, .bool false, .ref (mk2 h l m).objs.size, .ref (mk3 h l m).objs.size] }
theorem meets_LT (l m : Addr) (xs ys : Array Value) : Meets (Builtin.«zip.__new__» ⟨[.type "zip", .ref l, .ref m], []⟩) (fun _ R t => t.heap.IsList l xs ∧ t.heap.IsTuple m ys ∧ R (.ok (.ret (.ref (mk4 t.heap l m).objs.size))) { t with heap := mk5 t.heap l m }) := by
  refine .of_wp fun prog w A R t h => ?_
  obtain ⟨h0, g, d, tk, os⟩ := t
  obtain ⟨e1, e2, h⟩ := h
  have hsub := sub_zip
  have w1 : Heap.IsList (Shared.heap ⟨h0, g, d, tk, os⟩) l xs := e1
  have w2 : Heap.IsTuple (Shared.heap ⟨h0.push { cls := .type "list_iterator", data := .fields #[.ref l, .int 0 0] }, g, d, tk, os⟩) m ys := Heap.IsTuple.push e2 _
  wp_walk using wpAny_pyIter_list w1, wpAny_pyIter_tuple w2
  exact ⟨_, rfl, h⟩
theorem call_LT {prog : Program} {w : World} {A : Around} {E : Value → Shared → Prop} {t : Shared} {l m : Addr} {xs ys : Array Value} {Q : Value → Shared → Prop} (e1 : t.heap.IsList l xs) (e2 : t.heap.IsTuple m ys)
    (k : ∀ g, IsZip g (t.heap.objs.size + 4) (t.heap.objs.size + 2) (t.heap.objs.size + 3) .none → IsPair g (t.heap.objs.size + 2) (.ref t.heap.objs.size) (.ref (t.heap.objs.size + 1)) → IsPair g (t.heap.objs.size + 3) .none .none →
      g.IsListIter t.heap.objs.size l 0 → g.IsTupleIter (t.heap.objs.size + 1) m 0 → (∀ c o, t.heap.get? c = some o → g.get? c = some o) → Q (.ref (t.heap.objs.size + 4)) { t with heap := g }) : wpAny (model prog w) A (call (.type "zip") [.ref l, .ref m]) Q E t := by
  refine callType_new F.called_zip (by decide) (F.typeCall_zip_2 _ _) (F.newCall_zip_2 _ _) (fun obj => F.args_object_init_3 obj _ _) F.entry_zip_new (meets_LT l m xs ys) ⟨e1, e2, ?_⟩
  generalize hN : t.heap.objs.size = N at k
  have n1 : (mk1 t.heap l).objs.size = N + 1 := by rw [← hN]; exact Heap.size_push ..
  have n2 : (mk2 t.heap l m).objs.size = N + 2 := (Heap.size_push ..).trans (by rw [n1])
  have n3 : (mk3 t.heap l m).objs.size = N + 3 := (Heap.size_push ..).trans (by rw [n2])
  have n4 : (mk4 t.heap l m).objs.size = N + 4 := (Heap.size_push ..).trans (by rw [n3])
  have u5 : ∀ c o, (mk4 t.heap l m).get? c = some o → (mk5 t.heap l m).get? c = some o := fun c o e => Heap.get?_push_of_some _ e
  have u4 : ∀ c o, (mk3 t.heap l m).get? c = some o → (mk5 t.heap l m).get? c = some o := fun c o e => u5 c o (Heap.get?_push_of_some _ e)
  have u3 : ∀ c o, (mk2 t.heap l m).get? c = some o → (mk5 t.heap l m).get? c = some o := fun c o e => u4 c o (Heap.get?_push_of_some _ e)
  have u2 : ∀ c o, (mk1 t.heap l).get? c = some o → (mk5 t.heap l m).get? c = some o := fun c o e => u3 c o (Heap.get?_push_of_some _ e)
  have u1 : ∀ c o, t.heap.get? c = some o → (mk5 t.heap l m).get? c = some o := fun c o e => u2 c o (Heap.get?_push_of_some _ e)
  have g5 : (mk5 t.heap l m).get? (mk4 t.heap l m).objs.size = some _ := Heap.get?_push_size _ rfl
  have g4 : (mk5 t.heap l m).get? (mk3 t.heap l m).objs.size = some _ := u5 _ _ (Heap.get?_push_size _ rfl)
  have g3 : (mk5 t.heap l m).get? (mk2 t.heap l m).objs.size = some _ := u4 _ _ (Heap.get?_push_size _ rfl)
  have g2 : (mk5 t.heap l m).get? (mk1 t.heap l).objs.size = some _ := u3 _ _ (Heap.get?_push_size _ rfl)
  have g1 : (mk5 t.heap l m).get? t.heap.objs.size = some _ := u2 _ _ (Heap.get?_push_size _ rfl)
  rw [n4, n3, n2] at g5
  rw [n3] at g4
  rw [n2, n1, hN] at g3
  rw [n1] at g2
  rw [hN] at g1
  show _ ∧ _
  rw [n4]
  exact ⟨⟨_, g5, rfl⟩, k _ g5 g3 g4 ⟨_, g1, rfl, rfl⟩ ⟨_, g2, rfl, rfl⟩ u1⟩
theorem turn_LT {P : Program} {w : World} {K : PySem.W.Frag} {elts : List Expr} {kk : Nat} {tpos : Pos} {a b z TI TO i j : Addr} (D : ZipApart z TI TO i j a b) :
    Turn P w K (.Tuple elts kk tpos) (ItLT K a b) [z, TI, TO, i, j] z (fun n h => IsZip h z TI TO .none ∧ IsPair h TI (.ref i) (.ref j) ∧ (∃ x y, IsPair h TO x y) ∧ h.IsListIter i a n ∧ h.IsTupleIter j b n) where
  mem := List.mem_cons_self
  obj := fun n h ⟨oz, oI, ⟨x, y, oO⟩, ⟨o1, e1, _, d1⟩, ⟨o2, e2, _, d2⟩⟩ c hc => by
    simp only [List.mem_cons, List.not_mem_nil, or_false] at hc
    rcases hc with e | e | e | e | e <;> subst e
    · exact ⟨_, oz, fun v q => by cases q⟩
    · exact ⟨_, oI, fun v q => by cases q⟩
    · exact ⟨_, oO, fun v q => by cases q⟩
    · exact ⟨_, e1, fun v q => by rw [d1] at q; cases q⟩
    · exact ⟨_, e2, fun v q => by rw [d2] at q; cases q⟩
  keep := fun n h g ⟨oz, oI, ⟨x, y, oO⟩, r, q⟩ k =>
    ⟨k z (by simp) _ oz, k TI (by simp) _ oI, ⟨x, y, k TO (by simp) _ oO⟩, r.at fun o e => k i (by simp) o e, q.at fun o e => k j (by simp) o e⟩
  item := by
    rintro X rfl rfl rfl hc n pins t σ H E I hf ⟨oz, oI, ⟨a0, b0, oO⟩, r, q⟩ ⟨xs, ys, x, y, sx, sy, hx, hy⟩
    obtain ⟨us, ru, pu, _⟩ := I.list sx
    obtain ⟨vs, rv, pv2, _⟩ := I.tuple sy
    obtain ⟨u, hu, r1⟩ := ru.get hx
    obtain ⟨v, hv, r2⟩ := rv.get hy
    have zlt : z < t.heap.objs.size := Heap.lt_size oz
    refine two_item D oz oI oO r pu.isList q pv2 (gives_list (v := u) (its := us.toArray) (by simpa using hu)) (gives_tuple (v := v) (its := vs.toArray) (by simpa using hv)) fun g z' O' r' q' oT sz k => ?_
    refine ⟨_, rfl, wpAny_letOwnedTupleGo_zip (s := { t with heap := g }) z' fun g2 z2 sb => ?_⟩
    have oT2 : g2.get? t.heap.objs.size = some { cls := .type "tuple", data := .seq #[u, v] } := (sb.2 _ (Nat.ne_of_gt zlt)).trans oT
    have ok : ObjOk X.prog X.w (upd H t.heap.objs.size (.tup [x, y])) g2 t.heap.objs.size (.tup [x, y]) := ⟨by show 2 ≤ sizeLine; decide, [u, v], .cons r1 (.cons r2 .nil), ⟨_, oT2, rfl, _, rfl⟩⟩
    have I2 : Inv X pins σ (upd H t.heap.objs.size (.tup [x, y])) { t with heap := g2 } := by
      refine I.turnedNew (t' := t.toks) (ch := [z, TI, TO, i, j]) (fun c o nm e => ?_) hf (Nat.le_refl _) ok
      simp only [List.mem_cons, List.not_mem_nil, or_false, not_or] at nm
      exact (sb.2 c nm.1).trans (k c o nm.1 nm.2.2.1 nm.2.2.2.1 nm.2.2.2.2 e)
    have old : ∀ c, c ∈ [z, TI, TO, i, j] → c < t.heap.objs.size := fun c hc => by
      simp only [List.mem_cons, List.not_mem_nil, or_false] at hc
      rcases hc with e | e | e | e | e <;> subst e
      · exact zlt
      · exact Heap.lt_size oI
      · exact Heap.lt_size oO
      · exact Heap.lt_size r.choose_spec.1
      · exact Heap.lt_size q.choose_spec.1
    refine ⟨.ref t.heap.objs.size, _, I2, rfl, ⟨_, x, y, rfl, I.hok.fresh (Nat.le_refl _), rfl, fun l hl => ?_, fun l hl => ?_⟩, ⟨z2, ?_, ⟨u, v, ?_⟩, ?_, ?_⟩, fun c hc => ?_⟩
    · rw [I.list_inj hl sx]
      exact hx
    · rw [I.tuple_inj hl sy]
      exact hy
    · exact (sb.2 _ D.TIz).trans (k _ _ D.TIz D.TITO D.TIi1 D.TIi2 oI)
    · exact (sb.2 _ D.TOz).trans O'
    · exact Heap.IsListIter.at r' fun o e => (sb.2 _ D.i1z).trans e
    · exact Heap.IsTupleIter.at q' fun o e => (sb.2 _ D.i2z).trans e
    · rw [upd_ne (Nat.ne_of_lt (old c hc))]
      exact (hf c hc).1
  done := by
    rintro X rfl rfl rfl hc n pins t σ H E I hf ⟨oz, oI, ⟨a0, b0, oO⟩, r, q⟩ ⟨xs, sx, hn⟩
    obtain ⟨us, ru, pu, _⟩ := I.list sx
    have len := ru.length
    refine two_end (I.ok.hd hc) D oz oI r pu.isList (ends_list (its := us.toArray) (by simp; omega)) fun g k => ⟨rfl, I.turnedL (t' := t.toks) (ch := [z, TI, TO, i, j]) (fun c o nm e => ?_) hf⟩
    simp only [List.mem_cons, List.not_mem_nil, or_false, not_or] at nm
    exact k c o nm.1 nm.2.2.2.1 e
  self := fun A n t Q E st h => wpAny_pyIter_zip st.1 h
def iZipLT (K : PySem.W.Frag) (ta : TA) : TI := fun σ H R => ta σ H fun vs H1 => ∃ a b xs ys, vs = [.ref a, .ref b] ∧ SqL K H1 a xs ∧ SqT K H1 b ys ∧ R (ItLT K a b) H1
theorem pi_zipLT {X : Cx} {K : PySem.W.Frag} {e e2 : Expr} {ta : TA} {p pos tpos : Pos} {elts : List Expr} {kk : Nat} (hg : Gl X "zip") (hm : X.mg "zip" = none) (ha : PA X [e, e2] ta) (hK : X.K = K := by rfl)
    (hs : starEach [e, e2] X.env = (false, eval e X.env) :: starEach [e2] X.env := by rfl) (hpl : (backTo pos (starEach [e2] X.env)).any (·.1) = false := by rfl) : PI X (.Tuple elts kk tpos) (.Call (.Name "zip" p) [e, e2] [] pos) (iZipLT K ta) := by
  subst hK
  refine ⟨fun pins t σ H R I h => Call_ (ld_blt I hg hm PyProof.Rows.boot_zip (PyProof.Rows.callWith_type1 (thn (ha.run pos pins t σ H _ I h) fun us t1 ⟨vs, H1, I1, r1, q1⟩ => ?_) hs hpl))⟩
  obtain ⟨a, b, xs, ys, rfl, sx, sy, q⟩ := q1
  cases r1 with
  | cons ra rr =>
    cases rr with
    | cons rb rr =>
      cases rr
      cases ra
      cases rb
      obtain ⟨us, ru, pu, _⟩ := I1.list sx
      obtain ⟨ws, rw, pw, _⟩ := I1.tuple sy
      have la : a < t1.heap.objs.size := Heap.lt_size pu.isList.choose_spec.1
      have lb : b < t1.heap.objs.size := Heap.lt_size pw.choose_spec.1
      refine call_LT pu.isList pw fun g oz oI oO r q' k => wpAny_pyIter_zip oz ?_
      refine ⟨_, [t1.heap.objs.size + 4, t1.heap.objs.size + 2, t1.heap.objs.size + 3, t1.heap.objs.size, t1.heap.objs.size + 1], _, _, H1, rfl, I1.kept (t' := t1.toks) k, turn_LT (PySem.W.ktu_apart t1.heap.objs.size a b la lb), ⟨oz, oI, ⟨_, _, oO⟩, r, q'⟩, fun c hc => ?_, q⟩
      have le : t1.heap.objs.size ≤ c := by
        simp only [List.mem_cons, List.not_mem_nil, or_false] at hc
        rcases hc with e | e | e | e | e <;> (rw [e]; first | exact Nat.le_refl _ | exact Nat.le_add_right _ _)
      exact I1.fpOk le (I1.hok.fresh le)
theorem walk_LT {K : PySem.W.Frag} {a b : Addr} {xs ys : List V} (hn : xs.length = ys.length) : Walk (ItLT K a b) xs.length (fun H => SqL K H a xs ∧ SqT K H b ys) (YPair (fun i => xs[i]?) (fun i => ys[i]?)) := by
  refine ⟨fun i H hi q => ⟨xs, ys, xs[i], ys[i]'(by omega), q.1, q.2, List.getElem?_eq_getElem _, List.getElem?_eq_getElem _⟩, fun H q => ⟨xs, q.1, Nat.le_refl _⟩, fun i H v H' _ q y => ?_⟩
  obtain ⟨T, x, y, h1, h2, h3, h4, h5⟩ := y
  exact ⟨T, x, y, h1, h2, h3, h4 xs q.1, h5 ys q.2⟩
end VP

set_option Elab.async false
set_option linter.all false
set_option maxRecDepth 100000
set_option maxHeartbeats 4000000
namespace VP
open PySem PySem.Spec PyProof.Rows L2
section
variable {P : Program} {w : World} {K : PySem.W.Frag} {mg : Str → Option Value} {base : Heap}
theorem op_nlne {X : Cx} {K : PySem.W.Frag} (hu : X.A.units + 64 < cLine) (hK : X.K = K := by rfl) : OpR X (compareOp .NotEq) (fun x y H Q => ∃ (a b : Addr) (A B : List Nat), x = .ref a ∧ y = .ref b ∧ SqL K H a (nl A) ∧ SqL K H b (nl B) ∧ Q (.bl (!decide (A = B))) H) := by
  subst hK
  refine OpR.imp (op_neD hu) fun x y H Q ⟨a, b, A, B, e1, e2, hA, hB, q⟩ => ⟨.list (pyl A), .list (pyl B), by rw [e1]; exact .lst hA (dp_all _ _ A), by rw [e2]; exact .lst hB (dp_all _ _ B), pyl_shaped A, pyl_shaped B, ?_⟩
  have e : PyData.eqv (.list (pyl A)) (.list (pyl B)) = decide (A = B) := by
    simp only [PyData.eqv]
    exact pyl_eqv A B
  rw [e]
  exact q
/-! ### different_weights -/
def spDiff (C : Addr) : Sp := fun vs H Q _ => ∃ (r1 r2 : Rg) (s1 s2 : Sd62.St), vs = [.ref r1.a, .ref r2.a] ∧ StAt C H r1 s1 ∧ StAt C H r2 s2 ∧ ∀ H', Same H H' → Q (nv (VM.diff s1 s2)) H'
abbrev sDiff : Stmt := top 13
theorem scDiff : FnScope ["left", "right", "total", "weight"] ["left", "right"] (defScope sDiff) := ⟨rfl, rfl, rfl, by decide +kernel, rfl, by decide +kernel, by decide +kernel⟩
theorem ok_diff {C : Addr} {f : Addr} {fd : FuncData} (F : Fun K "different_weights" "different_weights" sDiff f fd) (TW : TxtW K mg)
    (CW : Cal P w K mg base 2 "component_words" ["state", "weight"] (spWords C)) :
    FnOk P w K mg base CX0 3 f fd ["left", "right"] (spDiff C) := by
  obtain ⟨aW, eW, tW⟩ := TW.weights
  obtain ⟨f_W, fd_W, m_W, k_W, b_W, G_W⟩ := CW.ok
  refine F.ok scDiff (fun vs H Q E h => ?_) (fun cdv A outer sh H vs Q E hr h => ?_)
  · obtain ⟨r1, r2, s1, s2, rfl, _⟩ := h
    rfl
  · obtain ⟨r1, r2, s1, s2, rfl, S1, S2, k⟩ := h
    have hr2 : Room 2 _ := hr.mono (by decide)
    refine ⟨_, (pss_cons (ps_set (i := 2) scDiff.nd rfl (.inl rfl) pe_int)
      (pss_cons (ps_for PassesOwn.never rfl (pi_tup (pe_glob (v := .ref aW) rfl eW rfl)) (pg_name (i := 3) scDiff.nd rfl (.inl rfl))
        (pss_one (ps_if (pt_cmpR (op_nlne hr.units) (pe_call G_W hr2 rfl m_W k_W b_W .nil pass0 (pa_cons (pv 0) (pa_cons (pv 3) pa_nil))) (pe_call G_W hr2 rfl m_W k_W b_W .nil pass0 (pa_cons (pv 1) (pa_cons (pv 3) pa_nil))) (nomark _))
        (pss_one (ps_set (i := 2) scDiff.nd rfl (.inl rfl) (pe_op n_add (pv 2) (pv 3))))
        pss_nil)))
      (pss_one (ps_ret (pv 2))))), ?_⟩
    unfold VM.diff at k
    have hpart := @part_of
    generalize hL : ([1, 2, 4, 32, 64, 128] : List Nat) = L at tW k hpart
    refine ⟨aW, rfl, ⟨_, tW _⟩, for_tup (K := K) (a := aW) (xs := nl L) (fun i σ H' => ∃ v3 : Option V, σ = [some (.ref r1.a), some (.ref r2.a), some (nv ((L.take i).map (VM.diffAt s1 s2)).sum), v3] ∧ Same H H') ⟨none, rfl, Same.refl H⟩ (fun i σ H' _ _ => tW _) ?_ ?_⟩
    · rintro i y σ H' hi ⟨v3, rfl, s5⟩
      obtain ⟨x, hx, rfl⟩ := of_nl hi
      have hp : VM.isPart x := hpart (List.mem_of_getElem? hx)
      have em : (L.take (i + 1)).map (VM.diffAt s1 s2) = (L.take i).map (VM.diffAt s1 s2) ++ [VM.diffAt s1 s2 x] := by rw [VM.take_more hx, List.map_append]; rfl
      refine ⟨_, rfl, _, rfl, r1, s1, x, rfl, S1.same s5, hp, fun H1 p e1 hpn hl => ?_⟩
      refine ⟨_, rfl, _, rfl, r2, s2, x, rfl, S2.same (s5.trans e1), hp, fun H2 q e2 hqn hm => ?_⟩
      have s6 := s5.trans (e1.trans e2)
      refine ⟨p, q, _, _, rfl, rfl, SqL.of (e2 _ _ hl), SqL.of hm, _, rfl, ite2 (fun c => ?_) (fun c => ?_)⟩
      · have ne : VM.comp s1 x ≠ VM.comp s2 x := fun z => by
          have c : (!decide (VM.comp s1 x = VM.comp s2 x)) = true := c
          rw [decide_eq_true z] at c
          exact absurd c (by decide)
        refine ⟨_, rfl, _, rfl, _, _, rfl, rfl, some (nv x), ?_, s6⟩
        rw [em, List.sum_append]
        have ed : VM.diffAt s1 s2 x = x := by
          unfold VM.diffAt Sd62.bit
          rw [if_pos (bne_iff_ne.mpr ne)]
        rw [ed]
        simp
      · have eq : VM.comp s1 x = VM.comp s2 x := by
          by_cases z : VM.comp s1 x = VM.comp s2 x
          · exact z
          · exact absurd (show (!decide (VM.comp s1 x = VM.comp s2 x)) = true by rw [decide_eq_false z]; rfl) c
        refine ⟨some (nv x), ?_, s6⟩
        rw [em, List.sum_append]
        have ed : VM.diffAt s1 s2 x = 0 := by
          unfold VM.diffAt Sd62.bit
          rw [if_neg (fun z => bne_iff_ne.mp z eq)]
        rw [ed]
        simp
    · rintro σ H' ⟨v3, rfl, s5⟩
      refine ⟨_, rfl, ?_⟩
      rw [nl_length, List.take_length]
      exact k H' s5
/-! ### copy_state -/
def spCopy (C : Addr) : Sp := fun vs H Q _ => ∃ (r : Rg) (s : Sd62.St), vs = [.ref r.a] ∧ StAt C H r s ∧ NewSt C H s Q
abbrev sCopy : Stmt := top 14
theorem scCopy : FnScope ["state", "fresh", "weight"] ["state"] (defScope sCopy) := ⟨rfl, rfl, rfl, by decide +kernel, rfl, by decide +kernel, by decide +kernel⟩
theorem ok_copy {C : Addr} {f : Addr} {fd : FuncData} (F : Fun K "copy_state" "copy_state" sCopy f fd) (TS : TxtS K mg C) (TW : TxtW K mg) (CI : CalNew P w K mg base C)
    (CW : Cal P w K mg base 2 "component_words" ["state", "weight"] (spWords C)) (CP : Cal P w K mg base 2 "put_component" ["state", "weight", "words"] (spPut C)) :
    FnOk P w K mg base CX0 3 f fd ["state"] (spCopy C) := by
  obtain ⟨aW, eW, tW⟩ := TW.weights
  obtain ⟨f_I, fd_I, M_I, b_I, G_I⟩ := CI.ok
  obtain ⟨f_W, fd_W, m_W, k_W, b_W, G_W⟩ := CW.ok
  obtain ⟨f_P, fd_P, m_P, k_P, b_P, G_P⟩ := CP.ok
  refine F.ok scCopy (fun vs H Q E h => ?_) (fun cdv A outer sh H vs Q E hr h => ?_)
  · obtain ⟨r, s, rfl, _⟩ := h
    rfl
  · obtain ⟨r, s, rfl, S, k⟩ := h
    have hr2 : Room 2 _ := hr.mono (by decide)
    refine ⟨_, (pss_cons (ps_set (i := 1) scCopy.nd rfl (.inl rfl) (pe_make0 M_I G_I hr2 rfl TS.gC b_I .nil pass0))
      (pss_cons (ps_for PassesOwn.never rfl (pi_tup (pe_glob (v := .ref aW) rfl eW rfl)) (pg_name (i := 2) scCopy.nd rfl (.inl rfl))
        (pss_one (ps_expr (pe_call G_P hr2 rfl m_P k_P b_P .nil pass0 (pa_cons (pv 1) (pa_cons (pv 2) (pa_cons (pe_call G_W hr2 rfl m_W k_W b_W .nil pass0 (pa_cons (pv 0) (pa_cons (pv 2) pa_nil))) pa_nil)))))))
      (pss_one (ps_ret (pv 1))))), ?_⟩
    refine fun x dx nx nd ne => ⟨x, dx, rfl, upd_same, fun H1 r0 S1 ea f1 kp => ⟨rfl, ?_⟩⟩
    have N1 : NewAt C H H1 r0 Sd62.fresh := ⟨S1, Same.made nx nd kp, fun b hb => by
      rcases f1 b hb with e | e
      · rw [e]
        exact nx
      · exact Same.free (Same.made nx nd fun b o h _ => h) e⟩
    subst ea
    have hall := VM.copied_all S.wf
    have hpart := @part_of
    generalize hL : ([1, 2, 4, 32, 64, 128] : List Nat) = L at tW hall hpart
    refine ⟨aW, rfl, ⟨_, tW _⟩, for_tup (K := K) (a := aW) (xs := nl L) (fun i σ H' => ∃ (v2 : Option V) (r1 : Rg), σ = [some (.ref r.a), some (.ref r0.a), v2] ∧ r1.a = r0.a ∧ NewAt C H H' r1 (VM.copied s (L.take i))) ⟨none, r0, rfl, rfl, N1⟩ (fun i σ H' _ _ => tW _) ?_ ?_⟩
    · rintro i y σ H' hi ⟨v2, r1, rfl, ea, N⟩
      obtain ⟨x, hx, rfl⟩ := of_nl hi
      have hp : VM.isPart x := hpart (List.mem_of_getElem? hx)
      refine ⟨_, rfl, _, rfl, _, rfl, _, rfl, r, s, x, rfl, S.same N.same, hp, fun H2 p e2 hpn hl => ?_⟩
      have N2 := N.on e2
      refine ⟨r1, _, x, p, _, by rw [ea]; rfl, N2.st, hp, hl, N.st.off hpn, VM.comp_length S.wf hp, VM.comp_lt S.wf hp, fun H3 r3 S3 a3 g1 g2 => ?_⟩
      refine ⟨some (nv x), r3, rfl, a3.trans ea, ?_⟩
      rw [VM.copied_more hx]
      exact N2.mod S3 g1 g2
    · rintro σ H' ⟨v2, r1, rfl, ea, N⟩
      refine ⟨_, rfl, ?_⟩
      rw [nl_length, List.take_length, hall] at N
      rw [← ea]
      exact k H' r1 N
end
end VP

set_option Elab.async false
set_option linter.all false
set_option maxRecDepth 100000
set_option maxHeartbeats 4000000
namespace VP
open PySem PySem.Spec PyProof.Rows L2
section
variable {P : Program} {w : World} {K : PySem.W.Frag} {mg : Str → Option Value} {base : Heap}
/-! ### registers by number -/
structure TxtR (mg : Str → Option Value) : Prop where
  scalar : ∃ t, mg "FIRST_SCALAR" = some (.int 32 t)
  mask : ∃ t, mg "FIRST_MASK" = some (.int 40 t)
  count : ∃ t, mg "REGISTER_COUNT" = some (.int 48 t)
def spRegW (C : Addr) : Sp := fun vs H Q _ => ∃ (r : Rg) (s : Sd62.St) (n : Nat), vs = [.ref r.a, nv n] ∧ StAt C H r s ∧ n < 48 ∧ NewL H (VM.regW s n) Q
abbrev sRegW : Stmt := top 62
theorem scRegW : FnScope ["state", "number", "word"] ["state", "number"] (defScope sRegW) := ⟨rfl, rfl, rfl, by decide +kernel, rfl, by decide +kernel, by decide +kernel⟩
theorem ok_regW {C : Addr} {f : Addr} {fd : FuncData} (F : Fun K "register_words" "register_words" sRegW f fd) (T : Txt0 mg) (TS : TxtS K mg C) (TR : TxtR mg) :
    FnOk P w K mg base CX0 1 f fd ["state", "number"] (spRegW C) := by
  obtain ⟨tS, eS⟩ := TR.scalar
  obtain ⟨tM, eM⟩ := TR.mask
  refine F.ok scRegW (fun vs H Q E h => ?_) (fun cdv A outer sh H vs Q E hr h => ?_)
  · obtain ⟨r, s, n, rfl, _⟩ := h
    rfl
  · obtain ⟨r, s, n, rfl, S, hn, k⟩ := h
    obtain ⟨dx, hO⟩ := S.obj
    refine ⟨_, (pss_cons (ps_if (pt_cmpR n_lt (pv 1) (pe_glob (v := .int 32) rfl eS ⟨_, rfl⟩) (nomark _))
        (pss_one (ps_ret (pe_callTy call_list_of (by rfl) T.list (by decide +kernel) (pa_cons (pe_ix (ix_listK (K := K)) (pe_fldK (K := K) (pv 0)) (pv 1) (fun _ _ => rfl)) pa_nil))))
        pss_nil)
      (pss_cons (ps_if (pt_cmpR n_lt (pv 1) (pe_glob (v := .int 40) rfl eM ⟨_, rfl⟩) (nomark _))
        (pss_one (ps_set (i := 2) scRegW.nd rfl (.inl rfl) (pe_ix (ix_listK (K := K)) (pe_fldK (K := K) (pv 0)) (pe_op n_sub (pv 1) (pe_glob (v := .int 32) rfl eS ⟨_, rfl⟩)) (fun _ _ => rfl))))
        (pss_one (ps_set (i := 2) scRegW.nd rfl (.inl rfl) (pe_ix (ix_listK (K := K)) (pe_fldK (K := K) (pv 0)) (pe_op n_sub (pv 1) (pe_glob (v := .int 40) rfl eM ⟨_, rfl⟩)) (fun _ _ => rfl)))))
      (pss_one (ps_ret (pe_lst (pa_cons (pv 2) (pa_cons pe_int (pa_cons pe_int (pa_cons pe_int (pa_cons pe_int (pa_cons pe_int (pa_cons pe_int (pa_cons pe_int pa_nil))))))))))))), ?_⟩
    unfold VM.regW at k
    refine ⟨_, rfl, _, 32, rfl, rfl, _, rfl, ite2 (fun c => ?_) (fun c => ?_)⟩
    · have c : n < 32 := of_decide_eq_true c
      rw [if_pos c] at k
      obtain ⟨cV, h1, hV⟩ := S.vec c
      exact ⟨_, rfl, _, C, dx, _, _, rfl, hO, TS.cl, TS.nV, sF_v, _, rfl, r.p2, _, _, _, rfl, rfl, SqL.of S.v, at_refs h1, cV, _, rfl, .inl (SqL.of hV), fun l hl => k _ l (same_new hl) hl upd_same⟩
    have n1 : ¬ n < 32 := fun z => c (decide_eq_true z)
    rw [if_neg n1] at k
    refine ⟨_, rfl, _, 40, rfl, rfl, _, rfl, ite2 (fun c2 => ?_) (fun c2 => ?_)⟩
    · have c2 : n < 40 := of_decide_eq_true c2
      rw [if_pos c2] at k
      refine ⟨_, rfl, _, C, dx, _, _, rfl, hO, TS.cl, TS.nS, sF_s, _, rfl, _, 32, rfl, rfl, by omega, r.p1, _, _, _, rfl, rfl, SqL.of S.m, at_nl (S.wf.M (i := n - 32) (by omega)).1, ?_⟩
      exact ⟨_, rfl, (by show 8 ≤ 16777216; decide), fun l hl => k _ l (same_new hl) hl upd_same⟩
    · have n2 : ¬ n < 40 := fun z => c2 (decide_eq_true z)
      rw [if_neg n2] at k
      refine ⟨_, rfl, _, C, dx, _, _, rfl, hO, TS.cl, TS.nM, sF_m, _, rfl, _, 40, rfl, rfl, by omega, r.p3, _, _, _, rfl, rfl, SqL.of S.k, at_nl (S.wf.K (i := n - 40) (by omega)).1, ?_⟩
      exact ⟨_, rfl, (by show 8 ≤ 16777216; decide), fun l hl => k _ l (same_new hl) hl upd_same⟩
/-! ### can_hold -/
def spHold (K : PySem.W.Frag) : Sp := fun vs H Q _ => ∃ (n : Nat) (a : Addr) (ws : List Nat), vs = [nv n, .ref a] ∧ SqL K H a (nl ws) ∧ ws.length ≤ 1000 ∧ ∀ H', Same H H' → Q (.bl (VM.holds n ws)) H'
abbrev sHold : Stmt := top 63
theorem scHold : FnScope ["number", "words", "word"] ["number", "words"] (defScope sHold) := ⟨rfl, rfl, rfl, by decide +kernel, rfl, by decide +kernel, by decide +kernel⟩
theorem ok_hold {f : Addr} {fd : FuncData} (F : Fun K "can_hold" "can_hold" sHold f fd) (T : Txt0 mg) (TR : TxtR mg) :
    FnOk P w K mg base CX0 1 f fd ["number", "words"] (spHold K) := by
  obtain ⟨tS, eS⟩ := TR.scalar
  refine F.ok scHold (fun vs H Q E h => ?_) (fun cdv A outer sh H vs Q E hr h => ?_)
  · obtain ⟨n, a, ws, rfl, _⟩ := h
    rfl
  · obtain ⟨n, a, ws, rfl, hA, hlen, k⟩ := h
    refine ⟨_, (pss_one (ps_ret (pe_or (pe_cmpR n_lt (pv 0) (pe_glob (v := .int 32) rfl eS ⟨_, rfl⟩) (nomark _)) (pe_one (pe_not (pe_callB (cr_any rfl) (by rfl) T.any (by decide +kernel) (pa_cons (pe_lc (own := [("word", 2)]) (g := gName 2) (tt := tYes) rfl scHold.nd (pi_list (pe_slice sl_list (pv 1) (po_some pe_int) po_none)) (blkOk_by (N := ["number", "words", "word"]) (sc := defScope sHold) (by decide +kernel)) (fun _ _ _ _ _ => (pg_name (i := 2) scHold.nd rfl (Or.inl rfl))) (fun _ _ _ _ _ => pts_nil) (fun _ _ _ _ _ => (pe_cmpR n_ne (pv 2) pe_int (nomark _)))) pa_nil))))))), ?_⟩
    unfold VM.holds at k
    refine ⟨_, rfl, _, 32, rfl, rfl, _, rfl, ite2 (fun c => ?_) (fun c => ?_)⟩
    · have c : decide (n < 32) = true := c
      rw [c, Bool.true_or] at k
      exact k H (Same.refl H)
    · rw [Bool.eq_false_iff.mpr (show decide (n < 32) ≠ true from c), Bool.false_or] at k
      refine ⟨_, rfl, 1, rfl, a, _, rfl, hA, fun p hp => ?_⟩
      have hcut : cutV (nl ws) (some (1 : Int)) none = nl (ws.drop 1) := by
        rw [show (1 : Int) = ((1 : Nat) : Int) from rfl, cut_from, nl_drop]
      have hpv : upd H p (.lst (cutV (nl ws) (some (1 : Int)) none)) p = some (.lst (nl (ws.drop 1))) := by
        rw [upd_same, hcut]
      have s1 := same_new hp (o := .lst (cutV (nl ws) (some (1 : Int)) none))
      generalize upd H p (.lst (cutV (nl ws) (some (1 : Int)) none)) = H1 at hpv s1 ⊢
      have hl2 : (ws.drop 1).length ≤ 1000 := by
        rw [List.length_drop]
        omega
      generalize ws.drop 1 = cw at *
      rw [VM.some0_eq] at k
      refine ⟨p, rfl, ⟨_, SqL.of hpv⟩, fun D hD => ?_⟩
      refine lc_list (K := K) (a := p) (xs := nl cw) (fun j H2 => Same H1 H2 ∧ H2 D = some (.lst (((cw.map fun z => !decide (z = 0)).take j).map V.bl))) ⟨same_new hD, upd_same⟩ (fun j H2 _ h => h.1.seq (SqL.of hpv)) ?_ ?_
      · rintro j z H2 hj ⟨s2, hc⟩
        obtain ⟨z, hz, rfl⟩ := of_nl hj
        refine ⟨rfl, yes_ok ?_⟩
        refine ⟨_, rfl, _, 0, rfl, rfl, _, hc, ?_, same_over s2 hD, ?_⟩
        · rw [List.length_map, List.length_take, List.length_map]
          show _ < 16777216
          omega
        · have em : (cw.map fun z => !decide (z = 0))[j]? = some (!decide (z = 0)) := by rw [List.getElem?_map, hz]; rfl
          rw [upd_same, VM.take_more em, List.map_append]
          rfl
      · rintro H2 ⟨s2, hc⟩
        rw [List.take_of_length_le (by rw [List.length_map, nl_length]; exact Nat.le_refl _)] at hc
        exact ⟨D, _, rfl, SqL.of hc, _, rfl, k H2 (s1.trans s2)⟩
/-! ### put_register -/
def spPutR (C : Addr) : Sp := fun vs H Q _ => ∃ (r : Rg) (s : Sd62.St) (n : Nat) (a : Addr) (ws : List Nat), vs = [.ref r.a, nv n, .ref a] ∧ StAt C H r s ∧ n < 48 ∧ H a = some (.lst (nl ws)) ∧ ws.length = 8 ∧ (∀ x ∈ ws, x < Sd62.W) ∧
  Mod C H r (VM.putR s n ws) (Q .non)
abbrev sPutR : Stmt := top 64
theorem scPutR : FnScope ["state", "number", "words"] ["state", "number", "words"] (defScope sPutR) := ⟨rfl, rfl, rfl, by decide +kernel, rfl, by decide +kernel, by decide +kernel⟩
theorem ok_putR {C : Addr} {f : Addr} {fd : FuncData} (F : Fun K "put_register" "put_register" sPutR f fd) (T : Txt0 mg) (TS : TxtS K mg C) (TR : TxtR mg) :
    FnOk P w K mg base CX0 1 f fd ["state", "number", "words"] (spPutR C) := by
  obtain ⟨tS, eS⟩ := TR.scalar
  obtain ⟨tM, eM⟩ := TR.mask
  refine F.ok scPutR (fun vs H Q E h => ?_) (fun cdv A outer sh H vs Q E hr h => ?_)
  · obtain ⟨r, s, n, a, ws, rfl, _⟩ := h
    rfl
  · obtain ⟨r, s, n, a, ws, rfl, S, hn, hA, hl, hb, k⟩ := h
    obtain ⟨dx, hO⟩ := S.obj
    refine ⟨_, (pss_one (ps_if (pt_cmpR n_lt (pv 1) (pe_glob (v := .int 32) rfl eS ⟨_, rfl⟩) (nomark _))
        (pss_one (ps_asg (pe_callTy call_list_of (by rfl) T.list (by decide +kernel) (pa_cons (pv 2) pa_nil)) (pg_sub (pe_fldK (K := K) (pv 0)) (pv 1) set_list)))
        (pss_one (ps_if (pt_cmpR n_lt (pv 1) (pe_glob (v := .int 40) rfl eM ⟨_, rfl⟩) (nomark _))
        (pss_one (ps_asg (pe_ix (ix_listK (K := K)) (pv 2) pe_int (fun _ _ => rfl)) (pg_sub (pe_fldK (K := K) (pv 0)) (pe_op n_sub (pv 1) (pe_glob (v := .int 32) rfl eS ⟨_, rfl⟩)) set_list)))
        (pss_one (ps_asg (pe_ix (ix_listK (K := K)) (pv 2) pe_int (fun _ _ => rfl)) (pg_sub (pe_fldK (K := K) (pv 0)) (pe_op n_sub (pv 1) (pe_glob (v := .int 40) rfl eM ⟨_, rfl⟩)) set_list))))))), ?_⟩
    unfold VM.putR at k
    have e0 : ws[0]? = some (ws.getD 0 0) := by
      rw [List.getD_eq_getElem?_getD, List.getElem?_eq_getElem (by omega)]
      rfl
    have b0 : ws.getD 0 0 < Sd62.W := hb _ (List.mem_of_getElem? e0)
    refine ⟨_, rfl, _, 32, rfl, rfl, _, rfl, ite2 (fun c => ?_) (fun c => ?_)⟩
    · have c : n < 32 := of_decide_eq_true c
      rw [if_pos c] at k
      refine ⟨_, rfl, a, _, rfl, .inl (SqL.of hA), fun q hq => ?_⟩
      have s1 := same_new hq (o := .lst (nl ws))
      have S1 := S.same s1
      refine ⟨_, rfl, _, C, dx, _, _, rfl, s1 _ _ hO, TS.cl, TS.nV, sF_v, _, rfl, r.p2, _, _, n, rfl, rfl, S1.v, ix_nat (by rw [List.length_map, S.len]; exact c), ?_⟩
      have S' := S1.setV (q := q) (l := ws) n c upd_same (S.off hq) hl hb
      rw [List.map_set] at S'
      refine k _ _ S' rfl (fun b hb => ?_) (fun b o h hb => ?_)
      · unfold Rg.foot at hb ⊢
        simp only [List.mem_cons] at hb ⊢
        rcases hb with e | e | e | e | e
        · exact .inl (.inl e)
        · exact .inl (.inr (.inl e))
        · exact .inl (.inr (.inr (.inl e)))
        · exact .inl (.inr (.inr (.inr (.inl e))))
        · rcases VM.mem_set' e with e | e
          · rw [e]
            exact .inr hq
          · exact .inl (.inr (.inr (.inr (.inr e))))
      · rw [upd_ne (fun z => hb (by rw [z]; exact p2_foot r))]
        exact s1 _ _ h
    have n1 : ¬ n < 32 := fun z => c (decide_eq_true z)
    rw [if_neg n1] at k
    refine ⟨_, rfl, _, 40, rfl, rfl, _, rfl, ite2 (fun c2 => ?_) (fun c2 => ?_)⟩
    · have c2 : n < 40 := of_decide_eq_true c2
      rw [if_pos c2] at k
      refine ⟨_, rfl, a, _, _, _, rfl, rfl, SqL.of hA, at_nl (i := 0) e0, _, rfl, _, C, dx, _, _, rfl, hO, TS.cl, TS.nS, sF_s, _, rfl, _, 32, rfl, rfl, by omega, r.p1, _, _, n - 32, rfl, rfl, S.m, ix_nat (by rw [nl_length, S.wf.m8]; show n - 32 < 8; omega), ?_⟩
      rw [nl_set]
      exact Mod.setM S b0 k
    · have n2 : ¬ n < 40 := fun z => c2 (decide_eq_true z)
      rw [if_neg n2] at k
      refine ⟨_, rfl, a, _, _, _, rfl, rfl, SqL.of hA, at_nl (i := 0) e0, _, rfl, _, C, dx, _, _, rfl, hO, TS.cl, TS.nM, sF_m, _, rfl, _, 40, rfl, rfl, by omega, r.p3, _, _, n - 40, rfl, rfl, S.k, ix_nat (by rw [nl_length, S.wf.k8]; show n - 40 < 8; omega), ?_⟩
      rw [nl_set]
      exact Mod.setK S b0 k
end
end VP

set_option Elab.async false
set_option linter.all false
set_option maxRecDepth 100000
set_option maxHeartbeats 4000000
namespace VP
open PySem PySem.Spec PyProof.Rows L2
section
variable {P : Program} {w : World} {K : PySem.W.Frag} {mg : Str → Option Value} {base : Heap}
theorem sl_listK {X : Cx} {K : PySem.W.Frag} (h : X.K = K := by rfl) : SlR X (rSlL K) := by
  subst h
  exact sl_list
/-! ### split_code -/
def spSplit (K : PySem.W.Frag) : Sp := fun vs H Q _ => ∃ (a : Addr) (l : List Nat) (n : Nat), vs = [.ref a] ∧ SqL K H a (nl l) ∧ l.length = 6 * n ∧ n ≤ 100000 ∧
  ∀ (H' : Hp) (p : Addr) (cs : List Addr), Same H H' → H p = none → H' p = some (.lst (cs.map V.ref)) → cs.length = (Sd62.steps l).length → (∀ (i : Nat) (c : Addr) (x : Sd62.Step), cs[i]? = some c → (Sd62.steps l)[i]? = some x → InsAt H' c x) → Q (.ref p) H'
abbrev sSplit : Stmt := top 41
theorem scSplit : FnScope ["code", "at"] ["code"] (defScope sSplit) := ⟨rfl, rfl, rfl, by decide +kernel, rfl, by decide +kernel, by decide +kernel⟩
theorem ok_split {f : Addr} {fd : FuncData} (F : Fun K "split_code" "split_code" sSplit f fd) (T : Txt0 mg) : FnOk P w K mg base CX0 1 f fd ["code"] (spSplit K) := by
  refine F.ok scSplit (fun vs H Q E h => ?_) (fun cdv A outer sh H vs Q E hr h => ?_)
  · obtain ⟨a, l, n, rfl, _⟩ := h
    rfl
  · obtain ⟨a, l, n, rfl, hA, hl, hn, k⟩ := h
    refine ⟨_, (pss_one (ps_ret (pe_lc (own := [("at", 1)]) (g := gName 1) (tt := tYes) rfl scSplit.nd (pi_range3 rfl T.range (pa_cons pe_int (pa_cons (pe_callB call_len_seq (by rfl) T.len PySem.boot_len (pa_cons (pv 0) pa_nil)) (pa_cons pe_int pa_nil)))) (blkOk_by (N := ["code", "at"]) (sc := defScope sSplit) (by decide +kernel)) (fun _ _ _ _ _ => (pg_name (i := 1) scSplit.nd rfl (Or.inl rfl))) (fun _ _ _ _ _ => pts_nil) (fun _ _ _ _ _ => (pe_slice (sl_listK (K := K)) (pv 0) (po_some (pv 1)) (po_some (pe_op n_add (pv 1) pe_int))))))), ?_⟩
    have e0 : ((nl l).length : Int) = ((0 : Nat) : Int) + (6 : Int) * (n : Int) := by rw [nl_length, hl]; omega
    have R := RgC.up 0 n 6 (by decide) (by decide) (by omega)
    refine ⟨_, rfl, a, _, rfl, .inl hA, 0, _, 6, n, rfl, by rw [e0]; exact R, fun D hD => ?_⟩
    refine lc_it (walk_rangeC (lo := 0) (c := 6) (n := n)) (fun i H' => ∃ cs : List Addr, Same H H' ∧ H' D = some (.lst (cs.map V.ref)) ∧ cs.length = i ∧ ∀ (j : Nat) (c : Addr), cs[j]? = some c → H' c = some (.lst (nl ((l.drop (6 * j)).take 6))))
      ⟨[], same_new hD, upd_same, rfl, fun j c h => by cases h⟩ (fun _ _ _ _ => trivial) ?_ ?_
    · rintro i v H2 H3 hi ⟨cs, s2, hc, hlen, hcs⟩ ⟨rfl, ev⟩
      have e : (0 : Int) + (i : Int) * 6 = ((6 * i : Nat) : Int) := by omega
      obtain rfl : v = nv (6 * i) := ev.trans (congrArg V.int e)
      refine ⟨rfl, yes_ok ?_⟩
      refine ⟨_, rfl, _, rfl, ⟨_, rfl, _, rfl, _, 6, rfl, rfl, _, rfl, a, _, rfl, s2.seq hA, fun p hp => ?_⟩⟩
      have hcut : cutV (nl l) (some ((6 * i : Nat) : Int)) (some ((6 * i + 6 : Nat) : Int)) = nl ((l.drop (6 * i)).take 6) := by
        rw [cut_both, Nat.add_sub_cancel_left, nl_take, nl_drop]
      have hpv : upd H3 p (.lst (cutV (nl l) (some ((6 * i : Nat) : Int)) (some ((6 * i + 6 : Nat) : Int)))) p = some (.lst (nl ((l.drop (6 * i)).take 6))) := by
        rw [upd_same, hcut]
      have nDp : D ≠ p := ne_of_none hc hp
      refine ⟨_, by rw [upd_ne nDp]; exact hc, ?_, cs ++ [p], same_over (same_lay s2 hp) hD, ?_, ?_, ?_⟩
      · rw [List.length_map, hlen]
        show _ < 16777216
        omega
      · rw [upd_same, List.map_append]
        rfl
      · rw [List.length_append, hlen]
        rfl
      · intro j c hj
        by_cases c1 : j < cs.length
        · rw [List.getElem?_append_left c1] at hj
          have h := hcs j c hj
          have ncD : c ≠ D := fun z => by
            rw [z, hc] at h
            have h := HO.lst.inj (Option.some.inj h)
            have e1 := congrArg List.length h
            rw [List.length_map, nl_length, List.length_take, List.length_drop, hlen, hl] at e1
            have e2 := congrArg (fun l => l[0]?) h
            have e3 : (cs.map V.ref)[0]? = some (V.ref (cs[0]'(by omega))) := by rw [List.getElem?_map, List.getElem?_eq_getElem (by omega)]; rfl
            have e4 : (nl ((l.drop (6 * j)).take 6))[0]? = some (nv (((l.drop (6 * j)).take 6)[0]'(by rw [List.length_take, List.length_drop]; omega))) := nl_get (List.getElem?_eq_getElem _)
            have e5 : (cs.map V.ref)[0]? = (nl ((l.drop (6 * j)).take 6))[0]? := e2
            rw [e3, e4] at e5
            cases e5
          rw [upd_ne ncD, upd_ne (ne_of_none h hp)]
          exact h
        · rw [List.getElem?_append_right (by omega)] at hj
          have hj0 : j - cs.length = 0 := by
            by_cases z : j - cs.length = 0
            · exact z
            · rw [List.getElem?_eq_none (by simp; omega)] at hj
              cases hj
          rw [hj0] at hj
          obtain rfl : p = c := Option.some.inj hj
          rw [upd_ne (Ne.symm nDp), show j = i from by omega]
          exact hpv
    · rintro H2 ⟨cs, s2, hc, hlen, hcs⟩
      refine k H2 D cs s2 hD hc (by rw [hlen, VM.steps_length n l hl]) fun i c x hi hx => ?_
      have hin : i < n := by
        rw [← VM.steps_length n l hl]
        exact (List.getElem?_eq_some_iff.mp hx).1
      obtain ⟨y, h1, h2⟩ := VM.steps_get n l i hl hin
      rw [hx] at h1
      obtain rfl := Option.some.inj h1
      show H2 c = some (.lst (nl (VM.ins x)))
      rw [h2]
      exact hcs i c hi
/-! ### is_instruction -/
structure TxtB (K : PySem.W.Frag) (mg : Str → Option Value) : Prop where
  bounds : ∃ (a : Addr) (ts : List Addr), mg "BOUNDS" = some (.ref a) ∧ (∀ H, SqT K H a (ts.map V.ref)) ∧ ts.length = 24 ∧ ∀ (i : Nat) (t : Addr), ts[i]? = some t → ∃ b, VM.bnd[i]? = some b ∧ ∀ H, SqT K H t (nl b)
def spIsIns : Sp := fun vs H Q _ => ∃ (c : Addr) (x : Sd62.Step) (p : Nat), vs = [.ref c, nv p] ∧ InsAt H c x ∧ x.a < 256 ∧ ∀ H', Same H H' → Q (.bl (Sd62.good p x)) H'
def vals (x : Sd62.Step) : List Nat := [x.width, x.mask, x.d, x.a, x.b]
theorem okB_all (x : Sd62.Step) {b : List Nat} (hb : b.length = 5) : VM.okB x b = true ↔ ∀ (i : Nat) (u v : Nat), (vals x)[i]? = some u → b[i]? = some v → u < v := by
  match b, hb with
  | [b0, b1, b2, b3, b4], _ =>
    rw [VM.okB_iff]
    constructor
    · rintro ⟨h0, h1, h2, h3, h4⟩ i u v e1 e2
      match i with
      | 0 => cases e1; cases e2; exact h0
      | 1 => cases e1; cases e2; exact h1
      | 2 => cases e1; cases e2; exact h2
      | 3 => cases e1; cases e2; exact h3
      | 4 => cases e1; cases e2; exact h4
      | n + 5 => cases e1
    · intro h
      exact ⟨h 0 _ _ rfl rfl, h 1 _ _ rfl rfl, h 2 _ _ rfl rfl, h 3 _ _ rfl rfl, h 4 _ _ rfl rfl⟩
theorem bnd_len : ∀ b ∈ VM.bnd, b.length = 5 := by decide
abbrev sIsIns : Stmt := top 42
theorem scIsIns : FnScope ["six", "index", "kind", "value", "bound"] ["six", "index"] (defScope sIsIns) := ⟨rfl, rfl, rfl, by decide +kernel, rfl, by decide +kernel, by decide +kernel⟩
theorem ok_isIns {f : Addr} {fd : FuncData} (F : Fun K "is_instruction" "is_instruction" sIsIns f fd) (T : Txt0 mg) (TL : TxtL K mg) (TB : TxtB K mg) : FnOk P w K mg base CX0 1 f fd ["six", "index"] spIsIns := by
  obtain ⟨aL, eL, tL⟩ := TL.lanes
  obtain ⟨aB, ts, eB, tB, hts, hB⟩ := TB.bounds
  refine F.ok scIsIns (fun vs H Q E h => ?_) (fun cdv A outer sh H vs Q E hr h => ?_)
  · obtain ⟨c, x, p, rfl, _⟩ := h
    rfl
  · obtain ⟨c, x, p, rfl, hI, ha, k⟩ := h
    have hc : SqL K H c (nl (VM.ins x)) := SqL.of hI
    refine ⟨_, (pss_cons (ps_set (i := 2) scIsIns.nd rfl (.inl rfl) (pe_ix (ix_listK (K := K)) (pv 0) pe_int (fun _ _ => rfl)))
      (pss_cons (ps_if (pt_cmpR n_ge (pv 2) (pe_callB call_len_seq (by rfl) T.len PySem.boot_len (pa_cons (pe_glob (v := .ref aB) rfl eB rfl) pa_nil)) (nomark _))
        (pss_one (ps_ret pe_bl))
        pss_nil)
      (pss_cons (ps_for PassesOwn.never rfl (pi_zipLT (K := K) (by rfl) T.zip (pa_cons (pe_slice sl_list (pv 0) (po_some pe_int) po_none) (pa_cons (pe_ix (ix_tupK (K := K)) (pe_glob (v := .ref aB) rfl eB rfl) (pv 2) (fun _ _ => rfl)) pa_nil))) (pg_tup rfl (pgs_cons (pg_name (i := 3) scIsIns.nd rfl (.inl rfl)) (pgs_cons (pg_name (i := 4) scIsIns.nd rfl (.inl rfl)) pgs_nil)))
        (pss_one (ps_if (pt_cmpR n_ge (pv 3) (pv 4) (nomark _))
        (pss_one (ps_ret pe_bl))
        pss_nil)))
      (pss_cons (ps_if (pt_cmpR n_eq (pv 2) pe_int (nomark _))
        (pss_one (ps_ret (pe_cmpR n_lt (pe_ix (ix_listK (K := K)) (pv 0) pe_int (fun _ _ => rfl)) (pe_ix (ix_tupK (K := K)) (pe_glob (v := .ref aL) rfl eL rfl) (pe_ix (ix_listK (K := K)) (pv 0) pe_int (fun _ _ => rfl)) (fun _ _ => rfl)) (nomark _))))
        pss_nil)
      (pss_cons (ps_if (pt_cmpR n_eq (pv 2) pe_int (nomark _))
        (pss_one (ps_ret (pe_and (pe_cmpR n_ge (pe_ix (ix_listK (K := K)) (pv 0) pe_int (fun _ _ => rfl)) pe_int (nomark _)) (pe_one (pe_cmpR n_le (pe_ix (ix_listK (K := K)) (pv 0) pe_int (fun _ _ => rfl)) (pv 1) (nomark _))))))
        pss_nil)
      (pss_one (ps_ret pe_bl))))))), ?_⟩
    refine ⟨_, rfl, c, _, _, _, rfl, rfl, hc, in0 x, ?_⟩
    refine ⟨_, rfl, aB, _, rfl, .inr (tB _), x.kind, 24, rfl, congrArg (fun n : Nat => V.int (n : Int)) (by rw [List.length_map, hts]), _, rfl, ite2 (fun c0 => ?_) (fun c0 => ?_)⟩
    · have h24 : 24 ≤ x.kind := of_decide_eq_true c0
      rw [VM.good_far h24] at k
      exact k H (Same.refl H)
    have h24 : x.kind < 24 := Nat.lt_of_not_le fun z => c0 (decide_eq_true z)
    have et : ts[x.kind]? = some (ts[x.kind]'(by omega)) := List.getElem?_eq_getElem _
    generalize ts[x.kind]'(by omega) = t at et
    obtain ⟨b, hb, tb⟩ := hB x.kind t et
    have hbl := bnd_len b (List.mem_of_getElem? hb)
    rw [VM.good_eq h24 ha, List.getD_eq_getElem?_getD, hb] at k
    have k : ∀ H', Same H H' → Q (.bl (VM.okB x b && (if x.kind = 11 then decide (x.b < Sd62.lanes x.width) else if x.kind = 23 then decide (1 ≤ x.a) && decide (x.a ≤ p) else true))) H' := k
    refine ⟨_, rfl, 1, rfl, c, _, rfl, hc, fun q hq => ?_⟩
    have hcut : cutV (nl (VM.ins x)) (some (1 : Int)) none = nl (vals x) := by
      rw [show (1 : Int) = ((1 : Nat) : Int) from rfl, cut_from]
      rfl
    have hqv : upd H q (.lst (cutV (nl (VM.ins x)) (some (1 : Int)) none)) q = some (.lst (nl (vals x))) := by
      rw [upd_same, hcut]
    have s1 := same_new hq (o := .lst (cutV (nl (VM.ins x)) (some (1 : Int)) none))
    refine ⟨_, rfl, aB, _, _, _, rfl, rfl, tB _, at_refs et, q, t, nl (vals x), nl b, rfl, SqL.of hqv, tb _, ?_⟩
    refine for_it (walk_LT (K := K) (a := q) (b := t) (xs := nl (vals x)) (ys := nl b) (by rw [nl_length, nl_length, hbl]; rfl))
      (fun i σ H' => ∃ v3 v4 : Option V, σ = [some (.ref c), some (nv p), some (nv x.kind), v3, v4] ∧ Same H H' ∧ H' q = some (.lst (nl (vals x))) ∧ ∀ (j u v : Nat), j < i → (vals x)[j]? = some u → b[j]? = some v → u < v)
      ⟨none, none, rfl, s1, hqv, fun j u v h => absurd h (Nat.not_lt_zero _)⟩ (fun i σ H' _ h => ?_) ?_ ?_
    · obtain ⟨_, _, _, _, h, _⟩ := h
      exact ⟨SqL.of h, tb _⟩
    · rintro i v σ H2 H3 hi ⟨v3, v4, rfl, s2, hq2, hj⟩ ⟨T0, u, y, rfl, hT0, rfl, hu, hy⟩
      obtain ⟨u, hu1, rfl⟩ := of_nl hu
      obtain ⟨y, hy1, rfl⟩ := of_nl hy
      refine ⟨T0, _, rfl, .inl (.inl upd_same), rfl, _, _, rfl, _, _, rfl, rfl, ?_⟩
      refine ⟨_, rfl, _, rfl, _, _, rfl, rfl, _, rfl, ite2 (fun c1 => ?_) (fun c1 => ?_)⟩
      · have hge : y ≤ u := of_decide_eq_true c1
        have hf : VM.okB x b = false := Bool.eq_false_iff.mpr fun z => by
          have := (okB_all x hbl).mp z i u y hu1 hy1
          omega
        rw [hf] at k
        exact k _ (same_lay s2 hT0)
      · have hlt : u < y := Nat.lt_of_not_le fun z => c1 (decide_eq_true z)
        refine ⟨some (nv u), some (nv y), rfl, same_lay s2 hT0, ?_, fun j u' v' hjl e1 e2 => ?_⟩
        · rw [upd_ne (ne_of_none hq2 hT0)]
          exact hq2
        · by_cases e : j = i
          · subst e
            rw [hu1] at e1
            rw [hy1] at e2
            cases e1
            cases e2
            exact hlt
          · exact hj j u' v' (by omega) e1 e2
    · rintro σ H2 ⟨v3, v4, rfl, s2, hq2, hj⟩
      have hall : VM.okB x b = true := (okB_all x hbl).mpr fun i u v e1 e2 => hj i u v (by rw [nl_length]; exact (List.getElem?_eq_some_iff.mp e1).1) e1 e2
      rw [hall, Bool.true_and] at k
      have hc2 := s2.seq hc
      refine ⟨_, rfl, _, 11, rfl, rfl, _, rfl, ite2 (fun c1 => ?_) (fun c1 => ?_)⟩
      · have e11 : x.kind = 11 := of_decide_eq_true c1
        rw [if_pos e11] at k
        have hw : x.width < 3 := by
          rw [e11] at hb
          have hb : some [3, 8, 32, 32, 8] = some b := hb
          cases hb
          exact (VM.okB_iff.mp hall).1
        exact ⟨_, rfl, c, _, _, _, rfl, rfl, hc2, in5 x, _, rfl, c, _, _, _, rfl, rfl, hc2, in1 x, aL, _, _, _, rfl, rfl, tL _, lanes_at hw, _, _, rfl, rfl, k H2 s2⟩
      have n11 : ¬ x.kind = 11 := fun z => c1 (decide_eq_true z)
      rw [if_neg n11] at k
      refine ⟨_, rfl, _, 23, rfl, rfl, _, rfl, ite2 (fun c1 => ?_) (fun c1 => ?_)⟩
      · have e23 : x.kind = 23 := of_decide_eq_true c1
        rw [if_pos e23] at k
        refine ⟨_, rfl, c, _, _, _, rfl, rfl, hc2, in4 x, _, 1, rfl, rfl, _, rfl, ite2 (fun c2 => ?_) (fun c2 => ?_)⟩
        · have h1 : decide (1 ≤ x.a) = true := c2
          rw [h1, Bool.true_and] at k
          exact ⟨_, rfl, c, _, _, _, rfl, rfl, hc2, in4 x, _, rfl, _, _, rfl, rfl, k H2 s2⟩
        · have h1 : decide (1 ≤ x.a) = false := Bool.eq_false_iff.mpr c2
          rw [h1, Bool.false_and] at k
          exact k H2 s2
      · rw [if_neg (fun z => c1 (decide_eq_true z))] at k
        exact k H2 s2
/-! ### vector_operands -/
def spVOps (K : PySem.W.Frag) : Sp := fun vs H Q _ => ∃ (c : Addr) (x : Sd62.Step), vs = [.ref c] ∧ InsAt H c x ∧ NewL H (Sd62.regs x) Q
theorem cut_ins (x : Sd62.Step) (a b : Nat) : cutV (nl (VM.ins x)) (some (a : Int)) (some (b : Int)) = nl (((VM.ins x).drop a).take (b - a)) := by
  rw [cut_both, nl_take, nl_drop]
abbrev sVOps : Stmt := top 43
theorem scVOps : FnScope ["instruction", "kind"] ["instruction"] (defScope sVOps) := ⟨rfl, rfl, rfl, by decide +kernel, rfl, by decide +kernel, by decide +kernel⟩
theorem ok_vOps {f : Addr} {fd : FuncData} (F : Fun K "vector_operands" "vector_operands" sVOps f fd) : FnOk P w K mg base CX0 1 f fd ["instruction"] (spVOps K) := by
  refine F.ok scVOps (fun vs H Q E h => ?_) (fun cdv A outer sh H vs Q E hr h => ?_)
  · obtain ⟨c, x, rfl, _⟩ := h
    rfl
  · obtain ⟨c, x, rfl, hI, k⟩ := h
    have hc : SqL K H c (nl (VM.ins x)) := SqL.of hI
    unfold Sd62.regs at k
    have go : ∀ (a b : Nat) (l : List Nat), ((VM.ins x).drop a).take (b - a) = l → NewL H l Q → ∀ q, H q = none → Q (.ref q) (upd H q (.lst (cutV (nl (VM.ins x)) (some (a : Int)) (some (b : Int))))) := fun a b l e h q hq => h _ q (same_new hq) hq (by rw [upd_same, cut_ins, e])
    refine ⟨_, (pss_cons (ps_set (i := 1) scVOps.nd rfl (.inl rfl) (pe_ix (ix_listK (K := K)) (pv 0) pe_int (fun _ _ => rfl)))
      (pss_cons (ps_if (pt_cmpR n_le (pv 1) pe_int (nomark _))
        (pss_one (ps_ret (pe_slice sl_list (pv 0) (po_some pe_int) (po_some pe_int))))
        pss_nil)
      (pss_cons (ps_if (pt_cmpR n_le (pv 1) pe_int (nomark _))
        (pss_one (ps_ret (pe_slice sl_list (pv 0) (po_some pe_int) (po_some pe_int))))
        pss_nil)
      (pss_cons (ps_if (pt_cmpR n_le (pv 1) pe_int (nomark _))
        (pss_one (ps_ret (pe_slice sl_list (pv 0) (po_some pe_int) (po_some pe_int))))
        pss_nil)
      (pss_cons (ps_if (pt_cmpR n_eq (pv 1) pe_int (nomark _))
        (pss_one (ps_ret (pe_slice sl_list (pv 0) (po_some pe_int) (po_some pe_int))))
        pss_nil)
      (pss_cons (ps_if (pt_cmpR n_eq (pv 1) pe_int (nomark _))
        (pss_one (ps_ret (pe_slice sl_list (pv 0) (po_some pe_int) (po_some pe_int))))
        pss_nil)
      (pss_one (ps_ret (pe_lst pa_nil))))))))), ?_⟩
    refine ⟨_, rfl, c, _, _, _, rfl, rfl, hc, in0 x, ?_⟩
    refine ⟨_, rfl, _, 7, rfl, rfl, _, rfl, ite2 (fun c1 => ?_) (fun c1 => ?_)⟩
    · have h : x.kind ≤ 7 := of_decide_eq_true c1
      rw [if_pos (by omega)] at k
      exact ⟨_, rfl, 3, rfl, 6, rfl, c, _, rfl, hc, go 3 6 _ rfl k⟩
    have h7 : ¬ x.kind ≤ 7 := fun z => c1 (decide_eq_true z)
    rw [if_neg (by omega)] at k
    refine ⟨_, rfl, _, 11, rfl, rfl, _, rfl, ite2 (fun c1 => ?_) (fun c1 => ?_)⟩
    · have h : x.kind ≤ 11 := of_decide_eq_true c1
      rw [if_pos (by omega)] at k
      exact ⟨_, rfl, 3, rfl, 5, rfl, c, _, rfl, hc, go 3 5 _ rfl k⟩
    have h11 : ¬ x.kind ≤ 11 := fun z => c1 (decide_eq_true z)
    rw [if_neg (by omega)] at k
    refine ⟨_, rfl, _, 13, rfl, rfl, _, rfl, ite2 (fun c1 => ?_) (fun c1 => ?_)⟩
    · have h : x.kind ≤ 13 := of_decide_eq_true c1
      rw [if_pos (by omega)] at k
      exact ⟨_, rfl, 3, rfl, 4, rfl, c, _, rfl, hc, go 3 4 _ rfl k⟩
    have h13 : ¬ x.kind ≤ 13 := fun z => c1 (decide_eq_true z)
    rw [if_neg (by omega)] at k
    refine ⟨_, rfl, _, 14, rfl, rfl, _, rfl, ite2 (fun c1 => ?_) (fun c1 => ?_)⟩
    · rw [if_pos (of_decide_eq_true c1)] at k
      exact ⟨_, rfl, 4, rfl, 5, rfl, c, _, rfl, hc, go 4 5 _ rfl k⟩
    rw [if_neg (fun z => c1 (decide_eq_true z))] at k
    refine ⟨_, rfl, _, 17, rfl, rfl, _, rfl, ite2 (fun c1 => ?_) (fun c1 => ?_)⟩
    · rw [if_pos (of_decide_eq_true c1)] at k
      exact ⟨_, rfl, 4, rfl, 6, rfl, c, _, rfl, hc, go 4 6 _ rfl k⟩
    · rw [if_neg (fun z => c1 (decide_eq_true z))] at k
      exact ⟨Nat.zero_le _, fun q hq => k _ q (same_new hq) hq upd_same⟩
/-! ### needed_components -/
def spNeeds : Sp := fun vs H Q _ => ∃ (c : Addr) (x : Sd62.Step), vs = [.ref c] ∧ InsAt H c x ∧ ∀ H', Same H H' → Q (nv (Sd62.needs x)) H'
abbrev sNeeds : Stmt := top 44
theorem scNeeds : FnScope ["instruction", "kind", "width", "number"] ["instruction"] (defScope sNeeds) := ⟨rfl, rfl, rfl, by decide +kernel, rfl, by decide +kernel, by decide +kernel⟩
theorem regs_len (x : Sd62.Step) : (Sd62.regs x).length ≤ 3 := by
  unfold Sd62.regs
  repeat' split
  all_goals simp
theorem ok_needs {f : Addr} {fd : FuncData} (F : Fun K "needed_components" "needed_components" sNeeds f fd) (T : Txt0 mg) (CV : Cal P w K mg base 1 "vector_operands" ["instruction"] (spVOps K)) : FnOk P w K mg base CX0 2 f fd ["instruction"] spNeeds := by
  obtain ⟨f_V, fd_V, m_V, k_V, b_V, G_V⟩ := CV.ok
  refine F.ok scNeeds (fun vs H Q E h => ?_) (fun cdv A outer sh H vs Q E hr h => ?_)
  · obtain ⟨c, x, rfl, _⟩ := h
    rfl
  · obtain ⟨c, x, rfl, hI, k⟩ := h
    have hr1 : Room 1 _ := hr.mono (by decide)
    have hc : SqL K H c (nl (VM.ins x)) := SqL.of hI
    rw [VM.needs_eq] at k
    refine ⟨_, (pss_cons (ps_set (i := 1) scNeeds.nd rfl (.inl rfl) (pe_ix (ix_listK (K := K)) (pv 0) pe_int (fun _ _ => rfl)))
      (pss_cons (ps_set (i := 2) scNeeds.nd rfl (.inl rfl) (pe_ix (ix_listK (K := K)) (pv 0) pe_int (fun _ _ => rfl)))
      (pss_cons (ps_if (PW.pt (pw_or (pt_cmpR n_eq (pv 2) pe_int (nomark _)) (pw_or (pt_cmpR n_ne (pe_ix (ix_listK (K := K)) (pv 0) pe_int (fun _ _ => rfl)) pe_int (nomark _)) (pw_or1 (PW.pt (pw_and (pt_cmpR n_ge (pv 1) pe_int (nomark _)) (pw_and1 (pt_cmpR n_le (pv 1) pe_int (nomark _)))))))))
        (pss_one (ps_ret pe_int))
        pss_nil)
      (pss_cons (ps_if (pt_val (pe_callB (cr_any rfl) (by rfl) T.any (by decide +kernel) (pa_cons (pe_lc (own := [("number", 3)]) (g := gName 3) (tt := tYes) rfl scNeeds.nd (pi_list (pe_call G_V hr1 rfl m_V k_V b_V .nil pass0 (pa_cons (pv 0) pa_nil))) (blkOk_by (N := ["instruction", "kind", "width", "number"]) (sc := defScope sNeeds) (by decide +kernel)) (fun _ _ _ _ _ => (pg_name (i := 3) scNeeds.nd rfl (Or.inl rfl))) (fun _ _ _ _ _ => pts_nil) (fun _ _ _ _ _ => (pe_cmpR n_ge (pv 3) pe_int (nomark _)))) pa_nil)))
        (pss_one (ps_ret pe_int))
        pss_nil)
      (pss_cons (ps_if (pt_cmpR n_eq (pv 2) pe_int (nomark _))
        (pss_one (ps_ret pe_int))
        pss_nil)
      (pss_one (ps_ret pe_int))))))), ?_⟩
    refine ⟨_, rfl, c, _, _, _, rfl, rfl, hc, in0 x, _, rfl, c, _, _, _, rfl, rfl, hc, in1 x, ?_⟩
    have yes : (x.width = 2 ∨ x.mask ≠ 0 ∨ (17 ≤ x.kind ∧ x.kind ≤ 22)) → Q (nv 231) H := fun h => by
      have k := k H (Same.refl H)
      rw [if_pos h] at k
      exact k
    refine ⟨_, rfl, _, 2, rfl, rfl, _, rfl, ite2 (fun c1 => ?_) (fun c1 => ?_)⟩
    · exact yes (.inl (of_decide_eq_true c1))
    have n2 : ¬ x.width = 2 := fun z => c1 (decide_eq_true z)
    refine ⟨_, rfl, c, _, _, _, rfl, rfl, hc, in2 x, _, 0, rfl, rfl, _, rfl, ite2 (fun c2 => ?_) (fun c2 => ?_)⟩
    · refine yes (.inr (.inl fun z => ?_))
      have c2 : (!decide (x.mask = 0)) = true := c2
      rw [z] at c2
      exact absurd c2 (by decide)
    have n0 : ¬ x.mask ≠ 0 := fun z => c2 (show (!decide (x.mask = 0)) = true by rw [decide_eq_false z]; rfl)

    refine ⟨_, rfl, _, 17, rfl, rfl, _, rfl, ite2 (fun c3 => ?_) (fun c3 => ?_)⟩
    · have h17 : 17 ≤ x.kind := of_decide_eq_true c3
      refine ⟨_, rfl, _, 22, rfl, rfl, _, rfl, ite2 (fun c4 => ?_) (fun c4 => ?_)⟩
      · exact yes (.inr (.inr ⟨h17, of_decide_eq_true c4⟩))
      · skip
        have hno : ¬ (x.width = 2 ∨ x.mask ≠ 0 ∨ (17 ≤ x.kind ∧ x.kind ≤ 22)) := fun z => z.elim n2 fun z => z.elim n0 fun z => c4 (decide_eq_true z.2)
        refine ⟨_, rfl, c, x, rfl, hI, fun H1 p s1 hp hl => ?_⟩
        refine ⟨p, rfl, ⟨_, SqL.of hl⟩, fun D hD => ?_⟩
        have hrl := regs_len x
        generalize hrg : Sd62.regs x = rg at hl hrl k
        refine lc_list (K := K) (a := p) (xs := nl rg) (fun j H2 => Same H1 H2 ∧ H2 D = some (.lst (((rg.map fun r => decide (16 ≤ r)).take j).map V.bl))) ⟨same_new hD, upd_same⟩ (fun j H2 _ h => h.1.seq (SqL.of hl)) ?_ ?_
        · rintro j z H2 hj ⟨s2, hc2⟩
          obtain ⟨z, hz, rfl⟩ := of_nl hj
          refine ⟨rfl, yes_ok ?_⟩
          refine ⟨_, rfl, _, 16, rfl, rfl, _, hc2, ?_, same_over s2 hD, ?_⟩
          · rw [List.length_map, List.length_take, List.length_map]
            show _ < 16777216
            omega
          · have em : (rg.map fun r => decide (16 ≤ r))[j]? = some (decide (16 ≤ z)) := by rw [List.getElem?_map, hz]; rfl
            rw [upd_same, VM.take_more em, List.map_append]
            rfl
        · rintro H2 ⟨s2, hc2⟩
          have s3 := s1.trans s2
          rw [List.take_of_length_le (by rw [List.length_map, nl_length]; exact Nat.le_refl _)] at hc2
          have ea : (rg.map fun r => decide (16 ≤ r)).any id = rg.any fun r => decide (16 ≤ r) := by rw [List.any_map]; rfl
          have k := k H2 s3
          rw [if_neg hno] at k
          refine ⟨D, _, rfl, SqL.of hc2, _, rfl, ?_⟩
          rw [ea]
          refine ite2 (fun c5 => ?_) (fun c5 => ?_)
          · rw [if_pos c5] at k
            exact k
          · rw [if_neg c5] at k
            refine ⟨_, rfl, _, 1, rfl, rfl, _, rfl, ite2 (fun c6 => ?_) (fun c6 => ?_)⟩
            · rw [if_pos (of_decide_eq_true c6)] at k
              exact k
            · rw [if_neg (fun z => c6 (decide_eq_true z))] at k
              exact k
    · skip
      have hno : ¬ (x.width = 2 ∨ x.mask ≠ 0 ∨ (17 ≤ x.kind ∧ x.kind ≤ 22)) := fun z => z.elim n2 fun z => z.elim n0 fun z => c3 (decide_eq_true z.1)
      refine ⟨_, rfl, c, x, rfl, hI, fun H1 p s1 hp hl => ?_⟩
      refine ⟨p, rfl, ⟨_, SqL.of hl⟩, fun D hD => ?_⟩
      have hrl := regs_len x
      generalize hrg : Sd62.regs x = rg at hl hrl k
      refine lc_list (K := K) (a := p) (xs := nl rg) (fun j H2 => Same H1 H2 ∧ H2 D = some (.lst (((rg.map fun r => decide (16 ≤ r)).take j).map V.bl))) ⟨same_new hD, upd_same⟩ (fun j H2 _ h => h.1.seq (SqL.of hl)) ?_ ?_
      · rintro j z H2 hj ⟨s2, hc2⟩
        obtain ⟨z, hz, rfl⟩ := of_nl hj
        refine ⟨rfl, yes_ok ?_⟩
        refine ⟨_, rfl, _, 16, rfl, rfl, _, hc2, ?_, same_over s2 hD, ?_⟩
        · rw [List.length_map, List.length_take, List.length_map]
          show _ < 16777216
          omega
        · have em : (rg.map fun r => decide (16 ≤ r))[j]? = some (decide (16 ≤ z)) := by rw [List.getElem?_map, hz]; rfl
          rw [upd_same, VM.take_more em, List.map_append]
          rfl
      · rintro H2 ⟨s2, hc2⟩
        have s3 := s1.trans s2
        rw [List.take_of_length_le (by rw [List.length_map, nl_length]; exact Nat.le_refl _)] at hc2
        have ea : (rg.map fun r => decide (16 ≤ r)).any id = rg.any fun r => decide (16 ≤ r) := by rw [List.any_map]; rfl
        have k := k H2 s3
        rw [if_neg hno] at k
        refine ⟨D, _, rfl, SqL.of hc2, _, rfl, ?_⟩
        rw [ea]
        refine ite2 (fun c5 => ?_) (fun c5 => ?_)
        · rw [if_pos c5] at k
          exact k
        · rw [if_neg c5] at k
          refine ⟨_, rfl, _, 1, rfl, rfl, _, rfl, ite2 (fun c6 => ?_) (fun c6 => ?_)⟩
          · rw [if_pos (of_decide_eq_true c6)] at k
            exact k
          · rw [if_neg (fun z => c6 (decide_eq_true z))] at k
            exact k
end
end VP

set_option Elab.async false
set_option linter.all false
set_option maxRecDepth 100000
set_option maxHeartbeats 4000000
namespace VP
open PySem PySem.Spec PyProof.Rows L2
section
variable {P : Program} {w : World} {K : PySem.W.Frag} {mg : Str → Option Value} {base : Heap}
/-! ### the machine's object -/
structure TxtM (K : PySem.W.Frag) (mg : Str → Option Value) (CM : Addr) : Prop where
  cl : Cls K CM
  nC : NoAttr K CM "components"
  nS : NoAttr K CM "state"
  gM : mg "Machine" = some (.ref CM)
structure TxtO (K : PySem.W.Frag) (mg : Str → Option Value) : Prop where
  machines : ∃ a, mg "MACHINES" = some (.ref a) ∧ ∀ H, SqT K H a (nl [3, 7, 231])
  range : ∃ t, mg "OUT_OF_RANGE" = some (.int (-1) t)
  bytes : ∃ t, mg "BAD_BYTES" = some (.int (-2) t)
  comps : ∃ t, mg "NO_COMPONENT" = some (.int (-3) t)
  room : ∃ t, mg "NO_ROOM" = some (.int (-4) t)
  code : ∃ t, mg "MOST_CODE" = some (.int 4096 t)
  exec : ∃ t, mg "MOST_EXECUTED" = some (.int 1000000 t)
  most : ∃ t, mg "MOST_BYTES" = some (.int 2688 t)
def mF (c s : V) : List (Str × V) := [("components", c), ("state", s)]
theorem mF_c {c s : V} : (mF c s).lookup ("components" : Str) = some c := lk_here
theorem mF_s {c s : V} : (mF c s).lookup ("state" : Str) = some s := (lk_past (by decide +kernel)).trans lk_here
theorem mF_pc {c s y : V} : putF "components" y (mF c s) = mF y s := put_here
theorem mF_ps {c s y : V} : putF "state" y (mF c s) = mF c y := (put_past (by decide +kernel)).trans (congrArg _ put_here)
structure MachAt (C CM : Addr) (H : Hp) (am : Addr) (r : Rg) (p : Nat) (s : Sd62.St) : Prop where
  obj : ∃ dx, H am = some (.ins CM dx (mF (nv p) (.ref r.a)))
  st : StAt C H r s
  out : am ∉ r.foot
/-- an instance with two fields is no part of a state -/
theorem foot_ins {C CM : Addr} {H : Hp} {r : Rg} {s : Sd62.St} (S : StAt C H r s) {b dx : Addr} {fs : List (Str × V)} (h : H b = some (.ins CM dx fs)) (hl : fs.length ≠ 3) : b ∉ r.foot := by
  intro hb
  unfold Rg.foot at hb
  simp only [List.mem_cons] at hb
  rcases hb with e | e | e | e | hb
  · obtain ⟨dx', h'⟩ := S.obj
    rw [← e, h] at h'
    cases h'
    exact hl rfl
  · have q := S.m
    rw [← e, h] at q
    cases q
  · have q := S.v
    rw [← e, h] at q
    cases q
  · have q := S.k
    rw [← e, h] at q
    cases q
  · obtain ⟨i, hi⟩ := List.mem_iff_getElem?.mp hb
    obtain ⟨l', h1, h2⟩ := S.at_ i _ hi
    rw [h] at h2
    cases h2
/-- what an operation leaves: the machine with these parts and this state, a new list of these numbers, all else as it was -/
def AnsW (C CM : Addr) (H : Hp) (am : Addr) (r : Rg) (p : Nat) (s : Sd62.St) (a : List Int) (Q : VK) : Prop :=
  ∀ (H' : Hp) (r' : Rg) (x : Addr), MachAt C CM H' am r' p s → (∀ b ∈ r'.foot, b ∈ r.foot ∨ H b = none) → (∀ b o, H b = some o → b ∉ r.foot → b ≠ am → H' b = some o) →
    (∀ b o, H b = some o → b ∉ r.foot → b ≠ am → b ≠ x) → H' x = some (.lst (a.map V.int)) → Q (.ref x) H'
theorem MachAt.same {C CM : Addr} {H H' : Hp} {am : Addr} {r : Rg} {p : Nat} {s : Sd62.St} (M : MachAt C CM H am r p s) (e : Same H H') : MachAt C CM H' am r p s := by
  obtain ⟨⟨dx, h⟩, S, n⟩ := M
  exact ⟨⟨dx, e _ _ h⟩, S.same e, n⟩
/-- nothing is changed, a list is made -/
theorem AnsW.plain {C CM : Addr} {H H' : Hp} {am x : Addr} {r : Rg} {p : Nat} {s : Sd62.St} {a : List Int} {Q : VK} (k : AnsW C CM H am r p s a Q) (M : MachAt C CM H am r p s) (e : Same H H') (hx : H' x = none) : Q (.ref x) (upd H' x (.lst (a.map V.int))) :=
  k _ r x (M.same (same_lay e hx)) (fun b hb => .inl hb) (fun b o h _ _ => same_lay e hx b o h) (fun b o h _ _ z => by
    have q := e b o h
    rw [z, hx] at q
    cases q) upd_same
/-- the machine's state has changed, a list is made then -/
theorem AnsW.mod {C CM : Addr} {H H1 H2 : Hp} {am x : Addr} {r r2 : Rg} {p : Nat} {s s2 : Sd62.St} {a : List Int} {Q : VK} (k : AnsW C CM H am r p s2 a Q) (M : MachAt C CM H am r p s) (e : Same H H1) (S2 : StAt C H2 r2 s2) (ea : r2.a = r.a)
    (g1 : ∀ b ∈ r2.foot, b ∈ r.foot ∨ H1 b = none) (g2 : ∀ b o, H1 b = some o → b ∉ r.foot → H2 b = some o) (hx : H2 x = none) : Q (.ref x) (upd H2 x (.lst (a.map V.int))) := by
  obtain ⟨⟨dx, h⟩, S, n⟩ := M
  have ham := g2 _ _ (e _ _ h) n
  have S3 := S2.same (same_new hx (o := .lst (a.map V.int)))
  have k2 : ∀ b o, H b = some o → b ∉ r.foot → H2 b = some o := fun b o hb nb => g2 b o (e _ _ hb) nb
  refine k _ r2 x ⟨⟨dx, ?_⟩, S3, ?_⟩ (fun b hb => (g1 b hb).imp id (Same.free e)) (fun b o hb nb _ => ?_) (fun b o hb nb _ z => ?_) upd_same
  · rw [upd_ne (ne_of_none ham hx), ea]
    exact ham
  · exact foot_ins S2 ham (by show 2 ≠ 3; decide)
  · rw [upd_ne (ne_of_none (k2 b o hb nb) hx)]
    exact k2 b o hb nb
  · have q := k2 b o hb nb
    rw [z, hx] at q
    cases q
/-! ### Machine.__init__ -/
def spMInit (C CM : Addr) : Sp := fun vs H Q _ => ∃ am dx : Addr, vs = [.ref am] ∧ H am = some (.ins CM dx []) ∧
  ∀ (H' : Hp) (r : Rg), MachAt C CM H' am r 0 Sd62.fresh → (∀ b ∈ r.foot, H b = none) → (∀ b o, H b = some o → b ≠ am → H' b = some o) → Q .non H'
abbrev sMInit : Stmt := inClass (top 73) 0
theorem scMInit : FnScope ["self"] ["self"] (defScope sMInit) := ⟨rfl, rfl, rfl, by decide +kernel, rfl, by decide +kernel, by decide +kernel⟩
theorem new_state {C : Addr} {H H1 : Hp} {x dx : Addr} {r : Rg} (nx : H x = none) (nd : H dx = none) (S1 : StAt C H1 r Sd62.fresh) (ea : r.a = x) (f1 : ∀ b ∈ r.foot, b = x ∨ (upd (upd H dx (.own x)) x (.ins C dx [])) b = none) (kp : ∀ b o, (upd (upd H dx (.own x)) x (.ins C dx [])) b = some o → b ≠ x → H1 b = some o) : NewAt C H H1 r Sd62.fresh :=
  ⟨S1, Same.made nx nd kp, fun b hb => by
    rcases f1 b hb with e | e
    · rw [e]
      exact nx
    · exact Same.free (Same.made nx nd fun b o h _ => h) e⟩
theorem ok_mInit {C CM : Addr} {f : Addr} {fd : FuncData} (F : Fun K "__init__" "Machine.__init__" sMInit f fd) (TS : TxtS K mg C) (TM : TxtM K mg CM) (CI : CalNew P w K mg base C) : FnOk P w K mg base CX0 3 f fd ["self"] (spMInit C CM) := by
  obtain ⟨f_I, fd_I, M_I, b_I, G_I⟩ := CI.ok
  refine F.ok scMInit (fun vs H Q E h => ?_) (fun cdv A outer sh H vs Q E hr h => ?_)
  · obtain ⟨am, dx, rfl, _⟩ := h
    rfl
  · obtain ⟨am, dx, rfl, hm, k⟩ := h
    have hr2 : Room 2 _ := hr.mono (by decide)
    refine ⟨_, (pss_cons (ps_fld (pv 0) pe_int rfl)
      (pss_one (ps_fld (pv 0) (pe_make0 M_I G_I hr2 rfl TS.gC b_I .nil pass0) rfl))), ?_⟩
    refine ⟨_, rfl, am, CM, dx, _, rfl, hm, TM.cl, TM.nC, (by show 0 < 1000; decide), ?_⟩
    generalize hH1 : upd H am _ = H1
    have h1m : H1 am = some (.ins CM dx [("components", nv 0)]) := by rw [← hH1]; exact upd_same
    have h1o : ∀ b o, H b = some o → b ≠ am → H1 b = some o := fun b o h n => by rw [← hH1, upd_ne n]; exact h
    have h1n : ∀ b, H1 b = none → H b = none := fun b h => by
      by_cases e : b = am
      · rw [e, h1m] at h
        cases h
      · rw [← hH1, upd_ne e] at h
        exact h
    refine fun x dx2 nx nd ne => ⟨x, dx2, rfl, upd_same, fun H2 r S2 ea f1 kp => ⟨rfl, ?_⟩⟩
    have N := new_state nx nd S2 ea f1 kp
    subst ea
    have h2m := N.same _ _ h1m
    refine ⟨_, rfl, am, CM, dx, _, rfl, h2m, TM.cl, TM.nS, (by show 1 < 1000; decide), ?_⟩
    have nf : am ∉ r.foot := fun z => by
      have q := N.new _ z
      rw [h1m] at q
      cases q
    refine k _ r ⟨⟨dx, upd_same⟩, ?_, nf⟩ (fun b hb => h1n b (N.new b hb)) (fun b o h n => ?_)
    · refine S2.keep fun b hb o h => ?_
      rw [upd_ne (fun z => nf (by rw [← z]; exact hb))]
      exact h
    · rw [upd_ne n]
      exact N.same _ _ (h1o b o h n)
/-! ### new -/
def ansOf (a : Sd62.Ans) : List Int := if a.value < 0 then [a.value] else a.value :: a.bytes.map fun (n : Nat) => (n : Int)
/-- what a call leaves of the machine's parts and state -/
def partsOf (p : Nat) (o : Option Sd62.Obj) : Nat := match o with
  | none => p
  | some x => x.parts
def stateOf (s : Sd62.St) (o : Option Sd62.Obj) : Sd62.St := match o with
  | none => s
  | some x => x.st
def spOp (C CM : Addr) (n : Nat) (lead : Nat) : Sp := fun vs H Q _ => ∃ (am an : Addr) (r : Rg) (p : Nat) (s : Sd62.St) (ns : List Nat) (q : Sd62.Call), vs = [.ref am, .ref an] ∧ MachAt C CM H am r p s ∧ H an = some (.lst (nl ns)) ∧ an ∉ r.foot ∧ an ≠ am ∧
  Sd62Neutral.callOf (n :: ns) = some q ∧ (∀ x ∈ ns.drop lead, x < 256) ∧ ns.length ≤ 30000 ∧
  AnsW C CM H am r (partsOf p (Sd62.spec (some ⟨p, s⟩) q).1) (stateOf s (Sd62.spec (some ⟨p, s⟩) q).1) (ansOf (Sd62.spec (some ⟨p, s⟩) q).2) Q
theorem call_new {ns : List Nat} {q : Sd62.Call} (h : Sd62Neutral.callOf (0 :: ns) = some q) : ∃ c, ns = [c] ∧ q = .new c := by
  match ns, h with
  | [c], h => exact ⟨c, rfl, (Option.some.inj h).symm⟩
theorem in_machines (c : Nat) : inV (nv c) (nl [3, 7, 231]) = Sd62.isMachine c := by
  have e : ∀ k : Nat, eqV (nv k) (nv c) = (c == k) := fun k => by
    show decide ((k : Int) = (c : Int)) = _
    rw [Bool.eq_iff_iff]
    simp
    omega
  show (eqV (nv 3) (nv c) || (eqV (nv 7) (nv c) || (eqV (nv 231) (nv c) || false))) = _
  rw [e, e, e, Bool.or_false]
  rfl
abbrev sNew : Stmt := top 74
theorem scNew : FnScope ["machine", "numbers", "components"] ["machine", "numbers"] (defScope sNew) := ⟨rfl, rfl, rfl, by decide +kernel, rfl, by decide +kernel, by decide +kernel⟩
theorem ok_new {C CM : Addr} {f : Addr} {fd : FuncData} (F : Fun K "new" "new" sNew f fd) (TS : TxtS K mg C) (TM : TxtM K mg CM) (TO : TxtO K mg) (CI : CalNew P w K mg base C) : FnOk P w K mg base CX0 3 f fd ["machine", "numbers"] (spOp C CM 0 1) := by
  obtain ⟨aM, eM, tM⟩ := TO.machines
  obtain ⟨tO, eO⟩ := TO.range
  obtain ⟨f_I, fd_I, M_I, b_I, G_I⟩ := CI.ok
  refine F.ok scNew (fun vs H Q E h => ?_) (fun cdv A outer sh H vs Q E hr h => ?_)
  · obtain ⟨am, an, r, p, s, ns, q, rfl, _⟩ := h
    rfl
  · obtain ⟨am, an, r, p, s, ns, q, rfl, M, hN, nf, nm, hc, hb, hlen, k⟩ := h
    obtain ⟨c, rfl, rfl⟩ := call_new hc
    have hr2 : Room 2 _ := hr.mono (by decide)
    refine ⟨_, (pss_cons (ps_set (i := 2) scNew.nd rfl (.inl rfl) (pe_ix (ix_listK (K := K)) (pv 1) pe_int (fun _ _ => rfl)))
      (pss_cons (ps_if (pt_cmpR op_notIn_seq (pv 2) (pe_glob (v := .ref aM) rfl eM rfl) (by rfl))
        (pss_one (ps_ret (pe_lst (pa_cons (pe_glob (v := .int (-1)) rfl eO ⟨_, rfl⟩) pa_nil))))
        pss_nil)
      (pss_cons (ps_fld (pv 0) (pv 2) rfl)
      (pss_cons (ps_fld (pv 0) (pe_make0 M_I G_I hr2 rfl TS.gC b_I .nil pass0) rfl)
      (pss_one (ps_ret (pe_lst (pa_cons pe_int pa_nil)))))))), ?_⟩
    refine ⟨_, rfl, an, _, _, _, rfl, rfl, SqL.of hN, at_nl (i := 0) rfl, _, rfl, aM, _, rfl, .inr (tM _), rfl, rfl, _, rfl, ?_⟩
    unfold Sd62.spec at k
    dsimp only at k
    rw [show (if (true = true) then !inV (nv c) (nl [3, 7, 231]) else inV (nv c) (nl [3, 7, 231])) = !Sd62.isMachine c from by rw [if_pos rfl, in_machines]]
    cases e : Sd62.isMachine c with
    | false =>
      rw [e, if_neg (by decide)] at k
      refine if_true_of (by rfl) ⟨(by show 1 ≤ 16777216; decide), fun x hx => ?_⟩
      exact k.plain M (Same.refl H) hx
    | true =>
      rw [e, if_pos rfl] at k
      obtain ⟨⟨dm, hm⟩, S, n⟩ := M
      refine if_false_of (by rfl) ?_
      refine ⟨_, rfl, _, rfl, am, CM, dm, _, rfl, hm, TM.cl, TM.nC, (by show 2 < 1000; decide), ?_⟩
      rw [mF_pc]
      generalize hH1 : upd H am _ = H1
      have h1m : H1 am = some (.ins CM dm (mF (nv c) (.ref r.a))) := by rw [← hH1]; exact upd_same
      have h1o : ∀ b o, H b = some o → b ≠ am → H1 b = some o := fun b o h n => by rw [← hH1, upd_ne n]; exact h
      have h1n : ∀ b, H1 b = none → H b = none := fun b h => by
        by_cases e : b = am
        · rw [e, h1m] at h
          cases h
        · rw [← hH1, upd_ne e] at h
          exact h
      refine fun x dx2 nx nd ne => ⟨x, dx2, rfl, upd_same, fun H2 r2 S2 ea f1 kp => ⟨rfl, ?_⟩⟩
      have N := new_state nx nd S2 ea f1 kp
      subst ea
      have h2m := N.same _ _ h1m
      refine ⟨_, rfl, am, CM, dm, _, rfl, h2m, TM.cl, TM.nS, (by show 2 < 1000; decide), ?_⟩
      rw [mF_ps]
      have nf2 : am ∉ r2.foot := fun z => by
        have q := N.new _ z
        rw [h1m] at q
        cases q
      generalize hH3 : upd H2 am _ = H3
      have h3m : H3 am = some (.ins CM dm (mF (nv c) (.ref r2.a))) := by rw [← hH3]; exact upd_same
      have h3o : ∀ b o, H2 b = some o → b ≠ am → H3 b = some o := fun b o h n => by rw [← hH3, upd_ne n]; exact h
      have S3 : StAt C H3 r2 Sd62.fresh := S2.keep fun b hb o h => h3o b o h fun z => nf2 (by rw [← z]; exact hb)
      refine ⟨(by show 1 ≤ 16777216; decide), fun y hy => ?_⟩
      have s4 := same_new hy (o := .lst [V.int 0])
      refine k _ r2 y ⟨⟨dm, s4 _ _ h3m⟩, S3.same s4, nf2⟩ (fun b hb => .inr (h1n b (N.new b hb))) (fun b o h _ n2 => s4 _ _ (h3o b o (N.same _ _ (h1o b o h n2)) n2)) (fun b o h _ n2 z => ?_) upd_same
      have q := h3o b o (N.same _ _ (h1o b o h n2)) n2
      rw [z, hy] at q
      cases q
end
end VP

set_option Elab.async false
set_option linter.all false
set_option maxRecDepth 100000
set_option maxHeartbeats 4000000
namespace VP
open PySem PySem.Spec PyProof.Rows L2
section
variable {P : Program} {w : World} {K : PySem.W.Frag} {mg : Str → Option Value} {base : Heap}
theorem ans_only (z : Int) : ansOf (Sd62.only z) = [z] := by
  unfold ansOf Sd62.only
  dsimp only
  split <;> rfl
/-! ### run -/
theorem call_run {ns : List Nat} {q : Sd62.Call} (h : Sd62Neutral.callOf (1 :: ns) = some q) : ∃ n f m code, ns = n :: f :: m :: code ∧ q = .run code n f m ∧ (n ≤ 4096 → code.length = 6 * n) := by
  match ns, h with
  | n :: f :: m :: code, h =>
    have h : (if code.length = 6 * Sd62Neutral.within_ n Sd62.STEPS then some (Sd62.Call.run code n f m) else none) = some q := h
    by_cases c : code.length = 6 * Sd62Neutral.within_ n Sd62.STEPS
    · rw [if_pos c] at h
      refine ⟨n, f, m, code, rfl, (Option.some.inj h).symm, fun hn => ?_⟩
      rw [c]
      exact congrArg (6 * ·) (if_pos hn)
    · rw [if_neg c] at h
      cases h
theorem all_good (l : List Sd62.Step) : (l.zipIdx.all fun y => Sd62.good y.2 y.1) = true ↔ ∀ (i : Nat) (x : Sd62.Step), l[i]? = some x → Sd62.good i x = true := by
  rw [List.all_eq_true]
  constructor
  · intro h i x hx
    refine h (x, i) ?_
    rw [List.mem_zipIdx_iff_getElem?]
    exact hx
  · rintro h ⟨x, i⟩ hy
    rw [List.mem_zipIdx_iff_getElem?] at hy
    exact h i x hy
theorem ins_mem {code : List Nat} {n i : Nat} {x : Sd62.Step} (hl : code.length = 6 * n) (h : (Sd62.steps code)[i]? = some x) : ∀ y ∈ VM.ins x, y ∈ code := by
  have hi : i < n := by
    rw [← VM.steps_length n code hl]
    exact (List.getElem?_eq_some_iff.mp h).1
  obtain ⟨z, h1, h2⟩ := VM.steps_get n code i hl hi
  rw [h] at h1
  obtain rfl := Option.some.inj h1
  intro y hy
  rw [h2] at hy
  exact List.mem_of_mem_drop (List.mem_of_mem_take hy)
abbrev sRun : Stmt := top 75
theorem scRun : FnScope ["machine", "numbers", "count", "start", "most", "instructions", "index", "six", "instruction"] ["machine", "numbers"] (defScope sRun) := ⟨rfl, rfl, rfl, by decide +kernel, rfl, by decide +kernel, by decide +kernel⟩
theorem ok_run {C CM : Addr} {f : Addr} {fd : FuncData} (F : Fun K "run" "run" sRun f fd) (T : Txt0 mg) (TM : TxtM K mg CM) (TO : TxtO K mg)
    (CS : Cal P w K mg base 1 "split_code" ["code"] (spSplit K)) (CI : Cal P w K mg base 1 "is_instruction" ["six", "index"] spIsIns) (CN : Cal P w K mg base 2 "needed_components" ["instruction"] spNeeds)
    (CC : Cal P w K mg base 1 "has_components" ["components", "needed"] spHas) (CX : Cal P w K mg base 4 "execute" ["state", "instructions", "start", "most"] (spExec C)) :
    FnOk P w K mg base CX0 5 f fd ["machine", "numbers"] (spOp C CM 1 3) := by
  obtain ⟨tO, eO⟩ := TO.range
  obtain ⟨tB, eB⟩ := TO.bytes
  obtain ⟨tN, eN⟩ := TO.comps
  obtain ⟨tC, eC⟩ := TO.code
  obtain ⟨tX, eX⟩ := TO.exec
  obtain ⟨f_S, fd_S, m_S, k_S, b_S, G_S⟩ := CS.ok
  obtain ⟨f_I, fd_I, m_I, k_I, b_I, G_I⟩ := CI.ok
  obtain ⟨f_N, fd_N, m_N, k_N, b_N, G_N⟩ := CN.ok
  obtain ⟨f_C, fd_C, m_C, k_C, b_C, G_C⟩ := CC.ok
  obtain ⟨f_X, fd_X, m_X, k_X, b_X, G_X⟩ := CX.ok
  refine F.ok scRun (fun vs H Q E h => ?_) (fun cdv A outer sh H vs Q E hr h => ?_)
  · obtain ⟨am, an, r, p, s, ns, q, rfl, _⟩ := h
    rfl
  · obtain ⟨am, an, r, p, s, ns, q, rfl, M, hN, nf, nm, hc, hb, hlen, k⟩ := h
    obtain ⟨n, fr, mo, code, rfl, rfl, hcode⟩ := call_run hc
    have hr4 : Room 4 _ := hr.mono (by decide)
    have hr2 : Room 2 _ := hr.mono (by decide)
    have hr1 : Room 1 _ := hr.mono (by decide)
    have hb : ∀ x ∈ code, x < 256 := hb
    obtain ⟨⟨dm, hm⟩, S, nam⟩ := id M
    refine ⟨_, (pss_cons (ps_set (i := 2) scRun.nd rfl (.inl rfl) (pe_ix (ix_listK (K := K)) (pv 1) pe_int (fun _ _ => rfl)))
      (pss_cons (ps_set (i := 3) scRun.nd rfl (.inl rfl) (pe_ix (ix_listK (K := K)) (pv 1) pe_int (fun _ _ => rfl)))
      (pss_cons (ps_set (i := 4) scRun.nd rfl (.inl rfl) (pe_ix (ix_listK (K := K)) (pv 1) pe_int (fun _ _ => rfl)))
      (pss_cons (ps_if (PW.pt (pw_or (pt_cmpR n_gt (pv 2) (pe_glob (v := .int 4096) rfl eC ⟨_, rfl⟩) (nomark _)) (pw_or (pt_cmpR n_gt (pv 3) (pv 2) (nomark _)) (pw_or1 (pt_cmpR n_gt (pv 4) (pe_glob (v := .int 1000000) rfl eX ⟨_, rfl⟩) (nomark _))))))
        (pss_one (ps_ret (pe_lst (pa_cons (pe_glob (v := .int (-1)) rfl eO ⟨_, rfl⟩) pa_nil))))
        pss_nil)
      (pss_cons (ps_set (i := 5) scRun.nd rfl (.inl rfl) (pe_call G_S hr1 rfl m_S k_S b_S .nil pass0 (pa_cons (pe_slice sl_list (pv 1) (po_some pe_int) po_none) pa_nil)))
      (pss_cons (ps_for PassesOwn.never rfl (pi_enum (by rfl) T.enumerate (pa_cons (pv 5) pa_nil)) (pg_tup rfl (pgs_cons (pg_name (i := 6) scRun.nd rfl (.inl rfl)) (pgs_cons (pg_name (i := 7) scRun.nd rfl (.inl rfl)) pgs_nil)))
        (pss_one (ps_if (pt_not (pt_val (pe_call G_I hr1 rfl m_I k_I b_I .nil pass0 (pa_cons (pv 7) (pa_cons (pv 6) pa_nil)))))
        (pss_one (ps_ret (pe_lst (pa_cons (pe_glob (v := .int (-2)) rfl eB ⟨_, rfl⟩) pa_nil))))
        pss_nil)))
      (pss_cons (ps_for PassesOwn.never rfl (pi_list (pv 5)) (pg_name (i := 8) scRun.nd rfl (.inl rfl))
        (pss_one (ps_if (pt_not (pt_val (pe_call G_C hr1 rfl m_C k_C b_C .nil pass0 (pa_cons (pe_fldK (K := K) (pv 0)) (pa_cons (pe_call G_N hr2 rfl m_N k_N b_N .nil pass0 (pa_cons (pv 8) pa_nil)) pa_nil)))))
        (pss_one (ps_ret (pe_lst (pa_cons (pe_glob (v := .int (-3)) rfl eN ⟨_, rfl⟩) pa_nil))))
        pss_nil)))
      (pss_one (ps_ret (pe_lst (pa_cons (pe_call G_X hr4 rfl m_X k_X b_X .nil pass0 (pa_cons (pe_fldK (K := K) (pv 0)) (pa_cons (pv 5) (pa_cons (pv 3) (pa_cons (pv 4) pa_nil))))) pa_nil))))))))))), ?_⟩
    refine ⟨_, rfl, an, _, _, _, rfl, rfl, SqL.of hN, at_nl (i := 0) rfl, _, rfl, an, _, _, _, rfl, rfl, SqL.of hN, at_nl (i := 1) rfl, _, rfl, an, _, _, _, rfl, rfl, SqL.of hN, at_nl (i := 2) rfl, ?_⟩
    unfold Sd62.spec at k
    dsimp only at k
    have bad : (Sd62.STEPS < n ∨ n < fr ∨ Sd62.MOST < mo) → AnsW C CM H am r p s [-1] Q := fun h => by
      rw [if_pos h] at k
      exact k
    refine ⟨_, rfl, _, 4096, rfl, rfl, _, rfl, ite2 (fun c => ?_) (fun c => ?_)⟩
    · exact ⟨(by show 1 ≤ 16777216; decide), fun x hx => (bad (.inl (of_decide_eq_true c))).plain M (Same.refl H) hx⟩
    have n1 : ¬ Sd62.STEPS < n := fun z => c (decide_eq_true z)
    refine ⟨_, rfl, _, rfl, _, _, rfl, rfl, _, rfl, ite2 (fun c => ?_) (fun c => ?_)⟩
    · exact ⟨(by show 1 ≤ 16777216; decide), fun x hx => (bad (.inr (.inl (of_decide_eq_true c)))).plain M (Same.refl H) hx⟩
    have n2 : ¬ n < fr := fun z => c (decide_eq_true z)
    refine ⟨_, rfl, _, 1000000, rfl, rfl, _, rfl, ite2 (fun c => ?_) (fun c => ?_)⟩
    · exact ⟨(by show 1 ≤ 16777216; decide), fun x hx => (bad (.inr (.inr (of_decide_eq_true c)))).plain M (Same.refl H) hx⟩
    have n3 : ¬ Sd62.MOST < mo := fun z => c (decide_eq_true z)
    rw [if_neg (fun h => h.elim n1 fun h => h.elim n2 n3)] at k
    have hn : n ≤ 4096 := Nat.le_of_not_lt n1
    have hl := hcode hn
    have hst := VM.steps_length n code hl
    refine ⟨_, rfl, 3, rfl, an, _, rfl, SqL.of hN, fun q hq => ?_⟩
    have hcut : cutV (nl (n :: fr :: mo :: code)) (some (3 : Int)) none = nl code := by
      rw [show (3 : Int) = ((3 : Nat) : Int) from rfl, cut_from]
      rfl
    have hqv : upd H q (.lst (cutV (nl (n :: fr :: mo :: code)) (some (3 : Int)) none)) q = some (.lst (nl code)) := by
      rw [upd_same, hcut]
    have s1 := same_new hq (o := .lst (cutV (nl (n :: fr :: mo :: code)) (some (3 : Int)) none))
    refine ⟨q, code, n, rfl, SqL.of hqv, hl, by omega, fun H1 p1 cs sp hp hcs hcl hins => ?_⟩
    have s2 := s1.trans sp
    have np1 : p1 ∉ r.foot := S.off (Same.free s1 hp)
    have hgood := all_good (Sd62.steps code)
    have hmem := fun (i : Nat) (x : Sd62.Step) (h : (Sd62.steps code)[i]? = some x) => ins_mem hl h
    generalize Sd62.steps code = xs at *
    have at_ : ∀ (i : Nat) (c : Addr), cs[i]? = some c → ∃ x, xs[i]? = some x ∧ InsAt H1 c x ∧ x.a < 256 := fun i c hi => by
      have hlt : i < xs.length := by
        rw [← hcl]
        exact (List.getElem?_eq_some_iff.mp hi).1
      have ex : xs[i]? = some xs[i] := List.getElem?_eq_getElem hlt
      exact ⟨_, ex, hins i c _ hi ex, hb _ (hmem i _ ex _ (.tail _ (.tail _ (.tail _ (.tail _ (.head _))))))⟩
    refine ⟨_, rfl, p1, _, rfl, SqL.of hcs, for_it (walk_enum (K := K) (a := p1) (xs := cs.map V.ref))
      (fun i σ H' => ∃ v6 v7 : Option V, σ = [some (.ref am), some (.ref an), some (nv n), some (nv fr), some (nv mo), some (.ref p1), v6, v7, none] ∧ Same H1 H' ∧ ∀ (j : Nat) (x : Sd62.Step), j < i → xs[j]? = some x → Sd62.good j x = true)
      ⟨none, none, rfl, Same.refl H1, fun j x h => absurd h (Nat.not_lt_zero _)⟩ (fun i σ H' _ h => ?_) ?_ ?_⟩
    · obtain ⟨_, _, _, h, _⟩ := h
      exact SqL.of (h _ _ hcs)
    · rintro i v σ H2 H3 hi ⟨v6, v7, rfl, s3, hj⟩ ⟨T0, u, y, rfl, hT0, rfl, hu, hy⟩
      obtain rfl : V.int (i : Int) = u := Option.some.inj hu
      have hy : (cs.map V.ref)[i]? = some y := hy
      rw [List.getElem?_map] at hy
      cases ec : cs[i]? with
      | none =>
        rw [ec] at hy
        cases hy
      | some c =>
        rw [ec] at hy
        obtain rfl : V.ref c = y := Option.some.inj hy
        obtain ⟨x, hx, hI, ha⟩ := at_ i c ec
        have s4 := same_lay s3 hT0 (o := .tup [V.int (i : Int), V.ref c])
        refine ⟨T0, _, rfl, .inl (.inl upd_same), rfl, _, _, rfl, _, _, rfl, rfl, ?_⟩
        refine ⟨_, rfl, _, rfl, c, x, i, rfl, s4 _ _ hI, ha, fun H4 s5 => ?_⟩
        have s6 := s4.trans s5
        refine ⟨_, rfl, ?_⟩
        cases eg : Sd62.good i x with
        | false =>
          refine if_true_of (by rfl) ⟨(by show 1 ≤ 16777216; decide), fun y hy => ?_⟩
          have hf : (xs.zipIdx.all fun y => Sd62.good y.2 y.1) = false := Bool.eq_false_iff.mpr fun z => by
            have z := hgood.mp z i x hx
            rw [eg] at z
            cases z
          rw [if_pos hf] at k
          exact k.plain M (s2.trans s6) hy
        | true =>
          refine if_false_of (by rfl) ⟨some (nv i), some (.ref c), rfl, s6, fun j z hjl hz => ?_⟩
          by_cases e : j = i
          · subst e
            rw [hx] at hz
            obtain rfl := Option.some.inj hz
            exact eg
          · exact hj j z (by omega) hz
    · rintro σ H2 ⟨v6, v7, rfl, s3, hj⟩
      have hall : ∀ (i : Nat) (x : Sd62.Step), xs[i]? = some x → Sd62.good i x = true := fun i x hx => hj i x (by rw [List.length_map, hcl]; exact (List.getElem?_eq_some_iff.mp hx).1) hx
      rw [if_neg (by rw [hgood.mpr hall]; decide)] at k
      have s4 := s2.trans s3
      refine ⟨_, rfl, p1, rfl, ⟨_, SqL.of (s3 _ _ hcs)⟩, for_list (K := K) (a := p1) (xs := cs.map V.ref)
        (fun i σ H' => ∃ v6 v7 v8 : Option V, σ = [some (.ref am), some (.ref an), some (nv n), some (nv fr), some (nv mo), some (.ref p1), v6, v7, v8] ∧ Same H2 H' ∧ ∀ (j : Nat) (x : Sd62.Step), j < i → xs[j]? = some x → Sd62.hasAll p (Sd62.needs x) = true)
        ⟨v6, v7, none, rfl, Same.refl H2, fun j x h => absurd h (Nat.not_lt_zero _)⟩ (fun i σ H' _ h => ?_) ?_ ?_⟩
      · obtain ⟨_, _, _, _, h, _⟩ := h
        exact SqL.of (h _ _ (s3 _ _ hcs))
      · rintro i y σ H3 hi ⟨w6, w7, w8, rfl, s5, hj2⟩
        rw [List.getElem?_map] at hi
        cases ec : cs[i]? with
        | none =>
          rw [ec] at hi
          cases hi
        | some c =>
          rw [ec] at hi
          obtain rfl : V.ref c = y := Option.some.inj hi
          obtain ⟨x, hx, hI, ha⟩ := at_ i c ec
          refine ⟨_, rfl, am, CM, dm, _, _, rfl, (s4.trans s5) _ _ hm, TM.cl, TM.nC, mF_c, _, rfl, c, x, rfl, (s3.trans s5) _ _ hI, fun H4 s6 => ?_⟩
          refine ⟨p, Sd62.needs x, rfl, _, rfl, ?_⟩
          cases eg : Sd62.hasAll p (Sd62.needs x) with
          | false =>
            refine if_true_of (by rfl) ⟨(by show 1 ≤ 16777216; decide), fun y hy => ?_⟩
            have hf : (xs.all fun y => Sd62.hasAll p (Sd62.needs y)) = false := Bool.eq_false_iff.mpr fun z => by
              have z := List.all_eq_true.mp z x (List.mem_of_getElem? hx)
              rw [eg] at z
              cases z
            rw [if_pos hf] at k
            exact k.plain M ((s4.trans s5).trans s6) hy
          | true =>
            refine if_false_of (by rfl) ⟨w6, w7, some (.ref c), rfl, s5.trans s6, fun j z hjl hz => ?_⟩
            by_cases e : j = i
            · subst e
              rw [hx] at hz
              obtain rfl := Option.some.inj hz
              exact eg
            · exact hj2 j z (by omega) hz
      · rintro σ H3 ⟨w6, w7, w8, rfl, s5, hj2⟩
        have hall2 : (xs.all fun y => Sd62.hasAll p (Sd62.needs y)) = true := List.all_eq_true.mpr fun x hx => by
          obtain ⟨i, hi⟩ := List.mem_iff_getElem?.mp hx
          exact hj2 i x (by rw [List.length_map, hcl]; exact (List.getElem?_eq_some_iff.mp hi).1) hi
        rw [if_neg (by rw [hall2]; decide)] at k
        dsimp only [partsOf, stateOf] at k
        have s6 := s4.trans s5
        refine ⟨_, rfl, am, CM, dm, _, _, rfl, s6 _ _ hm, TM.cl, TM.nS, mF_s, _, rfl, _, rfl, _, rfl, r, p1, s, cs, xs, fr, mo, rfl, S.same s6, (s3.trans s5) _ _ hcs, np1, hcl, fun i c x hci hxi => ?_, fun H4 r4 S4 a4 g1 g2 => ?_⟩
        · obtain ⟨y, hy, hI, _⟩ := at_ i c hci
          rw [hxi] at hy
          obtain rfl := Option.some.inj hy
          exact ⟨(s3.trans s5) _ _ hI, VM.good_told (hall i x hxi)⟩
        · refine ⟨(by show 1 ≤ 16777216; decide), fun y hy => ?_⟩
          rw [ans_only] at k
          exact AnsW.mod k M s6 S4 a4 g1 g2 hy
end
end VP

set_option Elab.async false
set_option linter.all false
set_option maxRecDepth 100000
set_option maxHeartbeats 4000000
namespace VP
open PySem PySem.Spec PyProof.Rows L2
section
variable {P : Program} {w : World} {K : PySem.W.Frag} {mg : Str → Option Value} {base : Heap}
/-- an operation's answer in a new list, nothing else changed -/
def NewA (H : Hp) (a : List Int) (Q : VK) : Prop := ∀ (H' : Hp) (x : Addr), Same H H' → H x = none → H' x = some (.lst (a.map V.int)) → Q (.ref x) H'
theorem NewA.plain {H H' : Hp} {x : Addr} {a : List Int} {Q : VK} (k : NewA H a Q) (e : Same H H') (hx : H' x = none) : Q (.ref x) (upd H' x (.lst (a.map V.int))) :=
  k _ x (same_lay e hx) (Same.free e hx) upd_same
theorem NewA.on {H H' : Hp} {a : List Int} {Q : VK} (k : NewA H a Q) (e : Same H H') : NewA H' a Q := fun H2 x e2 hx h2 => k H2 x (e.trans e2) (Same.free e hx) h2
theorem AnsW.call {C CM : Addr} {H : Hp} {am : Addr} {r : Rg} {p : Nat} {s : Sd62.St} {a : List Int} {Q : VK} (k : AnsW C CM H am r p s a Q) (M : MachAt C CM H am r p s) : NewA H a Q := fun H2 x e hx h2 =>
  k H2 r x (M.same e) (fun b hb => .inl hb) (fun b o h _ _ => e b o h) (fun b o h _ _ z => by
    rw [z, hx] at h
    cases h) h2
/-! ### read_state -/
def spReadS (K : PySem.W.Frag) (C : Addr) : Sp := fun vs H Q _ => ∃ (n : Nat) (a : Addr) (l : List Nat), vs = [nv n, .ref a] ∧ SqL K H a (nl l) ∧ (∀ x ∈ l, x < 256) ∧ l.length ≤ 100000 ∧ ReadSt C H (if Sd62.LONG < n then none else Sd62.read l) Q
abbrev sReadS : Stmt := top 82
theorem scReadS : FnScope ["count", "content"] ["count", "content"] (defScope sReadS) := ⟨rfl, rfl, rfl, by decide +kernel, rfl, by decide +kernel, by decide +kernel⟩
theorem ok_readS {C : Addr} {f : Addr} {fd : FuncData} (F : Fun K "read_state" "read_state" sReadS f fd) (TO : TxtO K mg)
    (CR : Cal P w K mg base 7 "read_checkpoint" ["content"] (spRead K C fun _ => True)) :
    FnOk P w K mg base CX0 8 f fd ["count", "content"] (spReadS K C) := by
  obtain ⟨tM2, eM2⟩ := TO.most
  obtain ⟨f_R, fd_R, m_R, k_R, b_R, G_R⟩ := CR.ok
  refine F.ok scReadS (fun vs H Q E h => ?_) (fun cdv A outer sh H vs Q E hr h => ?_)
  · obtain ⟨n, a, l, rfl, _⟩ := h
    rfl
  · obtain ⟨n, a, l, rfl, hA, hb, hlen, k⟩ := h
    have hr7 : Room 7 _ := hr.mono (by decide)
    refine ⟨_, (pss_cons (ps_if (pt_cmpR n_gt (pv 0) (pe_glob (v := .int 2688) rfl eM2 ⟨_, rfl⟩) (nomark _))
        (pss_one (ps_ret pe_non))
        pss_nil)
      (pss_one (ps_ret (pe_call G_R hr7 rfl m_R k_R b_R .nil pass0 (pa_cons (pv 1) pa_nil))))), ?_⟩
    refine ⟨_, rfl, _, 2688, rfl, rfl, _, rfl, ite2 (fun c => ?_) (fun c => ?_)⟩
    · rw [if_pos (show Sd62.LONG < n from of_decide_eq_true c)] at k
      exact readSt_no k rfl H (Same.refl H)
    · rw [if_neg (show ¬ Sd62.LONG < n from fun z => c (decide_eq_true z))] at k
      exact ⟨_, rfl, a, l, rfl, hA, hb, hlen, trivial, k⟩
/-! ### written_state -/
theorem long_small {s : Sd62.St} (hs : VM.Wf s) (p : Nat) : (Sd62.long p s).length ≤ 10000 := by
  rw [long_length hs]
  repeat' split
  all_goals omega
theorem short_small {s : Sd62.St} (hs : VM.Wf s) : (Sd62.short s).length ≤ 10000 := by
  rw [short_length hs]
  have h1 := tailB_length hs (inUse (Sd62.used s) [4, 32, 64, 128]) fun w hw => inUse_part w hw
  have h2 : (inUse (Sd62.used s) [4, 32, 64, 128]).length ≤ 4 := List.length_filter_le _ _
  omega
def spWritS (C : Addr) : Sp := fun vs H Q _ => ∃ (r : Rg) (s : Sd62.St) (p room form : Nat), vs = [.ref r.a, nv p, nv room, nv form] ∧ StAt C H r s ∧ NewA H (ansOf (Sd62.put room form p s)) Q
abbrev sWritS : Stmt := top 83
theorem scWritS : FnScope ["state", "components", "room", "form", "content"] ["state", "components", "room", "form"] (defScope sWritS) := ⟨rfl, rfl, rfl, by decide +kernel, rfl, by decide +kernel, by decide +kernel⟩
theorem ok_writS {C : Addr} {f : Addr} {fd : FuncData} (F : Fun K "written_state" "written_state" sWritS f fd) (T : Txt0 mg) (TO : TxtO K mg)
    (CL : Cal P w K mg base 5 "long_form" ["state", "components"] (spLong C)) (CS : Cal P w K mg base 5 "short_form" ["state"] (spShort C)) :
    FnOk P w K mg base CX0 6 f fd ["state", "components", "room", "form"] (spWritS C) := by
  obtain ⟨tR, eR⟩ := TO.room
  obtain ⟨f_L, fd_L, m_L, k_L, b_L, G_L⟩ := CL.ok
  obtain ⟨f_S, fd_S, m_S, k_S, b_S, G_S⟩ := CS.ok
  refine F.ok scWritS (fun vs H Q E h => ?_) (fun cdv A outer sh H vs Q E hr h => ?_)
  · obtain ⟨r, s, p, room, form, rfl, _⟩ := h
    rfl
  · obtain ⟨r, s, p, room, form, rfl, S, k⟩ := h
    have hr5 : Room 5 _ := hr.mono (by decide)
    refine ⟨_, (pss_cons (ps_if (pt_cmpR n_eq (pv 3) pe_int (nomark _))
        (pss_one (ps_set (i := 4) scWritS.nd rfl (.inl rfl) (pe_call G_L hr5 rfl m_L k_L b_L .nil pass0 (pa_cons (pv 0) (pa_cons (pv 1) pa_nil)))))
        (pss_one (ps_set (i := 4) scWritS.nd rfl (.inl rfl) (pe_call G_S hr5 rfl m_S k_S b_S .nil pass0 (pa_cons (pv 0) pa_nil)))))
      (pss_cons (ps_if (pt_cmpR n_gt (pe_callB call_len_seq (by rfl) T.len PySem.boot_len (pa_cons (pv 4) pa_nil)) (pv 2) (nomark _))
        (pss_one (ps_ret (pe_lst (pa_cons (pe_glob (v := .int (-4)) rfl eR ⟨_, rfl⟩) pa_nil))))
        pss_nil)
      (pss_one (ps_ret (pe_op op_cat (pe_lst (pa_cons (pe_callB call_len_seq (by rfl) T.len PySem.boot_len (pa_cons (pv 4) pa_nil)) pa_nil)) (pv 4)))))), ?_⟩
    unfold Sd62.put at k
    dsimp only at k
    refine ⟨_, rfl, _, 0, rfl, rfl, _, rfl, ite2 (fun c => ?_) (fun c => ?_)⟩
    · rw [if_pos (show form = 0 from of_decide_eq_true c)] at k
      refine ⟨_, rfl, _, rfl, r, s, p, rfl, S, fun Hq q sq hq hl => ?_⟩
      have hlen2 : (Sd62.long p s).length ≤ 10000 := long_small S.wf p
      refine ⟨_, rfl, q, _, rfl, .inl (SqL.of hl), _, rfl, _, room, congrArg (fun n : Nat => V.int (n : Int)) (nl_length _), rfl, _, rfl, ite2 (fun c => ?_) (fun c => ?_)⟩
      · have hlt : room < (Sd62.long p s).length := of_decide_eq_true c
        rw [if_pos hlt] at k
        exact ⟨(by show 1 ≤ 16777216; decide), fun x hx => k.plain sq hx⟩
      · have hge : ¬ room < (Sd62.long p s).length := fun z => c (decide_eq_true z)
        rw [if_neg hge] at k
        refine ⟨_, rfl, q, _, rfl, .inl (SqL.of hl), (by show 1 ≤ 16777216; decide), fun t ht => ?_⟩
        have nqt : q ≠ t := ne_of_none hl ht
        refine ⟨_, rfl, t, q, _, _, rfl, rfl, upd_same, by rw [upd_ne nqt]; exact hl, ?_, fun x hx => ?_⟩
        · rw [nl_length]
          show 1 + _ ≤ 16777216
          omega
        · have s3 := same_lay sq ht (o := .lst [V.int ((nl (Sd62.long p s)).length : Int)])
          have fin := k.plain s3 hx
          have ea : [V.int ((nl (Sd62.long p s)).length : Int)] ++ nl (Sd62.long p s) = (ansOf (Sd62.told (Sd62.long p s))).map V.int := by
            unfold ansOf Sd62.told
            dsimp only
            rw [if_neg (by omega), List.map_cons, nl_length, List.map_map]
            rfl
          rw [ea]
          exact fin
    · rw [if_neg (show ¬ form = 0 from fun z => c (decide_eq_true z))] at k
      refine ⟨_, rfl, r, s, rfl, S, fun Hq q sq hq hl => ?_⟩
      have hlen2 : (Sd62.short s).length ≤ 10000 := short_small S.wf
      refine ⟨_, rfl, q, _, rfl, .inl (SqL.of hl), _, rfl, _, room, congrArg (fun n : Nat => V.int (n : Int)) (nl_length _), rfl, _, rfl, ite2 (fun c => ?_) (fun c => ?_)⟩
      · have hlt : room < (Sd62.short s).length := of_decide_eq_true c
        rw [if_pos hlt] at k
        exact ⟨(by show 1 ≤ 16777216; decide), fun x hx => k.plain sq hx⟩
      · have hge : ¬ room < (Sd62.short s).length := fun z => c (decide_eq_true z)
        rw [if_neg hge] at k
        refine ⟨_, rfl, q, _, rfl, .inl (SqL.of hl), (by show 1 ≤ 16777216; decide), fun t ht => ?_⟩
        have nqt : q ≠ t := ne_of_none hl ht
        refine ⟨_, rfl, t, q, _, _, rfl, rfl, upd_same, by rw [upd_ne nqt]; exact hl, ?_, fun x hx => ?_⟩
        · rw [nl_length]
          show 1 + _ ≤ 16777216
          omega
        · have s3 := same_lay sq ht (o := .lst [V.int ((nl (Sd62.short s)).length : Int)])
          have fin := k.plain s3 hx
          have ea : [V.int ((nl (Sd62.short s)).length : Int)] ++ nl (Sd62.short s) = (ansOf (Sd62.told (Sd62.short s))).map V.int := by
            unfold ansOf Sd62.told
            dsimp only
            rw [if_neg (by omega), List.map_cons, nl_length, List.map_map]
            rfl
          rw [ea]
          exact fin
/-! ### save -/
theorem call_save {ns : List Nat} {q : Sd62.Call} (h : Sd62Neutral.callOf (2 :: ns) = some q) : ∃ r f, ns = [r, f] ∧ q = .save r f := by
  match ns, h with
  | [r, f], h => exact ⟨r, f, rfl, (Option.some.inj h).symm⟩
abbrev sSave : Stmt := top 76
theorem scSave : FnScope ["machine", "numbers", "form"] ["machine", "numbers"] (defScope sSave) := ⟨rfl, rfl, rfl, by decide +kernel, rfl, by decide +kernel, by decide +kernel⟩
theorem ok_save {C CM : Addr} {f : Addr} {fd : FuncData} (F : Fun K "save" "save" sSave f fd) (TM : TxtM K mg CM) (TO : TxtO K mg)
    (CW : Cal P w K mg base 6 "written_state" ["state", "components", "room", "form"] (spWritS C)) :
    FnOk P w K mg base CX0 7 f fd ["machine", "numbers"] (spOp C CM 2 2) := by
  obtain ⟨tO, eO⟩ := TO.range
  obtain ⟨f_W, fd_W, m_W, k_W, b_W, G_W⟩ := CW.ok
  refine F.ok scSave (fun vs H Q E h => ?_) (fun cdv A outer sh H vs Q E hr h => ?_)
  · obtain ⟨am, an, r, p, s, ns, q, rfl, _⟩ := h
    rfl
  · obtain ⟨am, an, r, p, s, ns, q, rfl, M, hN, nf, nm, hc, hb, hlen, k⟩ := h
    obtain ⟨room, form, rfl, rfl⟩ := call_save hc
    have hr6 : Room 6 _ := hr.mono (by decide)
    obtain ⟨⟨dm, hm⟩, S, nam⟩ := id M
    refine ⟨_, (pss_cons (ps_set (i := 2) scSave.nd rfl (.inl rfl) (pe_ix (ix_listK (K := K)) (pv 1) pe_int (fun _ _ => rfl)))
      (pss_cons (ps_if (pt_cmpR n_gt (pv 2) pe_int (nomark _))
        (pss_one (ps_ret (pe_lst (pa_cons (pe_glob (v := .int (-1)) rfl eO ⟨_, rfl⟩) pa_nil))))
        pss_nil)
      (pss_one (ps_ret (pe_call G_W hr6 rfl m_W k_W b_W .nil pass0 (pa_cons (pe_fldK (K := K) (pv 0)) (pa_cons (pe_fldK (K := K) (pv 0)) (pa_cons (pe_ix (ix_listK (K := K)) (pv 1) pe_int (fun _ _ => rfl)) (pa_cons (pv 2) pa_nil))))))))), ?_⟩
    refine ⟨_, rfl, an, _, _, _, rfl, rfl, SqL.of hN, at_nl (i := 1) rfl, ?_⟩
    unfold Sd62.spec at k
    dsimp only at k
    refine ⟨_, rfl, _, 1, rfl, rfl, _, rfl, ite2 (fun c => ?_) (fun c => ?_)⟩
    · rw [if_pos (of_decide_eq_true c)] at k
      exact ⟨(by show 1 ≤ 16777216; decide), fun x hx => AnsW.plain k M (Same.refl H) hx⟩
    rw [if_neg (fun z => c (decide_eq_true z))] at k
    exact ⟨_, rfl, am, CM, dm, _, _, rfl, hm, TM.cl, TM.nS, mF_s, _, rfl, am, CM, dm, _, _, rfl, hm, TM.cl, TM.nC, mF_c, _, rfl, an, _, _, _, rfl, rfl, SqL.of hN, at_nl (i := 0) rfl, _, rfl, r, s, p, room, form, rfl, S, AnsW.call k M⟩
/-! ### load -/
theorem call_load {ns : List Nat} {q : Sd62.Call} (h : Sd62Neutral.callOf (3 :: ns) = some q) : ∃ n p l, ns = n :: p :: l ∧ q = .load l n p := by
  match ns, h with
  | n :: p :: l, h =>
    have h : (if l.length = Sd62Neutral.within_ n Sd62.LONG then some (Sd62.Call.load l n p) else none) = some q := h
    by_cases c : l.length = Sd62Neutral.within_ n Sd62.LONG
    · rw [if_pos c] at h
      exact ⟨n, p, l, rfl, (Option.some.inj h).symm⟩
    · rw [if_neg c] at h
      cases h
theorem spec_load (o : Option Sd62.Obj) (l : List Nat) (n p : Nat) : Sd62.spec o (.load l n p) = if Sd62.isMachine p = false then (o, Sd62.only (-1)) else match (if Sd62.LONG < n then none else Sd62.read l) with
    | none => (o, Sd62.only (-2))
    | some s => if Sd62.hasAll p (Sd62.used s) = false then (o, Sd62.only (-3)) else (some ⟨p, s⟩, Sd62.only 0) := by
  unfold Sd62.spec
  dsimp only
  by_cases c : Sd62.LONG < n
  · rw [if_pos c, if_pos c]
  · rw [if_neg c, if_neg c]
    cases Sd62.read l <;> rfl
abbrev sLoad : Stmt := top 77
theorem scLoad : FnScope ["machine", "numbers", "components", "state"] ["machine", "numbers"] (defScope sLoad) := ⟨rfl, rfl, rfl, by decide +kernel, rfl, by decide +kernel, by decide +kernel⟩
theorem ok_load {C CM : Addr} {f : Addr} {fd : FuncData} (F : Fun K "load" "load" sLoad f fd) (TM : TxtM K mg CM) (TO : TxtO K mg)
    (CR : Cal P w K mg base 8 "read_state" ["count", "content"] (spReadS K C)) (CC : Cal P w K mg base 1 "has_components" ["components", "needed"] spHas) (CU : Cal P w K mg base 3 "weights_in_use" ["state"] (spUsed C)) :
    FnOk P w K mg base CX0 9 f fd ["machine", "numbers"] (spOp C CM 3 2) := by
  obtain ⟨aM, eM, tM⟩ := TO.machines
  obtain ⟨tO, eO⟩ := TO.range
  obtain ⟨tB, eB⟩ := TO.bytes
  obtain ⟨tN, eN⟩ := TO.comps
  obtain ⟨f_R, fd_R, m_R, k_R, b_R, G_R⟩ := CR.ok
  obtain ⟨f_C, fd_C, m_C, k_C, b_C, G_C⟩ := CC.ok
  obtain ⟨f_U, fd_U, m_U, k_U, b_U, G_U⟩ := CU.ok
  refine F.ok scLoad (fun vs H Q E h => ?_) (fun cdv A outer sh H vs Q E hr h => ?_)
  · obtain ⟨am, an, r, p, s, ns, q, rfl, _⟩ := h
    rfl
  · obtain ⟨am, an, r, p, s, ns, q, rfl, M, hN, nf, nm, hc, hb, hlen, k⟩ := h
    obtain ⟨n, c, l, rfl, rfl⟩ := call_load hc
    have hr8 : Room 8 _ := hr.mono (by decide)
    have hr3 : Room 3 _ := hr.mono (by decide)
    have hr1 : Room 1 _ := hr.mono (by decide)
    have hb : ∀ x ∈ l, x < 256 := hb
    have hlen : l.length + 1 + 1 ≤ 30000 := hlen
    obtain ⟨⟨dm, hm⟩, S, nam⟩ := id M
    refine ⟨_, (pss_cons (ps_set (i := 2) scLoad.nd rfl (.inl rfl) (pe_ix (ix_listK (K := K)) (pv 1) pe_int (fun _ _ => rfl)))
      (pss_cons (ps_if (pt_cmpR op_notIn_seq (pv 2) (pe_glob (v := .ref aM) rfl eM rfl) (by rfl))
        (pss_one (ps_ret (pe_lst (pa_cons (pe_glob (v := .int (-1)) rfl eO ⟨_, rfl⟩) pa_nil))))
        pss_nil)
      (pss_cons (ps_set (i := 3) scLoad.nd rfl (.inl rfl) (pe_call G_R hr8 rfl m_R k_R b_R .nil pass0 (pa_cons (pe_ix (ix_listK (K := K)) (pv 1) pe_int (fun _ _ => rfl)) (pa_cons (pe_slice sl_list (pv 1) (po_some pe_int) po_none) pa_nil))))
      (pss_cons (ps_if (pt_cmpR op_isN (pv 3) pe_non (nomark _))
        (pss_one (ps_ret (pe_lst (pa_cons (pe_glob (v := .int (-2)) rfl eB ⟨_, rfl⟩) pa_nil))))
        pss_nil)
      (pss_cons (ps_if (pt_not (pt_val (pe_call G_C hr1 rfl m_C k_C b_C .nil pass0 (pa_cons (pv 2) (pa_cons (pe_call G_U hr3 rfl m_U k_U b_U .nil pass0 (pa_cons (pv 3) pa_nil)) pa_nil)))))
        (pss_one (ps_ret (pe_lst (pa_cons (pe_glob (v := .int (-3)) rfl eN ⟨_, rfl⟩) pa_nil))))
        pss_nil)
      (pss_cons (ps_fld (pv 0) (pv 2) rfl)
      (pss_cons (ps_fld (pv 0) (pv 3) rfl)
      (pss_one (ps_ret (pe_lst (pa_cons pe_int pa_nil))))))))))), ?_⟩
    refine ⟨_, rfl, an, _, _, _, rfl, rfl, SqL.of hN, at_nl (i := 1) rfl, _, rfl, aM, _, rfl, .inr (tM _), rfl, rfl, _, rfl, ?_⟩
    rw [spec_load] at k
    rw [show (if (true = true) then !inV (nv c) (nl [3, 7, 231]) else inV (nv c) (nl [3, 7, 231])) = !Sd62.isMachine c from by rw [if_pos rfl, in_machines]]
    cases e : Sd62.isMachine c with
    | false =>
      rw [e, if_pos rfl] at k
      exact if_true_of (by rfl) ⟨(by show 1 ≤ 16777216; decide), fun x hx => AnsW.plain k M (Same.refl H) hx⟩
    | true =>
      rw [e, if_neg (by decide)] at k
      refine if_false_of (by rfl) ?_
      refine ⟨_, rfl, an, _, _, _, rfl, rfl, SqL.of hN, at_nl (i := 0) rfl, ?_⟩
      refine ⟨_, rfl, 2, rfl, an, _, rfl, SqL.of hN, fun q hq => ?_⟩
      have hcut : cutV (nl (n :: c :: l)) (some (2 : Int)) none = nl l := by
        rw [show (2 : Int) = ((2 : Nat) : Int) from rfl, cut_from]
        rfl
      have hqv : upd H q (.lst (cutV (nl (n :: c :: l)) (some (2 : Int)) none)) q = some (.lst (nl l)) := by
        rw [upd_same, hcut]
      have s1 := same_new hq (o := .lst (cutV (nl (n :: c :: l)) (some (2 : Int)) none))
      refine ⟨n, q, l, rfl, SqL.of hqv, hb, by omega, ?_⟩
      cases er : (if Sd62.LONG < n then none else Sd62.read l : Option Sd62.St) with
      | none =>
        rw [er] at k
        intro H1 s2
        refine ⟨_, rfl, rfl, _, rfl, if_true_of (decide_eq_true rfl) ⟨(by show 1 ≤ 16777216; decide), fun x hx => ?_⟩⟩
        exact AnsW.plain k M (s1.trans s2) hx
      | some s2 =>
        rw [er] at k
        dsimp only at k
        intro H1 r1 N1
        have N0 : NewAt C H H1 r1 s2 := ⟨N1.st, s1.trans N1.same, fun b hb => Same.free s1 (N1.new b hb)⟩
        refine ⟨_, rfl, rfl, _, rfl, if_false_of (decide_eq_false (fun z => by cases z)) ?_⟩
        refine ⟨_, rfl, _, rfl, r1, s2, rfl, N1.st, fun H2 s3 => ?_⟩
        have N2 := N0.on s3
        refine ⟨c, Sd62.used s2, rfl, _, rfl, ?_⟩
        cases eh : Sd62.hasAll c (Sd62.used s2) with
        | false =>
          rw [eh, if_pos rfl] at k
          exact if_true_of (by rfl) ⟨(by show 1 ≤ 16777216; decide), fun x hx => AnsW.plain k M N2.same hx⟩
        | true =>
          rw [eh, if_neg (by decide)] at k
          dsimp only [partsOf, stateOf] at k
          refine if_false_of (by rfl) ?_
          have h2m := N2.same _ _ hm
          refine ⟨_, rfl, _, rfl, am, CM, dm, _, rfl, h2m, TM.cl, TM.nC, (by show 2 < 1000; decide), ?_⟩
          rw [mF_pc]
          refine ⟨_, rfl, _, rfl, am, CM, dm, _, rfl, upd_same, TM.cl, TM.nS, (by show 2 < 1000; decide), ?_⟩
          rw [mF_ps]
          have nf2 : am ∉ r1.foot := fun z => by
            have q := N2.new _ z
            rw [hm] at q
            cases q
          generalize hH3 : upd (upd H2 am _) am _ = H3
          have h3m : H3 am = some (.ins CM dm (mF (nv c) (.ref r1.a))) := by rw [← hH3]; exact upd_same
          have h3o : ∀ b o, H2 b = some o → b ≠ am → H3 b = some o := fun b o h n => by rw [← hH3, upd_ne n, upd_ne n]; exact h
          have S3 : StAt C H3 r1 s2 := N2.st.keep fun b hb o h => h3o b o h fun z => nf2 (by rw [← z]; exact hb)
          refine ⟨(by show 1 ≤ 16777216; decide), fun y hy => ?_⟩
          have s4 := same_new hy (o := .lst [V.int 0])
          refine k _ r1 y ⟨⟨dm, s4 _ _ h3m⟩, S3.same s4, nf2⟩ (fun b hb => .inr (N2.new b hb)) (fun b o h _ n2 => s4 _ _ (h3o b o (N2.same _ _ h) n2)) (fun b o h _ n2 z => ?_) upd_same
          have q := h3o b o (N2.same _ _ h) n2
          rw [z, hy] at q
          cases q
/-! ### turn -/
def spOpF (n : Nat) (lead : Nat) : Sp := fun vs H Q _ => ∃ (an : Addr) (ns : List Nat) (q : Sd62.Call), vs = [.ref an] ∧ H an = some (.lst (nl ns)) ∧ Sd62Neutral.callOf (n :: ns) = some q ∧ (∀ x ∈ ns.drop lead, x < 256) ∧ ns.length ≤ 30000 ∧ NewA H (ansOf (Sd62.spec none q).2) Q
theorem call_turn {ns : List Nat} {q : Sd62.Call} (h : Sd62Neutral.callOf (4 :: ns) = some q) : ∃ n room form p l, ns = n :: room :: form :: p :: l ∧ q = .turn l n room form p := by
  match ns, h with
  | n :: room :: form :: p :: l, h =>
    have h : (if l.length = Sd62Neutral.within_ n Sd62.LONG then some (Sd62.Call.turn l n room form p) else none) = some q := h
    by_cases c : l.length = Sd62Neutral.within_ n Sd62.LONG
    · rw [if_pos c] at h
      exact ⟨n, room, form, p, l, rfl, (Option.some.inj h).symm⟩
    · rw [if_neg c] at h
      cases h
theorem spec_turn (o : Option Sd62.Obj) (l : List Nat) (n room form p : Nat) : Sd62.spec o (.turn l n room form p) = (o, if 1 < form ∨ Sd62.isMachine p = false then Sd62.only (-1) else match (if Sd62.LONG < n then none else Sd62.read l) with
    | none => Sd62.only (-2)
    | some s => if Sd62.hasAll p (Sd62.used s) = false then Sd62.only (-3) else Sd62.put room form p s) := by
  unfold Sd62.spec
  dsimp only
  by_cases c0 : 1 < form ∨ Sd62.isMachine p = false
  · rw [if_pos c0, if_pos c0]
  · rw [if_neg c0, if_neg c0]
    by_cases c : Sd62.LONG < n
    · rw [if_pos c, if_pos c]
    · rw [if_neg c, if_neg c]
      cases Sd62.read l with
      | none => rfl
      | some s =>
        dsimp only
        split <;> rfl
abbrev sTurn : Stmt := top 78
theorem scTurn : FnScope ["numbers", "form", "components", "state"] ["numbers"] (defScope sTurn) := ⟨rfl, rfl, rfl, by decide +kernel, rfl, by decide +kernel, by decide +kernel⟩
theorem ok_turn {C : Addr} {f : Addr} {fd : FuncData} (F : Fun K "turn" "turn" sTurn f fd) (TO : TxtO K mg)
    (CR : Cal P w K mg base 8 "read_state" ["count", "content"] (spReadS K C)) (CC : Cal P w K mg base 1 "has_components" ["components", "needed"] spHas) (CU : Cal P w K mg base 3 "weights_in_use" ["state"] (spUsed C))
    (CW : Cal P w K mg base 6 "written_state" ["state", "components", "room", "form"] (spWritS C)) :
    FnOk P w K mg base CX0 9 f fd ["numbers"] (spOpF 4 4) := by
  obtain ⟨aM, eM, tM⟩ := TO.machines
  obtain ⟨tO, eO⟩ := TO.range
  obtain ⟨tB, eB⟩ := TO.bytes
  obtain ⟨tN, eN⟩ := TO.comps
  obtain ⟨f_R, fd_R, m_R, k_R, b_R, G_R⟩ := CR.ok
  obtain ⟨f_C, fd_C, m_C, k_C, b_C, G_C⟩ := CC.ok
  obtain ⟨f_U, fd_U, m_U, k_U, b_U, G_U⟩ := CU.ok
  obtain ⟨f_W, fd_W, m_W, k_W, b_W, G_W⟩ := CW.ok
  refine F.ok scTurn (fun vs H Q E h => ?_) (fun cdv A outer sh H vs Q E hr h => ?_)
  · obtain ⟨an, ns, q, rfl, _⟩ := h
    rfl
  · obtain ⟨an, ns, q, rfl, hN, hc, hb, hlen, k⟩ := h
    obtain ⟨n, room, form, c, l, rfl, rfl⟩ := call_turn hc
    have hr8 : Room 8 _ := hr.mono (by decide)
    have hr6 : Room 6 _ := hr.mono (by decide)
    have hr3 : Room 3 _ := hr.mono (by decide)
    have hr1 : Room 1 _ := hr.mono (by decide)
    have hb : ∀ x ∈ l, x < 256 := hb
    have hlen : l.length + 1 + 1 + 1 + 1 ≤ 30000 := hlen
    refine ⟨_, (pss_cons (ps_set (i := 1) scTurn.nd rfl (.inl rfl) (pe_ix (ix_listK (K := K)) (pv 0) pe_int (fun _ _ => rfl)))
      (pss_cons (ps_set (i := 2) scTurn.nd rfl (.inl rfl) (pe_ix (ix_listK (K := K)) (pv 0) pe_int (fun _ _ => rfl)))
      (pss_cons (ps_if (PW.pt (pw_or (pt_cmpR n_gt (pv 1) pe_int (nomark _)) (pw_or1 (pt_cmpR op_notIn_seq (pv 2) (pe_glob (v := .ref aM) rfl eM rfl) (by rfl)))))
        (pss_one (ps_ret (pe_lst (pa_cons (pe_glob (v := .int (-1)) rfl eO ⟨_, rfl⟩) pa_nil))))
        pss_nil)
      (pss_cons (ps_set (i := 3) scTurn.nd rfl (.inl rfl) (pe_call G_R hr8 rfl m_R k_R b_R .nil pass0 (pa_cons (pe_ix (ix_listK (K := K)) (pv 0) pe_int (fun _ _ => rfl)) (pa_cons (pe_slice sl_list (pv 0) (po_some pe_int) po_none) pa_nil))))
      (pss_cons (ps_if (pt_cmpR op_isN (pv 3) pe_non (nomark _))
        (pss_one (ps_ret (pe_lst (pa_cons (pe_glob (v := .int (-2)) rfl eB ⟨_, rfl⟩) pa_nil))))
        pss_nil)
      (pss_cons (ps_if (pt_not (pt_val (pe_call G_C hr1 rfl m_C k_C b_C .nil pass0 (pa_cons (pv 2) (pa_cons (pe_call G_U hr3 rfl m_U k_U b_U .nil pass0 (pa_cons (pv 3) pa_nil)) pa_nil)))))
        (pss_one (ps_ret (pe_lst (pa_cons (pe_glob (v := .int (-3)) rfl eN ⟨_, rfl⟩) pa_nil))))
        pss_nil)
      (pss_one (ps_ret (pe_call G_W hr6 rfl m_W k_W b_W .nil pass0 (pa_cons (pv 3) (pa_cons (pv 2) (pa_cons (pe_ix (ix_listK (K := K)) (pv 0) pe_int (fun _ _ => rfl)) (pa_cons (pv 1) pa_nil))))))))))))), ?_⟩
    refine ⟨_, rfl, an, _, _, _, rfl, rfl, SqL.of hN, at_nl (i := 2) rfl, _, rfl, an, _, _, _, rfl, rfl, SqL.of hN, at_nl (i := 3) rfl, ?_⟩
    rw [spec_turn] at k
    dsimp only at k
    refine ⟨_, rfl, _, 1, rfl, rfl, _, rfl, ite2 (fun c1 => ?_) (fun c1 => ?_)⟩
    · rw [if_pos (.inl (of_decide_eq_true c1))] at k
      exact ⟨(by show 1 ≤ 16777216; decide), fun x hx => k.plain (Same.refl H) hx⟩
    have n1 : ¬ 1 < form := fun z => c1 (decide_eq_true z)
    refine ⟨_, rfl, aM, _, rfl, .inr (tM _), rfl, rfl, _, rfl, ?_⟩
    rw [show (if (true = true) then !inV (nv c) (nl [3, 7, 231]) else inV (nv c) (nl [3, 7, 231])) = !Sd62.isMachine c from by rw [if_pos rfl, in_machines]]
    cases e : Sd62.isMachine c with
    | false =>
      rw [if_pos (.inr e)] at k
      exact if_true_of (by rfl) ⟨(by show 1 ≤ 16777216; decide), fun x hx => k.plain (Same.refl H) hx⟩
    | true =>
      rw [if_neg (fun h => h.elim n1 fun z => by rw [e] at z; cases z)] at k
      refine if_false_of (by rfl) ?_
      refine ⟨_, rfl, an, _, _, _, rfl, rfl, SqL.of hN, at_nl (i := 0) rfl, ?_⟩
      refine ⟨_, rfl, 4, rfl, an, _, rfl, SqL.of hN, fun q hq => ?_⟩
      have hcut : cutV (nl (n :: room :: form :: c :: l)) (some (4 : Int)) none = nl l := by
        rw [show (4 : Int) = ((4 : Nat) : Int) from rfl, cut_from]
        rfl
      have hqv : upd H q (.lst (cutV (nl (n :: room :: form :: c :: l)) (some (4 : Int)) none)) q = some (.lst (nl l)) := by
        rw [upd_same, hcut]
      have s1 := same_new hq (o := .lst (cutV (nl (n :: room :: form :: c :: l)) (some (4 : Int)) none))
      refine ⟨n, q, l, rfl, SqL.of hqv, hb, by omega, ?_⟩
      cases er : (if Sd62.LONG < n then none else Sd62.read l : Option Sd62.St) with
      | none =>
        rw [er] at k
        intro H1 s2
        refine ⟨_, rfl, rfl, _, rfl, if_true_of (decide_eq_true rfl) ⟨(by show 1 ≤ 16777216; decide), fun x hx => ?_⟩⟩
        exact k.plain (s1.trans s2) hx
      | some s2 =>
        rw [er] at k
        dsimp only at k
        intro H1 r1 N1
        have s11 := s1.trans N1.same
        refine ⟨_, rfl, rfl, _, rfl, if_false_of (decide_eq_false (fun z => by cases z)) ?_⟩
        refine ⟨_, rfl, _, rfl, r1, s2, rfl, N1.st, fun H2 s3 => ?_⟩
        have s12 := s11.trans s3
        refine ⟨c, Sd62.used s2, rfl, _, rfl, ?_⟩
        cases eh : Sd62.hasAll c (Sd62.used s2) with
        | false =>
          rw [eh, if_pos rfl] at k
          exact if_true_of (by rfl) ⟨(by show 1 ≤ 16777216; decide), fun x hx => k.plain s12 hx⟩
        | true =>
          rw [eh, if_neg (by decide)] at k
          refine if_false_of (by rfl) ?_
          exact ⟨_, rfl, _, rfl, _, rfl, an, _, _, _, rfl, rfl, SqL.of (s12 _ _ hN), at_nl (i := 1) rfl, _, rfl, r1, s2, c, room, form, rfl, N1.st.same s3, k.on s12⟩
end
end VP

set_option Elab.async false
set_option linter.all false
set_option maxRecDepth 100000
set_option maxHeartbeats 4000000
namespace VP
open PySem PySem.Spec PyProof.Rows L2
section
variable {P : Program} {w : World} {K : PySem.W.Frag} {mg : Str → Option Value} {base : Heap}
/-! ### peek -/
theorem call_peek {ns : List Nat} {q : Sd62.Call} (h : Sd62Neutral.callOf (5 :: ns) = some q) : ∃ n, ns = [n] ∧ q = .peek n := by
  match ns, h with
  | [n], h => exact ⟨n, rfl, (Option.some.inj h).symm⟩
abbrev sPeek : Stmt := top 79
theorem scPeek : FnScope ["machine", "numbers", "number", "words"] ["machine", "numbers"] (defScope sPeek) := ⟨rfl, rfl, rfl, by decide +kernel, rfl, by decide +kernel, by decide +kernel⟩
theorem ok_peek {C CM : Addr} {f : Addr} {fd : FuncData} (F : Fun K "peek" "peek" sPeek f fd) (TM : TxtM K mg CM) (TO : TxtO K mg) (TR : TxtR mg)
    (CU : Cal P w K mg base 3 "weights_in_use" ["state"] (spUsed C)) (CR : Cal P w K mg base 1 "register_words" ["state", "number"] (spRegW C)) (CB : Cal P w K mg base 1 "word_bytes" ["words"] (spWordBytes K)) :
    FnOk P w K mg base CX0 4 f fd ["machine", "numbers"] (spOp C CM 5 1) := by
  obtain ⟨tO, eO⟩ := TO.range
  obtain ⟨tC, eC⟩ := TR.count
  obtain ⟨f_U, fd_U, m_U, k_U, b_U, G_U⟩ := CU.ok
  obtain ⟨f_R, fd_R, m_R, k_R, b_R, G_R⟩ := CR.ok
  obtain ⟨f_B, fd_B, m_B, k_B, b_B, G_B⟩ := CB.ok
  refine F.ok scPeek (fun vs H Q E h => ?_) (fun cdv A outer sh H vs Q E hr h => ?_)
  · obtain ⟨am, an, r, p, s, ns, q, rfl, _⟩ := h
    rfl
  · obtain ⟨am, an, r, p, s, ns, q, rfl, M, hN, nf, nm, hc, hb, hlen, k⟩ := h
    obtain ⟨n, rfl, rfl⟩ := call_peek hc
    have hr3 : Room 3 _ := hr.mono (by decide)
    have hr1 : Room 1 _ := hr.mono (by decide)
    obtain ⟨⟨dm, hm⟩, S, nam⟩ := id M
    refine ⟨_, (pss_cons (ps_set (i := 2) scPeek.nd rfl (.inl rfl) (pe_ix (ix_listK (K := K)) (pv 1) pe_int (fun _ _ => rfl)))
      (pss_cons (ps_if (pt_cmpR n_gt (pv 2) (pe_glob (v := .int 48) rfl eC ⟨_, rfl⟩) (nomark _))
        (pss_one (ps_ret (pe_lst (pa_cons (pe_glob (v := .int (-1)) rfl eO ⟨_, rfl⟩) pa_nil))))
        pss_nil)
      (pss_cons (ps_if (pt_cmpR n_eq (pv 2) (pe_glob (v := .int 48) rfl eC ⟨_, rfl⟩) (nomark _))
        (pss_one (ps_set (i := 3) scPeek.nd rfl (.inl rfl) (pe_lst (pa_cons (pe_call G_U hr3 rfl m_U k_U b_U .nil pass0 (pa_cons (pe_fldK (K := K) (pv 0)) pa_nil)) (pa_cons (pe_fldK (K := K) (pv 0)) (pa_cons pe_int (pa_cons pe_int (pa_cons pe_int (pa_cons pe_int (pa_cons pe_int (pa_cons pe_int pa_nil)))))))))))
        (pss_one (ps_set (i := 3) scPeek.nd rfl (.inl rfl) (pe_call G_R hr1 rfl m_R k_R b_R .nil pass0 (pa_cons (pe_fldK (K := K) (pv 0)) (pa_cons (pv 2) pa_nil))))))
      (pss_one (ps_ret (pe_op op_cat (pe_lst (pa_cons pe_int pa_nil)) (pe_call G_B hr1 rfl m_B k_B b_B .nil pass0 (pa_cons (pv 3) pa_nil)))))))), ?_⟩
    refine ⟨_, rfl, an, _, _, _, rfl, rfl, SqL.of hN, at_nl (i := 0) rfl, ?_⟩
    unfold Sd62.spec at k
    dsimp only at k
    refine ⟨_, rfl, _, 48, rfl, rfl, _, rfl, ite2 (fun c => ?_) (fun c => ?_)⟩
    · rw [if_pos (of_decide_eq_true c)] at k
      exact ⟨(by show 1 ≤ 16777216; decide), fun x hx => AnsW.plain k M (Same.refl H) hx⟩
    have hn : ¬ 48 < n := fun z => c (decide_eq_true z)
    rw [if_neg hn] at k
    dsimp only [partsOf, stateOf] at k
    refine ⟨_, rfl, _, 48, rfl, rfl, _, rfl, ite2 (fun c => ?_) (fun c => ?_)⟩
    · obtain rfl : n = 48 := of_decide_eq_true c
      rw [VM.register_48] at k
      dsimp only at k
      refine ⟨_, rfl, am, CM, dm, _, _, rfl, hm, TM.cl, TM.nS, mF_s, r, s, rfl, S, fun H1 s1 => ?_⟩
      refine ⟨_, rfl, am, CM, dm, _, _, rfl, s1 _ _ hm, TM.cl, TM.nC, mF_c, (by show 8 ≤ 16777216; decide), fun q hq => ?_⟩
      have s2 := same_lay s1 hq (o := .lst (nl [Sd62.used s, p, 0, 0, 0, 0, 0, 0]))
      have h2 : upd H1 q (.lst (nl [Sd62.used s, p, 0, 0, 0, 0, 0, 0])) q = some (.lst (nl [Sd62.used s, p, 0, 0, 0, 0, 0, 0])) := upd_same
      show _
      generalize hH2 : upd H1 q _ = H2
      have hH2 : upd H1 q (.lst (nl [Sd62.used s, p, 0, 0, 0, 0, 0, 0])) = H2 := hH2
      rw [hH2] at s2 h2
      refine ⟨(by show 1 ≤ 16777216; decide), fun t ht => ?_⟩
      have st := same_lay s2 ht (o := .lst [V.int 0])
      have nqt : q ≠ t := ne_of_none h2 ht
      refine ⟨_, rfl, q, _, rfl, SqL.of (by rw [upd_ne nqt]; exact h2), (by show 8 ≤ 1000; decide), fun G b e hb2 hl => ?_⟩
      refine ⟨t, b, _, _, rfl, rfl, e _ _ upd_same, hl, ?_, fun x hx => ?_⟩
      · rw [nl_length, VM.words_length, (show ([Sd62.used s, p, 0, 0, 0, 0, 0, 0] : List Nat).length = 8 from rfl)]
        decide
      · have fin := k.plain M (st.trans e) hx
        have ea : [V.int 0] ++ nl (Sd62.words [Sd62.used s, p, 0, 0, 0, 0, 0, 0]) = (ansOf ⟨0, Sd62.words [Sd62.used s, p, 0, 0, 0, 0, 0, 0]⟩).map V.int := by
          unfold ansOf
          dsimp only
          rw [if_neg (by omega), List.map_cons, List.map_map]
          rfl
        rw [ea]
        exact fin
    · have hn48 : n < 48 := by
        have : n ≠ 48 := fun z => c (decide_eq_true z)
        omega
      rw [VM.register_reg _ hn48] at k
      dsimp only at k
      have hW := VM.regW_length S.wf hn48
      refine ⟨_, rfl, am, CM, dm, _, _, rfl, hm, TM.cl, TM.nS, mF_s, _, rfl, r, s, n, rfl, S, hn48, fun H2 q s2 hq h2 => ?_⟩
      generalize VM.regW s n = ws at *
      refine ⟨(by show 1 ≤ 16777216; decide), fun t ht => ?_⟩
      have st := same_lay s2 ht (o := .lst [V.int 0])
      have nqt : q ≠ t := ne_of_none h2 ht
      refine ⟨_, rfl, q, _, rfl, SqL.of (by rw [upd_ne nqt]; exact h2), (by omega), fun G b e hb2 hl => ?_⟩
      refine ⟨t, b, _, _, rfl, rfl, e _ _ upd_same, hl, ?_, fun x hx => ?_⟩
      · rw [nl_length, VM.words_length, hW]
        decide
      · have fin := k.plain M (st.trans e) hx
        have ea : [V.int 0] ++ nl (Sd62.words ws) = (ansOf ⟨0, Sd62.words ws⟩).map V.int := by
          unfold ansOf
          dsimp only
          rw [if_neg (by omega), List.map_cons, List.map_map]
          rfl
        rw [ea]
        exact fin
/-! ### poke -/
theorem call_poke {ns : List Nat} {q : Sd62.Call} (h : Sd62Neutral.callOf (6 :: ns) = some q) : ∃ n l, ns = n :: l ∧ q = .poke n l := by
  match ns, h with
  | n :: l, h =>
    have h : (if l.length = 64 then some (Sd62.Call.poke n l) else none) = some q := h
    by_cases c : l.length = 64
    · rw [if_pos c] at h
      exact ⟨n, l, rfl, (Option.some.inj h).symm⟩
    · rw [if_neg c] at h
      cases h
abbrev sPoke : Stmt := top 80
theorem scPoke : FnScope ["machine", "numbers", "number", "words", "state"] ["machine", "numbers"] (defScope sPoke) := ⟨rfl, rfl, rfl, by decide +kernel, rfl, by decide +kernel, by decide +kernel⟩
theorem ok_poke {C CM : Addr} {f : Addr} {fd : FuncData} (F : Fun K "poke" "poke" sPoke f fd) (TM : TxtM K mg CM) (TO : TxtO K mg) (TR : TxtR mg)
    (CU : Cal P w K mg base 3 "weights_in_use" ["state"] (spUsed C)) (CH : Cal P w K mg base 1 "has_components" ["components", "needed"] spHas) (CA : Cal P w K mg base 1 "words_at" ["content", "at", "count"] (spWordsAt K))
    (CD : Cal P w K mg base 1 "can_hold" ["number", "words"] (spHold K)) (CC : Cal P w K mg base 3 "copy_state" ["state"] (spCopy C)) (CP : Cal P w K mg base 1 "put_register" ["state", "number", "words"] (spPutR C)) :
    FnOk P w K mg base CX0 4 f fd ["machine", "numbers"] (spOp C CM 6 1) := by
  obtain ⟨tO, eO⟩ := TO.range
  obtain ⟨tB, eB⟩ := TO.bytes
  obtain ⟨tN, eN⟩ := TO.comps
  obtain ⟨tC, eC⟩ := TR.count
  obtain ⟨f_U, fd_U, m_U, k_U, b_U, G_U⟩ := CU.ok
  obtain ⟨f_H, fd_H, m_H, k_H, b_H, G_H⟩ := CH.ok
  obtain ⟨f_A, fd_A, m_A, k_A, b_A, G_A⟩ := CA.ok
  obtain ⟨f_D, fd_D, m_D, k_D, b_D, G_D⟩ := CD.ok
  obtain ⟨f_C, fd_C, m_C, k_C, b_C, G_C⟩ := CC.ok
  obtain ⟨f_P, fd_P, m_P, k_P, b_P, G_P⟩ := CP.ok
  refine F.ok scPoke (fun vs H Q E h => ?_) (fun cdv A outer sh H vs Q E hr h => ?_)
  · obtain ⟨am, an, r, p, s, ns, q, rfl, _⟩ := h
    rfl
  · obtain ⟨am, an, r, p, s, ns, q, rfl, M, hN, nf, nm, hc, hb, hlen, k⟩ := h
    obtain ⟨n, l, rfl, rfl⟩ := call_poke hc
    have hr3 : Room 3 _ := hr.mono (by decide)
    have hr1 : Room 1 _ := hr.mono (by decide)
    have hb : ∀ x ∈ l, x < 256 := hb
    obtain ⟨⟨dm, hm⟩, S, nam⟩ := id M
    refine ⟨_, (pss_cons (ps_set (i := 2) scPoke.nd rfl (.inl rfl) (pe_ix (ix_listK (K := K)) (pv 1) pe_int (fun _ _ => rfl)))
      (pss_cons (ps_if (pt_cmpR n_ge (pv 2) (pe_glob (v := .int 48) rfl eC ⟨_, rfl⟩) (nomark _))
        (pss_one (ps_ret (pe_lst (pa_cons (pe_glob (v := .int (-1)) rfl eO ⟨_, rfl⟩) pa_nil))))
        pss_nil)
      (pss_cons (ps_set (i := 3) scPoke.nd rfl (.inl rfl) (pe_call G_A hr1 rfl m_A k_A b_A .nil pass0 (pa_cons (pv 1) (pa_cons pe_int (pa_cons pe_int pa_nil)))))
      (pss_cons (ps_if (pt_not (pt_val (pe_call G_D hr1 rfl m_D k_D b_D .nil pass0 (pa_cons (pv 2) (pa_cons (pv 3) pa_nil)))))
        (pss_one (ps_ret (pe_lst (pa_cons (pe_glob (v := .int (-2)) rfl eB ⟨_, rfl⟩) pa_nil))))
        pss_nil)
      (pss_cons (ps_set (i := 4) scPoke.nd rfl (.inl rfl) (pe_call G_C hr3 rfl m_C k_C b_C .nil pass0 (pa_cons (pe_fldK (K := K) (pv 0)) pa_nil)))
      (pss_cons (ps_expr (pe_call G_P hr1 rfl m_P k_P b_P .nil pass0 (pa_cons (pv 4) (pa_cons (pv 2) (pa_cons (pv 3) pa_nil)))))
      (pss_cons (ps_if (pt_not (pt_val (pe_call G_H hr1 rfl m_H k_H b_H .nil pass0 (pa_cons (pe_fldK (K := K) (pv 0)) (pa_cons (pe_call G_U hr3 rfl m_U k_U b_U .nil pass0 (pa_cons (pv 4) pa_nil)) pa_nil)))))
        (pss_one (ps_ret (pe_lst (pa_cons (pe_glob (v := .int (-3)) rfl eN ⟨_, rfl⟩) pa_nil))))
        pss_nil)
      (pss_cons (ps_fld (pv 0) (pv 4) rfl)
      (pss_one (ps_ret (pe_lst (pa_cons pe_int pa_nil)))))))))))), ?_⟩
    refine ⟨_, rfl, an, _, _, _, rfl, rfl, SqL.of hN, at_nl (i := 0) rfl, ?_⟩
    unfold Sd62.spec at k
    dsimp only at k
    refine ⟨_, rfl, _, 48, rfl, rfl, _, rfl, ite2 (fun c => ?_) (fun c => ?_)⟩
    · have hn : 48 ≤ n := of_decide_eq_true c
      rw [if_pos (by omega)] at k
      exact ⟨(by show 1 ≤ 16777216; decide), fun x hx => AnsW.plain k M (Same.refl H) hx⟩
    have hn : n < 48 := Nat.lt_of_not_le fun z => c (decide_eq_true z)
    rw [if_neg (by omega), VM.given_eq] at k
    refine ⟨_, rfl, an, n :: l, 1, 8, rfl, SqL.of hN, by decide, by decide, fun H1 q s1 hq hl => ?_⟩
    rw [VM.numbers_cons n l 0 8] at hl
    have hw8 : (Sd62.numbers l 0 8).length = 8 := VM.numbers_length _ _ _
    have hwb := numbers_lt hb 0 8
    generalize Sd62.numbers l 0 8 = ws at *
    refine ⟨_, rfl, _, rfl, n, q, ws, rfl, SqL.of hl, by omega, fun H2 s2 => ?_⟩
    have s12 := s1.trans s2
    refine ⟨_, rfl, ?_⟩
    cases eg : VM.holds n ws with
    | false =>
      rw [eg, if_neg (by decide)] at k
      exact if_true_of (by rfl) ⟨(by show 1 ≤ 16777216; decide), fun x hx => AnsW.plain k M s12 hx⟩
    | true =>
      rw [eg, if_pos rfl] at k
      dsimp only at k
      refine if_false_of (by rfl) ?_
      refine ⟨_, rfl, am, CM, dm, _, _, rfl, s12 _ _ hm, TM.cl, TM.nS, mF_s, r, s, rfl, S.same s12, fun H3 r3 N3 => ?_⟩
      have N3' : NewAt C H H3 r3 s := ⟨N3.st, s12.trans N3.same, fun b hb => Same.free s12 (N3.new b hb)⟩
      refine ⟨_, rfl, _, rfl, _, rfl, r3, s, n, q, ws, rfl, N3.st, hn, N3.same _ _ (s2 _ _ hl), hw8, hwb, fun H4 r4 S4 a4 g1 g2 => ?_⟩
      have N4 := N3'.mod S4 g1 g2
      have h4m := N4.same _ _ hm
      refine ⟨_, rfl, am, CM, dm, _, _, rfl, h4m, TM.cl, TM.nC, mF_c, _, rfl, r4, _, (by rw [a4]; rfl), N4.st, fun H5 s5 => ?_⟩
      have N5 := N4.on s5
      generalize VM.putR s n ws = s' at *
      refine ⟨p, Sd62.used s', rfl, _, rfl, ?_⟩
      cases eh : Sd62.hasAll p (Sd62.used s') with
      | false =>
        rw [eh, if_pos rfl] at k
        exact if_true_of (by rfl) ⟨(by show 1 ≤ 16777216; decide), fun x hx => AnsW.plain k M N5.same hx⟩
      | true =>
        rw [eh, if_neg (by decide)] at k
        dsimp only [partsOf, stateOf] at k
        refine if_false_of (by rfl) ?_
        have h5m := N5.same _ _ hm
        refine ⟨_, rfl, _, rfl, am, CM, dm, _, rfl, h5m, TM.cl, TM.nS, (by show 2 < 1000; decide), ?_⟩
        rw [mF_ps, ← a4]
        have nf4 : am ∉ r4.foot := fun z => by
          have q := N5.new _ z
          rw [hm] at q
          cases q
        generalize hH6 : upd H5 am _ = H6
        have h6m : H6 am = some (.ins CM dm (mF (nv p) (.ref r4.a))) := by rw [← hH6]; exact upd_same
        have h6o : ∀ b o, H5 b = some o → b ≠ am → H6 b = some o := fun b o h n => by rw [← hH6, upd_ne n]; exact h
        have S6 : StAt C H6 r4 s' := N5.st.keep fun b hb o h => h6o b o h fun z => nf4 (by rw [← z]; exact hb)
        refine ⟨(by show 1 ≤ 16777216; decide), fun y hy => ?_⟩
        have s7 := same_new hy (o := .lst [V.int 0])
        refine k _ r4 y ⟨⟨dm, s7 _ _ h6m⟩, S6.same s7, nf4⟩ (fun b hb => .inr (N5.new b hb)) (fun b o h _ n2 => s7 _ _ (h6o b o (N5.same _ _ h) n2)) (fun b o h _ n2 z => ?_) upd_same
        have q := h6o b o (N5.same _ _ h) n2
        rw [z, hy] at q
        cases q
/-! ### differ -/
theorem call_differ {ns : List Nat} {q : Sd62.Call} (h : Sd62Neutral.callOf (7 :: ns) = some q) : ∃ a b l, ns = a :: b :: l ∧ q = .differ (l.take (Sd62Neutral.within_ a Sd62.LONG)) (l.drop (Sd62Neutral.within_ a Sd62.LONG)) a b := by
  match ns, h with
  | a :: b :: l, h =>
    have h : (if l.length = Sd62Neutral.within_ a Sd62.LONG + Sd62Neutral.within_ b Sd62.LONG then some (Sd62.Call.differ (l.take (Sd62Neutral.within_ a Sd62.LONG)) (l.drop (Sd62Neutral.within_ a Sd62.LONG)) a b) else none) = some q := h
    by_cases c : l.length = Sd62Neutral.within_ a Sd62.LONG + Sd62Neutral.within_ b Sd62.LONG
    · rw [if_pos c] at h
      exact ⟨a, b, l, rfl, (Option.some.inj h).symm⟩
    · rw [if_neg c] at h
      cases h
theorem spec_differ (o : Option Sd62.Obj) (a b : List Nat) (na nb : Nat) : Sd62.spec o (.differ a b na nb) = (o, if Sd62.LONG < na ∨ Sd62.LONG < nb then Sd62.only (-2) else match Sd62.read a, Sd62.read b with
    | some s, some t => Sd62.only ((VM.diff s t : Nat) : Int)
    | _, _ => Sd62.only (-2)) := by
  unfold Sd62.spec
  dsimp only
  by_cases c : Sd62.LONG < na ∨ Sd62.LONG < nb
  · rw [if_pos c, if_pos c]
  · rw [if_neg c, if_neg c]
    cases Sd62.read a with
    | none => rfl
    | some s =>
      cases Sd62.read b with
      | none => rfl
      | some t =>
        dsimp only
        rw [VM.diff_eq]
abbrev sDiffer : Stmt := top 81
theorem scDiffer : FnScope ["numbers", "first", "second", "left", "right"] ["numbers"] (defScope sDiffer) := ⟨rfl, rfl, rfl, by decide +kernel, rfl, by decide +kernel, by decide +kernel⟩
theorem ok_differ {C : Addr} {f : Addr} {fd : FuncData} (F : Fun K "differ" "differ" sDiffer f fd) (TO : TxtO K mg)
    (CR : Cal P w K mg base 7 "read_checkpoint" ["content"] (spRead K C fun _ => True)) (CD : Cal P w K mg base 3 "different_weights" ["left", "right"] (spDiff C)) :
    FnOk P w K mg base CX0 8 f fd ["numbers"] (spOpF 7 2) := by
  obtain ⟨tB, eB⟩ := TO.bytes
  obtain ⟨tM, eM⟩ := TO.most
  obtain ⟨f_R, fd_R, m_R, k_R, b_R, G_R⟩ := CR.ok
  obtain ⟨f_D, fd_D, m_D, k_D, b_D, G_D⟩ := CD.ok
  refine F.ok scDiffer (fun vs H Q E h => ?_) (fun cdv A outer sh H vs Q E hr h => ?_)
  · obtain ⟨an, ns, q, rfl, _⟩ := h
    rfl
  · obtain ⟨an, ns, q, rfl, hN, hc, hb, hlen, k⟩ := h
    obtain ⟨a, b, l, rfl, rfl⟩ := call_differ hc
    have hr7 : Room 7 _ := hr.mono (by decide)
    have hr3 : Room 3 _ := hr.mono (by decide)
    have hb : ∀ x ∈ l, x < 256 := hb
    have hlen : l.length + 1 + 1 ≤ 30000 := hlen
    refine ⟨_, (pss_cons (ps_set (i := 1) scDiffer.nd rfl (.inl rfl) (pe_ix (ix_listK (K := K)) (pv 0) pe_int (fun _ _ => rfl)))
      (pss_cons (ps_set (i := 2) scDiffer.nd rfl (.inl rfl) (pe_ix (ix_listK (K := K)) (pv 0) pe_int (fun _ _ => rfl)))
      (pss_cons (ps_if (PW.pt (pw_or (pt_cmpR n_gt (pv 1) (pe_glob (v := .int 2688) rfl eM ⟨_, rfl⟩) (nomark _)) (pw_or1 (pt_cmpR n_gt (pv 2) (pe_glob (v := .int 2688) rfl eM ⟨_, rfl⟩) (nomark _)))))
        (pss_one (ps_ret (pe_lst (pa_cons (pe_glob (v := .int (-2)) rfl eB ⟨_, rfl⟩) pa_nil))))
        pss_nil)
      (pss_cons (ps_set (i := 3) scDiffer.nd rfl (.inl rfl) (pe_call G_R hr7 rfl m_R k_R b_R .nil pass0 (pa_cons (pe_slice sl_list (pv 0) (po_some pe_int) (po_some (pe_op n_add pe_int (pv 1)))) pa_nil)))
      (pss_cons (ps_set (i := 4) scDiffer.nd rfl (.inl rfl) (pe_call G_R hr7 rfl m_R k_R b_R .nil pass0 (pa_cons (pe_slice sl_list (pv 0) (po_some (pe_op n_add pe_int (pv 1))) po_none) pa_nil)))
      (pss_cons (ps_if (PW.pt (pw_or (pt_cmpR op_isN (pv 3) pe_non (nomark _)) (pw_or1 (pt_cmpR op_isN (pv 4) pe_non (nomark _)))))
        (pss_one (ps_ret (pe_lst (pa_cons (pe_glob (v := .int (-2)) rfl eB ⟨_, rfl⟩) pa_nil))))
        pss_nil)
      (pss_one (ps_ret (pe_lst (pa_cons (pe_call G_D hr3 rfl m_D k_D b_D .nil pass0 (pa_cons (pv 3) (pa_cons (pv 4) pa_nil))) pa_nil)))))))))), ?_⟩
    refine ⟨_, rfl, an, _, _, _, rfl, rfl, SqL.of hN, at_nl (i := 0) rfl, _, rfl, an, _, _, _, rfl, rfl, SqL.of hN, at_nl (i := 1) rfl, ?_⟩
    rw [spec_differ] at k
    dsimp only at k
    refine ⟨_, rfl, _, 2688, rfl, rfl, _, rfl, ite2 (fun c => ?_) (fun c => ?_)⟩
    · rw [if_pos (.inl (of_decide_eq_true c))] at k
      exact ⟨(by show 1 ≤ 16777216; decide), fun x hx => k.plain (Same.refl H) hx⟩
    have n1 : ¬ Sd62.LONG < a := fun z => c (decide_eq_true z)
    refine ⟨_, rfl, _, 2688, rfl, rfl, _, rfl, ite2 (fun c => ?_) (fun c => ?_)⟩
    · rw [if_pos (.inr (of_decide_eq_true c))] at k
      exact ⟨(by show 1 ≤ 16777216; decide), fun x hx => k.plain (Same.refl H) hx⟩
    have n2 : ¬ Sd62.LONG < b := fun z => c (decide_eq_true z)
    rw [if_neg (fun h => h.elim n1 n2), show Sd62Neutral.within_ a Sd62.LONG = a from if_pos (Nat.le_of_not_lt n1)] at k
    -- left
    refine ⟨_, rfl, 2, rfl, _, rfl, 2, a, rfl, rfl, _, rfl, an, _, rfl, SqL.of hN, fun q1 hq1 => ?_⟩
    have hcut1 : cutV (nl (a :: b :: l)) (some (2 : Int)) (some ((2 + a : Nat) : Int)) = nl (l.take a) := by
      rw [show (2 : Int) = ((2 : Nat) : Int) from rfl, cut_both, Nat.add_sub_cancel_left, nl_take]
      rfl
    have hv1 : upd H q1 (.lst (cutV (nl (a :: b :: l)) (some (2 : Int)) (some ((2 + a : Nat) : Int)))) q1 = some (.lst (nl (l.take a))) := by
      rw [upd_same, hcut1]
    have s1 := same_new hq1 (o := .lst (cutV (nl (a :: b :: l)) (some (2 : Int)) (some ((2 + a : Nat) : Int))))
    generalize hH1 : upd H q1 _ = H1
    have hH1 : upd H q1 (.lst (cutV (nl (a :: b :: l)) (some (2 : Int)) (some ((2 + a : Nat) : Int)))) = H1 := hH1
    rw [hH1] at hv1 s1
    have right : ∀ (G : Hp), Same H G → ∀ (q2 : Addr), G q2 = none → upd G q2 (.lst (cutV (nl (a :: b :: l)) (some ((2 + a : Nat) : Int)) none)) q2 = some (.lst (nl (l.drop a))) ∧ Same H (upd G q2 (.lst (cutV (nl (a :: b :: l)) (some ((2 + a : Nat) : Int)) none))) := fun G e q2 hq2 => by
      refine ⟨?_, same_lay e hq2⟩
      rw [upd_same, cut_from, ← nl_drop, Nat.add_comm]
      rfl
    refine ⟨q1, l.take a, rfl, SqL.of hv1, (fun x hx => hb x (List.mem_of_mem_take hx)), (by rw [List.length_take]; omega), trivial, ?_⟩
    have hbr : ∀ x ∈ l.drop a, x < 256 := fun x hx => hb x (List.mem_of_mem_drop hx)
    have hlr : (l.drop a).length ≤ 100000 := by
      rw [List.length_drop]
      omega
    cases er1 : Sd62.read (l.take a) with
    | none =>
      rw [er1] at k
      intro H2 s2
      have s12 := s1.trans s2
      refine ⟨_, rfl, _, rfl, 2, a, rfl, rfl, _, rfl, an, _, rfl, SqL.of (s12 _ _ hN), fun q2 hq2 => ?_⟩
      obtain ⟨hv2, s3⟩ := right H2 s12 q2 hq2
      refine ⟨q2, l.drop a, rfl, SqL.of hv2, hbr, hlr, trivial, ?_⟩
      cases er2 : Sd62.read (l.drop a) with
      | none =>
        intro H4 s4
        exact ⟨_, rfl, rfl, _, rfl, if_true_of (decide_eq_true rfl) ⟨(by show 1 ≤ 16777216; decide), fun x hx => k.plain (s3.trans s4) hx⟩⟩
      | some t2 =>
        intro H4 r4 N4
        exact ⟨_, rfl, rfl, _, rfl, if_true_of (decide_eq_true rfl) ⟨(by show 1 ≤ 16777216; decide), fun x hx => k.plain (s3.trans N4.same) hx⟩⟩
    | some t1 =>
      rw [er1] at k
      intro H2 r2 N2
      have s12 := s1.trans N2.same
      refine ⟨_, rfl, _, rfl, 2, a, rfl, rfl, _, rfl, an, _, rfl, SqL.of (s12 _ _ hN), fun q2 hq2 => ?_⟩
      obtain ⟨hv2, s3⟩ := right H2 s12 q2 hq2
      have S2 := N2.st.same (same_new hq2 (o := .lst (cutV (nl (a :: b :: l)) (some ((2 + a : Nat) : Int)) none)))
      refine ⟨q2, l.drop a, rfl, SqL.of hv2, hbr, hlr, trivial, ?_⟩
      cases er2 : Sd62.read (l.drop a) with
      | none =>
        rw [er2] at k
        intro H4 s4
        refine ⟨_, rfl, rfl, _, rfl, if_false_of (decide_eq_false (fun z => by cases z)) ?_⟩
        exact ⟨_, rfl, rfl, _, rfl, if_true_of (decide_eq_true rfl) ⟨(by show 1 ≤ 16777216; decide), fun x hx => k.plain (s3.trans s4) hx⟩⟩
      | some t2 =>
        rw [er2] at k
        dsimp only at k
        intro H4 r4 N4
        refine ⟨_, rfl, rfl, _, rfl, if_false_of (decide_eq_false (fun z => by cases z)) ?_⟩
        refine ⟨_, rfl, rfl, _, rfl, if_false_of (decide_eq_false (fun z => by cases z)) ?_⟩
        refine ⟨_, rfl, _, rfl, r2, r4, t1, t2, rfl, S2.same N4.same, N4.st, fun H5 s5 => ?_⟩
        refine ⟨(by show 1 ≤ 16777216; decide), fun x hx => ?_⟩
        rw [ans_only] at k
        exact k.plain ((s3.trans N4.same).trans s5) hx
end
end VP

set_option Elab.async false
set_option linter.all false
set_option maxRecDepth 100000
set_option maxHeartbeats 4000000
namespace VP
open PySem PySem.Spec PyProof.Rows L2
section
variable {P : Program} {w : World} {K : PySem.W.Frag} {mg : Str → Option Value} {base : Heap}
/-! ### answers -/
def spAnsOf (C CM : Addr) : Sp := fun vs H Q _ => ∃ (am an : Addr) (r : Rg) (p : Nat) (s : Sd62.St) (n : Nat) (ns : List Nat) (q : Sd62.Call), vs = [.ref am, nv n, .ref an] ∧ MachAt C CM H am r p s ∧ H an = some (.lst (nl ns)) ∧ an ∉ r.foot ∧ an ≠ am ∧
  Sd62Neutral.callOf (n :: ns) = some q ∧ (∀ x ∈ ns.drop (VM.leadOf n), x < 256) ∧ ns.length ≤ 30000 ∧
  AnsW C CM H am r (partsOf p (Sd62.spec (some ⟨p, s⟩) q).1) (stateOf s (Sd62.spec (some ⟨p, s⟩) q).1) (ansOf (Sd62.spec (some ⟨p, s⟩) q).2) Q
/-- the class Machine makes a machine -/
structure CalMach (P : Program) (w : World) (K : PySem.W.Frag) (mg : Str → Option Value) (base : Heap) (C CM : Addr) : Prop where
  ok : ∃ (f : Addr) (fd : FuncData), Mk K CM f ∧ Binds K fd ["self"] [] ∧ FnOk P w K mg base CX0 3 f fd ["self"] (spMInit C CM)
def Of (o : Option Sd62.Obj) (p : Nat) (s : Sd62.St) : Prop := ∀ x, o = some x → x = ⟨p, s⟩
theorem of_spec {o : Option Sd62.Obj} {p : Nat} {s : Sd62.St} (h : Of o p s) {q : Sd62.Call} (hn : Sd62Neutral.needsMachine q = false ∨ o.isSome = true) :
    Of (Sd62.spec o q).1 (partsOf p (Sd62.spec (some ⟨p, s⟩) q).1) (stateOf s (Sd62.spec (some ⟨p, s⟩) q).1) ∧ ansOf (Sd62.spec o q).2 = ansOf (Sd62.spec (some ⟨p, s⟩) q).2 := by
  cases o with
  | some x =>
    obtain rfl := h x rfl
    refine ⟨fun y hy => ?_, rfl⟩
    rw [hy]
    rfl
  | none =>
    have none_of : ∀ {p s}, Of none p s := fun y hy => by cases hy
    cases q with
    | new c =>
      unfold Sd62.spec
      dsimp only
      split
      · exact ⟨fun y hy => by cases hy; rfl, rfl⟩
      · exact ⟨none_of, rfl⟩
    | load l n c =>
      unfold Sd62.spec
      dsimp only
      split
      · exact ⟨none_of, rfl⟩
      · split
        · exact ⟨none_of, rfl⟩
        · cases Sd62.read l with
          | none => exact ⟨none_of, rfl⟩
          | some s2 =>
            dsimp only
            split
            · exact ⟨none_of, rfl⟩
            · exact ⟨fun y hy => by cases hy; rfl, rfl⟩
    | turn l n room how c =>
      unfold Sd62.spec
      dsimp only
      split
      · exact ⟨none_of, rfl⟩
      · split
        · exact ⟨none_of, rfl⟩
        · cases Sd62.read l with
          | none => exact ⟨none_of, rfl⟩
          | some s2 =>
            dsimp only
            split
            · exact ⟨none_of, rfl⟩
            · exact ⟨none_of, rfl⟩
    | differ a b na nb =>
      unfold Sd62.spec
      dsimp only
      split
      · exact ⟨none_of, rfl⟩
      · cases Sd62.read a with
        | none => exact ⟨none_of, rfl⟩
        | some s2 =>
          cases Sd62.read b with
          | none => exact ⟨none_of, rfl⟩
          | some s3 => exact ⟨none_of, rfl⟩
    | run code n f m => rcases hn with hn | hn <;> cases hn
    | save r f => rcases hn with hn | hn <;> cases hn
    | peek w => rcases hn with hn | hn <;> cases hn
    | poke w l => rcases hn with hn | hn <;> cases hn
def outs (o : Option Sd62.Obj) (ds : List (List (List Int))) : List Int := PyFlat.told (PyFlat.played Sd62Neutral.step o ds)
theorem outs_more {o : Option Sd62.Obj} {k : Nat} {ns : List Nat} {q : Sd62.Call} (hq : Sd62Neutral.callOf (k :: ns) = some q) (ds : List (List (List Int))) :
    outs o ([(k : Int) :: VM.toI ns] :: ds) = ((ansOf (Sd62.spec o q).2).length : Int) :: ansOf (Sd62.spec o q).2 ++ outs (Sd62.spec o q).1 ds := by
  have e : Sd62Neutral.step o [(k : Int) :: VM.toI ns] = ((Sd62.spec o q).1, ansOf (Sd62.spec o q).2) := by
    unfold Sd62Neutral.step
    have e1 : Sd62Neutral.callOf (Sd62Neutral.natsOf ((([(k : Int) :: VM.toI ns] : List (List Int))).headD [])) = some q := (congrArg Sd62Neutral.callOf (VM.toI_nats (k :: ns))).trans hq
    rw [e1]
    rfl
  have e2 : PyFlat.played Sd62Neutral.step o ([(k : Int) :: VM.toI ns] :: ds) = (Sd62Neutral.step o [(k : Int) :: VM.toI ns]).2 :: PyFlat.played Sd62Neutral.step (Sd62Neutral.step o [(k : Int) :: VM.toI ns]).1 ds := rfl
  unfold outs PyFlat.told
  rw [e2, e, List.flatMap_cons]
theorem ready_more {o : Option Sd62.Obj} {k : Nat} {ns : List Nat} {q : Sd62.Call} (hq : Sd62Neutral.callOf (k :: ns) = some q) {ds : List (List (List Int))} (h : Sd62Neutral.ready o ([(k : Int) :: VM.toI ns] :: ds) = true) :
    (Sd62Neutral.needsMachine q = false ∨ o.isSome = true) ∧ Sd62Neutral.ready (Sd62.spec o q).1 ds = true := by
  unfold Sd62Neutral.ready at h
  have e1 : Sd62Neutral.callOf (Sd62Neutral.natsOf ((([(k : Int) :: VM.toI ns] : List (List Int))).headD [])) = some q := (congrArg Sd62Neutral.callOf (VM.toI_nats (k :: ns))).trans hq
  rw [e1] at h
  dsimp only at h
  rw [Bool.and_eq_true, Bool.or_eq_true] at h
  exact ⟨h.1.imp (fun h => by simpa using h) id, h.2⟩
def spAnswers (K : PySem.W.Frag) : Sp := fun vs H Q _ => ∃ (a : Addr) (l : List Nat), vs = [.ref a] ∧ SqL K H a (nl l) ∧ l.length ≤ 30000 ∧ PySd62.answers_asked (VM.toI l) = true ∧
  ∀ (H' : Hp) (x : Addr), H' x = some (.lst ((PySd62.answers (VM.toI l)).map V.int)) → Q (.ref x) H'
abbrev sAnswers : Stmt := top 87
theorem scAnswers : FnScope ["calls", "machine", "given", "at", "first", "behind", "answer"] ["calls"] (defScope sAnswers) := ⟨rfl, rfl, rfl, by decide +kernel, rfl, by decide +kernel, by decide +kernel⟩
theorem ok_answers {C CM : Addr} {f : Addr} {fd : FuncData} (F : Fun K "answers" "answers" sAnswers f fd) (T : Txt0 mg) (TM : TxtM K mg CM) (CI : CalMach P w K mg base C CM)
    (CA : Cal P w K mg base 10 "answer_of" ["machine", "call", "numbers"] (spAnsOf C CM)) :
    FnOk P w K mg base CX0 11 f fd ["calls"] (spAnswers K) := by
  obtain ⟨f_M, fd_M, M_M, b_M, G_M⟩ := CI.ok
  obtain ⟨f_A, fd_A, m_A, k_A, b_A, G_A⟩ := CA.ok
  refine F.ok scAnswers (fun vs H Q E h => ?_) (fun cdv A outer sh H vs Q E hr h => ?_)
  · obtain ⟨a, l, rfl, _⟩ := h
    rfl
  · obtain ⟨a, l, rfl, hA, hlen, hask, k⟩ := h
    have hrA : Room 10 _ := hr.mono (by decide)
    have hrM : Room 4 _ := hr.mono (by decide)
    refine ⟨_, (pss_cons (ps_set (i := 1) scAnswers.nd rfl (.inl rfl) (pe_make0 M_M G_M hrM rfl TM.gM b_M .nil pass0))
      (pss_cons (ps_set (i := 2) scAnswers.nd rfl (.inl rfl) (pe_lst pa_nil))
      (pss_cons (ps_set (i := 3) scAnswers.nd rfl (.inl rfl) pe_int)
      (pss_cons (ps_while PassesOwn.never (pt_cmpR n_lt (pv 3) (pe_callB call_len_seq (by rfl) T.len PySem.boot_len (pa_cons (pv 0) pa_nil)) (nomark _))
        (pss_cons (ps_set (i := 4) scAnswers.nd rfl (.inl rfl) (pe_op n_add (pv 3) pe_int))
      (pss_cons (ps_set (i := 5) scAnswers.nd rfl (.inl rfl) (pe_op n_add (pv 4) (pe_ix (ix_listK (K := K)) (pv 0) (pe_op n_add (pv 3) pe_int) (fun _ _ => rfl))))
      (pss_cons (ps_set (i := 6) scAnswers.nd rfl (.inl rfl) (pe_call G_A hrA rfl m_A k_A b_A .nil pass0 (pa_cons (pv 1) (pa_cons (pe_ix (ix_listK (K := K)) (pv 0) (pv 3) (fun _ _ => rfl)) (pa_cons (pe_slice sl_list (pv 0) (po_some (pv 4)) (po_some (pv 5))) pa_nil)))))
      (pss_cons (ps_expr (pe_bm PySem.F.plainAttrs_list PySem.F.slot_list_append PySem.F.type_list_append mt_append (pv 2) (pa_cons (pe_callB call_len_seq (by rfl) T.len PySem.boot_len (pa_cons (pv 6) pa_nil)) pa_nil)))
      (pss_cons (ps_expr (pe_bm PySem.F.plainAttrs_list PySem.F.slot_list_extend PySem.F.type_list_extend mt_extend (pv 2) (pa_cons (pv 6) pa_nil)))
      (pss_one (ps_set (i := 3) scAnswers.nd rfl (.inl rfl) (pe_op n_add (pv 5) pe_int)))))))))
      (pss_one (ps_ret (pv 2))))))), ?_⟩
    -- what is asked
    have hask := hask
    unfold PySd62.answers_asked at hask
    cases hcs : PySd62.calls (VM.toI l) with
    | none =>
      rw [hcs] at hask
      cases hask
    | some cs =>
    rw [hcs] at hask
    dsimp only at hask
    simp only [Bool.and_eq_true] at hask
    obtain ⟨⟨_, hask2⟩, hshort⟩ := hask
    unfold Sd62Neutral.asked at hask2
    simp only [Bool.and_eq_true] at hask2
    obtain ⟨hall, _, _, _, hready⟩ := hask2
    have hans : PySd62.answers (VM.toI l) = outs none cs := by
      unfold PySd62.answers
      rw [hcs]
      rfl
    unfold PyFlat.short at hshort
    have hshort := of_decide_eq_true hshort
    rw [hans] at hshort k
    unfold PySd62.calls at hcs
    -- machine = Machine()
    refine fun am dx nx nd ne => ⟨am, dx, rfl, upd_same, fun H1 r M1 f1 kp => ⟨rfl, ?_⟩⟩
    have s1 : Same H H1 := Same.made nx nd kp
    have fn : ∀ b ∈ r.foot, H b = none := fun b hb => Same.free (Same.made nx nd fun b o h _ => h) (f1 b hb)
    -- given = []
    refine ⟨Nat.zero_le _, fun g hg => ?_⟩
    have s2 := same_lay s1 hg (o := .lst [])
    have M2 := M1.same (same_new hg (o := .lst []))
    have ngf : g ∉ r.foot := M1.st.off hg
    have nga : g ≠ am := fun z => by
      obtain ⟨dm, hm⟩ := M1.obj
      rw [z, hm] at hg
      cases hg
    have hgH : H g = none := Same.free s1 hg
    refine ⟨fun n σ H' => ∃ (at_ : Nat) (o : Option Sd62.Obj) (p : Nat) (s : Sd62.St) (r : Rg) (ds : List (List (List Int))) (G : List Int) (fu : Nat) (v4 v5 v6 : Option V), σ = [some (.ref a), some (.ref am), some (.ref g), some (nv at_), v4, v5, v6] ∧ n = ds.length ∧
        PyWide.calls fu (VM.toI (l.drop at_)) = some ds ∧ ds.all Sd62Neutral.asked1 = true ∧ Sd62Neutral.ready o ds = true ∧ Of o p s ∧ MachAt C CM H' am r p s ∧ Same H H' ∧ (∀ b ∈ r.foot, H b = none) ∧ H' g = some (.lst (G.map V.int)) ∧ g ∉ r.foot ∧ G ++ outs o ds = outs none cs,
      ⟨cs.length, 0, none, 0, Sd62.fresh, r, cs, [], _, none, none, none, rfl, rfl, hcs, hall, hready, (fun x hx => by cases hx), M2, s2, fn, upd_same, ngf, rfl⟩, ?_⟩
    rintro n σ H' ⟨at_, o, p, s, r, ds, G, fu, v4, v5, v6, rfl, hn, hd, hall, hready, ho, M, s3, fn, hG, ngf, htot⟩
    refine ⟨_, rfl, _, rfl, a, _, rfl, .inl (s3.seq hA), at_, l.length, rfl, congrArg (fun n : Nat => V.int (n : Int)) (nl_length l), _, rfl, ite2 (fun c => ?_) (fun c => ?_)⟩
    · have hlt : at_ < l.length := of_decide_eq_true c
      -- the next call
      have ed : l.drop at_ = l[at_] :: l.drop (at_ + 1) := List.drop_eq_getElem_cons hlt
      have e1 : l[at_]? = some l[at_] := List.getElem?_eq_getElem hlt
      generalize l[at_] = kk at ed e1
      rw [ed] at hd
      obtain ⟨nsI, tI, gu, ds', er, eds, hd'⟩ := VM.calls_more (r := VM.toI (l.drop (at_ + 1))) hd hall
      subst eds
      obtain ⟨n1, rest, e2, e3, e4⟩ : ∃ n1 rest, l.drop (at_ + 1) = n1 :: rest ∧ n1 = nsI.length ∧ VM.toI rest = nsI ++ 0 :: tI := by
        cases er2 : l.drop (at_ + 1) with
        | nil =>
          rw [er2] at er
          cases er
        | cons x rest =>
          rw [er2] at er
          have h1 : (x : Int) = (nsI.length : Int) := List.head_eq_of_cons_eq er
          have h2 : VM.toI rest = nsI ++ 0 :: tI := List.tail_eq_of_cons_eq er
          exact ⟨x, rest, rfl, by omega, h2⟩
      have hlt1 : at_ + 1 < l.length := by
        by_cases z : at_ + 1 < l.length
        · exact z
        · rw [List.drop_eq_nil_of_le (by omega)] at e2
          cases e2
      have en : l[at_ + 1]? = some n1 := by
        have h := congrArg (fun x => x[0]?) e2
        have h : (l.drop (at_ + 1))[0]? = some n1 := h
        rw [List.getElem?_drop] at h
        exact h
      have erest : l.drop (at_ + 2) = rest := by
        have h := congrArg (List.drop 1) e2
        rw [List.drop_drop] at h
        exact h
      have ens : nsI = VM.toI (rest.take n1) := by
        have h := congrArg (List.take n1) e4
        rw [e3, List.take_left] at h
        rw [← h, ← e3]
        exact List.map_take.symm
      have et : tI = VM.toI (rest.drop (n1 + 1)) := by
        have h0 : (nsI ++ 0 :: tI).drop (nsI.length + 1) = tI := by
          rw [show nsI ++ 0 :: tI = (nsI ++ [0]) ++ tI by simp]
          exact List.drop_left' (by simp)
        have h := congrArg (List.drop (nsI.length + 1)) e4
        rw [h0] at h
        rw [← h, e3]
        exact List.map_drop.symm
      have etd : rest.drop (n1 + 1) = l.drop (at_ + 2 + n1 + 1) := by
        rw [← erest, List.drop_drop]
        exact congrArg (fun z => l.drop z) (by omega)
      rw [ens] at hready hall htot hn
      rw [et, etd] at hd'
      rw [List.all_cons, Bool.and_eq_true] at hall
      obtain ⟨q, hq, hb⟩ := VM.asked_call hall.1
      obtain ⟨hneed, hready'⟩ := ready_more hq hready
      obtain ⟨ho', ha'⟩ := of_spec ho hneed
      rw [outs_more hq, ha'] at htot
      obtain ⟨n', rfl⟩ : ∃ n', n = n' + 1 := ⟨ds'.length, hn⟩
      refine ⟨_, fun σ' H'' h => ⟨n', Nat.lt_succ_self _, h⟩, ?_⟩
      -- first, behind
      refine ⟨_, rfl, _, 2, rfl, rfl, ?_⟩
      refine ⟨_, rfl, _, rfl, _, rfl, _, 1, rfl, rfl, a, _, _, _, rfl, rfl, s3.seq hA, at_nl en, _, _, rfl, rfl, ?_⟩
      -- answer_of
      refine ⟨_, rfl, _, rfl, _, rfl, a, _, _, _, rfl, rfl, s3.seq hA, at_nl e1, _, rfl, _, rfl, _, rfl, _, rfl, _, rfl, a, _, rfl, s3.seq hA, fun q1 hq1 => ?_⟩
      have hcut : cutV (nl l) (some ((at_ + 2 : Nat) : Int)) (some ((at_ + 2 + n1 : Nat) : Int)) = nl (rest.take n1) := by
        rw [cut_both, Nat.add_sub_cancel_left, nl_take, ← erest, nl_drop]
      have hqv : upd H' q1 (.lst (cutV (nl l) (some ((at_ + 2 : Nat) : Int)) (some ((at_ + 2 + n1 : Nat) : Int)))) q1 = some (.lst (nl (rest.take n1))) := by
        rw [upd_same, hcut]
      have s4 := same_new hq1 (o := .lst (cutV (nl l) (some ((at_ + 2 : Nat) : Int)) (some ((at_ + 2 + n1 : Nat) : Int))))
      have M4 := M.same s4
      have hq1a : q1 ≠ am := fun z => by
        obtain ⟨dm, hm⟩ := M.obj
        rw [z, hm] at hq1
        cases hq1
      have nsl : (rest.take n1).length ≤ 30000 := by
        rw [List.length_take, ← erest, List.length_drop]
        omega
      refine ⟨am, q1, r, p, s, kk, rest.take n1, q, rfl, M4, hqv, M.st.off hq1, hq1a, hq, hb, nsl, fun H5 r5 x M5 g1 g2 g3 hx => ?_⟩
      generalize ansOf (Sd62.spec (some ⟨p, s⟩) q).2 = an at *
      have hG4 := s4 _ _ hG
      have hG5 := g2 _ _ hG4 ngf nga
      have ngx : g ≠ x := g3 _ _ hG4 ngf nga
      have ngf5 : g ∉ r5.foot := fun z => (g1 g z).elim ngf fun h => by
        rw [hG4] at h
        cases h
      have s5 : Same H H5 := fun b o' h => g2 b o' (s4 _ _ (s3 _ _ h)) (fun z => by
        rw [fn b z] at h
        cases h) (fun z => by
        rw [z, nx] at h
        cases h)
      have fn5 : ∀ b ∈ r5.foot, H b = none := fun b hb => (g1 b hb).elim (fn b) (fun h => Same.free (s3.trans s4) h)
      have htl := congrArg List.length htot
      rw [List.length_append, List.length_append, List.length_cons] at htl
      -- given.append(len(answer))
      refine ⟨_, rfl, .inl ⟨rfl, _, SqL.of hG5⟩, _, rfl, x, _, rfl, .inl (SqL.of hx), g, _, _, rfl, rfl, hG5, ?_, ?_⟩
      · rw [List.length_map]
        show _ < 16777216
        omega
      generalize hH6 : upd H5 g (.lst (G.map V.int ++ [V.int ((an.map V.int).length : Int)])) = H6
      have h6g : H6 g = some (.lst (G.map V.int ++ [V.int ((an.map V.int).length : Int)])) := by rw [← hH6]; exact upd_same
      have h6o : ∀ b o, H5 b = some o → b ≠ g → H6 b = some o := fun b o h n => by rw [← hH6, upd_ne n]; exact h
      -- given.extend(answer)
      refine ⟨_, rfl, .inl ⟨rfl, _, SqL.of h6g⟩, _, rfl, g, x, _, _, rfl, rfl, h6g, h6o _ _ hx (Ne.symm ngx), ?_, ?_⟩
      · rw [List.length_append, List.length_map, List.length_map]
        show _ + 1 + _ ≤ 16777216
        omega
      generalize hH7 : upd H6 g _ = H7
      have h7g : H7 g = some (.lst ((G.map V.int ++ [V.int ((an.map V.int).length : Int)]) ++ an.map V.int)) := by rw [← hH7]; exact upd_same
      have h7o : ∀ b o, H5 b = some o → b ≠ g → H7 b = some o := fun b o h n => by rw [← hH7, upd_ne n]; exact h6o b o h n
      obtain ⟨⟨dm, hm⟩, S5, no5⟩ := M5
      have M7 : MachAt C CM H7 am r5 _ _ := ⟨⟨dm, h7o _ _ hm (Ne.symm nga)⟩, S5.keep fun b hb o h => h7o b o h fun z => ngf5 (by rw [← z]; exact hb), no5⟩
      have s7 : Same H H7 := fun b o' h => h7o b o' (s5 b o' h) fun z => by
        rw [z, hgH] at h
        cases h
      refine ⟨_, rfl, _, 1, rfl, rfl, at_ + 2 + n1 + 1, (Sd62.spec o q).1, _, _, r5, ds', G ++ ((an.length : Int) :: an), gu, _, _, _, rfl, ?_, hd', hall.2, hready', ho', M7, s7, fn5, ?_, ngf5, ?_⟩
      · have hn : n' + 1 = ds'.length + 1 := hn
        omega
      · rw [h7g, List.map_append, List.map_cons, List.length_map, List.append_assoc]
        rfl
      · rw [← htot, List.append_assoc]
    · have hge : l.length ≤ at_ := Nat.le_of_not_lt fun z => c (decide_eq_true z)
      rw [List.drop_eq_nil_of_le hge] at hd
      obtain rfl := VM.calls_end hd
      have e : G = outs none cs := by
        rw [← htot]
        exact (List.append_nil G).symm
      rw [e] at hG
      exact ⟨_, rfl, k H' g hG⟩
end
end VP

set_option Elab.async false
set_option linter.all false
set_option maxRecDepth 100000
set_option maxHeartbeats 4000000
namespace VP
open PySem PySem.Spec PyProof.Rows L2
section
variable {P : Program} {w : World} {K : PySem.W.Frag} {mg : Str → Option Value} {base : Heap}
/-! ### answer_of -/
theorem flat_turn {ns : List Nat} {q : Sd62.Call} (h : Sd62Neutral.callOf (4 :: ns) = some q) (o : Option Sd62.Obj) : Sd62.spec o q = (o, (Sd62.spec none q).2) := by
  obtain ⟨n, room, form, p, l, rfl, rfl⟩ := call_turn h
  rw [spec_turn, spec_turn]
theorem flat_differ {ns : List Nat} {q : Sd62.Call} (h : Sd62Neutral.callOf (7 :: ns) = some q) (o : Option Sd62.Obj) : Sd62.spec o q = (o, (Sd62.spec none q).2) := by
  obtain ⟨a, b, l, rfl, rfl⟩ := call_differ h
  rw [spec_differ, spec_differ]
abbrev sAnsOf : Stmt := top 86
theorem scAnsOf : FnScope ["machine", "call", "numbers"] ["machine", "call", "numbers"] (defScope sAnsOf) := ⟨rfl, rfl, rfl, by decide +kernel, rfl, by decide +kernel, by decide +kernel⟩
theorem ok_ansOf {C CM : Addr} {f : Addr} {fd : FuncData} (F : Fun K "answer_of" "answer_of" sAnsOf f fd)
    (CN : Cal P w K mg base 3 "new" ["machine", "numbers"] (spOp C CM 0 1)) (CR : Cal P w K mg base 5 "run" ["machine", "numbers"] (spOp C CM 1 3)) (CS : Cal P w K mg base 7 "save" ["machine", "numbers"] (spOp C CM 2 2)) (CL : Cal P w K mg base 9 "load" ["machine", "numbers"] (spOp C CM 3 2)) (CT : Cal P w K mg base 9 "turn" ["numbers"] (spOpF 4 4)) (CE : Cal P w K mg base 4 "peek" ["machine", "numbers"] (spOp C CM 5 1)) (CO : Cal P w K mg base 4 "poke" ["machine", "numbers"] (spOp C CM 6 1)) (CD : Cal P w K mg base 8 "differ" ["numbers"] (spOpF 7 2)) :
    FnOk P w K mg base CX0 10 f fd ["machine", "call", "numbers"] (spAnsOf C CM) := by
  obtain ⟨f_N, fd_N, m_N, k_N, b_N, G_N⟩ := CN.ok
  obtain ⟨f_R, fd_R, m_R, k_R, b_R, G_R⟩ := CR.ok
  obtain ⟨f_S, fd_S, m_S, k_S, b_S, G_S⟩ := CS.ok
  obtain ⟨f_L, fd_L, m_L, k_L, b_L, G_L⟩ := CL.ok
  obtain ⟨f_T, fd_T, m_T, k_T, b_T, G_T⟩ := CT.ok
  obtain ⟨f_E, fd_E, m_E, k_E, b_E, G_E⟩ := CE.ok
  obtain ⟨f_O, fd_O, m_O, k_O, b_O, G_O⟩ := CO.ok
  obtain ⟨f_D, fd_D, m_D, k_D, b_D, G_D⟩ := CD.ok
  refine F.ok scAnsOf (fun vs H Q E h => ?_) (fun cdv A outer sh H vs Q E hr h => ?_)
  · obtain ⟨am, an, r, p, s, n, ns, q, rfl, _⟩ := h
    rfl
  · obtain ⟨am, an, r, p, s, n, ns, q, rfl, M, hN, nf, nm, hc, hb, hlen, k⟩ := h
    have hr3 : Room 3 _ := hr.mono (by decide)
    have hr4 : Room 4 _ := hr.mono (by decide)
    have hr5 : Room 5 _ := hr.mono (by decide)
    have hr7 : Room 7 _ := hr.mono (by decide)
    have hr8 : Room 8 _ := hr.mono (by decide)
    have hr9 : Room 9 _ := hr.mono (by decide)
    have hle := VM.call_le hc
    refine ⟨_, (pss_cons (ps_if (pt_cmpR n_eq (pv 1) pe_int (nomark _))
        (pss_one (ps_ret (pe_call G_N hr3 rfl m_N k_N b_N .nil pass0 (pa_cons (pv 0) (pa_cons (pv 2) pa_nil)))))
        pss_nil)
      (pss_cons (ps_if (pt_cmpR n_eq (pv 1) pe_int (nomark _))
        (pss_one (ps_ret (pe_call G_R hr5 rfl m_R k_R b_R .nil pass0 (pa_cons (pv 0) (pa_cons (pv 2) pa_nil)))))
        pss_nil)
      (pss_cons (ps_if (pt_cmpR n_eq (pv 1) pe_int (nomark _))
        (pss_one (ps_ret (pe_call G_S hr7 rfl m_S k_S b_S .nil pass0 (pa_cons (pv 0) (pa_cons (pv 2) pa_nil)))))
        pss_nil)
      (pss_cons (ps_if (pt_cmpR n_eq (pv 1) pe_int (nomark _))
        (pss_one (ps_ret (pe_call G_L hr9 rfl m_L k_L b_L .nil pass0 (pa_cons (pv 0) (pa_cons (pv 2) pa_nil)))))
        pss_nil)
      (pss_cons (ps_if (pt_cmpR n_eq (pv 1) pe_int (nomark _))
        (pss_one (ps_ret (pe_call G_T hr9 rfl m_T k_T b_T .nil pass0 (pa_cons (pv 2) pa_nil))))
        pss_nil)
      (pss_cons (ps_if (pt_cmpR n_eq (pv 1) pe_int (nomark _))
        (pss_one (ps_ret (pe_call G_E hr4 rfl m_E k_E b_E .nil pass0 (pa_cons (pv 0) (pa_cons (pv 2) pa_nil)))))
        pss_nil)
      (pss_cons (ps_if (pt_cmpR n_eq (pv 1) pe_int (nomark _))
        (pss_one (ps_ret (pe_call G_O hr4 rfl m_O k_O b_O .nil pass0 (pa_cons (pv 0) (pa_cons (pv 2) pa_nil)))))
        pss_nil)
      (pss_cons (ps_if (pt_cmpR n_eq (pv 1) pe_int (nomark _))
        (pss_one (ps_ret (pe_call G_D hr8 rfl m_D k_D b_D .nil pass0 (pa_cons (pv 2) pa_nil))))
        pss_nil)
      (pss_one ps_never))))))))), ?_⟩
    rcases (show n = 0 ∨ n = 1 ∨ n = 2 ∨ n = 3 ∨ n = 4 ∨ n = 5 ∨ n = 6 ∨ n = 7 by omega) with rfl | rfl | rfl | rfl | rfl | rfl | rfl | rfl
    · refine ⟨_, rfl, _, 0, rfl, rfl, _, rfl, if_true_of (by rfl) ?_⟩
      exact ⟨_, rfl, _, rfl, am, an, r, p, s, ns, q, rfl, M, hN, nf, nm, hc, hb, hlen, k⟩
    · refine ⟨_, rfl, _, 0, rfl, rfl, _, rfl, if_false_of (by rfl) ?_⟩
      refine ⟨_, rfl, _, 1, rfl, rfl, _, rfl, if_true_of (by rfl) ?_⟩
      exact ⟨_, rfl, _, rfl, am, an, r, p, s, ns, q, rfl, M, hN, nf, nm, hc, hb, hlen, k⟩
    · refine ⟨_, rfl, _, 0, rfl, rfl, _, rfl, if_false_of (by rfl) ?_⟩
      refine ⟨_, rfl, _, 1, rfl, rfl, _, rfl, if_false_of (by rfl) ?_⟩
      refine ⟨_, rfl, _, 2, rfl, rfl, _, rfl, if_true_of (by rfl) ?_⟩
      exact ⟨_, rfl, _, rfl, am, an, r, p, s, ns, q, rfl, M, hN, nf, nm, hc, hb, hlen, k⟩
    · refine ⟨_, rfl, _, 0, rfl, rfl, _, rfl, if_false_of (by rfl) ?_⟩
      refine ⟨_, rfl, _, 1, rfl, rfl, _, rfl, if_false_of (by rfl) ?_⟩
      refine ⟨_, rfl, _, 2, rfl, rfl, _, rfl, if_false_of (by rfl) ?_⟩
      refine ⟨_, rfl, _, 3, rfl, rfl, _, rfl, if_true_of (by rfl) ?_⟩
      exact ⟨_, rfl, _, rfl, am, an, r, p, s, ns, q, rfl, M, hN, nf, nm, hc, hb, hlen, k⟩
    · refine ⟨_, rfl, _, 0, rfl, rfl, _, rfl, if_false_of (by rfl) ?_⟩
      refine ⟨_, rfl, _, 1, rfl, rfl, _, rfl, if_false_of (by rfl) ?_⟩
      refine ⟨_, rfl, _, 2, rfl, rfl, _, rfl, if_false_of (by rfl) ?_⟩
      refine ⟨_, rfl, _, 3, rfl, rfl, _, rfl, if_false_of (by rfl) ?_⟩
      refine ⟨_, rfl, _, 4, rfl, rfl, _, rfl, if_true_of (by rfl) ?_⟩
      have e := flat_turn hc (some ⟨p, s⟩)
      rw [e] at k
      exact ⟨_, rfl, an, ns, q, rfl, hN, hc, hb, hlen, AnsW.call k M⟩
    · refine ⟨_, rfl, _, 0, rfl, rfl, _, rfl, if_false_of (by rfl) ?_⟩
      refine ⟨_, rfl, _, 1, rfl, rfl, _, rfl, if_false_of (by rfl) ?_⟩
      refine ⟨_, rfl, _, 2, rfl, rfl, _, rfl, if_false_of (by rfl) ?_⟩
      refine ⟨_, rfl, _, 3, rfl, rfl, _, rfl, if_false_of (by rfl) ?_⟩
      refine ⟨_, rfl, _, 4, rfl, rfl, _, rfl, if_false_of (by rfl) ?_⟩
      refine ⟨_, rfl, _, 5, rfl, rfl, _, rfl, if_true_of (by rfl) ?_⟩
      exact ⟨_, rfl, _, rfl, am, an, r, p, s, ns, q, rfl, M, hN, nf, nm, hc, hb, hlen, k⟩
    · refine ⟨_, rfl, _, 0, rfl, rfl, _, rfl, if_false_of (by rfl) ?_⟩
      refine ⟨_, rfl, _, 1, rfl, rfl, _, rfl, if_false_of (by rfl) ?_⟩
      refine ⟨_, rfl, _, 2, rfl, rfl, _, rfl, if_false_of (by rfl) ?_⟩
      refine ⟨_, rfl, _, 3, rfl, rfl, _, rfl, if_false_of (by rfl) ?_⟩
      refine ⟨_, rfl, _, 4, rfl, rfl, _, rfl, if_false_of (by rfl) ?_⟩
      refine ⟨_, rfl, _, 5, rfl, rfl, _, rfl, if_false_of (by rfl) ?_⟩
      refine ⟨_, rfl, _, 6, rfl, rfl, _, rfl, if_true_of (by rfl) ?_⟩
      exact ⟨_, rfl, _, rfl, am, an, r, p, s, ns, q, rfl, M, hN, nf, nm, hc, hb, hlen, k⟩
    · refine ⟨_, rfl, _, 0, rfl, rfl, _, rfl, if_false_of (by rfl) ?_⟩
      refine ⟨_, rfl, _, 1, rfl, rfl, _, rfl, if_false_of (by rfl) ?_⟩
      refine ⟨_, rfl, _, 2, rfl, rfl, _, rfl, if_false_of (by rfl) ?_⟩
      refine ⟨_, rfl, _, 3, rfl, rfl, _, rfl, if_false_of (by rfl) ?_⟩
      refine ⟨_, rfl, _, 4, rfl, rfl, _, rfl, if_false_of (by rfl) ?_⟩
      refine ⟨_, rfl, _, 5, rfl, rfl, _, rfl, if_false_of (by rfl) ?_⟩
      refine ⟨_, rfl, _, 6, rfl, rfl, _, rfl, if_false_of (by rfl) ?_⟩
      refine ⟨_, rfl, _, 7, rfl, rfl, _, rfl, if_true_of (by rfl) ?_⟩
      have e := flat_differ hc (some ⟨p, s⟩)
      rw [e] at k
      exact ⟨_, rfl, an, ns, q, rfl, hN, hc, hb, hlen, AnsW.call k M⟩

end
end VP

set_option Elab.async false
set_option linter.all false
set_option maxRecDepth 100000
set_option maxHeartbeats 4000000
namespace VP
open PySem PySem.Spec PyProof.Rows L2
/-! ### what the top has written, read off -/
def natOf : Value → Option Nat
  | .int i _ => if 0 ≤ i then some i.toNat else none
  | _ => none
def addrOf : Value → Option Addr
  | .ref a => some a
  | _ => none
def allOf {α : Type} (f : Value → Option α) : List Value → Option (List α)
  | [] => some []
  | v :: l => match f v with
    | none => none
    | some x => match allOf f l with
      | none => none
      | some xs => some (x :: xs)
/-- the items of a written tuple -/
def itemsOf (o : Option Obj) : Option (List Value) := match o with
  | some ⟨.type c, _, .seq its _, _⟩ => if c == "tuple" then some its.toList else none
  | _ => none
def intsOf (o : Option Obj) : Option (List Nat) := (itemsOf o).bind (allOf natOf)
def refsOf (o : Option Obj) : Option (List Addr) := (itemsOf o).bind (allOf addrOf)
theorem vals_of {α : Type} {f : Value → Option α} {g : α → V} (h : ∀ v x, f v = some x → RelV (g x) v) : ∀ {l : List Value} {xs : List α}, allOf f l = some xs → Vals (xs.map g) l
  | [], xs, e => by
    cases e
    exact .nil
  | v :: l, xs, e => by
    unfold allOf at e
    split at e
    · cases e
    · rename_i x hx
      split at e
      · cases e
      · rename_i ys hy
        cases e
        exact .cons (h v x hx) (vals_of h hy)
theorem tuple_of {α : Type} {f : Value → Option α} {g : α → V} (h : ∀ v x, f v = some x → RelV (g x) v) {K : PySem.W.Frag} {a : Addr} {xs : List α} (e : (itemsOf (K.lookup a)).bind (allOf f) = some xs) (hl : xs.length ≤ 1000) : ∀ H, SqT K H a (xs.map g) := fun H => by
  cases ho : K.lookup a with
  | none =>
    rw [ho] at e
    cases e
  | some o =>
    rw [ho] at e
    obtain ⟨c, od, dt, sl⟩ := o
    cases hi : itemsOf (some ⟨c, od, dt, sl⟩) with
    | none =>
      rw [hi] at e
      cases e
    | some its =>
      rw [hi] at e
      have e : allOf f its = some xs := e
      unfold itemsOf at hi
      split at hi
      · rename_i c' its' n' sl' hq
        obtain ⟨⟩ := Option.some.inj hq
        split at hi
        · rename_i hc
          have hi := Option.some.inj hi
          have hv := vals_of h e
          rw [← hi] at hv
          refine .inr ⟨_, its', _, ho, congrArg Value.type (beq_iff_eq.mp hc), rfl, ?_, hv⟩
          have := hv.length
          rw [List.length_map] at this
          rw [← Array.length_toList, ← this]
          exact Nat.le_trans hl (by decide)
        · cases hi
      · cases hi
theorem rel_nat : ∀ v x, natOf v = some x → RelV (nv x) v := fun v x e => by
  cases v with
  | int i t =>
    unfold natOf at e
    dsimp only at e
    split at e
    · cases e
      refine ⟨t, congrArg (fun j => Value.int j t) ?_⟩
      omega
    · cases e
  | _ => cases e
theorem rel_ref : ∀ v x, addrOf v = some x → RelV (.ref x) v := fun v x e => by
  cases v with
  | ref a =>
    cases e
    rfl
  | _ => cases e
theorem ints_of {K : PySem.W.Frag} {a : Addr} {l : List Nat} (e : intsOf (K.lookup a) = some l) (hl : l.length ≤ 1000) : ∀ H, SqT K H a (nl l) := tuple_of rel_nat e hl
theorem refs_of {K : PySem.W.Frag} {a : Addr} {l : List Addr} (e : refsOf (K.lookup a) = some l) (hl : l.length ≤ 1000) : ∀ H, SqT K H a (l.map V.ref) := tuple_of rel_ref e hl
/-- a written dict with whole numbers as keys, its pairs -/
def entOf (e : DictEntry) : Option (Int × Value) := match e.key with
  | .int k _ => if e.hash = hashInt k then some (k, e.val) else none
  | _ => none
def entsOf : List DictEntry → Option (List (Int × Value))
  | [] => some []
  | e :: l => match entOf e with
    | none => none
    | some x => match entsOf l with
      | none => none
      | some xs => some (x :: xs)
def pairsOf (o : Option Obj) : Option (List (Int × Value)) := match o with
  | some ⟨.type c, none, .dict es _, sl⟩ => if c == "dict" && sl.size == 0 then entsOf es.toList else none
  | _ => none
def look (l : List (Int × Value)) (k : Int) : Option Value := (l.find? fun x => x.1 == k).map (·.2)
theorem ents_keys : ∀ {l : List DictEntry} {xs : List (Int × Value)}, entsOf l = some xs → KeysInt l
  | [], _, _ => trivial
  | e :: l, xs, h => by
    unfold entsOf at h
    split at h
    · cases h
    · rename_i x hx
      split at h
      · cases h
      · rename_i ys hy
        refine ⟨?_, ents_keys hy⟩
        unfold entOf at hx
        split at hx
        · rename_i k t hk
          split at hx
          · rename_i hh
            exact ⟨k, t, hk, hh⟩
          · cases hx
        · cases hx
theorem ents_find (k : Int) : ∀ {l : List DictEntry} {xs : List (Int × Value)}, entsOf l = some xs → (l.find? fun e => Value.isInt k e.key).map (·.val) = look xs k
  | [], _, h => by
    cases h
    rfl
  | e :: l, xs, h => by
    unfold entsOf at h
    split at h
    · cases h
    · rename_i x hx
      split at h
      · cases h
      · rename_i ys hy
        cases h
        have ih := ents_find k hy
        unfold entOf at hx
        split at hx
        · rename_i j t hk
          split at hx
          · cases hx
            unfold look at ih ⊢
            rw [List.find?_cons, List.find?_cons, hk]
            have e2 : Value.isInt k (.int j t) = (j == k) := rfl
            rw [e2]
            cases (j == k) with
            | true => rfl
            | false => exact ih
          · cases hx
        · cases hx
theorem kint_of {K : PySem.W.Frag} {d : Addr} {xs : List (Int × Value)} (e : pairsOf (K.lookup d) = some xs) (k : Int) {o : Option V} (h : match o with | none => look xs k = none | some v => ∃ u, look xs k = some u ∧ RelV v u) : KInt K d k o := by
  cases ho : K.lookup d with
  | none =>
    rw [ho] at e
    cases e
  | some ob =>
    rw [ho] at e
    obtain ⟨c, od, dt, sl⟩ := ob
    unfold pairsOf at e
    split at e
    · rename_i c' es n' sl' hq
      obtain ⟨⟩ := Option.some.inj hq
      split at e
      · rename_i hc
        rw [Bool.and_eq_true] at hc
        have hc1 : c' = "dict" := beq_iff_eq.mp hc.1
        have hs : sl = #[] := Array.eq_empty_of_size_eq_zero (beq_iff_eq.mp hc.2)
        subst hc1 hs
        have hf : ∀ k, findBy Value.isInt es k = look xs k := fun k => by
          unfold findBy
          rw [← Array.find?_toList]
          exact ents_find k e
        refine ⟨es, _, ho, ents_keys e, fun v hv => ?_, fun hv => ?_⟩
        · subst hv
          rw [hf]
          exact h
        · subst hv
          rw [hf]
          exact h
      · cases e
    · cases e
/-- a def of the top: where it stands -/
theorem cal_of {P : Program} {w : World} {K : PySem.W.Frag} {h : Heap} {mg : Str → Option Value} {base : Heap} {x : Str} {st : Stmt} {f : Addr} {oc : Value} {od an : Option Addr} {osl : Array (Option Value)} {kV dc pm cd ct : Value} {k : Nat} {ps : List Str} {sp : Sp} (X : K.In h) (G : h.Ns mainGlobals mg)
    (a : PySem.W.nsIn K mainGlobals x = some (some (.ref f))) (l : K.lookup f = some ⟨oc, od, .func (PySem.W.fnOf x x (defArgs st) (defBody st) (defScope st) .none kV dc pm an cd ct), osl⟩) (c : PySem.W.codeIn K cd x = true) (kp : PySem.W.keepIn K (.ref f) = true)
    (hb : ∀ (kV doc pm : Value) (an : Option Addr) (cdv ct : Value) (us : List Value), us.length = ps.length → bindArgs (PySem.W.fnOf x x (defArgs st) (defBody st) (defScope st) .none kV doc pm an cdv ct) ⟨us, []⟩ = pure (ps.zip us))
    (ok : ∀ (fd : FuncData), Fun K x x st f fd → FnOk P w K mg base CX0 k f fd ps sp) : Cal P w K mg base k x ps sp :=
  have F := fun_mk (st := st) l c kp
  ⟨f, _, PySem.W.mg_of X G a, kp, F.binds hb, ok _ F⟩
end VP

set_option Elab.async false
set_option linter.all false
set_option maxRecDepth 100000
set_option maxHeartbeats 4000000
namespace VP
open PySem PySem.Spec PyProof.Rows L2
theorem look_none {n : Nat} {t1 t2 t3 : Tok} (h1 : ¬ n = 576) (h2 : ¬ n = 832) (h3 : ¬ n = 2688) : look [(576, .int 3 t1), (832, .int 7 t2), (2688, .int 231 t3)] (n : Int) = none := by
  have e : ∀ k : Int, ¬ (n : Int) = k → (k == (n : Int)) = false := fun k h => beq_eq_false_iff_ne.mpr fun z => h z.symm
  unfold look
  rw [List.find?_cons, e 576 (by omega), List.find?_cons, e 832 (by omega), List.find?_cons, e 2688 (by omega)]
  rfl
theorem cals {P : Program} {w : World} {K : PySem.W.Frag} {h : Heap} {mg : Str → Option Value} (base : Heap) (X : K.In h) (G : h.Ns mainGlobals mg)
    {t_MODULUS t_LOWER_HALF t_SCALAR_WEIGHT t_MASK_WEIGHT t_HEAD_LENGTH t_SCALARS_AT t_PAIRS_AT t_WEIGHTS_AT t_FORM_AT t_SHORT_MARK t_OUT_OF_RANGE t_BAD_BYTES t_NO_COMPONENT t_NO_ROOM t_MOST_CODE t_MOST_EXECUTED t_MOST_BYTES t_FIRST_SCALAR t_FIRST_MASK t_REGISTER_COUNT : Tok}
    {d_LANE_COUNTS d_WEIGHTS d_TAIL_WEIGHTS d_MACHINES : Addr}
    {o_LANE_COUNTS o_WEIGHTS o_TAIL_WEIGHTS o_MACHINES : Obj}
    {dB dB0 dB1 dB2 dB3 dB4 dB5 dB6 dB7 dB8 dB9 dB10 dB11 dB12 dB13 dB14 dB15 dB16 dB17 dB18 dB19 dB20 dB21 dB22 dB23 : Addr}
    {oB oB0 oB1 oB2 oB3 oB4 oB5 oB6 oB7 oB8 oB9 oB10 oB11 oB12 oB13 oB14 oB15 oB16 oB17 oB18 oB19 oB20 oB21 oB22 oB23 : Obj}
    {dL dW dG rL2 rL4 rL64 rL128 : Addr}
    {oL oW oG oL2 oL4 oL64 oL128 : Obj}
    {tW2 tW4 tW32 tW64 tW128 tG576 tG832 tG2688 : Tok}
    {f_word_bytes : Addr}
    {oc_word_bytes kV_word_bytes dc_word_bytes pm_word_bytes cd_word_bytes ct_word_bytes : Value}
    {od_word_bytes an_word_bytes : Option Addr}
    {sl_word_bytes : Array (Option Value)}
    {f_words_at : Addr}
    {oc_words_at kV_words_at dc_words_at pm_words_at cd_words_at ct_words_at : Value}
    {od_words_at an_words_at : Option Addr}
    {sl_words_at : Array (Option Value)}
    {f_lane_places : Addr}
    {oc_lane_places kV_lane_places dc_lane_places pm_lane_places cd_lane_places ct_lane_places : Value}
    {od_lane_places an_lane_places : Option Addr}
    {sl_lane_places : Array (Option Value)}
    {f_component_words : Addr}
    {oc_component_words kV_component_words dc_component_words pm_component_words cd_component_words ct_component_words : Value}
    {od_component_words an_component_words : Option Addr}
    {sl_component_words : Array (Option Value)}
    {f_put_component : Addr}
    {oc_put_component kV_put_component dc_put_component pm_put_component cd_put_component ct_put_component : Value}
    {od_put_component an_put_component : Option Addr}
    {sl_put_component : Array (Option Value)}
    {f_weights_in_use : Addr}
    {oc_weights_in_use kV_weights_in_use dc_weights_in_use pm_weights_in_use cd_weights_in_use ct_weights_in_use : Value}
    {od_weights_in_use an_weights_in_use : Option Addr}
    {sl_weights_in_use : Array (Option Value)}
    {f_has_components : Addr}
    {oc_has_components kV_has_components dc_has_components pm_has_components cd_has_components ct_has_components : Value}
    {od_has_components an_has_components : Option Addr}
    {sl_has_components : Array (Option Value)}
    {f_component_bytes : Addr}
    {oc_component_bytes kV_component_bytes dc_component_bytes pm_component_bytes cd_component_bytes ct_component_bytes : Value}
    {od_component_bytes an_component_bytes : Option Addr}
    {sl_component_bytes : Array (Option Value)}
    {f_scalar_bytes : Addr}
    {oc_scalar_bytes kV_scalar_bytes dc_scalar_bytes pm_scalar_bytes cd_scalar_bytes ct_scalar_bytes : Value}
    {od_scalar_bytes an_scalar_bytes : Option Addr}
    {sl_scalar_bytes : Array (Option Value)}
    {f_head_bytes : Addr}
    {oc_head_bytes kV_head_bytes dc_head_bytes pm_head_bytes cd_head_bytes ct_head_bytes : Value}
    {od_head_bytes an_head_bytes : Option Addr}
    {sl_head_bytes : Array (Option Value)}
    {f_long_form : Addr}
    {oc_long_form kV_long_form dc_long_form pm_long_form cd_long_form ct_long_form : Value}
    {od_long_form an_long_form : Option Addr}
    {sl_long_form : Array (Option Value)}
    {f_short_form : Addr}
    {oc_short_form kV_short_form dc_short_form pm_short_form cd_short_form ct_short_form : Value}
    {od_short_form an_short_form : Option Addr}
    {sl_short_form : Array (Option Value)}
    {f_read_part : Addr}
    {oc_read_part kV_read_part dc_read_part pm_read_part cd_read_part ct_read_part : Value}
    {od_read_part an_read_part : Option Addr}
    {sl_read_part : Array (Option Value)}
    {f_read_head : Addr}
    {oc_read_head kV_read_head dc_read_head pm_read_head cd_read_head ct_read_head : Value}
    {od_read_head an_read_head : Option Addr}
    {sl_read_head : Array (Option Value)}
    {f_read_long : Addr}
    {oc_read_long kV_read_long dc_read_long pm_read_long cd_read_long ct_read_long : Value}
    {od_read_long an_read_long : Option Addr}
    {sl_read_long : Array (Option Value)}
    {f_read_short : Addr}
    {oc_read_short kV_read_short dc_read_short pm_read_short cd_read_short ct_read_short : Value}
    {od_read_short an_read_short : Option Addr}
    {sl_read_short : Array (Option Value)}
    {f_read_checkpoint : Addr}
    {oc_read_checkpoint kV_read_checkpoint dc_read_checkpoint pm_read_checkpoint cd_read_checkpoint ct_read_checkpoint : Value}
    {od_read_checkpoint an_read_checkpoint : Option Addr}
    {sl_read_checkpoint : Array (Option Value)}
    {f_split_code : Addr}
    {oc_split_code kV_split_code dc_split_code pm_split_code cd_split_code ct_split_code : Value}
    {od_split_code an_split_code : Option Addr}
    {sl_split_code : Array (Option Value)}
    {f_is_instruction : Addr}
    {oc_is_instruction kV_is_instruction dc_is_instruction pm_is_instruction cd_is_instruction ct_is_instruction : Value}
    {od_is_instruction an_is_instruction : Option Addr}
    {sl_is_instruction : Array (Option Value)}
    {f_vector_operands : Addr}
    {oc_vector_operands kV_vector_operands dc_vector_operands pm_vector_operands cd_vector_operands ct_vector_operands : Value}
    {od_vector_operands an_vector_operands : Option Addr}
    {sl_vector_operands : Array (Option Value)}
    {f_needed_components : Addr}
    {oc_needed_components kV_needed_components dc_needed_components pm_needed_components cd_needed_components ct_needed_components : Value}
    {od_needed_components an_needed_components : Option Addr}
    {sl_needed_components : Array (Option Value)}
    {f_chosen_lanes : Addr}
    {oc_chosen_lanes kV_chosen_lanes dc_chosen_lanes pm_chosen_lanes cd_chosen_lanes ct_chosen_lanes : Value}
    {od_chosen_lanes an_chosen_lanes : Option Addr}
    {sl_chosen_lanes : Array (Option Value)}
    {f_combined_lanes : Addr}
    {oc_combined_lanes kV_combined_lanes dc_combined_lanes pm_combined_lanes cd_combined_lanes ct_combined_lanes : Value}
    {od_combined_lanes an_combined_lanes : Option Addr}
    {sl_combined_lanes : Array (Option Value)}
    {f_shifted_lanes : Addr}
    {oc_shifted_lanes kV_shifted_lanes dc_shifted_lanes pm_shifted_lanes cd_shifted_lanes ct_shifted_lanes : Value}
    {od_shifted_lanes an_shifted_lanes : Option Addr}
    {sl_shifted_lanes : Array (Option Value)}
    {f_vector_result : Addr}
    {oc_vector_result kV_vector_result dc_vector_result pm_vector_result cd_vector_result ct_vector_result : Value}
    {od_vector_result an_vector_result : Option Addr}
    {sl_vector_result : Array (Option Value)}
    {f_scalar_result : Addr}
    {oc_scalar_result kV_scalar_result dc_scalar_result pm_scalar_result cd_scalar_result ct_scalar_result : Value}
    {od_scalar_result an_scalar_result : Option Addr}
    {sl_scalar_result : Array (Option Value)}
    {f_less_bits : Addr}
    {oc_less_bits kV_less_bits dc_less_bits pm_less_bits cd_less_bits ct_less_bits : Value}
    {od_less_bits an_less_bits : Option Addr}
    {sl_less_bits : Array (Option Value)}
    {f_mask_result : Addr}
    {oc_mask_result kV_mask_result dc_mask_result pm_mask_result cd_mask_result ct_mask_result : Value}
    {od_mask_result an_mask_result : Option Addr}
    {sl_mask_result : Array (Option Value)}
    {f_count_down : Addr}
    {oc_count_down kV_count_down dc_count_down pm_count_down cd_count_down ct_count_down : Value}
    {od_count_down an_count_down : Option Addr}
    {sl_count_down : Array (Option Value)}
    {f_write_vector : Addr}
    {oc_write_vector kV_write_vector dc_write_vector pm_write_vector cd_write_vector ct_write_vector : Value}
    {od_write_vector an_write_vector : Option Addr}
    {sl_write_vector : Array (Option Value)}
    {f_step : Addr}
    {oc_step kV_step dc_step pm_step cd_step ct_step : Value}
    {od_step an_step : Option Addr}
    {sl_step : Array (Option Value)}
    {f_execute : Addr}
    {oc_execute kV_execute dc_execute pm_execute cd_execute ct_execute : Value}
    {od_execute an_execute : Option Addr}
    {sl_execute : Array (Option Value)}
    {f_different_weights : Addr}
    {oc_different_weights kV_different_weights dc_different_weights pm_different_weights cd_different_weights ct_different_weights : Value}
    {od_different_weights an_different_weights : Option Addr}
    {sl_different_weights : Array (Option Value)}
    {f_copy_state : Addr}
    {oc_copy_state kV_copy_state dc_copy_state pm_copy_state cd_copy_state ct_copy_state : Value}
    {od_copy_state an_copy_state : Option Addr}
    {sl_copy_state : Array (Option Value)}
    {f_register_words : Addr}
    {oc_register_words kV_register_words dc_register_words pm_register_words cd_register_words ct_register_words : Value}
    {od_register_words an_register_words : Option Addr}
    {sl_register_words : Array (Option Value)}
    {f_can_hold : Addr}
    {oc_can_hold kV_can_hold dc_can_hold pm_can_hold cd_can_hold ct_can_hold : Value}
    {od_can_hold an_can_hold : Option Addr}
    {sl_can_hold : Array (Option Value)}
    {f_put_register : Addr}
    {oc_put_register kV_put_register dc_put_register pm_put_register cd_put_register ct_put_register : Value}
    {od_put_register an_put_register : Option Addr}
    {sl_put_register : Array (Option Value)}
    {f_read_state : Addr}
    {oc_read_state kV_read_state dc_read_state pm_read_state cd_read_state ct_read_state : Value}
    {od_read_state an_read_state : Option Addr}
    {sl_read_state : Array (Option Value)}
    {f_written_state : Addr}
    {oc_written_state kV_written_state dc_written_state pm_written_state cd_written_state ct_written_state : Value}
    {od_written_state an_written_state : Option Addr}
    {sl_written_state : Array (Option Value)}
    {f_new : Addr}
    {oc_new kV_new dc_new pm_new cd_new ct_new : Value}
    {od_new an_new : Option Addr}
    {sl_new : Array (Option Value)}
    {f_run : Addr}
    {oc_run kV_run dc_run pm_run cd_run ct_run : Value}
    {od_run an_run : Option Addr}
    {sl_run : Array (Option Value)}
    {f_save : Addr}
    {oc_save kV_save dc_save pm_save cd_save ct_save : Value}
    {od_save an_save : Option Addr}
    {sl_save : Array (Option Value)}
    {f_load : Addr}
    {oc_load kV_load dc_load pm_load cd_load ct_load : Value}
    {od_load an_load : Option Addr}
    {sl_load : Array (Option Value)}
    {f_turn : Addr}
    {oc_turn kV_turn dc_turn pm_turn cd_turn ct_turn : Value}
    {od_turn an_turn : Option Addr}
    {sl_turn : Array (Option Value)}
    {f_peek : Addr}
    {oc_peek kV_peek dc_peek pm_peek cd_peek ct_peek : Value}
    {od_peek an_peek : Option Addr}
    {sl_peek : Array (Option Value)}
    {f_poke : Addr}
    {oc_poke kV_poke dc_poke pm_poke cd_poke ct_poke : Value}
    {od_poke an_poke : Option Addr}
    {sl_poke : Array (Option Value)}
    {f_differ : Addr}
    {oc_differ kV_differ dc_differ pm_differ cd_differ ct_differ : Value}
    {od_differ an_differ : Option Addr}
    {sl_differ : Array (Option Value)}
    {f_answer_of : Addr}
    {oc_answer_of kV_answer_of dc_answer_of pm_answer_of cd_answer_of ct_answer_of : Value}
    {od_answer_of an_answer_of : Option Addr}
    {sl_answer_of : Array (Option Value)}
    {f_answers : Addr}
    {oc_answers kV_answers dc_answers pm_answers cd_answers ct_answers : Value}
    {od_answers an_answers : Option Addr}
    {sl_answers : Array (Option Value)}
    {C : Addr}
    {f_iC : Addr}
    {oc_iC kV_iC dc_iC pm_iC cd_iC ct_iC : Value}
    {od_iC an_iC : Option Addr}
    {sl_iC : Array (Option Value)}
    {CM : Addr}
    {f_iCM : Addr}
    {oc_iCM kV_iCM dc_iCM pm_iCM cd_iCM ct_iCM : Value}
    {od_iCM an_iCM : Option Addr}
    {sl_iCM : Array (Option Value)}
    (z_len : PySem.W.nsIn K mainGlobals "len" = some none)
    (z_range : PySem.W.nsIn K mainGlobals "range" = some none)
    (z_list : PySem.W.nsIn K mainGlobals "list" = some none)
    (z_zip : PySem.W.nsIn K mainGlobals "zip" = some none)
    (z_any : PySem.W.nsIn K mainGlobals "any" = some none)
    (z_sum : PySem.W.nsIn K mainGlobals "sum" = some none)
    (z_min : PySem.W.nsIn K mainGlobals "min" = some none)
    (z_max : PySem.W.nsIn K mainGlobals "max" = some none)
    (z_reversed : PySem.W.nsIn K mainGlobals "reversed" = some none)
    (z_enumerate : PySem.W.nsIn K mainGlobals "enumerate" = some none)
    (c_MODULUS : PySem.W.nsIn K mainGlobals "MODULUS" = some (some (.int 18446744073709551616 t_MODULUS)))
    (c_LOWER_HALF : PySem.W.nsIn K mainGlobals "LOWER_HALF" = some (some (.int 4294967295 t_LOWER_HALF)))
    (c_SCALAR_WEIGHT : PySem.W.nsIn K mainGlobals "SCALAR_WEIGHT" = some (some (.int 1 t_SCALAR_WEIGHT)))
    (c_MASK_WEIGHT : PySem.W.nsIn K mainGlobals "MASK_WEIGHT" = some (some (.int 32 t_MASK_WEIGHT)))
    (c_HEAD_LENGTH : PySem.W.nsIn K mainGlobals "HEAD_LENGTH" = some (some (.int 576 t_HEAD_LENGTH)))
    (c_SCALARS_AT : PySem.W.nsIn K mainGlobals "SCALARS_AT" = some (some (.int 32 t_SCALARS_AT)))
    (c_PAIRS_AT : PySem.W.nsIn K mainGlobals "PAIRS_AT" = some (some (.int 160 t_PAIRS_AT)))
    (c_WEIGHTS_AT : PySem.W.nsIn K mainGlobals "WEIGHTS_AT" = some (some (.int 512 t_WEIGHTS_AT)))
    (c_FORM_AT : PySem.W.nsIn K mainGlobals "FORM_AT" = some (some (.int 520 t_FORM_AT)))
    (c_SHORT_MARK : PySem.W.nsIn K mainGlobals "SHORT_MARK" = some (some (.int 9223372036854775808 t_SHORT_MARK)))
    (c_OUT_OF_RANGE : PySem.W.nsIn K mainGlobals "OUT_OF_RANGE" = some (some (.int (-1) t_OUT_OF_RANGE)))
    (c_BAD_BYTES : PySem.W.nsIn K mainGlobals "BAD_BYTES" = some (some (.int (-2) t_BAD_BYTES)))
    (c_NO_COMPONENT : PySem.W.nsIn K mainGlobals "NO_COMPONENT" = some (some (.int (-3) t_NO_COMPONENT)))
    (c_NO_ROOM : PySem.W.nsIn K mainGlobals "NO_ROOM" = some (some (.int (-4) t_NO_ROOM)))
    (c_MOST_CODE : PySem.W.nsIn K mainGlobals "MOST_CODE" = some (some (.int 4096 t_MOST_CODE)))
    (c_MOST_EXECUTED : PySem.W.nsIn K mainGlobals "MOST_EXECUTED" = some (some (.int 1000000 t_MOST_EXECUTED)))
    (c_MOST_BYTES : PySem.W.nsIn K mainGlobals "MOST_BYTES" = some (some (.int 2688 t_MOST_BYTES)))
    (c_FIRST_SCALAR : PySem.W.nsIn K mainGlobals "FIRST_SCALAR" = some (some (.int 32 t_FIRST_SCALAR)))
    (c_FIRST_MASK : PySem.W.nsIn K mainGlobals "FIRST_MASK" = some (some (.int 40 t_FIRST_MASK)))
    (c_REGISTER_COUNT : PySem.W.nsIn K mainGlobals "REGISTER_COUNT" = some (some (.int 48 t_REGISTER_COUNT)))
    (a_LANE_COUNTS : PySem.W.nsIn K mainGlobals "LANE_COUNTS" = some (some (.ref d_LANE_COUNTS)))
    (l_LANE_COUNTS : K.lookup d_LANE_COUNTS = some o_LANE_COUNTS)
    (i_LANE_COUNTS : intsOf (some o_LANE_COUNTS) = some [2, 4, 8])
    (a_WEIGHTS : PySem.W.nsIn K mainGlobals "WEIGHTS" = some (some (.ref d_WEIGHTS)))
    (l_WEIGHTS : K.lookup d_WEIGHTS = some o_WEIGHTS)
    (i_WEIGHTS : intsOf (some o_WEIGHTS) = some [1, 2, 4, 32, 64, 128])
    (a_TAIL_WEIGHTS : PySem.W.nsIn K mainGlobals "TAIL_WEIGHTS" = some (some (.ref d_TAIL_WEIGHTS)))
    (l_TAIL_WEIGHTS : K.lookup d_TAIL_WEIGHTS = some o_TAIL_WEIGHTS)
    (i_TAIL_WEIGHTS : intsOf (some o_TAIL_WEIGHTS) = some [4, 32, 64, 128])
    (a_MACHINES : PySem.W.nsIn K mainGlobals "MACHINES" = some (some (.ref d_MACHINES)))
    (l_MACHINES : K.lookup d_MACHINES = some o_MACHINES)
    (i_MACHINES : intsOf (some o_MACHINES) = some [3, 7, 231])
    (aB : PySem.W.nsIn K mainGlobals "BOUNDS" = some (some (.ref dB)))
    (lB : K.lookup dB = some oB)
    (rB : refsOf (some oB) = some [dB0, dB1, dB2, dB3, dB4, dB5, dB6, dB7, dB8, dB9, dB10, dB11, dB12, dB13, dB14, dB15, dB16, dB17, dB18, dB19, dB20, dB21, dB22, dB23])
    (lB0 : K.lookup dB0 = some oB0)
    (iB0 : intsOf (some oB0) = some [3, 8, 32, 32, 32])
    (lB1 : K.lookup dB1 = some oB1)
    (iB1 : intsOf (some oB1) = some [3, 8, 32, 32, 32])
    (lB2 : K.lookup dB2 = some oB2)
    (iB2 : intsOf (some oB2) = some [3, 8, 32, 32, 32])
    (lB3 : K.lookup dB3 = some oB3)
    (iB3 : intsOf (some oB3) = some [3, 8, 32, 32, 32])
    (lB4 : K.lookup dB4 = some oB4)
    (iB4 : intsOf (some oB4) = some [3, 8, 32, 32, 32])
    (lB5 : K.lookup dB5 = some oB5)
    (iB5 : intsOf (some oB5) = some [3, 8, 32, 32, 32])
    (lB6 : K.lookup dB6 = some oB6)
    (iB6 : intsOf (some oB6) = some [3, 8, 32, 32, 32])
    (lB7 : K.lookup dB7 = some oB7)
    (iB7 : intsOf (some oB7) = some [3, 8, 32, 32, 32])
    (lB8 : K.lookup dB8 = some oB8)
    (iB8 : intsOf (some oB8) = some [3, 8, 32, 32, 64])
    (lB9 : K.lookup dB9 = some oB9)
    (iB9 : intsOf (some oB9) = some [3, 8, 32, 32, 64])
    (lB10 : K.lookup dB10 = some oB10)
    (iB10 : intsOf (some oB10) = some [3, 8, 32, 32, 64])
    (lB11 : K.lookup dB11 = some oB11)
    (iB11 : intsOf (some oB11) = some [3, 8, 32, 32, 8])
    (lB12 : K.lookup dB12 = some oB12)
    (iB12 : intsOf (some oB12) = some [3, 8, 32, 8, 1])
    (lB13 : K.lookup dB13 = some oB13)
    (iB13 : intsOf (some oB13) = some [3, 8, 32, 8, 1])
    (lB14 : K.lookup dB14 = some oB14)
    (iB14 : intsOf (some oB14) = some [3, 1, 8, 32, 1])
    (lB15 : K.lookup dB15 = some oB15)
    (iB15 : intsOf (some oB15) = some [1, 1, 8, 8, 8])
    (lB16 : K.lookup dB16 = some oB16)
    (iB16 : intsOf (some oB16) = some [1, 1, 8, 8, 8])
    (lB17 : K.lookup dB17 = some oB17)
    (iB17 : intsOf (some oB17) = some [3, 1, 8, 32, 32])
    (lB18 : K.lookup dB18 = some oB18)
    (iB18 : intsOf (some oB18) = some [1, 1, 8, 8, 8])
    (lB19 : K.lookup dB19 = some oB19)
    (iB19 : intsOf (some oB19) = some [1, 1, 8, 8, 8])
    (lB20 : K.lookup dB20 = some oB20)
    (iB20 : intsOf (some oB20) = some [3, 1, 8, 8, 1])
    (lB21 : K.lookup dB21 = some oB21)
    (iB21 : intsOf (some oB21) = some [1, 1, 8, 8, 1])
    (lB22 : K.lookup dB22 = some oB22)
    (iB22 : intsOf (some oB22) = some [1, 1, 8, 8, 1])
    (lB23 : K.lookup dB23 = some oB23)
    (iB23 : intsOf (some oB23) = some [1, 1, 8, 256, 1])
    (aDL : PySem.W.nsIn K mainGlobals "LANES" = some (some (.ref dL)))
    (lDL : K.lookup dL = some oL)
    (pDL : pairsOf (some oL) = some [(2, .ref rL2), (4, .ref rL4), (64, .ref rL64), (128, .ref rL128)])
    (lL2 : K.lookup rL2 = some oL2)
    (iL2 : intsOf (some oL2) = some [0, 16, 0, 2])
    (lL4 : K.lookup rL4 = some oL4)
    (iL4 : intsOf (some oL4) = some [0, 16, 2, 4])
    (lL64 : K.lookup rL64 = some oL64)
    (iL64 : intsOf (some oL64) = some [0, 16, 4, 8])
    (lL128 : K.lookup rL128 = some oL128)
    (iL128 : intsOf (some oL128) = some [16, 32, 0, 8])
    (aDW : PySem.W.nsIn K mainGlobals "WORD_COUNTS" = some (some (.ref dW)))
    (lDW : K.lookup dW = some oW)
    (pDW : pairsOf (some oW) = some [(2, .int 32 tW2), (4, .int 32 tW4), (32, .int 8 tW32), (64, .int 64 tW64), (128, .int 128 tW128)])
    (aDG : PySem.W.nsIn K mainGlobals "LONG_LENGTHS" = some (some (.ref dG)))
    (lDG : K.lookup dG = some oG)
    (pDG : pairsOf (some oG) = some [(576, .int 3 tG576), (832, .int 7 tG832), (2688, .int 231 tG2688)])
    (lowG : (dG == sysModules) = false)
    (a_word_bytes : PySem.W.nsIn K mainGlobals "word_bytes" = some (some (.ref f_word_bytes)))
    (l_word_bytes : K.lookup f_word_bytes = some ⟨oc_word_bytes, od_word_bytes, .func (PySem.W.fnOf "word_bytes" "word_bytes" (defArgs sWordBytes) (defBody sWordBytes) (defScope sWordBytes) .none kV_word_bytes dc_word_bytes pm_word_bytes an_word_bytes cd_word_bytes ct_word_bytes), sl_word_bytes⟩)
    (c_word_bytes : PySem.W.codeIn K cd_word_bytes "word_bytes" = true)
    (k_word_bytes : PySem.W.keepIn K (.ref f_word_bytes) = true)
    (a_words_at : PySem.W.nsIn K mainGlobals "words_at" = some (some (.ref f_words_at)))
    (l_words_at : K.lookup f_words_at = some ⟨oc_words_at, od_words_at, .func (PySem.W.fnOf "words_at" "words_at" (defArgs sWordsAt) (defBody sWordsAt) (defScope sWordsAt) .none kV_words_at dc_words_at pm_words_at an_words_at cd_words_at ct_words_at), sl_words_at⟩)
    (c_words_at : PySem.W.codeIn K cd_words_at "words_at" = true)
    (k_words_at : PySem.W.keepIn K (.ref f_words_at) = true)
    (a_lane_places : PySem.W.nsIn K mainGlobals "lane_places" = some (some (.ref f_lane_places)))
    (l_lane_places : K.lookup f_lane_places = some ⟨oc_lane_places, od_lane_places, .func (PySem.W.fnOf "lane_places" "lane_places" (defArgs sPlaces) (defBody sPlaces) (defScope sPlaces) .none kV_lane_places dc_lane_places pm_lane_places an_lane_places cd_lane_places ct_lane_places), sl_lane_places⟩)
    (c_lane_places : PySem.W.codeIn K cd_lane_places "lane_places" = true)
    (k_lane_places : PySem.W.keepIn K (.ref f_lane_places) = true)
    (a_component_words : PySem.W.nsIn K mainGlobals "component_words" = some (some (.ref f_component_words)))
    (l_component_words : K.lookup f_component_words = some ⟨oc_component_words, od_component_words, .func (PySem.W.fnOf "component_words" "component_words" (defArgs sWords) (defBody sWords) (defScope sWords) .none kV_component_words dc_component_words pm_component_words an_component_words cd_component_words ct_component_words), sl_component_words⟩)
    (c_component_words : PySem.W.codeIn K cd_component_words "component_words" = true)
    (k_component_words : PySem.W.keepIn K (.ref f_component_words) = true)
    (a_put_component : PySem.W.nsIn K mainGlobals "put_component" = some (some (.ref f_put_component)))
    (l_put_component : K.lookup f_put_component = some ⟨oc_put_component, od_put_component, .func (PySem.W.fnOf "put_component" "put_component" (defArgs sPut) (defBody sPut) (defScope sPut) .none kV_put_component dc_put_component pm_put_component an_put_component cd_put_component ct_put_component), sl_put_component⟩)
    (c_put_component : PySem.W.codeIn K cd_put_component "put_component" = true)
    (k_put_component : PySem.W.keepIn K (.ref f_put_component) = true)
    (a_weights_in_use : PySem.W.nsIn K mainGlobals "weights_in_use" = some (some (.ref f_weights_in_use)))
    (l_weights_in_use : K.lookup f_weights_in_use = some ⟨oc_weights_in_use, od_weights_in_use, .func (PySem.W.fnOf "weights_in_use" "weights_in_use" (defArgs sUsed) (defBody sUsed) (defScope sUsed) .none kV_weights_in_use dc_weights_in_use pm_weights_in_use an_weights_in_use cd_weights_in_use ct_weights_in_use), sl_weights_in_use⟩)
    (c_weights_in_use : PySem.W.codeIn K cd_weights_in_use "weights_in_use" = true)
    (k_weights_in_use : PySem.W.keepIn K (.ref f_weights_in_use) = true)
    (a_has_components : PySem.W.nsIn K mainGlobals "has_components" = some (some (.ref f_has_components)))
    (l_has_components : K.lookup f_has_components = some ⟨oc_has_components, od_has_components, .func (PySem.W.fnOf "has_components" "has_components" (defArgs sHas) (defBody sHas) (defScope sHas) .none kV_has_components dc_has_components pm_has_components an_has_components cd_has_components ct_has_components), sl_has_components⟩)
    (c_has_components : PySem.W.codeIn K cd_has_components "has_components" = true)
    (k_has_components : PySem.W.keepIn K (.ref f_has_components) = true)
    (a_component_bytes : PySem.W.nsIn K mainGlobals "component_bytes" = some (some (.ref f_component_bytes)))
    (l_component_bytes : K.lookup f_component_bytes = some ⟨oc_component_bytes, od_component_bytes, .func (PySem.W.fnOf "component_bytes" "component_bytes" (defArgs sCBytes) (defBody sCBytes) (defScope sCBytes) .none kV_component_bytes dc_component_bytes pm_component_bytes an_component_bytes cd_component_bytes ct_component_bytes), sl_component_bytes⟩)
    (c_component_bytes : PySem.W.codeIn K cd_component_bytes "component_bytes" = true)
    (k_component_bytes : PySem.W.keepIn K (.ref f_component_bytes) = true)
    (a_scalar_bytes : PySem.W.nsIn K mainGlobals "scalar_bytes" = some (some (.ref f_scalar_bytes)))
    (l_scalar_bytes : K.lookup f_scalar_bytes = some ⟨oc_scalar_bytes, od_scalar_bytes, .func (PySem.W.fnOf "scalar_bytes" "scalar_bytes" (defArgs sSBytes) (defBody sSBytes) (defScope sSBytes) .none kV_scalar_bytes dc_scalar_bytes pm_scalar_bytes an_scalar_bytes cd_scalar_bytes ct_scalar_bytes), sl_scalar_bytes⟩)
    (c_scalar_bytes : PySem.W.codeIn K cd_scalar_bytes "scalar_bytes" = true)
    (k_scalar_bytes : PySem.W.keepIn K (.ref f_scalar_bytes) = true)
    (a_head_bytes : PySem.W.nsIn K mainGlobals "head_bytes" = some (some (.ref f_head_bytes)))
    (l_head_bytes : K.lookup f_head_bytes = some ⟨oc_head_bytes, od_head_bytes, .func (PySem.W.fnOf "head_bytes" "head_bytes" (defArgs sHead) (defBody sHead) (defScope sHead) .none kV_head_bytes dc_head_bytes pm_head_bytes an_head_bytes cd_head_bytes ct_head_bytes), sl_head_bytes⟩)
    (c_head_bytes : PySem.W.codeIn K cd_head_bytes "head_bytes" = true)
    (k_head_bytes : PySem.W.keepIn K (.ref f_head_bytes) = true)
    (a_long_form : PySem.W.nsIn K mainGlobals "long_form" = some (some (.ref f_long_form)))
    (l_long_form : K.lookup f_long_form = some ⟨oc_long_form, od_long_form, .func (PySem.W.fnOf "long_form" "long_form" (defArgs sLong) (defBody sLong) (defScope sLong) .none kV_long_form dc_long_form pm_long_form an_long_form cd_long_form ct_long_form), sl_long_form⟩)
    (c_long_form : PySem.W.codeIn K cd_long_form "long_form" = true)
    (k_long_form : PySem.W.keepIn K (.ref f_long_form) = true)
    (a_short_form : PySem.W.nsIn K mainGlobals "short_form" = some (some (.ref f_short_form)))
    (l_short_form : K.lookup f_short_form = some ⟨oc_short_form, od_short_form, .func (PySem.W.fnOf "short_form" "short_form" (defArgs sShort) (defBody sShort) (defScope sShort) .none kV_short_form dc_short_form pm_short_form an_short_form cd_short_form ct_short_form), sl_short_form⟩)
    (c_short_form : PySem.W.codeIn K cd_short_form "short_form" = true)
    (k_short_form : PySem.W.keepIn K (.ref f_short_form) = true)
    (a_read_part : PySem.W.nsIn K mainGlobals "read_part" = some (some (.ref f_read_part)))
    (l_read_part : K.lookup f_read_part = some ⟨oc_read_part, od_read_part, .func (PySem.W.fnOf "read_part" "read_part" (defArgs sRPart) (defBody sRPart) (defScope sRPart) .none kV_read_part dc_read_part pm_read_part an_read_part cd_read_part ct_read_part), sl_read_part⟩)
    (c_read_part : PySem.W.codeIn K cd_read_part "read_part" = true)
    (k_read_part : PySem.W.keepIn K (.ref f_read_part) = true)
    (a_read_head : PySem.W.nsIn K mainGlobals "read_head" = some (some (.ref f_read_head)))
    (l_read_head : K.lookup f_read_head = some ⟨oc_read_head, od_read_head, .func (PySem.W.fnOf "read_head" "read_head" (defArgs sRHead) (defBody sRHead) (defScope sRHead) .none kV_read_head dc_read_head pm_read_head an_read_head cd_read_head ct_read_head), sl_read_head⟩)
    (c_read_head : PySem.W.codeIn K cd_read_head "read_head" = true)
    (k_read_head : PySem.W.keepIn K (.ref f_read_head) = true)
    (a_read_long : PySem.W.nsIn K mainGlobals "read_long" = some (some (.ref f_read_long)))
    (l_read_long : K.lookup f_read_long = some ⟨oc_read_long, od_read_long, .func (PySem.W.fnOf "read_long" "read_long" (defArgs sRLong) (defBody sRLong) (defScope sRLong) .none kV_read_long dc_read_long pm_read_long an_read_long cd_read_long ct_read_long), sl_read_long⟩)
    (c_read_long : PySem.W.codeIn K cd_read_long "read_long" = true)
    (k_read_long : PySem.W.keepIn K (.ref f_read_long) = true)
    (a_read_short : PySem.W.nsIn K mainGlobals "read_short" = some (some (.ref f_read_short)))
    (l_read_short : K.lookup f_read_short = some ⟨oc_read_short, od_read_short, .func (PySem.W.fnOf "read_short" "read_short" (defArgs sRShort) (defBody sRShort) (defScope sRShort) .none kV_read_short dc_read_short pm_read_short an_read_short cd_read_short ct_read_short), sl_read_short⟩)
    (c_read_short : PySem.W.codeIn K cd_read_short "read_short" = true)
    (k_read_short : PySem.W.keepIn K (.ref f_read_short) = true)
    (a_read_checkpoint : PySem.W.nsIn K mainGlobals "read_checkpoint" = some (some (.ref f_read_checkpoint)))
    (l_read_checkpoint : K.lookup f_read_checkpoint = some ⟨oc_read_checkpoint, od_read_checkpoint, .func (PySem.W.fnOf "read_checkpoint" "read_checkpoint" (defArgs sRCheck) (defBody sRCheck) (defScope sRCheck) .none kV_read_checkpoint dc_read_checkpoint pm_read_checkpoint an_read_checkpoint cd_read_checkpoint ct_read_checkpoint), sl_read_checkpoint⟩)
    (c_read_checkpoint : PySem.W.codeIn K cd_read_checkpoint "read_checkpoint" = true)
    (k_read_checkpoint : PySem.W.keepIn K (.ref f_read_checkpoint) = true)
    (a_split_code : PySem.W.nsIn K mainGlobals "split_code" = some (some (.ref f_split_code)))
    (l_split_code : K.lookup f_split_code = some ⟨oc_split_code, od_split_code, .func (PySem.W.fnOf "split_code" "split_code" (defArgs sSplit) (defBody sSplit) (defScope sSplit) .none kV_split_code dc_split_code pm_split_code an_split_code cd_split_code ct_split_code), sl_split_code⟩)
    (c_split_code : PySem.W.codeIn K cd_split_code "split_code" = true)
    (k_split_code : PySem.W.keepIn K (.ref f_split_code) = true)
    (a_is_instruction : PySem.W.nsIn K mainGlobals "is_instruction" = some (some (.ref f_is_instruction)))
    (l_is_instruction : K.lookup f_is_instruction = some ⟨oc_is_instruction, od_is_instruction, .func (PySem.W.fnOf "is_instruction" "is_instruction" (defArgs sIsIns) (defBody sIsIns) (defScope sIsIns) .none kV_is_instruction dc_is_instruction pm_is_instruction an_is_instruction cd_is_instruction ct_is_instruction), sl_is_instruction⟩)
    (c_is_instruction : PySem.W.codeIn K cd_is_instruction "is_instruction" = true)
    (k_is_instruction : PySem.W.keepIn K (.ref f_is_instruction) = true)
    (a_vector_operands : PySem.W.nsIn K mainGlobals "vector_operands" = some (some (.ref f_vector_operands)))
    (l_vector_operands : K.lookup f_vector_operands = some ⟨oc_vector_operands, od_vector_operands, .func (PySem.W.fnOf "vector_operands" "vector_operands" (defArgs sVOps) (defBody sVOps) (defScope sVOps) .none kV_vector_operands dc_vector_operands pm_vector_operands an_vector_operands cd_vector_operands ct_vector_operands), sl_vector_operands⟩)
    (c_vector_operands : PySem.W.codeIn K cd_vector_operands "vector_operands" = true)
    (k_vector_operands : PySem.W.keepIn K (.ref f_vector_operands) = true)
    (a_needed_components : PySem.W.nsIn K mainGlobals "needed_components" = some (some (.ref f_needed_components)))
    (l_needed_components : K.lookup f_needed_components = some ⟨oc_needed_components, od_needed_components, .func (PySem.W.fnOf "needed_components" "needed_components" (defArgs sNeeds) (defBody sNeeds) (defScope sNeeds) .none kV_needed_components dc_needed_components pm_needed_components an_needed_components cd_needed_components ct_needed_components), sl_needed_components⟩)
    (c_needed_components : PySem.W.codeIn K cd_needed_components "needed_components" = true)
    (k_needed_components : PySem.W.keepIn K (.ref f_needed_components) = true)
    (a_chosen_lanes : PySem.W.nsIn K mainGlobals "chosen_lanes" = some (some (.ref f_chosen_lanes)))
    (l_chosen_lanes : K.lookup f_chosen_lanes = some ⟨oc_chosen_lanes, od_chosen_lanes, .func (PySem.W.fnOf "chosen_lanes" "chosen_lanes" (defArgs sChosen) (defBody sChosen) (defScope sChosen) .none kV_chosen_lanes dc_chosen_lanes pm_chosen_lanes an_chosen_lanes cd_chosen_lanes ct_chosen_lanes), sl_chosen_lanes⟩)
    (c_chosen_lanes : PySem.W.codeIn K cd_chosen_lanes "chosen_lanes" = true)
    (k_chosen_lanes : PySem.W.keepIn K (.ref f_chosen_lanes) = true)
    (a_combined_lanes : PySem.W.nsIn K mainGlobals "combined_lanes" = some (some (.ref f_combined_lanes)))
    (l_combined_lanes : K.lookup f_combined_lanes = some ⟨oc_combined_lanes, od_combined_lanes, .func (PySem.W.fnOf "combined_lanes" "combined_lanes" (defArgs sCombined) (defBody sCombined) (defScope sCombined) .none kV_combined_lanes dc_combined_lanes pm_combined_lanes an_combined_lanes cd_combined_lanes ct_combined_lanes), sl_combined_lanes⟩)
    (c_combined_lanes : PySem.W.codeIn K cd_combined_lanes "combined_lanes" = true)
    (k_combined_lanes : PySem.W.keepIn K (.ref f_combined_lanes) = true)
    (a_shifted_lanes : PySem.W.nsIn K mainGlobals "shifted_lanes" = some (some (.ref f_shifted_lanes)))
    (l_shifted_lanes : K.lookup f_shifted_lanes = some ⟨oc_shifted_lanes, od_shifted_lanes, .func (PySem.W.fnOf "shifted_lanes" "shifted_lanes" (defArgs sShifted) (defBody sShifted) (defScope sShifted) .none kV_shifted_lanes dc_shifted_lanes pm_shifted_lanes an_shifted_lanes cd_shifted_lanes ct_shifted_lanes), sl_shifted_lanes⟩)
    (c_shifted_lanes : PySem.W.codeIn K cd_shifted_lanes "shifted_lanes" = true)
    (k_shifted_lanes : PySem.W.keepIn K (.ref f_shifted_lanes) = true)
    (a_vector_result : PySem.W.nsIn K mainGlobals "vector_result" = some (some (.ref f_vector_result)))
    (l_vector_result : K.lookup f_vector_result = some ⟨oc_vector_result, od_vector_result, .func (PySem.W.fnOf "vector_result" "vector_result" (defArgs sVector) (defBody sVector) (defScope sVector) .none kV_vector_result dc_vector_result pm_vector_result an_vector_result cd_vector_result ct_vector_result), sl_vector_result⟩)
    (c_vector_result : PySem.W.codeIn K cd_vector_result "vector_result" = true)
    (k_vector_result : PySem.W.keepIn K (.ref f_vector_result) = true)
    (a_scalar_result : PySem.W.nsIn K mainGlobals "scalar_result" = some (some (.ref f_scalar_result)))
    (l_scalar_result : K.lookup f_scalar_result = some ⟨oc_scalar_result, od_scalar_result, .func (PySem.W.fnOf "scalar_result" "scalar_result" (defArgs sScalar) (defBody sScalar) (defScope sScalar) .none kV_scalar_result dc_scalar_result pm_scalar_result an_scalar_result cd_scalar_result ct_scalar_result), sl_scalar_result⟩)
    (c_scalar_result : PySem.W.codeIn K cd_scalar_result "scalar_result" = true)
    (k_scalar_result : PySem.W.keepIn K (.ref f_scalar_result) = true)
    (a_less_bits : PySem.W.nsIn K mainGlobals "less_bits" = some (some (.ref f_less_bits)))
    (l_less_bits : K.lookup f_less_bits = some ⟨oc_less_bits, od_less_bits, .func (PySem.W.fnOf "less_bits" "less_bits" (defArgs sLess) (defBody sLess) (defScope sLess) .none kV_less_bits dc_less_bits pm_less_bits an_less_bits cd_less_bits ct_less_bits), sl_less_bits⟩)
    (c_less_bits : PySem.W.codeIn K cd_less_bits "less_bits" = true)
    (k_less_bits : PySem.W.keepIn K (.ref f_less_bits) = true)
    (a_mask_result : PySem.W.nsIn K mainGlobals "mask_result" = some (some (.ref f_mask_result)))
    (l_mask_result : K.lookup f_mask_result = some ⟨oc_mask_result, od_mask_result, .func (PySem.W.fnOf "mask_result" "mask_result" (defArgs sMask) (defBody sMask) (defScope sMask) .none kV_mask_result dc_mask_result pm_mask_result an_mask_result cd_mask_result ct_mask_result), sl_mask_result⟩)
    (c_mask_result : PySem.W.codeIn K cd_mask_result "mask_result" = true)
    (k_mask_result : PySem.W.keepIn K (.ref f_mask_result) = true)
    (a_count_down : PySem.W.nsIn K mainGlobals "count_down" = some (some (.ref f_count_down)))
    (l_count_down : K.lookup f_count_down = some ⟨oc_count_down, od_count_down, .func (PySem.W.fnOf "count_down" "count_down" (defArgs sCount) (defBody sCount) (defScope sCount) .none kV_count_down dc_count_down pm_count_down an_count_down cd_count_down ct_count_down), sl_count_down⟩)
    (c_count_down : PySem.W.codeIn K cd_count_down "count_down" = true)
    (k_count_down : PySem.W.keepIn K (.ref f_count_down) = true)
    (a_write_vector : PySem.W.nsIn K mainGlobals "write_vector" = some (some (.ref f_write_vector)))
    (l_write_vector : K.lookup f_write_vector = some ⟨oc_write_vector, od_write_vector, .func (PySem.W.fnOf "write_vector" "write_vector" (defArgs sWrite) (defBody sWrite) (defScope sWrite) .none kV_write_vector dc_write_vector pm_write_vector an_write_vector cd_write_vector ct_write_vector), sl_write_vector⟩)
    (c_write_vector : PySem.W.codeIn K cd_write_vector "write_vector" = true)
    (k_write_vector : PySem.W.keepIn K (.ref f_write_vector) = true)
    (a_step : PySem.W.nsIn K mainGlobals "step" = some (some (.ref f_step)))
    (l_step : K.lookup f_step = some ⟨oc_step, od_step, .func (PySem.W.fnOf "step" "step" (defArgs sStep) (defBody sStep) (defScope sStep) .none kV_step dc_step pm_step an_step cd_step ct_step), sl_step⟩)
    (c_step : PySem.W.codeIn K cd_step "step" = true)
    (k_step : PySem.W.keepIn K (.ref f_step) = true)
    (a_execute : PySem.W.nsIn K mainGlobals "execute" = some (some (.ref f_execute)))
    (l_execute : K.lookup f_execute = some ⟨oc_execute, od_execute, .func (PySem.W.fnOf "execute" "execute" (defArgs sExec) (defBody sExec) (defScope sExec) .none kV_execute dc_execute pm_execute an_execute cd_execute ct_execute), sl_execute⟩)
    (c_execute : PySem.W.codeIn K cd_execute "execute" = true)
    (k_execute : PySem.W.keepIn K (.ref f_execute) = true)
    (a_different_weights : PySem.W.nsIn K mainGlobals "different_weights" = some (some (.ref f_different_weights)))
    (l_different_weights : K.lookup f_different_weights = some ⟨oc_different_weights, od_different_weights, .func (PySem.W.fnOf "different_weights" "different_weights" (defArgs sDiff) (defBody sDiff) (defScope sDiff) .none kV_different_weights dc_different_weights pm_different_weights an_different_weights cd_different_weights ct_different_weights), sl_different_weights⟩)
    (c_different_weights : PySem.W.codeIn K cd_different_weights "different_weights" = true)
    (k_different_weights : PySem.W.keepIn K (.ref f_different_weights) = true)
    (a_copy_state : PySem.W.nsIn K mainGlobals "copy_state" = some (some (.ref f_copy_state)))
    (l_copy_state : K.lookup f_copy_state = some ⟨oc_copy_state, od_copy_state, .func (PySem.W.fnOf "copy_state" "copy_state" (defArgs sCopy) (defBody sCopy) (defScope sCopy) .none kV_copy_state dc_copy_state pm_copy_state an_copy_state cd_copy_state ct_copy_state), sl_copy_state⟩)
    (c_copy_state : PySem.W.codeIn K cd_copy_state "copy_state" = true)
    (k_copy_state : PySem.W.keepIn K (.ref f_copy_state) = true)
    (a_register_words : PySem.W.nsIn K mainGlobals "register_words" = some (some (.ref f_register_words)))
    (l_register_words : K.lookup f_register_words = some ⟨oc_register_words, od_register_words, .func (PySem.W.fnOf "register_words" "register_words" (defArgs sRegW) (defBody sRegW) (defScope sRegW) .none kV_register_words dc_register_words pm_register_words an_register_words cd_register_words ct_register_words), sl_register_words⟩)
    (c_register_words : PySem.W.codeIn K cd_register_words "register_words" = true)
    (k_register_words : PySem.W.keepIn K (.ref f_register_words) = true)
    (a_can_hold : PySem.W.nsIn K mainGlobals "can_hold" = some (some (.ref f_can_hold)))
    (l_can_hold : K.lookup f_can_hold = some ⟨oc_can_hold, od_can_hold, .func (PySem.W.fnOf "can_hold" "can_hold" (defArgs sHold) (defBody sHold) (defScope sHold) .none kV_can_hold dc_can_hold pm_can_hold an_can_hold cd_can_hold ct_can_hold), sl_can_hold⟩)
    (c_can_hold : PySem.W.codeIn K cd_can_hold "can_hold" = true)
    (k_can_hold : PySem.W.keepIn K (.ref f_can_hold) = true)
    (a_put_register : PySem.W.nsIn K mainGlobals "put_register" = some (some (.ref f_put_register)))
    (l_put_register : K.lookup f_put_register = some ⟨oc_put_register, od_put_register, .func (PySem.W.fnOf "put_register" "put_register" (defArgs sPutR) (defBody sPutR) (defScope sPutR) .none kV_put_register dc_put_register pm_put_register an_put_register cd_put_register ct_put_register), sl_put_register⟩)
    (c_put_register : PySem.W.codeIn K cd_put_register "put_register" = true)
    (k_put_register : PySem.W.keepIn K (.ref f_put_register) = true)
    (a_read_state : PySem.W.nsIn K mainGlobals "read_state" = some (some (.ref f_read_state)))
    (l_read_state : K.lookup f_read_state = some ⟨oc_read_state, od_read_state, .func (PySem.W.fnOf "read_state" "read_state" (defArgs sReadS) (defBody sReadS) (defScope sReadS) .none kV_read_state dc_read_state pm_read_state an_read_state cd_read_state ct_read_state), sl_read_state⟩)
    (c_read_state : PySem.W.codeIn K cd_read_state "read_state" = true)
    (k_read_state : PySem.W.keepIn K (.ref f_read_state) = true)
    (a_written_state : PySem.W.nsIn K mainGlobals "written_state" = some (some (.ref f_written_state)))
    (l_written_state : K.lookup f_written_state = some ⟨oc_written_state, od_written_state, .func (PySem.W.fnOf "written_state" "written_state" (defArgs sWritS) (defBody sWritS) (defScope sWritS) .none kV_written_state dc_written_state pm_written_state an_written_state cd_written_state ct_written_state), sl_written_state⟩)
    (c_written_state : PySem.W.codeIn K cd_written_state "written_state" = true)
    (k_written_state : PySem.W.keepIn K (.ref f_written_state) = true)
    (a_new : PySem.W.nsIn K mainGlobals "new" = some (some (.ref f_new)))
    (l_new : K.lookup f_new = some ⟨oc_new, od_new, .func (PySem.W.fnOf "new" "new" (defArgs sNew) (defBody sNew) (defScope sNew) .none kV_new dc_new pm_new an_new cd_new ct_new), sl_new⟩)
    (c_new : PySem.W.codeIn K cd_new "new" = true)
    (k_new : PySem.W.keepIn K (.ref f_new) = true)
    (a_run : PySem.W.nsIn K mainGlobals "run" = some (some (.ref f_run)))
    (l_run : K.lookup f_run = some ⟨oc_run, od_run, .func (PySem.W.fnOf "run" "run" (defArgs sRun) (defBody sRun) (defScope sRun) .none kV_run dc_run pm_run an_run cd_run ct_run), sl_run⟩)
    (c_run : PySem.W.codeIn K cd_run "run" = true)
    (k_run : PySem.W.keepIn K (.ref f_run) = true)
    (a_save : PySem.W.nsIn K mainGlobals "save" = some (some (.ref f_save)))
    (l_save : K.lookup f_save = some ⟨oc_save, od_save, .func (PySem.W.fnOf "save" "save" (defArgs sSave) (defBody sSave) (defScope sSave) .none kV_save dc_save pm_save an_save cd_save ct_save), sl_save⟩)
    (c_save : PySem.W.codeIn K cd_save "save" = true)
    (k_save : PySem.W.keepIn K (.ref f_save) = true)
    (a_load : PySem.W.nsIn K mainGlobals "load" = some (some (.ref f_load)))
    (l_load : K.lookup f_load = some ⟨oc_load, od_load, .func (PySem.W.fnOf "load" "load" (defArgs sLoad) (defBody sLoad) (defScope sLoad) .none kV_load dc_load pm_load an_load cd_load ct_load), sl_load⟩)
    (c_load : PySem.W.codeIn K cd_load "load" = true)
    (k_load : PySem.W.keepIn K (.ref f_load) = true)
    (a_turn : PySem.W.nsIn K mainGlobals "turn" = some (some (.ref f_turn)))
    (l_turn : K.lookup f_turn = some ⟨oc_turn, od_turn, .func (PySem.W.fnOf "turn" "turn" (defArgs sTurn) (defBody sTurn) (defScope sTurn) .none kV_turn dc_turn pm_turn an_turn cd_turn ct_turn), sl_turn⟩)
    (c_turn : PySem.W.codeIn K cd_turn "turn" = true)
    (k_turn : PySem.W.keepIn K (.ref f_turn) = true)
    (a_peek : PySem.W.nsIn K mainGlobals "peek" = some (some (.ref f_peek)))
    (l_peek : K.lookup f_peek = some ⟨oc_peek, od_peek, .func (PySem.W.fnOf "peek" "peek" (defArgs sPeek) (defBody sPeek) (defScope sPeek) .none kV_peek dc_peek pm_peek an_peek cd_peek ct_peek), sl_peek⟩)
    (c_peek : PySem.W.codeIn K cd_peek "peek" = true)
    (k_peek : PySem.W.keepIn K (.ref f_peek) = true)
    (a_poke : PySem.W.nsIn K mainGlobals "poke" = some (some (.ref f_poke)))
    (l_poke : K.lookup f_poke = some ⟨oc_poke, od_poke, .func (PySem.W.fnOf "poke" "poke" (defArgs sPoke) (defBody sPoke) (defScope sPoke) .none kV_poke dc_poke pm_poke an_poke cd_poke ct_poke), sl_poke⟩)
    (c_poke : PySem.W.codeIn K cd_poke "poke" = true)
    (k_poke : PySem.W.keepIn K (.ref f_poke) = true)
    (a_differ : PySem.W.nsIn K mainGlobals "differ" = some (some (.ref f_differ)))
    (l_differ : K.lookup f_differ = some ⟨oc_differ, od_differ, .func (PySem.W.fnOf "differ" "differ" (defArgs sDiffer) (defBody sDiffer) (defScope sDiffer) .none kV_differ dc_differ pm_differ an_differ cd_differ ct_differ), sl_differ⟩)
    (c_differ : PySem.W.codeIn K cd_differ "differ" = true)
    (k_differ : PySem.W.keepIn K (.ref f_differ) = true)
    (a_answer_of : PySem.W.nsIn K mainGlobals "answer_of" = some (some (.ref f_answer_of)))
    (l_answer_of : K.lookup f_answer_of = some ⟨oc_answer_of, od_answer_of, .func (PySem.W.fnOf "answer_of" "answer_of" (defArgs sAnsOf) (defBody sAnsOf) (defScope sAnsOf) .none kV_answer_of dc_answer_of pm_answer_of an_answer_of cd_answer_of ct_answer_of), sl_answer_of⟩)
    (c_answer_of : PySem.W.codeIn K cd_answer_of "answer_of" = true)
    (k_answer_of : PySem.W.keepIn K (.ref f_answer_of) = true)
    (a_answers : PySem.W.nsIn K mainGlobals "answers" = some (some (.ref f_answers)))
    (l_answers : K.lookup f_answers = some ⟨oc_answers, od_answers, .func (PySem.W.fnOf "answers" "answers" (defArgs sAnswers) (defBody sAnswers) (defScope sAnswers) .none kV_answers dc_answers pm_answers an_answers cd_answers ct_answers), sl_answers⟩)
    (c_answers : PySem.W.codeIn K cd_answers "answers" = true)
    (k_answers : PySem.W.keepIn K (.ref f_answers) = true)
    (aC : PySem.W.nsIn K mainGlobals "State" = some (some (.ref C)))
    (a_iC : PySem.W.findIn K (.ref C) "__init__" = some (some (.ref f_iC)))
    (i_iC : PySem.W.isFn K (.ref f_iC) = true)
    (l_iC : K.lookup f_iC = some ⟨oc_iC, od_iC, .func (PySem.W.fnOf "__init__" "State.__init__" (defArgs sStInit) (defBody sStInit) (defScope sStInit) .none kV_iC dc_iC pm_iC an_iC cd_iC ct_iC), sl_iC⟩)
    (c_iC : PySem.W.codeIn K cd_iC "State.__init__" = true)
    (k_iC : PySem.W.keepIn K (.ref f_iC) = true)
    (pgC : PySem.W.plainGet K C Str.empty = true)
    (hdC : PySem.W.hasDictIn K C = true)
    (poC : PySem.W.plainOver K C = true)
    (saC : PySem.W.findIn K (.ref C) "__setattr__" = some (some (.builtin "object.__setattr__")))
    (mkC : PySem.W.makesIn K C = true)
    (kcC : PySem.W.keepIn K (.ref C) = true)
    (nC_scalars : PySem.W.findIn K (.ref C) "scalars" = some none)
    (nC_vectors : PySem.W.findIn K (.ref C) "vectors" = some none)
    (nC_masks : PySem.W.findIn K (.ref C) "masks" = some none)
    (aCM : PySem.W.nsIn K mainGlobals "Machine" = some (some (.ref CM)))
    (a_iCM : PySem.W.findIn K (.ref CM) "__init__" = some (some (.ref f_iCM)))
    (i_iCM : PySem.W.isFn K (.ref f_iCM) = true)
    (l_iCM : K.lookup f_iCM = some ⟨oc_iCM, od_iCM, .func (PySem.W.fnOf "__init__" "Machine.__init__" (defArgs sMInit) (defBody sMInit) (defScope sMInit) .none kV_iCM dc_iCM pm_iCM an_iCM cd_iCM ct_iCM), sl_iCM⟩)
    (c_iCM : PySem.W.codeIn K cd_iCM "Machine.__init__" = true)
    (k_iCM : PySem.W.keepIn K (.ref f_iCM) = true)
    (pgCM : PySem.W.plainGet K CM Str.empty = true)
    (hdCM : PySem.W.hasDictIn K CM = true)
    (poCM : PySem.W.plainOver K CM = true)
    (saCM : PySem.W.findIn K (.ref CM) "__setattr__" = some (some (.builtin "object.__setattr__")))
    (mkCM : PySem.W.makesIn K CM = true)
    (kcCM : PySem.W.keepIn K (.ref CM) = true)
    (nCM_components : PySem.W.findIn K (.ref CM) "components" = some none)
    (nCM_state : PySem.W.findIn K (.ref CM) "state" = some none) :
    FnOk P w K mg base CX0 11 f_answers (PySem.W.fnOf "answers" "answers" (defArgs sAnswers) (defBody sAnswers) (defScope sAnswers) .none kV_answers dc_answers pm_answers an_answers cd_answers ct_answers) ["calls"] (spAnswers K) := by
  have T : Txt0 mg := ⟨PySem.W.mg_none_of X G z_len, PySem.W.mg_none_of X G z_range, PySem.W.mg_none_of X G z_list, PySem.W.mg_none_of X G z_zip, PySem.W.mg_none_of X G z_any, PySem.W.mg_none_of X G z_sum, PySem.W.mg_none_of X G z_min, PySem.W.mg_none_of X G z_max, PySem.W.mg_none_of X G z_reversed, PySem.W.mg_none_of X G z_enumerate⟩
  have TE : TxtE mg := ⟨⟨_, PySem.W.mg_of X G c_MODULUS⟩, ⟨_, PySem.W.mg_of X G c_LOWER_HALF⟩⟩
  have TL : TxtL K mg := ⟨⟨_, PySem.W.mg_of X G a_LANE_COUNTS, ints_of (l_LANE_COUNTS ▸ i_LANE_COUNTS) (by decide)⟩⟩
  have TW : TxtW K mg := ⟨⟨_, PySem.W.mg_of X G a_WEIGHTS, ints_of (l_WEIGHTS ▸ i_WEIGHTS) (by decide)⟩⟩
  have TS : TxtS K mg C := ⟨⟨pgC, hdC, poC, saC⟩, nC_scalars, nC_vectors, nC_masks, PySem.W.mg_of X G aC⟩
  have TM : TxtM K mg CM := ⟨⟨pgCM, hdCM, poCM, saCM⟩, nCM_components, nCM_state, PySem.W.mg_of X G aCM⟩
  have TO : TxtO K mg := ⟨⟨_, PySem.W.mg_of X G a_MACHINES, ints_of (l_MACHINES ▸ i_MACHINES) (by decide)⟩, ⟨_, PySem.W.mg_of X G c_OUT_OF_RANGE⟩, ⟨_, PySem.W.mg_of X G c_BAD_BYTES⟩, ⟨_, PySem.W.mg_of X G c_NO_COMPONENT⟩, ⟨_, PySem.W.mg_of X G c_NO_ROOM⟩, ⟨_, PySem.W.mg_of X G c_MOST_CODE⟩, ⟨_, PySem.W.mg_of X G c_MOST_EXECUTED⟩, ⟨_, PySem.W.mg_of X G c_MOST_BYTES⟩⟩
  have TR : TxtR mg := ⟨⟨_, PySem.W.mg_of X G c_FIRST_SCALAR⟩, ⟨_, PySem.W.mg_of X G c_FIRST_MASK⟩, ⟨_, PySem.W.mg_of X G c_REGISTER_COUNT⟩⟩
  have TB : TxtB K mg := by
    refine ⟨dB, _, PySem.W.mg_of X G aB, refs_of (lB ▸ rB) (by show 24 ≤ 1000; decide), rfl, fun i t ht => ?_⟩
    match i, ht with
    | 0, ht => obtain rfl := Option.some.inj ht; exact ⟨_, rfl, ints_of (lB0 ▸ iB0) (by decide)⟩
    | 1, ht => obtain rfl := Option.some.inj ht; exact ⟨_, rfl, ints_of (lB1 ▸ iB1) (by decide)⟩
    | 2, ht => obtain rfl := Option.some.inj ht; exact ⟨_, rfl, ints_of (lB2 ▸ iB2) (by decide)⟩
    | 3, ht => obtain rfl := Option.some.inj ht; exact ⟨_, rfl, ints_of (lB3 ▸ iB3) (by decide)⟩
    | 4, ht => obtain rfl := Option.some.inj ht; exact ⟨_, rfl, ints_of (lB4 ▸ iB4) (by decide)⟩
    | 5, ht => obtain rfl := Option.some.inj ht; exact ⟨_, rfl, ints_of (lB5 ▸ iB5) (by decide)⟩
    | 6, ht => obtain rfl := Option.some.inj ht; exact ⟨_, rfl, ints_of (lB6 ▸ iB6) (by decide)⟩
    | 7, ht => obtain rfl := Option.some.inj ht; exact ⟨_, rfl, ints_of (lB7 ▸ iB7) (by decide)⟩
    | 8, ht => obtain rfl := Option.some.inj ht; exact ⟨_, rfl, ints_of (lB8 ▸ iB8) (by decide)⟩
    | 9, ht => obtain rfl := Option.some.inj ht; exact ⟨_, rfl, ints_of (lB9 ▸ iB9) (by decide)⟩
    | 10, ht => obtain rfl := Option.some.inj ht; exact ⟨_, rfl, ints_of (lB10 ▸ iB10) (by decide)⟩
    | 11, ht => obtain rfl := Option.some.inj ht; exact ⟨_, rfl, ints_of (lB11 ▸ iB11) (by decide)⟩
    | 12, ht => obtain rfl := Option.some.inj ht; exact ⟨_, rfl, ints_of (lB12 ▸ iB12) (by decide)⟩
    | 13, ht => obtain rfl := Option.some.inj ht; exact ⟨_, rfl, ints_of (lB13 ▸ iB13) (by decide)⟩
    | 14, ht => obtain rfl := Option.some.inj ht; exact ⟨_, rfl, ints_of (lB14 ▸ iB14) (by decide)⟩
    | 15, ht => obtain rfl := Option.some.inj ht; exact ⟨_, rfl, ints_of (lB15 ▸ iB15) (by decide)⟩
    | 16, ht => obtain rfl := Option.some.inj ht; exact ⟨_, rfl, ints_of (lB16 ▸ iB16) (by decide)⟩
    | 17, ht => obtain rfl := Option.some.inj ht; exact ⟨_, rfl, ints_of (lB17 ▸ iB17) (by decide)⟩
    | 18, ht => obtain rfl := Option.some.inj ht; exact ⟨_, rfl, ints_of (lB18 ▸ iB18) (by decide)⟩
    | 19, ht => obtain rfl := Option.some.inj ht; exact ⟨_, rfl, ints_of (lB19 ▸ iB19) (by decide)⟩
    | 20, ht => obtain rfl := Option.some.inj ht; exact ⟨_, rfl, ints_of (lB20 ▸ iB20) (by decide)⟩
    | 21, ht => obtain rfl := Option.some.inj ht; exact ⟨_, rfl, ints_of (lB21 ▸ iB21) (by decide)⟩
    | 22, ht => obtain rfl := Option.some.inj ht; exact ⟨_, rfl, ints_of (lB22 ▸ iB22) (by decide)⟩
    | 23, ht => obtain rfl := Option.some.inj ht; exact ⟨_, rfl, ints_of (lB23 ▸ iB23) (by decide)⟩
    | n + 24, ht => cases ht
  have TD : TxtD K mg := by
    refine ⟨⟨dL, PySem.W.mg_of X G aDL, fun w hw => ?_⟩, ⟨dW, PySem.W.mg_of X G aDW, fun w hw h1 => ?_⟩, ⟨_, PySem.W.mg_of X G c_SCALAR_WEIGHT⟩, ⟨_, PySem.W.mg_of X G c_MASK_WEIGHT⟩⟩
    · rcases hw with rfl | rfl | rfl | rfl
      · exact ⟨rL2, kint_of (lDL ▸ pDL) _ ⟨_, rfl, rfl⟩, ints_of (lL2 ▸ iL2) (by decide)⟩
      · exact ⟨rL4, kint_of (lDL ▸ pDL) _ ⟨_, rfl, rfl⟩, ints_of (lL4 ▸ iL4) (by decide)⟩
      · exact ⟨rL64, kint_of (lDL ▸ pDL) _ ⟨_, rfl, rfl⟩, ints_of (lL64 ▸ iL64) (by decide)⟩
      · exact ⟨rL128, kint_of (lDL ▸ pDL) _ ⟨_, rfl, rfl⟩, ints_of (lL128 ▸ iL128) (by decide)⟩
    · rcases hw with rfl | rfl | rfl | rfl | rfl | rfl
      · exact absurd rfl h1
      · exact kint_of (lDW ▸ pDW) _ ⟨_, rfl, ⟨_, rfl⟩⟩
      · exact kint_of (lDW ▸ pDW) _ ⟨_, rfl, ⟨_, rfl⟩⟩
      · exact kint_of (lDW ▸ pDW) _ ⟨_, rfl, ⟨_, rfl⟩⟩
      · exact kint_of (lDW ▸ pDW) _ ⟨_, rfl, ⟨_, rfl⟩⟩
      · exact kint_of (lDW ▸ pDW) _ ⟨_, rfl, ⟨_, rfl⟩⟩
  have TC : TxtC K mg := by
    refine ⟨⟨_, PySem.W.mg_of X G c_HEAD_LENGTH⟩, ⟨_, PySem.W.mg_of X G c_SCALARS_AT⟩, ⟨_, PySem.W.mg_of X G c_PAIRS_AT⟩, ⟨_, PySem.W.mg_of X G c_WEIGHTS_AT⟩, ⟨_, PySem.W.mg_of X G c_FORM_AT⟩, ⟨_, PySem.W.mg_of X G c_SHORT_MARK⟩, ⟨_, PySem.W.mg_of X G a_TAIL_WEIGHTS, ints_of (l_TAIL_WEIGHTS ▸ i_TAIL_WEIGHTS) (by decide)⟩, ⟨dG, PySem.W.mg_of X G aDG, lowG, fun n => kint_of (lDG ▸ pDG) _ ?_⟩⟩
    by_cases c1 : n = 576
    · subst c1
      exact ⟨_, rfl, ⟨_, rfl⟩⟩
    · rw [if_neg c1]
      by_cases c2 : n = 832
      · subst c2
        exact ⟨_, rfl, ⟨_, rfl⟩⟩
      · rw [if_neg c2]
        by_cases c3 : n = 2688
        · subst c3
          exact ⟨_, rfl, ⟨_, rfl⟩⟩
        · rw [if_neg c3]
          exact look_none c1 c2 c3
  have F_iC := fun_mk (st := sStInit) l_iC c_iC k_iC
  have CI : CalNew P w K mg base C := ⟨_, _, ⟨mkC, a_iC, i_iC, kcC⟩, F_iC.binds (ps := ["self"]) (fun _ _ _ _ _ _ us hl => match us, hl with | [_], _ => rfl), ok_stInit F_iC T TS⟩
  have F_iCM := fun_mk (st := sMInit) l_iCM c_iCM k_iCM
  have CJ : CalMach P w K mg base C CM := ⟨_, _, ⟨mkCM, a_iCM, i_iCM, kcCM⟩, F_iCM.binds (ps := ["self"]) (fun _ _ _ _ _ _ us hl => match us, hl with | [_], _ => rfl), ok_mInit F_iCM TS TM CI⟩
  have C_word_bytes : Cal P w K mg base 1 "word_bytes" ["words"] (spWordBytes K) := cal_of X G a_word_bytes l_word_bytes c_word_bytes k_word_bytes (fun _ _ _ _ _ _ us hl => match us, hl with | [_], _ => rfl) fun _ F => ok_wordBytes F T
  have C_words_at : Cal P w K mg base 1 "words_at" ["content", "at", "count"] (spWordsAt K) := cal_of X G a_words_at l_words_at c_words_at k_words_at (fun _ _ _ _ _ _ us hl => match us, hl with | [_, _, _], _ => rfl) fun _ F => ok_wordsAt F T
  have C_lane_places : Cal P w K mg base 1 "lane_places" ["weight"] (spPlaces) := cal_of X G a_lane_places l_lane_places c_lane_places k_lane_places (fun _ _ _ _ _ _ us hl => match us, hl with | [_], _ => rfl) fun _ F => ok_places F T TD
  have C_component_words : Cal P w K mg base 2 "component_words" ["state", "weight"] (spWords C) := cal_of X G a_component_words l_component_words c_component_words k_component_words (fun _ _ _ _ _ _ us hl => match us, hl with | [_, _], _ => rfl) fun _ F => ok_words F T TS TD C_lane_places
  have C_put_component : Cal P w K mg base 2 "put_component" ["state", "weight", "words"] (spPut C) := cal_of X G a_put_component l_put_component c_put_component k_put_component (fun _ _ _ _ _ _ us hl => match us, hl with | [_, _, _], _ => rfl) fun _ F => ok_put F T TS TD C_lane_places
  have C_weights_in_use : Cal P w K mg base 3 "weights_in_use" ["state"] (spUsed C) := cal_of X G a_weights_in_use l_weights_in_use c_weights_in_use k_weights_in_use (fun _ _ _ _ _ _ us hl => match us, hl with | [_], _ => rfl) fun _ F => ok_used F T TW C_component_words
  have C_has_components : Cal P w K mg base 1 "has_components" ["components", "needed"] (spHas) := cal_of X G a_has_components l_has_components c_has_components k_has_components (fun _ _ _ _ _ _ us hl => match us, hl with | [_, _], _ => rfl) fun _ F => ok_has F
  have C_component_bytes : Cal P w K mg base 3 "component_bytes" ["state", "weight"] (spCBytes C) := cal_of X G a_component_bytes l_component_bytes c_component_bytes k_component_bytes (fun _ _ _ _ _ _ us hl => match us, hl with | [_, _], _ => rfl) fun _ F => ok_cBytes F C_component_words C_word_bytes
  have C_scalar_bytes : Cal P w K mg base 2 "scalar_bytes" ["state", "mark"] (spSBytes C) := cal_of X G a_scalar_bytes l_scalar_bytes c_scalar_bytes k_scalar_bytes (fun _ _ _ _ _ _ us hl => match us, hl with | [_, _], _ => rfl) fun _ F => ok_sBytes F T TS C_word_bytes
  have C_head_bytes : Cal P w K mg base 4 "head_bytes" ["state", "weights", "form_word"] (spHead C) := cal_of X G a_head_bytes l_head_bytes c_head_bytes k_head_bytes (fun _ _ _ _ _ _ us hl => match us, hl with | [_, _, _], _ => rfl) fun _ F => ok_head F T TS C_word_bytes C_scalar_bytes C_component_bytes
  have C_long_form : Cal P w K mg base 5 "long_form" ["state", "components"] (spLong C) := cal_of X G a_long_form l_long_form c_long_form k_long_form (fun _ _ _ _ _ _ us hl => match us, hl with | [_, _], _ => rfl) fun _ F => ok_long F T TS C_head_bytes C_weights_in_use C_component_bytes
  have C_short_form : Cal P w K mg base 5 "short_form" ["state"] (spShort C) := cal_of X G a_short_form l_short_form c_short_form k_short_form (fun _ _ _ _ _ _ us hl => match us, hl with | [_], _ => rfl) fun _ F => ok_short F T TS TC C_head_bytes C_weights_in_use C_component_bytes
  have C_read_part : Cal P w K mg base 3 "read_part" ["state", "weight", "content", "at"] (spRPart K C) := cal_of X G a_read_part l_read_part c_read_part k_read_part (fun _ _ _ _ _ _ us hl => match us, hl with | [_, _, _, _], _ => rfl) fun _ F => ok_rPart F TD C_put_component C_words_at
  have C_read_head : Cal P w K mg base 3 "read_head" ["content"] (spRHead K C) := cal_of X G a_read_head l_read_head c_read_head k_read_head (fun _ _ _ _ _ _ us hl => match us, hl with | [_], _ => rfl) fun _ F => ok_rHead F T TS TC TD CI C_put_component C_words_at
  have C_read_long : Cal P w K mg base 6 "read_long" ["content"] (spRead K C fun l => Sd62.number l 520 8 = 0) := cal_of X G a_read_long l_read_long c_read_long k_read_long (fun _ _ _ _ _ _ us hl => match us, hl with | [_], _ => rfl) fun _ F => ok_rLong F T TC C_long_form C_read_head C_read_part
  have C_read_short : Cal P w K mg base 6 "read_short" ["content"] (spRead K C fun l => Sd62.number l 520 8 ≠ 0) := cal_of X G a_read_short l_read_short c_read_short k_read_short (fun _ _ _ _ _ _ us hl => match us, hl with | [_], _ => rfl) fun _ F => ok_rShort F T TC TD C_short_form C_read_head C_read_part C_words_at
  have C_read_checkpoint : Cal P w K mg base 7 "read_checkpoint" ["content"] (spRead K C fun _ => True) := cal_of X G a_read_checkpoint l_read_checkpoint c_read_checkpoint k_read_checkpoint (fun _ _ _ _ _ _ us hl => match us, hl with | [_], _ => rfl) fun _ F => ok_rCheck F T TC C_read_long C_read_short C_words_at
  have C_split_code : Cal P w K mg base 1 "split_code" ["code"] (spSplit K) := cal_of X G a_split_code l_split_code c_split_code k_split_code (fun _ _ _ _ _ _ us hl => match us, hl with | [_], _ => rfl) fun _ F => ok_split F T
  have C_is_instruction : Cal P w K mg base 1 "is_instruction" ["six", "index"] (spIsIns) := cal_of X G a_is_instruction l_is_instruction c_is_instruction k_is_instruction (fun _ _ _ _ _ _ us hl => match us, hl with | [_, _], _ => rfl) fun _ F => ok_isIns F T TL TB
  have C_vector_operands : Cal P w K mg base 1 "vector_operands" ["instruction"] (spVOps K) := cal_of X G a_vector_operands l_vector_operands c_vector_operands k_vector_operands (fun _ _ _ _ _ _ us hl => match us, hl with | [_], _ => rfl) fun _ F => ok_vOps F
  have C_needed_components : Cal P w K mg base 2 "needed_components" ["instruction"] (spNeeds) := cal_of X G a_needed_components l_needed_components c_needed_components k_needed_components (fun _ _ _ _ _ _ us hl => match us, hl with | [_], _ => rfl) fun _ F => ok_needs F T C_vector_operands
  have C_chosen_lanes : Cal P w K mg base 1 "chosen_lanes" ["bits", "fresh", "kept"] (spChosen K) := cal_of X G a_chosen_lanes l_chosen_lanes c_chosen_lanes k_chosen_lanes (fun _ _ _ _ _ _ us hl => match us, hl with | [_, _, _], _ => rfl) fun _ F => ok_chosen F T
  have C_combined_lanes : Cal P w K mg base 1 "combined_lanes" ["kind", "left", "right"] (spCombined K) := cal_of X G a_combined_lanes l_combined_lanes c_combined_lanes k_combined_lanes (fun _ _ _ _ _ _ us hl => match us, hl with | [_, _, _], _ => rfl) fun _ F => ok_combined F T TE
  have C_shifted_lanes : Cal P w K mg base 1 "shifted_lanes" ["kind", "lanes", "distance"] (spShifted K) := cal_of X G a_shifted_lanes l_shifted_lanes c_shifted_lanes k_shifted_lanes (fun _ _ _ _ _ _ us hl => match us, hl with | [_, _, _], _ => rfl) fun _ F => ok_shifted F TE
  have C_vector_result : Cal P w K mg base 2 "vector_result" ["state", "instruction"] (spVector K C) := cal_of X G a_vector_result l_vector_result c_vector_result k_vector_result (fun _ _ _ _ _ _ us hl => match us, hl with | [_, _], _ => rfl) fun _ F => ok_vector F T TE TS TL C_combined_lanes C_shifted_lanes
  have C_scalar_result : Cal P w K mg base 1 "scalar_result" ["state", "instruction"] (spScalar C) := cal_of X G a_scalar_result l_scalar_result c_scalar_result k_scalar_result (fun _ _ _ _ _ _ us hl => match us, hl with | [_, _], _ => rfl) fun _ F => ok_scalar F T TE TS TL
  have C_less_bits : Cal P w K mg base 1 "less_bits" ["left", "right"] (spLess K) := cal_of X G a_less_bits l_less_bits c_less_bits k_less_bits (fun _ _ _ _ _ _ us hl => match us, hl with | [_, _], _ => rfl) fun _ F => ok_less F T
  have C_mask_result : Cal P w K mg base 2 "mask_result" ["state", "instruction"] (spMask C) := cal_of X G a_mask_result l_mask_result c_mask_result k_mask_result (fun _ _ _ _ _ _ us hl => match us, hl with | [_, _], _ => rfl) fun _ F => ok_mask F T TS TL C_less_bits
  have C_count_down : Cal P w K mg base 1 "count_down" ["state", "instruction", "index"] (spCount C) := cal_of X G a_count_down l_count_down c_count_down k_count_down (fun _ _ _ _ _ _ us hl => match us, hl with | [_, _, _], _ => rfl) fun _ F => ok_count F TE TS
  have C_write_vector : Cal P w K mg base 2 "write_vector" ["state", "instruction", "lanes"] (spWrite C) := cal_of X G a_write_vector l_write_vector c_write_vector k_write_vector (fun _ _ _ _ _ _ us hl => match us, hl with | [_, _, _], _ => rfl) fun _ F => ok_write F T TS C_chosen_lanes
  have C_step : Cal P w K mg base 3 "step" ["state", "instruction", "index"] (spStep C) := cal_of X G a_step l_step c_step k_step (fun _ _ _ _ _ _ us hl => match us, hl with | [_, _, _], _ => rfl) fun _ F => ok_step F TS C_write_vector C_vector_result C_scalar_result C_mask_result C_count_down
  have C_execute : Cal P w K mg base 4 "execute" ["state", "instructions", "start", "most"] (spExec C) := cal_of X G a_execute l_execute c_execute k_execute (fun _ _ _ _ _ _ us hl => match us, hl with | [_, _, _, _], _ => rfl) fun _ F => ok_exec F T C_step
  have C_different_weights : Cal P w K mg base 3 "different_weights" ["left", "right"] (spDiff C) := cal_of X G a_different_weights l_different_weights c_different_weights k_different_weights (fun _ _ _ _ _ _ us hl => match us, hl with | [_, _], _ => rfl) fun _ F => ok_diff F TW C_component_words
  have C_copy_state : Cal P w K mg base 3 "copy_state" ["state"] (spCopy C) := cal_of X G a_copy_state l_copy_state c_copy_state k_copy_state (fun _ _ _ _ _ _ us hl => match us, hl with | [_], _ => rfl) fun _ F => ok_copy F TS TW CI C_component_words C_put_component
  have C_register_words : Cal P w K mg base 1 "register_words" ["state", "number"] (spRegW C) := cal_of X G a_register_words l_register_words c_register_words k_register_words (fun _ _ _ _ _ _ us hl => match us, hl with | [_, _], _ => rfl) fun _ F => ok_regW F T TS TR
  have C_can_hold : Cal P w K mg base 1 "can_hold" ["number", "words"] (spHold K) := cal_of X G a_can_hold l_can_hold c_can_hold k_can_hold (fun _ _ _ _ _ _ us hl => match us, hl with | [_, _], _ => rfl) fun _ F => ok_hold F T TR
  have C_put_register : Cal P w K mg base 1 "put_register" ["state", "number", "words"] (spPutR C) := cal_of X G a_put_register l_put_register c_put_register k_put_register (fun _ _ _ _ _ _ us hl => match us, hl with | [_, _, _], _ => rfl) fun _ F => ok_putR F T TS TR
  have C_read_state : Cal P w K mg base 8 "read_state" ["count", "content"] (spReadS K C) := cal_of X G a_read_state l_read_state c_read_state k_read_state (fun _ _ _ _ _ _ us hl => match us, hl with | [_, _], _ => rfl) fun _ F => ok_readS F TO C_read_checkpoint
  have C_written_state : Cal P w K mg base 6 "written_state" ["state", "components", "room", "form"] (spWritS C) := cal_of X G a_written_state l_written_state c_written_state k_written_state (fun _ _ _ _ _ _ us hl => match us, hl with | [_, _, _, _], _ => rfl) fun _ F => ok_writS F T TO C_long_form C_short_form
  have C_new : Cal P w K mg base 3 "new" ["machine", "numbers"] (spOp C CM 0 1) := cal_of X G a_new l_new c_new k_new (fun _ _ _ _ _ _ us hl => match us, hl with | [_, _], _ => rfl) fun _ F => ok_new F TS TM TO CI
  have C_run : Cal P w K mg base 5 "run" ["machine", "numbers"] (spOp C CM 1 3) := cal_of X G a_run l_run c_run k_run (fun _ _ _ _ _ _ us hl => match us, hl with | [_, _], _ => rfl) fun _ F => ok_run F T TM TO C_split_code C_is_instruction C_needed_components C_has_components C_execute
  have C_save : Cal P w K mg base 7 "save" ["machine", "numbers"] (spOp C CM 2 2) := cal_of X G a_save l_save c_save k_save (fun _ _ _ _ _ _ us hl => match us, hl with | [_, _], _ => rfl) fun _ F => ok_save F TM TO C_written_state
  have C_load : Cal P w K mg base 9 "load" ["machine", "numbers"] (spOp C CM 3 2) := cal_of X G a_load l_load c_load k_load (fun _ _ _ _ _ _ us hl => match us, hl with | [_, _], _ => rfl) fun _ F => ok_load F TM TO C_read_state C_has_components C_weights_in_use
  have C_turn : Cal P w K mg base 9 "turn" ["numbers"] (spOpF 4 4) := cal_of X G a_turn l_turn c_turn k_turn (fun _ _ _ _ _ _ us hl => match us, hl with | [_], _ => rfl) fun _ F => ok_turn F TO C_read_state C_has_components C_weights_in_use C_written_state
  have C_peek : Cal P w K mg base 4 "peek" ["machine", "numbers"] (spOp C CM 5 1) := cal_of X G a_peek l_peek c_peek k_peek (fun _ _ _ _ _ _ us hl => match us, hl with | [_, _], _ => rfl) fun _ F => ok_peek F TM TO TR C_weights_in_use C_register_words C_word_bytes
  have C_poke : Cal P w K mg base 4 "poke" ["machine", "numbers"] (spOp C CM 6 1) := cal_of X G a_poke l_poke c_poke k_poke (fun _ _ _ _ _ _ us hl => match us, hl with | [_, _], _ => rfl) fun _ F => ok_poke F TM TO TR C_weights_in_use C_has_components C_words_at C_can_hold C_copy_state C_put_register
  have C_differ : Cal P w K mg base 8 "differ" ["numbers"] (spOpF 7 2) := cal_of X G a_differ l_differ c_differ k_differ (fun _ _ _ _ _ _ us hl => match us, hl with | [_], _ => rfl) fun _ F => ok_differ F TO C_read_checkpoint C_different_weights
  have C_answer_of : Cal P w K mg base 10 "answer_of" ["machine", "call", "numbers"] (spAnsOf C CM) := cal_of X G a_answer_of l_answer_of c_answer_of k_answer_of (fun _ _ _ _ _ _ us hl => match us, hl with | [_, _, _], _ => rfl) fun _ F => ok_ansOf F C_new C_run C_save C_load C_turn C_peek C_poke C_differ
  exact ok_answers (fun_mk (st := sAnswers) l_answers c_answers k_answers) T TM CJ C_answer_of
theorem cals_all {P : Program} {w : World} {K : PySem.W.Frag} {h : Heap} {mg : Str → Option Value} {fa : Addr} (X : K.In h) (G : h.Ns mainGlobals mg) (hfa : mg "answers" = some (.ref fa))
    {t_MODULUS t_LOWER_HALF t_SCALAR_WEIGHT t_MASK_WEIGHT t_HEAD_LENGTH t_SCALARS_AT t_PAIRS_AT t_WEIGHTS_AT t_FORM_AT t_SHORT_MARK t_OUT_OF_RANGE t_BAD_BYTES t_NO_COMPONENT t_NO_ROOM t_MOST_CODE t_MOST_EXECUTED t_MOST_BYTES t_FIRST_SCALAR t_FIRST_MASK t_REGISTER_COUNT : Tok}
    {d_LANE_COUNTS d_WEIGHTS d_TAIL_WEIGHTS d_MACHINES : Addr}
    {o_LANE_COUNTS o_WEIGHTS o_TAIL_WEIGHTS o_MACHINES : Obj}
    {dB dB0 dB1 dB2 dB3 dB4 dB5 dB6 dB7 dB8 dB9 dB10 dB11 dB12 dB13 dB14 dB15 dB16 dB17 dB18 dB19 dB20 dB21 dB22 dB23 : Addr}
    {oB oB0 oB1 oB2 oB3 oB4 oB5 oB6 oB7 oB8 oB9 oB10 oB11 oB12 oB13 oB14 oB15 oB16 oB17 oB18 oB19 oB20 oB21 oB22 oB23 : Obj}
    {dL dW dG rL2 rL4 rL64 rL128 : Addr}
    {oL oW oG oL2 oL4 oL64 oL128 : Obj}
    {tW2 tW4 tW32 tW64 tW128 tG576 tG832 tG2688 : Tok}
    {f_word_bytes : Addr}
    {oc_word_bytes kV_word_bytes dc_word_bytes pm_word_bytes cd_word_bytes ct_word_bytes : Value}
    {od_word_bytes an_word_bytes : Option Addr}
    {sl_word_bytes : Array (Option Value)}
    {f_words_at : Addr}
    {oc_words_at kV_words_at dc_words_at pm_words_at cd_words_at ct_words_at : Value}
    {od_words_at an_words_at : Option Addr}
    {sl_words_at : Array (Option Value)}
    {f_lane_places : Addr}
    {oc_lane_places kV_lane_places dc_lane_places pm_lane_places cd_lane_places ct_lane_places : Value}
    {od_lane_places an_lane_places : Option Addr}
    {sl_lane_places : Array (Option Value)}
    {f_component_words : Addr}
    {oc_component_words kV_component_words dc_component_words pm_component_words cd_component_words ct_component_words : Value}
    {od_component_words an_component_words : Option Addr}
    {sl_component_words : Array (Option Value)}
    {f_put_component : Addr}
    {oc_put_component kV_put_component dc_put_component pm_put_component cd_put_component ct_put_component : Value}
    {od_put_component an_put_component : Option Addr}
    {sl_put_component : Array (Option Value)}
    {f_weights_in_use : Addr}
    {oc_weights_in_use kV_weights_in_use dc_weights_in_use pm_weights_in_use cd_weights_in_use ct_weights_in_use : Value}
    {od_weights_in_use an_weights_in_use : Option Addr}
    {sl_weights_in_use : Array (Option Value)}
    {f_has_components : Addr}
    {oc_has_components kV_has_components dc_has_components pm_has_components cd_has_components ct_has_components : Value}
    {od_has_components an_has_components : Option Addr}
    {sl_has_components : Array (Option Value)}
    {f_component_bytes : Addr}
    {oc_component_bytes kV_component_bytes dc_component_bytes pm_component_bytes cd_component_bytes ct_component_bytes : Value}
    {od_component_bytes an_component_bytes : Option Addr}
    {sl_component_bytes : Array (Option Value)}
    {f_scalar_bytes : Addr}
    {oc_scalar_bytes kV_scalar_bytes dc_scalar_bytes pm_scalar_bytes cd_scalar_bytes ct_scalar_bytes : Value}
    {od_scalar_bytes an_scalar_bytes : Option Addr}
    {sl_scalar_bytes : Array (Option Value)}
    {f_head_bytes : Addr}
    {oc_head_bytes kV_head_bytes dc_head_bytes pm_head_bytes cd_head_bytes ct_head_bytes : Value}
    {od_head_bytes an_head_bytes : Option Addr}
    {sl_head_bytes : Array (Option Value)}
    {f_long_form : Addr}
    {oc_long_form kV_long_form dc_long_form pm_long_form cd_long_form ct_long_form : Value}
    {od_long_form an_long_form : Option Addr}
    {sl_long_form : Array (Option Value)}
    {f_short_form : Addr}
    {oc_short_form kV_short_form dc_short_form pm_short_form cd_short_form ct_short_form : Value}
    {od_short_form an_short_form : Option Addr}
    {sl_short_form : Array (Option Value)}
    {f_read_part : Addr}
    {oc_read_part kV_read_part dc_read_part pm_read_part cd_read_part ct_read_part : Value}
    {od_read_part an_read_part : Option Addr}
    {sl_read_part : Array (Option Value)}
    {f_read_head : Addr}
    {oc_read_head kV_read_head dc_read_head pm_read_head cd_read_head ct_read_head : Value}
    {od_read_head an_read_head : Option Addr}
    {sl_read_head : Array (Option Value)}
    {f_read_long : Addr}
    {oc_read_long kV_read_long dc_read_long pm_read_long cd_read_long ct_read_long : Value}
    {od_read_long an_read_long : Option Addr}
    {sl_read_long : Array (Option Value)}
    {f_read_short : Addr}
    {oc_read_short kV_read_short dc_read_short pm_read_short cd_read_short ct_read_short : Value}
    {od_read_short an_read_short : Option Addr}
    {sl_read_short : Array (Option Value)}
    {f_read_checkpoint : Addr}
    {oc_read_checkpoint kV_read_checkpoint dc_read_checkpoint pm_read_checkpoint cd_read_checkpoint ct_read_checkpoint : Value}
    {od_read_checkpoint an_read_checkpoint : Option Addr}
    {sl_read_checkpoint : Array (Option Value)}
    {f_split_code : Addr}
    {oc_split_code kV_split_code dc_split_code pm_split_code cd_split_code ct_split_code : Value}
    {od_split_code an_split_code : Option Addr}
    {sl_split_code : Array (Option Value)}
    {f_is_instruction : Addr}
    {oc_is_instruction kV_is_instruction dc_is_instruction pm_is_instruction cd_is_instruction ct_is_instruction : Value}
    {od_is_instruction an_is_instruction : Option Addr}
    {sl_is_instruction : Array (Option Value)}
    {f_vector_operands : Addr}
    {oc_vector_operands kV_vector_operands dc_vector_operands pm_vector_operands cd_vector_operands ct_vector_operands : Value}
    {od_vector_operands an_vector_operands : Option Addr}
    {sl_vector_operands : Array (Option Value)}
    {f_needed_components : Addr}
    {oc_needed_components kV_needed_components dc_needed_components pm_needed_components cd_needed_components ct_needed_components : Value}
    {od_needed_components an_needed_components : Option Addr}
    {sl_needed_components : Array (Option Value)}
    {f_chosen_lanes : Addr}
    {oc_chosen_lanes kV_chosen_lanes dc_chosen_lanes pm_chosen_lanes cd_chosen_lanes ct_chosen_lanes : Value}
    {od_chosen_lanes an_chosen_lanes : Option Addr}
    {sl_chosen_lanes : Array (Option Value)}
    {f_combined_lanes : Addr}
    {oc_combined_lanes kV_combined_lanes dc_combined_lanes pm_combined_lanes cd_combined_lanes ct_combined_lanes : Value}
    {od_combined_lanes an_combined_lanes : Option Addr}
    {sl_combined_lanes : Array (Option Value)}
    {f_shifted_lanes : Addr}
    {oc_shifted_lanes kV_shifted_lanes dc_shifted_lanes pm_shifted_lanes cd_shifted_lanes ct_shifted_lanes : Value}
    {od_shifted_lanes an_shifted_lanes : Option Addr}
    {sl_shifted_lanes : Array (Option Value)}
    {f_vector_result : Addr}
    {oc_vector_result kV_vector_result dc_vector_result pm_vector_result cd_vector_result ct_vector_result : Value}
    {od_vector_result an_vector_result : Option Addr}
    {sl_vector_result : Array (Option Value)}
    {f_scalar_result : Addr}
    {oc_scalar_result kV_scalar_result dc_scalar_result pm_scalar_result cd_scalar_result ct_scalar_result : Value}
    {od_scalar_result an_scalar_result : Option Addr}
    {sl_scalar_result : Array (Option Value)}
    {f_less_bits : Addr}
    {oc_less_bits kV_less_bits dc_less_bits pm_less_bits cd_less_bits ct_less_bits : Value}
    {od_less_bits an_less_bits : Option Addr}
    {sl_less_bits : Array (Option Value)}
    {f_mask_result : Addr}
    {oc_mask_result kV_mask_result dc_mask_result pm_mask_result cd_mask_result ct_mask_result : Value}
    {od_mask_result an_mask_result : Option Addr}
    {sl_mask_result : Array (Option Value)}
    {f_count_down : Addr}
    {oc_count_down kV_count_down dc_count_down pm_count_down cd_count_down ct_count_down : Value}
    {od_count_down an_count_down : Option Addr}
    {sl_count_down : Array (Option Value)}
    {f_write_vector : Addr}
    {oc_write_vector kV_write_vector dc_write_vector pm_write_vector cd_write_vector ct_write_vector : Value}
    {od_write_vector an_write_vector : Option Addr}
    {sl_write_vector : Array (Option Value)}
    {f_step : Addr}
    {oc_step kV_step dc_step pm_step cd_step ct_step : Value}
    {od_step an_step : Option Addr}
    {sl_step : Array (Option Value)}
    {f_execute : Addr}
    {oc_execute kV_execute dc_execute pm_execute cd_execute ct_execute : Value}
    {od_execute an_execute : Option Addr}
    {sl_execute : Array (Option Value)}
    {f_different_weights : Addr}
    {oc_different_weights kV_different_weights dc_different_weights pm_different_weights cd_different_weights ct_different_weights : Value}
    {od_different_weights an_different_weights : Option Addr}
    {sl_different_weights : Array (Option Value)}
    {f_copy_state : Addr}
    {oc_copy_state kV_copy_state dc_copy_state pm_copy_state cd_copy_state ct_copy_state : Value}
    {od_copy_state an_copy_state : Option Addr}
    {sl_copy_state : Array (Option Value)}
    {f_register_words : Addr}
    {oc_register_words kV_register_words dc_register_words pm_register_words cd_register_words ct_register_words : Value}
    {od_register_words an_register_words : Option Addr}
    {sl_register_words : Array (Option Value)}
    {f_can_hold : Addr}
    {oc_can_hold kV_can_hold dc_can_hold pm_can_hold cd_can_hold ct_can_hold : Value}
    {od_can_hold an_can_hold : Option Addr}
    {sl_can_hold : Array (Option Value)}
    {f_put_register : Addr}
    {oc_put_register kV_put_register dc_put_register pm_put_register cd_put_register ct_put_register : Value}
    {od_put_register an_put_register : Option Addr}
    {sl_put_register : Array (Option Value)}
    {f_read_state : Addr}
    {oc_read_state kV_read_state dc_read_state pm_read_state cd_read_state ct_read_state : Value}
    {od_read_state an_read_state : Option Addr}
    {sl_read_state : Array (Option Value)}
    {f_written_state : Addr}
    {oc_written_state kV_written_state dc_written_state pm_written_state cd_written_state ct_written_state : Value}
    {od_written_state an_written_state : Option Addr}
    {sl_written_state : Array (Option Value)}
    {f_new : Addr}
    {oc_new kV_new dc_new pm_new cd_new ct_new : Value}
    {od_new an_new : Option Addr}
    {sl_new : Array (Option Value)}
    {f_run : Addr}
    {oc_run kV_run dc_run pm_run cd_run ct_run : Value}
    {od_run an_run : Option Addr}
    {sl_run : Array (Option Value)}
    {f_save : Addr}
    {oc_save kV_save dc_save pm_save cd_save ct_save : Value}
    {od_save an_save : Option Addr}
    {sl_save : Array (Option Value)}
    {f_load : Addr}
    {oc_load kV_load dc_load pm_load cd_load ct_load : Value}
    {od_load an_load : Option Addr}
    {sl_load : Array (Option Value)}
    {f_turn : Addr}
    {oc_turn kV_turn dc_turn pm_turn cd_turn ct_turn : Value}
    {od_turn an_turn : Option Addr}
    {sl_turn : Array (Option Value)}
    {f_peek : Addr}
    {oc_peek kV_peek dc_peek pm_peek cd_peek ct_peek : Value}
    {od_peek an_peek : Option Addr}
    {sl_peek : Array (Option Value)}
    {f_poke : Addr}
    {oc_poke kV_poke dc_poke pm_poke cd_poke ct_poke : Value}
    {od_poke an_poke : Option Addr}
    {sl_poke : Array (Option Value)}
    {f_differ : Addr}
    {oc_differ kV_differ dc_differ pm_differ cd_differ ct_differ : Value}
    {od_differ an_differ : Option Addr}
    {sl_differ : Array (Option Value)}
    {f_answer_of : Addr}
    {oc_answer_of kV_answer_of dc_answer_of pm_answer_of cd_answer_of ct_answer_of : Value}
    {od_answer_of an_answer_of : Option Addr}
    {sl_answer_of : Array (Option Value)}
    {f_answers : Addr}
    {oc_answers kV_answers dc_answers pm_answers cd_answers ct_answers : Value}
    {od_answers an_answers : Option Addr}
    {sl_answers : Array (Option Value)}
    {C : Addr}
    {f_iC : Addr}
    {oc_iC kV_iC dc_iC pm_iC cd_iC ct_iC : Value}
    {od_iC an_iC : Option Addr}
    {sl_iC : Array (Option Value)}
    {CM : Addr}
    {f_iCM : Addr}
    {oc_iCM kV_iCM dc_iCM pm_iCM cd_iCM ct_iCM : Value}
    {od_iCM an_iCM : Option Addr}
    {sl_iCM : Array (Option Value)}
    (z_len : PySem.W.nsIn K mainGlobals "len" = some none)
    (z_range : PySem.W.nsIn K mainGlobals "range" = some none)
    (z_list : PySem.W.nsIn K mainGlobals "list" = some none)
    (z_zip : PySem.W.nsIn K mainGlobals "zip" = some none)
    (z_any : PySem.W.nsIn K mainGlobals "any" = some none)
    (z_sum : PySem.W.nsIn K mainGlobals "sum" = some none)
    (z_min : PySem.W.nsIn K mainGlobals "min" = some none)
    (z_max : PySem.W.nsIn K mainGlobals "max" = some none)
    (z_reversed : PySem.W.nsIn K mainGlobals "reversed" = some none)
    (z_enumerate : PySem.W.nsIn K mainGlobals "enumerate" = some none)
    (c_MODULUS : PySem.W.nsIn K mainGlobals "MODULUS" = some (some (.int 18446744073709551616 t_MODULUS)))
    (c_LOWER_HALF : PySem.W.nsIn K mainGlobals "LOWER_HALF" = some (some (.int 4294967295 t_LOWER_HALF)))
    (c_SCALAR_WEIGHT : PySem.W.nsIn K mainGlobals "SCALAR_WEIGHT" = some (some (.int 1 t_SCALAR_WEIGHT)))
    (c_MASK_WEIGHT : PySem.W.nsIn K mainGlobals "MASK_WEIGHT" = some (some (.int 32 t_MASK_WEIGHT)))
    (c_HEAD_LENGTH : PySem.W.nsIn K mainGlobals "HEAD_LENGTH" = some (some (.int 576 t_HEAD_LENGTH)))
    (c_SCALARS_AT : PySem.W.nsIn K mainGlobals "SCALARS_AT" = some (some (.int 32 t_SCALARS_AT)))
    (c_PAIRS_AT : PySem.W.nsIn K mainGlobals "PAIRS_AT" = some (some (.int 160 t_PAIRS_AT)))
    (c_WEIGHTS_AT : PySem.W.nsIn K mainGlobals "WEIGHTS_AT" = some (some (.int 512 t_WEIGHTS_AT)))
    (c_FORM_AT : PySem.W.nsIn K mainGlobals "FORM_AT" = some (some (.int 520 t_FORM_AT)))
    (c_SHORT_MARK : PySem.W.nsIn K mainGlobals "SHORT_MARK" = some (some (.int 9223372036854775808 t_SHORT_MARK)))
    (c_OUT_OF_RANGE : PySem.W.nsIn K mainGlobals "OUT_OF_RANGE" = some (some (.int (-1) t_OUT_OF_RANGE)))
    (c_BAD_BYTES : PySem.W.nsIn K mainGlobals "BAD_BYTES" = some (some (.int (-2) t_BAD_BYTES)))
    (c_NO_COMPONENT : PySem.W.nsIn K mainGlobals "NO_COMPONENT" = some (some (.int (-3) t_NO_COMPONENT)))
    (c_NO_ROOM : PySem.W.nsIn K mainGlobals "NO_ROOM" = some (some (.int (-4) t_NO_ROOM)))
    (c_MOST_CODE : PySem.W.nsIn K mainGlobals "MOST_CODE" = some (some (.int 4096 t_MOST_CODE)))
    (c_MOST_EXECUTED : PySem.W.nsIn K mainGlobals "MOST_EXECUTED" = some (some (.int 1000000 t_MOST_EXECUTED)))
    (c_MOST_BYTES : PySem.W.nsIn K mainGlobals "MOST_BYTES" = some (some (.int 2688 t_MOST_BYTES)))
    (c_FIRST_SCALAR : PySem.W.nsIn K mainGlobals "FIRST_SCALAR" = some (some (.int 32 t_FIRST_SCALAR)))
    (c_FIRST_MASK : PySem.W.nsIn K mainGlobals "FIRST_MASK" = some (some (.int 40 t_FIRST_MASK)))
    (c_REGISTER_COUNT : PySem.W.nsIn K mainGlobals "REGISTER_COUNT" = some (some (.int 48 t_REGISTER_COUNT)))
    (a_LANE_COUNTS : PySem.W.nsIn K mainGlobals "LANE_COUNTS" = some (some (.ref d_LANE_COUNTS)))
    (l_LANE_COUNTS : K.lookup d_LANE_COUNTS = some o_LANE_COUNTS)
    (i_LANE_COUNTS : intsOf (some o_LANE_COUNTS) = some [2, 4, 8])
    (a_WEIGHTS : PySem.W.nsIn K mainGlobals "WEIGHTS" = some (some (.ref d_WEIGHTS)))
    (l_WEIGHTS : K.lookup d_WEIGHTS = some o_WEIGHTS)
    (i_WEIGHTS : intsOf (some o_WEIGHTS) = some [1, 2, 4, 32, 64, 128])
    (a_TAIL_WEIGHTS : PySem.W.nsIn K mainGlobals "TAIL_WEIGHTS" = some (some (.ref d_TAIL_WEIGHTS)))
    (l_TAIL_WEIGHTS : K.lookup d_TAIL_WEIGHTS = some o_TAIL_WEIGHTS)
    (i_TAIL_WEIGHTS : intsOf (some o_TAIL_WEIGHTS) = some [4, 32, 64, 128])
    (a_MACHINES : PySem.W.nsIn K mainGlobals "MACHINES" = some (some (.ref d_MACHINES)))
    (l_MACHINES : K.lookup d_MACHINES = some o_MACHINES)
    (i_MACHINES : intsOf (some o_MACHINES) = some [3, 7, 231])
    (aB : PySem.W.nsIn K mainGlobals "BOUNDS" = some (some (.ref dB)))
    (lB : K.lookup dB = some oB)
    (rB : refsOf (some oB) = some [dB0, dB1, dB2, dB3, dB4, dB5, dB6, dB7, dB8, dB9, dB10, dB11, dB12, dB13, dB14, dB15, dB16, dB17, dB18, dB19, dB20, dB21, dB22, dB23])
    (lB0 : K.lookup dB0 = some oB0)
    (iB0 : intsOf (some oB0) = some [3, 8, 32, 32, 32])
    (lB1 : K.lookup dB1 = some oB1)
    (iB1 : intsOf (some oB1) = some [3, 8, 32, 32, 32])
    (lB2 : K.lookup dB2 = some oB2)
    (iB2 : intsOf (some oB2) = some [3, 8, 32, 32, 32])
    (lB3 : K.lookup dB3 = some oB3)
    (iB3 : intsOf (some oB3) = some [3, 8, 32, 32, 32])
    (lB4 : K.lookup dB4 = some oB4)
    (iB4 : intsOf (some oB4) = some [3, 8, 32, 32, 32])
    (lB5 : K.lookup dB5 = some oB5)
    (iB5 : intsOf (some oB5) = some [3, 8, 32, 32, 32])
    (lB6 : K.lookup dB6 = some oB6)
    (iB6 : intsOf (some oB6) = some [3, 8, 32, 32, 32])
    (lB7 : K.lookup dB7 = some oB7)
    (iB7 : intsOf (some oB7) = some [3, 8, 32, 32, 32])
    (lB8 : K.lookup dB8 = some oB8)
    (iB8 : intsOf (some oB8) = some [3, 8, 32, 32, 64])
    (lB9 : K.lookup dB9 = some oB9)
    (iB9 : intsOf (some oB9) = some [3, 8, 32, 32, 64])
    (lB10 : K.lookup dB10 = some oB10)
    (iB10 : intsOf (some oB10) = some [3, 8, 32, 32, 64])
    (lB11 : K.lookup dB11 = some oB11)
    (iB11 : intsOf (some oB11) = some [3, 8, 32, 32, 8])
    (lB12 : K.lookup dB12 = some oB12)
    (iB12 : intsOf (some oB12) = some [3, 8, 32, 8, 1])
    (lB13 : K.lookup dB13 = some oB13)
    (iB13 : intsOf (some oB13) = some [3, 8, 32, 8, 1])
    (lB14 : K.lookup dB14 = some oB14)
    (iB14 : intsOf (some oB14) = some [3, 1, 8, 32, 1])
    (lB15 : K.lookup dB15 = some oB15)
    (iB15 : intsOf (some oB15) = some [1, 1, 8, 8, 8])
    (lB16 : K.lookup dB16 = some oB16)
    (iB16 : intsOf (some oB16) = some [1, 1, 8, 8, 8])
    (lB17 : K.lookup dB17 = some oB17)
    (iB17 : intsOf (some oB17) = some [3, 1, 8, 32, 32])
    (lB18 : K.lookup dB18 = some oB18)
    (iB18 : intsOf (some oB18) = some [1, 1, 8, 8, 8])
    (lB19 : K.lookup dB19 = some oB19)
    (iB19 : intsOf (some oB19) = some [1, 1, 8, 8, 8])
    (lB20 : K.lookup dB20 = some oB20)
    (iB20 : intsOf (some oB20) = some [3, 1, 8, 8, 1])
    (lB21 : K.lookup dB21 = some oB21)
    (iB21 : intsOf (some oB21) = some [1, 1, 8, 8, 1])
    (lB22 : K.lookup dB22 = some oB22)
    (iB22 : intsOf (some oB22) = some [1, 1, 8, 8, 1])
    (lB23 : K.lookup dB23 = some oB23)
    (iB23 : intsOf (some oB23) = some [1, 1, 8, 256, 1])
    (aDL : PySem.W.nsIn K mainGlobals "LANES" = some (some (.ref dL)))
    (lDL : K.lookup dL = some oL)
    (pDL : pairsOf (some oL) = some [(2, .ref rL2), (4, .ref rL4), (64, .ref rL64), (128, .ref rL128)])
    (lL2 : K.lookup rL2 = some oL2)
    (iL2 : intsOf (some oL2) = some [0, 16, 0, 2])
    (lL4 : K.lookup rL4 = some oL4)
    (iL4 : intsOf (some oL4) = some [0, 16, 2, 4])
    (lL64 : K.lookup rL64 = some oL64)
    (iL64 : intsOf (some oL64) = some [0, 16, 4, 8])
    (lL128 : K.lookup rL128 = some oL128)
    (iL128 : intsOf (some oL128) = some [16, 32, 0, 8])
    (aDW : PySem.W.nsIn K mainGlobals "WORD_COUNTS" = some (some (.ref dW)))
    (lDW : K.lookup dW = some oW)
    (pDW : pairsOf (some oW) = some [(2, .int 32 tW2), (4, .int 32 tW4), (32, .int 8 tW32), (64, .int 64 tW64), (128, .int 128 tW128)])
    (aDG : PySem.W.nsIn K mainGlobals "LONG_LENGTHS" = some (some (.ref dG)))
    (lDG : K.lookup dG = some oG)
    (pDG : pairsOf (some oG) = some [(576, .int 3 tG576), (832, .int 7 tG832), (2688, .int 231 tG2688)])
    (lowG : (dG == sysModules) = false)
    (a_word_bytes : PySem.W.nsIn K mainGlobals "word_bytes" = some (some (.ref f_word_bytes)))
    (l_word_bytes : K.lookup f_word_bytes = some ⟨oc_word_bytes, od_word_bytes, .func (PySem.W.fnOf "word_bytes" "word_bytes" (defArgs sWordBytes) (defBody sWordBytes) (defScope sWordBytes) .none kV_word_bytes dc_word_bytes pm_word_bytes an_word_bytes cd_word_bytes ct_word_bytes), sl_word_bytes⟩)
    (c_word_bytes : PySem.W.codeIn K cd_word_bytes "word_bytes" = true)
    (k_word_bytes : PySem.W.keepIn K (.ref f_word_bytes) = true)
    (a_words_at : PySem.W.nsIn K mainGlobals "words_at" = some (some (.ref f_words_at)))
    (l_words_at : K.lookup f_words_at = some ⟨oc_words_at, od_words_at, .func (PySem.W.fnOf "words_at" "words_at" (defArgs sWordsAt) (defBody sWordsAt) (defScope sWordsAt) .none kV_words_at dc_words_at pm_words_at an_words_at cd_words_at ct_words_at), sl_words_at⟩)
    (c_words_at : PySem.W.codeIn K cd_words_at "words_at" = true)
    (k_words_at : PySem.W.keepIn K (.ref f_words_at) = true)
    (a_lane_places : PySem.W.nsIn K mainGlobals "lane_places" = some (some (.ref f_lane_places)))
    (l_lane_places : K.lookup f_lane_places = some ⟨oc_lane_places, od_lane_places, .func (PySem.W.fnOf "lane_places" "lane_places" (defArgs sPlaces) (defBody sPlaces) (defScope sPlaces) .none kV_lane_places dc_lane_places pm_lane_places an_lane_places cd_lane_places ct_lane_places), sl_lane_places⟩)
    (c_lane_places : PySem.W.codeIn K cd_lane_places "lane_places" = true)
    (k_lane_places : PySem.W.keepIn K (.ref f_lane_places) = true)
    (a_component_words : PySem.W.nsIn K mainGlobals "component_words" = some (some (.ref f_component_words)))
    (l_component_words : K.lookup f_component_words = some ⟨oc_component_words, od_component_words, .func (PySem.W.fnOf "component_words" "component_words" (defArgs sWords) (defBody sWords) (defScope sWords) .none kV_component_words dc_component_words pm_component_words an_component_words cd_component_words ct_component_words), sl_component_words⟩)
    (c_component_words : PySem.W.codeIn K cd_component_words "component_words" = true)
    (k_component_words : PySem.W.keepIn K (.ref f_component_words) = true)
    (a_put_component : PySem.W.nsIn K mainGlobals "put_component" = some (some (.ref f_put_component)))
    (l_put_component : K.lookup f_put_component = some ⟨oc_put_component, od_put_component, .func (PySem.W.fnOf "put_component" "put_component" (defArgs sPut) (defBody sPut) (defScope sPut) .none kV_put_component dc_put_component pm_put_component an_put_component cd_put_component ct_put_component), sl_put_component⟩)
    (c_put_component : PySem.W.codeIn K cd_put_component "put_component" = true)
    (k_put_component : PySem.W.keepIn K (.ref f_put_component) = true)
    (a_weights_in_use : PySem.W.nsIn K mainGlobals "weights_in_use" = some (some (.ref f_weights_in_use)))
    (l_weights_in_use : K.lookup f_weights_in_use = some ⟨oc_weights_in_use, od_weights_in_use, .func (PySem.W.fnOf "weights_in_use" "weights_in_use" (defArgs sUsed) (defBody sUsed) (defScope sUsed) .none kV_weights_in_use dc_weights_in_use pm_weights_in_use an_weights_in_use cd_weights_in_use ct_weights_in_use), sl_weights_in_use⟩)
    (c_weights_in_use : PySem.W.codeIn K cd_weights_in_use "weights_in_use" = true)
    (k_weights_in_use : PySem.W.keepIn K (.ref f_weights_in_use) = true)
    (a_has_components : PySem.W.nsIn K mainGlobals "has_components" = some (some (.ref f_has_components)))
    (l_has_components : K.lookup f_has_components = some ⟨oc_has_components, od_has_components, .func (PySem.W.fnOf "has_components" "has_components" (defArgs sHas) (defBody sHas) (defScope sHas) .none kV_has_components dc_has_components pm_has_components an_has_components cd_has_components ct_has_components), sl_has_components⟩)
    (c_has_components : PySem.W.codeIn K cd_has_components "has_components" = true)
    (k_has_components : PySem.W.keepIn K (.ref f_has_components) = true)
    (a_component_bytes : PySem.W.nsIn K mainGlobals "component_bytes" = some (some (.ref f_component_bytes)))
    (l_component_bytes : K.lookup f_component_bytes = some ⟨oc_component_bytes, od_component_bytes, .func (PySem.W.fnOf "component_bytes" "component_bytes" (defArgs sCBytes) (defBody sCBytes) (defScope sCBytes) .none kV_component_bytes dc_component_bytes pm_component_bytes an_component_bytes cd_component_bytes ct_component_bytes), sl_component_bytes⟩)
    (c_component_bytes : PySem.W.codeIn K cd_component_bytes "component_bytes" = true)
    (k_component_bytes : PySem.W.keepIn K (.ref f_component_bytes) = true)
    (a_scalar_bytes : PySem.W.nsIn K mainGlobals "scalar_bytes" = some (some (.ref f_scalar_bytes)))
    (l_scalar_bytes : K.lookup f_scalar_bytes = some ⟨oc_scalar_bytes, od_scalar_bytes, .func (PySem.W.fnOf "scalar_bytes" "scalar_bytes" (defArgs sSBytes) (defBody sSBytes) (defScope sSBytes) .none kV_scalar_bytes dc_scalar_bytes pm_scalar_bytes an_scalar_bytes cd_scalar_bytes ct_scalar_bytes), sl_scalar_bytes⟩)
    (c_scalar_bytes : PySem.W.codeIn K cd_scalar_bytes "scalar_bytes" = true)
    (k_scalar_bytes : PySem.W.keepIn K (.ref f_scalar_bytes) = true)
    (a_head_bytes : PySem.W.nsIn K mainGlobals "head_bytes" = some (some (.ref f_head_bytes)))
    (l_head_bytes : K.lookup f_head_bytes = some ⟨oc_head_bytes, od_head_bytes, .func (PySem.W.fnOf "head_bytes" "head_bytes" (defArgs sHead) (defBody sHead) (defScope sHead) .none kV_head_bytes dc_head_bytes pm_head_bytes an_head_bytes cd_head_bytes ct_head_bytes), sl_head_bytes⟩)
    (c_head_bytes : PySem.W.codeIn K cd_head_bytes "head_bytes" = true)
    (k_head_bytes : PySem.W.keepIn K (.ref f_head_bytes) = true)
    (a_long_form : PySem.W.nsIn K mainGlobals "long_form" = some (some (.ref f_long_form)))
    (l_long_form : K.lookup f_long_form = some ⟨oc_long_form, od_long_form, .func (PySem.W.fnOf "long_form" "long_form" (defArgs sLong) (defBody sLong) (defScope sLong) .none kV_long_form dc_long_form pm_long_form an_long_form cd_long_form ct_long_form), sl_long_form⟩)
    (c_long_form : PySem.W.codeIn K cd_long_form "long_form" = true)
    (k_long_form : PySem.W.keepIn K (.ref f_long_form) = true)
    (a_short_form : PySem.W.nsIn K mainGlobals "short_form" = some (some (.ref f_short_form)))
    (l_short_form : K.lookup f_short_form = some ⟨oc_short_form, od_short_form, .func (PySem.W.fnOf "short_form" "short_form" (defArgs sShort) (defBody sShort) (defScope sShort) .none kV_short_form dc_short_form pm_short_form an_short_form cd_short_form ct_short_form), sl_short_form⟩)
    (c_short_form : PySem.W.codeIn K cd_short_form "short_form" = true)
    (k_short_form : PySem.W.keepIn K (.ref f_short_form) = true)
    (a_read_part : PySem.W.nsIn K mainGlobals "read_part" = some (some (.ref f_read_part)))
    (l_read_part : K.lookup f_read_part = some ⟨oc_read_part, od_read_part, .func (PySem.W.fnOf "read_part" "read_part" (defArgs sRPart) (defBody sRPart) (defScope sRPart) .none kV_read_part dc_read_part pm_read_part an_read_part cd_read_part ct_read_part), sl_read_part⟩)
    (c_read_part : PySem.W.codeIn K cd_read_part "read_part" = true)
    (k_read_part : PySem.W.keepIn K (.ref f_read_part) = true)
    (a_read_head : PySem.W.nsIn K mainGlobals "read_head" = some (some (.ref f_read_head)))
    (l_read_head : K.lookup f_read_head = some ⟨oc_read_head, od_read_head, .func (PySem.W.fnOf "read_head" "read_head" (defArgs sRHead) (defBody sRHead) (defScope sRHead) .none kV_read_head dc_read_head pm_read_head an_read_head cd_read_head ct_read_head), sl_read_head⟩)
    (c_read_head : PySem.W.codeIn K cd_read_head "read_head" = true)
    (k_read_head : PySem.W.keepIn K (.ref f_read_head) = true)
    (a_read_long : PySem.W.nsIn K mainGlobals "read_long" = some (some (.ref f_read_long)))
    (l_read_long : K.lookup f_read_long = some ⟨oc_read_long, od_read_long, .func (PySem.W.fnOf "read_long" "read_long" (defArgs sRLong) (defBody sRLong) (defScope sRLong) .none kV_read_long dc_read_long pm_read_long an_read_long cd_read_long ct_read_long), sl_read_long⟩)
    (c_read_long : PySem.W.codeIn K cd_read_long "read_long" = true)
    (k_read_long : PySem.W.keepIn K (.ref f_read_long) = true)
    (a_read_short : PySem.W.nsIn K mainGlobals "read_short" = some (some (.ref f_read_short)))
    (l_read_short : K.lookup f_read_short = some ⟨oc_read_short, od_read_short, .func (PySem.W.fnOf "read_short" "read_short" (defArgs sRShort) (defBody sRShort) (defScope sRShort) .none kV_read_short dc_read_short pm_read_short an_read_short cd_read_short ct_read_short), sl_read_short⟩)
    (c_read_short : PySem.W.codeIn K cd_read_short "read_short" = true)
    (k_read_short : PySem.W.keepIn K (.ref f_read_short) = true)
    (a_read_checkpoint : PySem.W.nsIn K mainGlobals "read_checkpoint" = some (some (.ref f_read_checkpoint)))
    (l_read_checkpoint : K.lookup f_read_checkpoint = some ⟨oc_read_checkpoint, od_read_checkpoint, .func (PySem.W.fnOf "read_checkpoint" "read_checkpoint" (defArgs sRCheck) (defBody sRCheck) (defScope sRCheck) .none kV_read_checkpoint dc_read_checkpoint pm_read_checkpoint an_read_checkpoint cd_read_checkpoint ct_read_checkpoint), sl_read_checkpoint⟩)
    (c_read_checkpoint : PySem.W.codeIn K cd_read_checkpoint "read_checkpoint" = true)
    (k_read_checkpoint : PySem.W.keepIn K (.ref f_read_checkpoint) = true)
    (a_split_code : PySem.W.nsIn K mainGlobals "split_code" = some (some (.ref f_split_code)))
    (l_split_code : K.lookup f_split_code = some ⟨oc_split_code, od_split_code, .func (PySem.W.fnOf "split_code" "split_code" (defArgs sSplit) (defBody sSplit) (defScope sSplit) .none kV_split_code dc_split_code pm_split_code an_split_code cd_split_code ct_split_code), sl_split_code⟩)
    (c_split_code : PySem.W.codeIn K cd_split_code "split_code" = true)
    (k_split_code : PySem.W.keepIn K (.ref f_split_code) = true)
    (a_is_instruction : PySem.W.nsIn K mainGlobals "is_instruction" = some (some (.ref f_is_instruction)))
    (l_is_instruction : K.lookup f_is_instruction = some ⟨oc_is_instruction, od_is_instruction, .func (PySem.W.fnOf "is_instruction" "is_instruction" (defArgs sIsIns) (defBody sIsIns) (defScope sIsIns) .none kV_is_instruction dc_is_instruction pm_is_instruction an_is_instruction cd_is_instruction ct_is_instruction), sl_is_instruction⟩)
    (c_is_instruction : PySem.W.codeIn K cd_is_instruction "is_instruction" = true)
    (k_is_instruction : PySem.W.keepIn K (.ref f_is_instruction) = true)
    (a_vector_operands : PySem.W.nsIn K mainGlobals "vector_operands" = some (some (.ref f_vector_operands)))
    (l_vector_operands : K.lookup f_vector_operands = some ⟨oc_vector_operands, od_vector_operands, .func (PySem.W.fnOf "vector_operands" "vector_operands" (defArgs sVOps) (defBody sVOps) (defScope sVOps) .none kV_vector_operands dc_vector_operands pm_vector_operands an_vector_operands cd_vector_operands ct_vector_operands), sl_vector_operands⟩)
    (c_vector_operands : PySem.W.codeIn K cd_vector_operands "vector_operands" = true)
    (k_vector_operands : PySem.W.keepIn K (.ref f_vector_operands) = true)
    (a_needed_components : PySem.W.nsIn K mainGlobals "needed_components" = some (some (.ref f_needed_components)))
    (l_needed_components : K.lookup f_needed_components = some ⟨oc_needed_components, od_needed_components, .func (PySem.W.fnOf "needed_components" "needed_components" (defArgs sNeeds) (defBody sNeeds) (defScope sNeeds) .none kV_needed_components dc_needed_components pm_needed_components an_needed_components cd_needed_components ct_needed_components), sl_needed_components⟩)
    (c_needed_components : PySem.W.codeIn K cd_needed_components "needed_components" = true)
    (k_needed_components : PySem.W.keepIn K (.ref f_needed_components) = true)
    (a_chosen_lanes : PySem.W.nsIn K mainGlobals "chosen_lanes" = some (some (.ref f_chosen_lanes)))
    (l_chosen_lanes : K.lookup f_chosen_lanes = some ⟨oc_chosen_lanes, od_chosen_lanes, .func (PySem.W.fnOf "chosen_lanes" "chosen_lanes" (defArgs sChosen) (defBody sChosen) (defScope sChosen) .none kV_chosen_lanes dc_chosen_lanes pm_chosen_lanes an_chosen_lanes cd_chosen_lanes ct_chosen_lanes), sl_chosen_lanes⟩)
    (c_chosen_lanes : PySem.W.codeIn K cd_chosen_lanes "chosen_lanes" = true)
    (k_chosen_lanes : PySem.W.keepIn K (.ref f_chosen_lanes) = true)
    (a_combined_lanes : PySem.W.nsIn K mainGlobals "combined_lanes" = some (some (.ref f_combined_lanes)))
    (l_combined_lanes : K.lookup f_combined_lanes = some ⟨oc_combined_lanes, od_combined_lanes, .func (PySem.W.fnOf "combined_lanes" "combined_lanes" (defArgs sCombined) (defBody sCombined) (defScope sCombined) .none kV_combined_lanes dc_combined_lanes pm_combined_lanes an_combined_lanes cd_combined_lanes ct_combined_lanes), sl_combined_lanes⟩)
    (c_combined_lanes : PySem.W.codeIn K cd_combined_lanes "combined_lanes" = true)
    (k_combined_lanes : PySem.W.keepIn K (.ref f_combined_lanes) = true)
    (a_shifted_lanes : PySem.W.nsIn K mainGlobals "shifted_lanes" = some (some (.ref f_shifted_lanes)))
    (l_shifted_lanes : K.lookup f_shifted_lanes = some ⟨oc_shifted_lanes, od_shifted_lanes, .func (PySem.W.fnOf "shifted_lanes" "shifted_lanes" (defArgs sShifted) (defBody sShifted) (defScope sShifted) .none kV_shifted_lanes dc_shifted_lanes pm_shifted_lanes an_shifted_lanes cd_shifted_lanes ct_shifted_lanes), sl_shifted_lanes⟩)
    (c_shifted_lanes : PySem.W.codeIn K cd_shifted_lanes "shifted_lanes" = true)
    (k_shifted_lanes : PySem.W.keepIn K (.ref f_shifted_lanes) = true)
    (a_vector_result : PySem.W.nsIn K mainGlobals "vector_result" = some (some (.ref f_vector_result)))
    (l_vector_result : K.lookup f_vector_result = some ⟨oc_vector_result, od_vector_result, .func (PySem.W.fnOf "vector_result" "vector_result" (defArgs sVector) (defBody sVector) (defScope sVector) .none kV_vector_result dc_vector_result pm_vector_result an_vector_result cd_vector_result ct_vector_result), sl_vector_result⟩)
    (c_vector_result : PySem.W.codeIn K cd_vector_result "vector_result" = true)
    (k_vector_result : PySem.W.keepIn K (.ref f_vector_result) = true)
    (a_scalar_result : PySem.W.nsIn K mainGlobals "scalar_result" = some (some (.ref f_scalar_result)))
    (l_scalar_result : K.lookup f_scalar_result = some ⟨oc_scalar_result, od_scalar_result, .func (PySem.W.fnOf "scalar_result" "scalar_result" (defArgs sScalar) (defBody sScalar) (defScope sScalar) .none kV_scalar_result dc_scalar_result pm_scalar_result an_scalar_result cd_scalar_result ct_scalar_result), sl_scalar_result⟩)
    (c_scalar_result : PySem.W.codeIn K cd_scalar_result "scalar_result" = true)
    (k_scalar_result : PySem.W.keepIn K (.ref f_scalar_result) = true)
    (a_less_bits : PySem.W.nsIn K mainGlobals "less_bits" = some (some (.ref f_less_bits)))
    (l_less_bits : K.lookup f_less_bits = some ⟨oc_less_bits, od_less_bits, .func (PySem.W.fnOf "less_bits" "less_bits" (defArgs sLess) (defBody sLess) (defScope sLess) .none kV_less_bits dc_less_bits pm_less_bits an_less_bits cd_less_bits ct_less_bits), sl_less_bits⟩)
    (c_less_bits : PySem.W.codeIn K cd_less_bits "less_bits" = true)
    (k_less_bits : PySem.W.keepIn K (.ref f_less_bits) = true)
    (a_mask_result : PySem.W.nsIn K mainGlobals "mask_result" = some (some (.ref f_mask_result)))
    (l_mask_result : K.lookup f_mask_result = some ⟨oc_mask_result, od_mask_result, .func (PySem.W.fnOf "mask_result" "mask_result" (defArgs sMask) (defBody sMask) (defScope sMask) .none kV_mask_result dc_mask_result pm_mask_result an_mask_result cd_mask_result ct_mask_result), sl_mask_result⟩)
    (c_mask_result : PySem.W.codeIn K cd_mask_result "mask_result" = true)
    (k_mask_result : PySem.W.keepIn K (.ref f_mask_result) = true)
    (a_count_down : PySem.W.nsIn K mainGlobals "count_down" = some (some (.ref f_count_down)))
    (l_count_down : K.lookup f_count_down = some ⟨oc_count_down, od_count_down, .func (PySem.W.fnOf "count_down" "count_down" (defArgs sCount) (defBody sCount) (defScope sCount) .none kV_count_down dc_count_down pm_count_down an_count_down cd_count_down ct_count_down), sl_count_down⟩)
    (c_count_down : PySem.W.codeIn K cd_count_down "count_down" = true)
    (k_count_down : PySem.W.keepIn K (.ref f_count_down) = true)
    (a_write_vector : PySem.W.nsIn K mainGlobals "write_vector" = some (some (.ref f_write_vector)))
    (l_write_vector : K.lookup f_write_vector = some ⟨oc_write_vector, od_write_vector, .func (PySem.W.fnOf "write_vector" "write_vector" (defArgs sWrite) (defBody sWrite) (defScope sWrite) .none kV_write_vector dc_write_vector pm_write_vector an_write_vector cd_write_vector ct_write_vector), sl_write_vector⟩)
    (c_write_vector : PySem.W.codeIn K cd_write_vector "write_vector" = true)
    (k_write_vector : PySem.W.keepIn K (.ref f_write_vector) = true)
    (a_step : PySem.W.nsIn K mainGlobals "step" = some (some (.ref f_step)))
    (l_step : K.lookup f_step = some ⟨oc_step, od_step, .func (PySem.W.fnOf "step" "step" (defArgs sStep) (defBody sStep) (defScope sStep) .none kV_step dc_step pm_step an_step cd_step ct_step), sl_step⟩)
    (c_step : PySem.W.codeIn K cd_step "step" = true)
    (k_step : PySem.W.keepIn K (.ref f_step) = true)
    (a_execute : PySem.W.nsIn K mainGlobals "execute" = some (some (.ref f_execute)))
    (l_execute : K.lookup f_execute = some ⟨oc_execute, od_execute, .func (PySem.W.fnOf "execute" "execute" (defArgs sExec) (defBody sExec) (defScope sExec) .none kV_execute dc_execute pm_execute an_execute cd_execute ct_execute), sl_execute⟩)
    (c_execute : PySem.W.codeIn K cd_execute "execute" = true)
    (k_execute : PySem.W.keepIn K (.ref f_execute) = true)
    (a_different_weights : PySem.W.nsIn K mainGlobals "different_weights" = some (some (.ref f_different_weights)))
    (l_different_weights : K.lookup f_different_weights = some ⟨oc_different_weights, od_different_weights, .func (PySem.W.fnOf "different_weights" "different_weights" (defArgs sDiff) (defBody sDiff) (defScope sDiff) .none kV_different_weights dc_different_weights pm_different_weights an_different_weights cd_different_weights ct_different_weights), sl_different_weights⟩)
    (c_different_weights : PySem.W.codeIn K cd_different_weights "different_weights" = true)
    (k_different_weights : PySem.W.keepIn K (.ref f_different_weights) = true)
    (a_copy_state : PySem.W.nsIn K mainGlobals "copy_state" = some (some (.ref f_copy_state)))
    (l_copy_state : K.lookup f_copy_state = some ⟨oc_copy_state, od_copy_state, .func (PySem.W.fnOf "copy_state" "copy_state" (defArgs sCopy) (defBody sCopy) (defScope sCopy) .none kV_copy_state dc_copy_state pm_copy_state an_copy_state cd_copy_state ct_copy_state), sl_copy_state⟩)
    (c_copy_state : PySem.W.codeIn K cd_copy_state "copy_state" = true)
    (k_copy_state : PySem.W.keepIn K (.ref f_copy_state) = true)
    (a_register_words : PySem.W.nsIn K mainGlobals "register_words" = some (some (.ref f_register_words)))
    (l_register_words : K.lookup f_register_words = some ⟨oc_register_words, od_register_words, .func (PySem.W.fnOf "register_words" "register_words" (defArgs sRegW) (defBody sRegW) (defScope sRegW) .none kV_register_words dc_register_words pm_register_words an_register_words cd_register_words ct_register_words), sl_register_words⟩)
    (c_register_words : PySem.W.codeIn K cd_register_words "register_words" = true)
    (k_register_words : PySem.W.keepIn K (.ref f_register_words) = true)
    (a_can_hold : PySem.W.nsIn K mainGlobals "can_hold" = some (some (.ref f_can_hold)))
    (l_can_hold : K.lookup f_can_hold = some ⟨oc_can_hold, od_can_hold, .func (PySem.W.fnOf "can_hold" "can_hold" (defArgs sHold) (defBody sHold) (defScope sHold) .none kV_can_hold dc_can_hold pm_can_hold an_can_hold cd_can_hold ct_can_hold), sl_can_hold⟩)
    (c_can_hold : PySem.W.codeIn K cd_can_hold "can_hold" = true)
    (k_can_hold : PySem.W.keepIn K (.ref f_can_hold) = true)
    (a_put_register : PySem.W.nsIn K mainGlobals "put_register" = some (some (.ref f_put_register)))
    (l_put_register : K.lookup f_put_register = some ⟨oc_put_register, od_put_register, .func (PySem.W.fnOf "put_register" "put_register" (defArgs sPutR) (defBody sPutR) (defScope sPutR) .none kV_put_register dc_put_register pm_put_register an_put_register cd_put_register ct_put_register), sl_put_register⟩)
    (c_put_register : PySem.W.codeIn K cd_put_register "put_register" = true)
    (k_put_register : PySem.W.keepIn K (.ref f_put_register) = true)
    (a_read_state : PySem.W.nsIn K mainGlobals "read_state" = some (some (.ref f_read_state)))
    (l_read_state : K.lookup f_read_state = some ⟨oc_read_state, od_read_state, .func (PySem.W.fnOf "read_state" "read_state" (defArgs sReadS) (defBody sReadS) (defScope sReadS) .none kV_read_state dc_read_state pm_read_state an_read_state cd_read_state ct_read_state), sl_read_state⟩)
    (c_read_state : PySem.W.codeIn K cd_read_state "read_state" = true)
    (k_read_state : PySem.W.keepIn K (.ref f_read_state) = true)
    (a_written_state : PySem.W.nsIn K mainGlobals "written_state" = some (some (.ref f_written_state)))
    (l_written_state : K.lookup f_written_state = some ⟨oc_written_state, od_written_state, .func (PySem.W.fnOf "written_state" "written_state" (defArgs sWritS) (defBody sWritS) (defScope sWritS) .none kV_written_state dc_written_state pm_written_state an_written_state cd_written_state ct_written_state), sl_written_state⟩)
    (c_written_state : PySem.W.codeIn K cd_written_state "written_state" = true)
    (k_written_state : PySem.W.keepIn K (.ref f_written_state) = true)
    (a_new : PySem.W.nsIn K mainGlobals "new" = some (some (.ref f_new)))
    (l_new : K.lookup f_new = some ⟨oc_new, od_new, .func (PySem.W.fnOf "new" "new" (defArgs sNew) (defBody sNew) (defScope sNew) .none kV_new dc_new pm_new an_new cd_new ct_new), sl_new⟩)
    (c_new : PySem.W.codeIn K cd_new "new" = true)
    (k_new : PySem.W.keepIn K (.ref f_new) = true)
    (a_run : PySem.W.nsIn K mainGlobals "run" = some (some (.ref f_run)))
    (l_run : K.lookup f_run = some ⟨oc_run, od_run, .func (PySem.W.fnOf "run" "run" (defArgs sRun) (defBody sRun) (defScope sRun) .none kV_run dc_run pm_run an_run cd_run ct_run), sl_run⟩)
    (c_run : PySem.W.codeIn K cd_run "run" = true)
    (k_run : PySem.W.keepIn K (.ref f_run) = true)
    (a_save : PySem.W.nsIn K mainGlobals "save" = some (some (.ref f_save)))
    (l_save : K.lookup f_save = some ⟨oc_save, od_save, .func (PySem.W.fnOf "save" "save" (defArgs sSave) (defBody sSave) (defScope sSave) .none kV_save dc_save pm_save an_save cd_save ct_save), sl_save⟩)
    (c_save : PySem.W.codeIn K cd_save "save" = true)
    (k_save : PySem.W.keepIn K (.ref f_save) = true)
    (a_load : PySem.W.nsIn K mainGlobals "load" = some (some (.ref f_load)))
    (l_load : K.lookup f_load = some ⟨oc_load, od_load, .func (PySem.W.fnOf "load" "load" (defArgs sLoad) (defBody sLoad) (defScope sLoad) .none kV_load dc_load pm_load an_load cd_load ct_load), sl_load⟩)
    (c_load : PySem.W.codeIn K cd_load "load" = true)
    (k_load : PySem.W.keepIn K (.ref f_load) = true)
    (a_turn : PySem.W.nsIn K mainGlobals "turn" = some (some (.ref f_turn)))
    (l_turn : K.lookup f_turn = some ⟨oc_turn, od_turn, .func (PySem.W.fnOf "turn" "turn" (defArgs sTurn) (defBody sTurn) (defScope sTurn) .none kV_turn dc_turn pm_turn an_turn cd_turn ct_turn), sl_turn⟩)
    (c_turn : PySem.W.codeIn K cd_turn "turn" = true)
    (k_turn : PySem.W.keepIn K (.ref f_turn) = true)
    (a_peek : PySem.W.nsIn K mainGlobals "peek" = some (some (.ref f_peek)))
    (l_peek : K.lookup f_peek = some ⟨oc_peek, od_peek, .func (PySem.W.fnOf "peek" "peek" (defArgs sPeek) (defBody sPeek) (defScope sPeek) .none kV_peek dc_peek pm_peek an_peek cd_peek ct_peek), sl_peek⟩)
    (c_peek : PySem.W.codeIn K cd_peek "peek" = true)
    (k_peek : PySem.W.keepIn K (.ref f_peek) = true)
    (a_poke : PySem.W.nsIn K mainGlobals "poke" = some (some (.ref f_poke)))
    (l_poke : K.lookup f_poke = some ⟨oc_poke, od_poke, .func (PySem.W.fnOf "poke" "poke" (defArgs sPoke) (defBody sPoke) (defScope sPoke) .none kV_poke dc_poke pm_poke an_poke cd_poke ct_poke), sl_poke⟩)
    (c_poke : PySem.W.codeIn K cd_poke "poke" = true)
    (k_poke : PySem.W.keepIn K (.ref f_poke) = true)
    (a_differ : PySem.W.nsIn K mainGlobals "differ" = some (some (.ref f_differ)))
    (l_differ : K.lookup f_differ = some ⟨oc_differ, od_differ, .func (PySem.W.fnOf "differ" "differ" (defArgs sDiffer) (defBody sDiffer) (defScope sDiffer) .none kV_differ dc_differ pm_differ an_differ cd_differ ct_differ), sl_differ⟩)
    (c_differ : PySem.W.codeIn K cd_differ "differ" = true)
    (k_differ : PySem.W.keepIn K (.ref f_differ) = true)
    (a_answer_of : PySem.W.nsIn K mainGlobals "answer_of" = some (some (.ref f_answer_of)))
    (l_answer_of : K.lookup f_answer_of = some ⟨oc_answer_of, od_answer_of, .func (PySem.W.fnOf "answer_of" "answer_of" (defArgs sAnsOf) (defBody sAnsOf) (defScope sAnsOf) .none kV_answer_of dc_answer_of pm_answer_of an_answer_of cd_answer_of ct_answer_of), sl_answer_of⟩)
    (c_answer_of : PySem.W.codeIn K cd_answer_of "answer_of" = true)
    (k_answer_of : PySem.W.keepIn K (.ref f_answer_of) = true)
    (a_answers : PySem.W.nsIn K mainGlobals "answers" = some (some (.ref f_answers)))
    (l_answers : K.lookup f_answers = some ⟨oc_answers, od_answers, .func (PySem.W.fnOf "answers" "answers" (defArgs sAnswers) (defBody sAnswers) (defScope sAnswers) .none kV_answers dc_answers pm_answers an_answers cd_answers ct_answers), sl_answers⟩)
    (c_answers : PySem.W.codeIn K cd_answers "answers" = true)
    (k_answers : PySem.W.keepIn K (.ref f_answers) = true)
    (aC : PySem.W.nsIn K mainGlobals "State" = some (some (.ref C)))
    (a_iC : PySem.W.findIn K (.ref C) "__init__" = some (some (.ref f_iC)))
    (i_iC : PySem.W.isFn K (.ref f_iC) = true)
    (l_iC : K.lookup f_iC = some ⟨oc_iC, od_iC, .func (PySem.W.fnOf "__init__" "State.__init__" (defArgs sStInit) (defBody sStInit) (defScope sStInit) .none kV_iC dc_iC pm_iC an_iC cd_iC ct_iC), sl_iC⟩)
    (c_iC : PySem.W.codeIn K cd_iC "State.__init__" = true)
    (k_iC : PySem.W.keepIn K (.ref f_iC) = true)
    (pgC : PySem.W.plainGet K C Str.empty = true)
    (hdC : PySem.W.hasDictIn K C = true)
    (poC : PySem.W.plainOver K C = true)
    (saC : PySem.W.findIn K (.ref C) "__setattr__" = some (some (.builtin "object.__setattr__")))
    (mkC : PySem.W.makesIn K C = true)
    (kcC : PySem.W.keepIn K (.ref C) = true)
    (nC_scalars : PySem.W.findIn K (.ref C) "scalars" = some none)
    (nC_vectors : PySem.W.findIn K (.ref C) "vectors" = some none)
    (nC_masks : PySem.W.findIn K (.ref C) "masks" = some none)
    (aCM : PySem.W.nsIn K mainGlobals "Machine" = some (some (.ref CM)))
    (a_iCM : PySem.W.findIn K (.ref CM) "__init__" = some (some (.ref f_iCM)))
    (i_iCM : PySem.W.isFn K (.ref f_iCM) = true)
    (l_iCM : K.lookup f_iCM = some ⟨oc_iCM, od_iCM, .func (PySem.W.fnOf "__init__" "Machine.__init__" (defArgs sMInit) (defBody sMInit) (defScope sMInit) .none kV_iCM dc_iCM pm_iCM an_iCM cd_iCM ct_iCM), sl_iCM⟩)
    (c_iCM : PySem.W.codeIn K cd_iCM "Machine.__init__" = true)
    (k_iCM : PySem.W.keepIn K (.ref f_iCM) = true)
    (pgCM : PySem.W.plainGet K CM Str.empty = true)
    (hdCM : PySem.W.hasDictIn K CM = true)
    (poCM : PySem.W.plainOver K CM = true)
    (saCM : PySem.W.findIn K (.ref CM) "__setattr__" = some (some (.builtin "object.__setattr__")))
    (mkCM : PySem.W.makesIn K CM = true)
    (kcCM : PySem.W.keepIn K (.ref CM) = true)
    (nCM_components : PySem.W.findIn K (.ref CM) "components" = some none)
    (nCM_state : PySem.W.findIn K (.ref CM) "state" = some none) :
    ∃ fd : FuncData, (∀ (s : Shared) (us : List Value), us.length = (["calls"] : List Str).length → BindsTo s fd ⟨us, []⟩ ((["calls"] : List Str).zip us)) ∧ ∀ base : Heap, K.In base → base.Ns mainGlobals mg → FnOk P w K mg base CX0 11 fa fd ["calls"] (spAnswers K) := by
  have e := hfa.symm.trans (PySem.W.mg_of X G a_answers)
  cases e
  exact ⟨_, fun s us hu => (match us, hu with | [_], _ => .of_eq rfl), fun base _ _ => cals base X G z_len z_range z_list z_zip z_any z_sum z_min z_max z_reversed z_enumerate c_MODULUS c_LOWER_HALF c_SCALAR_WEIGHT c_MASK_WEIGHT c_HEAD_LENGTH c_SCALARS_AT c_PAIRS_AT c_WEIGHTS_AT c_FORM_AT c_SHORT_MARK c_OUT_OF_RANGE c_BAD_BYTES c_NO_COMPONENT c_NO_ROOM c_MOST_CODE c_MOST_EXECUTED c_MOST_BYTES c_FIRST_SCALAR c_FIRST_MASK c_REGISTER_COUNT a_LANE_COUNTS l_LANE_COUNTS i_LANE_COUNTS a_WEIGHTS l_WEIGHTS i_WEIGHTS a_TAIL_WEIGHTS l_TAIL_WEIGHTS i_TAIL_WEIGHTS a_MACHINES l_MACHINES i_MACHINES aB lB rB lB0 iB0 lB1 iB1 lB2 iB2 lB3 iB3 lB4 iB4 lB5 iB5 lB6 iB6 lB7 iB7 lB8 iB8 lB9 iB9 lB10 iB10 lB11 iB11 lB12 iB12 lB13 iB13 lB14 iB14 lB15 iB15 lB16 iB16 lB17 iB17 lB18 iB18 lB19 iB19 lB20 iB20 lB21 iB21 lB22 iB22 lB23 iB23 aDL lDL pDL lL2 iL2 lL4 iL4 lL64 iL64 lL128 iL128 aDW lDW pDW aDG lDG pDG lowG a_word_bytes l_word_bytes c_word_bytes k_word_bytes a_words_at l_words_at c_words_at k_words_at a_lane_places l_lane_places c_lane_places k_lane_places a_component_words l_component_words c_component_words k_component_words a_put_component l_put_component c_put_component k_put_component a_weights_in_use l_weights_in_use c_weights_in_use k_weights_in_use a_has_components l_has_components c_has_components k_has_components a_component_bytes l_component_bytes c_component_bytes k_component_bytes a_scalar_bytes l_scalar_bytes c_scalar_bytes k_scalar_bytes a_head_bytes l_head_bytes c_head_bytes k_head_bytes a_long_form l_long_form c_long_form k_long_form a_short_form l_short_form c_short_form k_short_form a_read_part l_read_part c_read_part k_read_part a_read_head l_read_head c_read_head k_read_head a_read_long l_read_long c_read_long k_read_long a_read_short l_read_short c_read_short k_read_short a_read_checkpoint l_read_checkpoint c_read_checkpoint k_read_checkpoint a_split_code l_split_code c_split_code k_split_code a_is_instruction l_is_instruction c_is_instruction k_is_instruction a_vector_operands l_vector_operands c_vector_operands k_vector_operands a_needed_components l_needed_components c_needed_components k_needed_components a_chosen_lanes l_chosen_lanes c_chosen_lanes k_chosen_lanes a_combined_lanes l_combined_lanes c_combined_lanes k_combined_lanes a_shifted_lanes l_shifted_lanes c_shifted_lanes k_shifted_lanes a_vector_result l_vector_result c_vector_result k_vector_result a_scalar_result l_scalar_result c_scalar_result k_scalar_result a_less_bits l_less_bits c_less_bits k_less_bits a_mask_result l_mask_result c_mask_result k_mask_result a_count_down l_count_down c_count_down k_count_down a_write_vector l_write_vector c_write_vector k_write_vector a_step l_step c_step k_step a_execute l_execute c_execute k_execute a_different_weights l_different_weights c_different_weights k_different_weights a_copy_state l_copy_state c_copy_state k_copy_state a_register_words l_register_words c_register_words k_register_words a_can_hold l_can_hold c_can_hold k_can_hold a_put_register l_put_register c_put_register k_put_register a_read_state l_read_state c_read_state k_read_state a_written_state l_written_state c_written_state k_written_state a_new l_new c_new k_new a_run l_run c_run k_run a_save l_save c_save k_save a_load l_load c_load k_load a_turn l_turn c_turn k_turn a_peek l_peek c_peek k_peek a_poke l_poke c_poke k_poke a_differ l_differ c_differ k_differ a_answer_of l_answer_of c_answer_of k_answer_of a_answers l_answers c_answers k_answers aC a_iC i_iC l_iC c_iC k_iC pgC hdC poC saC mkC kcC nC_scalars nC_vectors nC_masks aCM a_iCM i_iCM l_iCM c_iCM k_iCM pgCM hdCM poCM saCM mkCM kcCM nCM_components nCM_state⟩
theorem said {K : PySem.W.Frag} {H : Hp} {xs : List V} {a : PySem.W.Codec.denoteAll PySem.Challenge.rw_vectorpoints_s01_answers.args} (hwi : PySem.W.Codec.withinAll PySem.Challenge.rw_vectorpoints_s01_answers.args a = true)
    (hask : PySem.W.Codec.app PySem.Challenge.rw_vectorpoints_s01_answers.args PySem.Challenge.rw_vectorpoints_s01_answers.asked a = true) (hx : L2.DwAll K H xs (PySem.W.Codec.encAll PySem.Challenge.rw_vectorpoints_s01_answers.args a)) :
    spAnswers K xs H (fun v H' => L2.Dw K H' v (PySem.Challenge.rw_vectorpoints_s01_answers.ret.enc (PySem.W.Codec.app PySem.Challenge.rw_vectorpoints_s01_answers.args PySem.Challenge.rw_vectorpoints_s01_answers.f a))) fun _ _ _ => False := by
  cases hx with
  | cons h1 h2 =>
    cases h2
    cases h1 with
    | lst hs ha =>
      have e := L2.ints_dw a.1 _ ha
      subst e
      have q : ((PySem.W.Codec.inLen 0 30000 a.1 && a.1.all (PySem.W.Codec.inInt 0 4294967295)) && true) = true := hwi
      rw [Bool.and_eq_true, Bool.and_eq_true] at q
      have hn : ∀ x ∈ a.1, 0 ≤ x := fun x hx => by
        have h := List.all_eq_true.mp q.1.2 x hx
        unfold PySem.W.Codec.inInt at h
        rw [Bool.and_eq_true] at h
        exact of_decide_eq_true h.1
      have e2 := VM.toI_back a.1 hn
      have e3 : nl (a.1.map Int.toNat) = a.1.map V.int := by
        have h := congrArg (List.map V.int) e2
        rw [← h]
        unfold nl VM.toI
        rw [List.map_map, List.map_map, List.map_map]
        rfl
      refine ⟨_, a.1.map Int.toNat, rfl, by rw [e3]; exact hs, ?_, ?_, fun H' p hp => ?_⟩
      · rw [List.length_map]
        exact (PySem.W.Codec.inNat_iff.mp q.1.1).2
      · rw [e2]
        exact hask
      · rw [e2] at hp
        exact .lst (L2.SqL.of hp) (L2.dw_ints _)
end VP

set_option Elab.async false
set_option linter.all false
open PySem PySem.W PyProof.Rows
set_option maxRecDepth 100000 in
set_option maxHeartbeats 80000000 in
theorem PySem.Challenge.cw_vectorpoints_s01_answers_holds : PySem.Challenge.rw_vectorpoints_s01_answers.Holds := by
  w_on; k_headS; (case hw => exact ⟨[.list [.int 0, .int 1, .int 3, .int 0]], by decide +kernel, by decide +kernel⟩)
  k_fillS
  refine L2.walk_specK (r := PySem.Challenge.rw_vectorpoints_s01_answers) (k := 11) (CX := L2.CX0) (ps := ["calls"]) (sp := VP.spAnswers) (by decide +kernel) rfl rfl ⟨rfl, by decide, by decide⟩ (fun w h Y => PySem.W.kIn_of Y) ?F ?S (fun _ _ _ _ z => z)
  case F =>
    intro w mg fa h Y KX G hmg
    refine' VP.cals_all KX G hmg ?z_len ?z_range ?z_list ?z_zip ?z_any ?z_sum ?z_min ?z_max ?z_reversed ?z_enumerate ?c_MODULUS ?c_LOWER_HALF ?c_SCALAR_WEIGHT ?c_MASK_WEIGHT ?c_HEAD_LENGTH ?c_SCALARS_AT ?c_PAIRS_AT ?c_WEIGHTS_AT ?c_FORM_AT ?c_SHORT_MARK ?c_OUT_OF_RANGE ?c_BAD_BYTES ?c_NO_COMPONENT ?c_NO_ROOM ?c_MOST_CODE ?c_MOST_EXECUTED ?c_MOST_BYTES ?c_FIRST_SCALAR ?c_FIRST_MASK ?c_REGISTER_COUNT ?a_LANE_COUNTS ?l_LANE_COUNTS ?i_LANE_COUNTS ?a_WEIGHTS ?l_WEIGHTS ?i_WEIGHTS ?a_TAIL_WEIGHTS ?l_TAIL_WEIGHTS ?i_TAIL_WEIGHTS ?a_MACHINES ?l_MACHINES ?i_MACHINES ?aB ?lB ?rB ?lB0 ?iB0 ?lB1 ?iB1 ?lB2 ?iB2 ?lB3 ?iB3 ?lB4 ?iB4 ?lB5 ?iB5 ?lB6 ?iB6 ?lB7 ?iB7 ?lB8 ?iB8 ?lB9 ?iB9 ?lB10 ?iB10 ?lB11 ?iB11 ?lB12 ?iB12 ?lB13 ?iB13 ?lB14 ?iB14 ?lB15 ?iB15 ?lB16 ?iB16 ?lB17 ?iB17 ?lB18 ?iB18 ?lB19 ?iB19 ?lB20 ?iB20 ?lB21 ?iB21 ?lB22 ?iB22 ?lB23 ?iB23 ?aDL ?lDL ?pDL ?lL2 ?iL2 ?lL4 ?iL4 ?lL64 ?iL64 ?lL128 ?iL128 ?aDW ?lDW ?pDW ?aDG ?lDG ?pDG ?lowG ?a_word_bytes ?l_word_bytes ?c_word_bytes ?k_word_bytes ?a_words_at ?l_words_at ?c_words_at ?k_words_at ?a_lane_places ?l_lane_places ?c_lane_places ?k_lane_places ?a_component_words ?l_component_words ?c_component_words ?k_component_words ?a_put_component ?l_put_component ?c_put_component ?k_put_component ?a_weights_in_use ?l_weights_in_use ?c_weights_in_use ?k_weights_in_use ?a_has_components ?l_has_components ?c_has_components ?k_has_components ?a_component_bytes ?l_component_bytes ?c_component_bytes ?k_component_bytes ?a_scalar_bytes ?l_scalar_bytes ?c_scalar_bytes ?k_scalar_bytes ?a_head_bytes ?l_head_bytes ?c_head_bytes ?k_head_bytes ?a_long_form ?l_long_form ?c_long_form ?k_long_form ?a_short_form ?l_short_form ?c_short_form ?k_short_form ?a_read_part ?l_read_part ?c_read_part ?k_read_part ?a_read_head ?l_read_head ?c_read_head ?k_read_head ?a_read_long ?l_read_long ?c_read_long ?k_read_long ?a_read_short ?l_read_short ?c_read_short ?k_read_short ?a_read_checkpoint ?l_read_checkpoint ?c_read_checkpoint ?k_read_checkpoint ?a_split_code ?l_split_code ?c_split_code ?k_split_code ?a_is_instruction ?l_is_instruction ?c_is_instruction ?k_is_instruction ?a_vector_operands ?l_vector_operands ?c_vector_operands ?k_vector_operands ?a_needed_components ?l_needed_components ?c_needed_components ?k_needed_components ?a_chosen_lanes ?l_chosen_lanes ?c_chosen_lanes ?k_chosen_lanes ?a_combined_lanes ?l_combined_lanes ?c_combined_lanes ?k_combined_lanes ?a_shifted_lanes ?l_shifted_lanes ?c_shifted_lanes ?k_shifted_lanes ?a_vector_result ?l_vector_result ?c_vector_result ?k_vector_result ?a_scalar_result ?l_scalar_result ?c_scalar_result ?k_scalar_result ?a_less_bits ?l_less_bits ?c_less_bits ?k_less_bits ?a_mask_result ?l_mask_result ?c_mask_result ?k_mask_result ?a_count_down ?l_count_down ?c_count_down ?k_count_down ?a_write_vector ?l_write_vector ?c_write_vector ?k_write_vector ?a_step ?l_step ?c_step ?k_step ?a_execute ?l_execute ?c_execute ?k_execute ?a_different_weights ?l_different_weights ?c_different_weights ?k_different_weights ?a_copy_state ?l_copy_state ?c_copy_state ?k_copy_state ?a_register_words ?l_register_words ?c_register_words ?k_register_words ?a_can_hold ?l_can_hold ?c_can_hold ?k_can_hold ?a_put_register ?l_put_register ?c_put_register ?k_put_register ?a_read_state ?l_read_state ?c_read_state ?k_read_state ?a_written_state ?l_written_state ?c_written_state ?k_written_state ?a_new ?l_new ?c_new ?k_new ?a_run ?l_run ?c_run ?k_run ?a_save ?l_save ?c_save ?k_save ?a_load ?l_load ?c_load ?k_load ?a_turn ?l_turn ?c_turn ?k_turn ?a_peek ?l_peek ?c_peek ?k_peek ?a_poke ?l_poke ?c_poke ?k_poke ?a_differ ?l_differ ?c_differ ?k_differ ?a_answer_of ?l_answer_of ?c_answer_of ?k_answer_of ?a_answers ?l_answers ?c_answers ?k_answers ?aC ?a_iC ?i_iC ?l_iC ?c_iC ?k_iC ?pgC ?hdC ?poC ?saC ?mkC ?kcC ?nC_scalars ?nC_vectors ?nC_masks ?aCM ?a_iCM ?i_iCM ?l_iCM ?c_iCM ?k_iCM ?pgCM ?hdCM ?poCM ?saCM ?mkCM ?kcCM ?nCM_components ?nCM_state
    (case z_len => k_is)
    (case z_range => k_is)
    (case z_list => k_is)
    (case z_zip => k_is)
    (case z_any => k_is)
    (case z_sum => k_is)
    (case z_min => k_is)
    (case z_max => k_is)
    (case z_reversed => k_is)
    (case z_enumerate => k_is)
    (case c_MODULUS => k_is)
    (case c_LOWER_HALF => k_is)
    (case c_SCALAR_WEIGHT => k_is)
    (case c_MASK_WEIGHT => k_is)
    (case c_HEAD_LENGTH => k_is)
    (case c_SCALARS_AT => k_is)
    (case c_PAIRS_AT => k_is)
    (case c_WEIGHTS_AT => k_is)
    (case c_FORM_AT => k_is)
    (case c_SHORT_MARK => k_is)
    (case c_OUT_OF_RANGE => k_is)
    (case c_BAD_BYTES => k_is)
    (case c_NO_COMPONENT => k_is)
    (case c_NO_ROOM => k_is)
    (case c_MOST_CODE => k_is)
    (case c_MOST_EXECUTED => k_is)
    (case c_MOST_BYTES => k_is)
    (case c_FIRST_SCALAR => k_is)
    (case c_FIRST_MASK => k_is)
    (case c_REGISTER_COUNT => k_is)
    (case a_LANE_COUNTS => k_is)
    (case l_LANE_COUNTS => k_is)
    (case i_LANE_COUNTS => rfl)
    (case a_WEIGHTS => k_is)
    (case l_WEIGHTS => k_is)
    (case i_WEIGHTS => rfl)
    (case a_TAIL_WEIGHTS => k_is)
    (case l_TAIL_WEIGHTS => k_is)
    (case i_TAIL_WEIGHTS => rfl)
    (case a_MACHINES => k_is)
    (case l_MACHINES => k_is)
    (case i_MACHINES => rfl)
    (case aB => k_is)
    (case lB => k_is)
    (case rB => rfl)
    (case lB0 => k_is)
    (case iB0 => rfl)
    (case lB1 => k_is)
    (case iB1 => rfl)
    (case lB2 => k_is)
    (case iB2 => rfl)
    (case lB3 => k_is)
    (case iB3 => rfl)
    (case lB4 => k_is)
    (case iB4 => rfl)
    (case lB5 => k_is)
    (case iB5 => rfl)
    (case lB6 => k_is)
    (case iB6 => rfl)
    (case lB7 => k_is)
    (case iB7 => rfl)
    (case lB8 => k_is)
    (case iB8 => rfl)
    (case lB9 => k_is)
    (case iB9 => rfl)
    (case lB10 => k_is)
    (case iB10 => rfl)
    (case lB11 => k_is)
    (case iB11 => rfl)
    (case lB12 => k_is)
    (case iB12 => rfl)
    (case lB13 => k_is)
    (case iB13 => rfl)
    (case lB14 => k_is)
    (case iB14 => rfl)
    (case lB15 => k_is)
    (case iB15 => rfl)
    (case lB16 => k_is)
    (case iB16 => rfl)
    (case lB17 => k_is)
    (case iB17 => rfl)
    (case lB18 => k_is)
    (case iB18 => rfl)
    (case lB19 => k_is)
    (case iB19 => rfl)
    (case lB20 => k_is)
    (case iB20 => rfl)
    (case lB21 => k_is)
    (case iB21 => rfl)
    (case lB22 => k_is)
    (case iB22 => rfl)
    (case lB23 => k_is)
    (case iB23 => rfl)
    (case aDL => k_is)
    (case lDL => k_is)
    (case pDL => rfl)
    (case lL2 => k_is)
    (case iL2 => rfl)
    (case lL4 => k_is)
    (case iL4 => rfl)
    (case lL64 => k_is)
    (case iL64 => rfl)
    (case lL128 => k_is)
    (case iL128 => rfl)
    (case aDW => k_is)
    (case lDW => k_is)
    (case pDW => rfl)
    (case aDG => k_is)
    (case lDG => k_is)
    (case pDG => rfl)
    (case lowG => rfl)
    (case a_word_bytes => k_is)
    (case l_word_bytes => k_is)
    (case c_word_bytes => k_is)
    (case k_word_bytes => k_is)
    (case a_words_at => k_is)
    (case l_words_at => k_is)
    (case c_words_at => k_is)
    (case k_words_at => k_is)
    (case a_lane_places => k_is)
    (case l_lane_places => k_is)
    (case c_lane_places => k_is)
    (case k_lane_places => k_is)
    (case a_component_words => k_is)
    (case l_component_words => k_is)
    (case c_component_words => k_is)
    (case k_component_words => k_is)
    (case a_put_component => k_is)
    (case l_put_component => k_is)
    (case c_put_component => k_is)
    (case k_put_component => k_is)
    (case a_weights_in_use => k_is)
    (case l_weights_in_use => k_is)
    (case c_weights_in_use => k_is)
    (case k_weights_in_use => k_is)
    (case a_has_components => k_is)
    (case l_has_components => k_is)
    (case c_has_components => k_is)
    (case k_has_components => k_is)
    (case a_component_bytes => k_is)
    (case l_component_bytes => k_is)
    (case c_component_bytes => k_is)
    (case k_component_bytes => k_is)
    (case a_scalar_bytes => k_is)
    (case l_scalar_bytes => k_is)
    (case c_scalar_bytes => k_is)
    (case k_scalar_bytes => k_is)
    (case a_head_bytes => k_is)
    (case l_head_bytes => k_is)
    (case c_head_bytes => k_is)
    (case k_head_bytes => k_is)
    (case a_long_form => k_is)
    (case l_long_form => k_is)
    (case c_long_form => k_is)
    (case k_long_form => k_is)
    (case a_short_form => k_is)
    (case l_short_form => k_is)
    (case c_short_form => k_is)
    (case k_short_form => k_is)
    (case a_read_part => k_is)
    (case l_read_part => k_is)
    (case c_read_part => k_is)
    (case k_read_part => k_is)
    (case a_read_head => k_is)
    (case l_read_head => k_is)
    (case c_read_head => k_is)
    (case k_read_head => k_is)
    (case a_read_long => k_is)
    (case l_read_long => k_is)
    (case c_read_long => k_is)
    (case k_read_long => k_is)
    (case a_read_short => k_is)
    (case l_read_short => k_is)
    (case c_read_short => k_is)
    (case k_read_short => k_is)
    (case a_read_checkpoint => k_is)
    (case l_read_checkpoint => k_is)
    (case c_read_checkpoint => k_is)
    (case k_read_checkpoint => k_is)
    (case a_split_code => k_is)
    (case l_split_code => k_is)
    (case c_split_code => k_is)
    (case k_split_code => k_is)
    (case a_is_instruction => k_is)
    (case l_is_instruction => k_is)
    (case c_is_instruction => k_is)
    (case k_is_instruction => k_is)
    (case a_vector_operands => k_is)
    (case l_vector_operands => k_is)
    (case c_vector_operands => k_is)
    (case k_vector_operands => k_is)
    (case a_needed_components => k_is)
    (case l_needed_components => k_is)
    (case c_needed_components => k_is)
    (case k_needed_components => k_is)
    (case a_chosen_lanes => k_is)
    (case l_chosen_lanes => k_is)
    (case c_chosen_lanes => k_is)
    (case k_chosen_lanes => k_is)
    (case a_combined_lanes => k_is)
    (case l_combined_lanes => k_is)
    (case c_combined_lanes => k_is)
    (case k_combined_lanes => k_is)
    (case a_shifted_lanes => k_is)
    (case l_shifted_lanes => k_is)
    (case c_shifted_lanes => k_is)
    (case k_shifted_lanes => k_is)
    (case a_vector_result => k_is)
    (case l_vector_result => k_is)
    (case c_vector_result => k_is)
    (case k_vector_result => k_is)
    (case a_scalar_result => k_is)
    (case l_scalar_result => k_is)
    (case c_scalar_result => k_is)
    (case k_scalar_result => k_is)
    (case a_less_bits => k_is)
    (case l_less_bits => k_is)
    (case c_less_bits => k_is)
    (case k_less_bits => k_is)
    (case a_mask_result => k_is)
    (case l_mask_result => k_is)
    (case c_mask_result => k_is)
    (case k_mask_result => k_is)
    (case a_count_down => k_is)
    (case l_count_down => k_is)
    (case c_count_down => k_is)
    (case k_count_down => k_is)
    (case a_write_vector => k_is)
    (case l_write_vector => k_is)
    (case c_write_vector => k_is)
    (case k_write_vector => k_is)
    (case a_step => k_is)
    (case l_step => k_is)
    (case c_step => k_is)
    (case k_step => k_is)
    (case a_execute => k_is)
    (case l_execute => k_is)
    (case c_execute => k_is)
    (case k_execute => k_is)
    (case a_different_weights => k_is)
    (case l_different_weights => k_is)
    (case c_different_weights => k_is)
    (case k_different_weights => k_is)
    (case a_copy_state => k_is)
    (case l_copy_state => k_is)
    (case c_copy_state => k_is)
    (case k_copy_state => k_is)
    (case a_register_words => k_is)
    (case l_register_words => k_is)
    (case c_register_words => k_is)
    (case k_register_words => k_is)
    (case a_can_hold => k_is)
    (case l_can_hold => k_is)
    (case c_can_hold => k_is)
    (case k_can_hold => k_is)
    (case a_put_register => k_is)
    (case l_put_register => k_is)
    (case c_put_register => k_is)
    (case k_put_register => k_is)
    (case a_read_state => k_is)
    (case l_read_state => k_is)
    (case c_read_state => k_is)
    (case k_read_state => k_is)
    (case a_written_state => k_is)
    (case l_written_state => k_is)
    (case c_written_state => k_is)
    (case k_written_state => k_is)
    (case a_new => k_is)
    (case l_new => k_is)
    (case c_new => k_is)
    (case k_new => k_is)
    (case a_run => k_is)
    (case l_run => k_is)
    (case c_run => k_is)
    (case k_run => k_is)
    (case a_save => k_is)
    (case l_save => k_is)
    (case c_save => k_is)
    (case k_save => k_is)
    (case a_load => k_is)
    (case l_load => k_is)
    (case c_load => k_is)
    (case k_load => k_is)
    (case a_turn => k_is)
    (case l_turn => k_is)
    (case c_turn => k_is)
    (case k_turn => k_is)
    (case a_peek => k_is)
    (case l_peek => k_is)
    (case c_peek => k_is)
    (case k_peek => k_is)
    (case a_poke => k_is)
    (case l_poke => k_is)
    (case c_poke => k_is)
    (case k_poke => k_is)
    (case a_differ => k_is)
    (case l_differ => k_is)
    (case c_differ => k_is)
    (case k_differ => k_is)
    (case a_answer_of => k_is)
    (case l_answer_of => k_is)
    (case c_answer_of => k_is)
    (case k_answer_of => k_is)
    (case a_answers => k_is)
    (case l_answers => k_is)
    (case c_answers => k_is)
    (case k_answers => k_is)
    (case aC => k_is)
    (case a_iC => k_is)
    (case i_iC => k_is)
    (case l_iC => k_is)
    (case c_iC => k_is)
    (case k_iC => k_is)
    (case pgC => k_is)
    (case hdC => k_is)
    (case poC => k_is)
    (case saC => k_is)
    (case mkC => k_is)
    (case kcC => k_is)
    (case nC_scalars => k_is)
    (case nC_vectors => k_is)
    (case nC_masks => k_is)
    (case aCM => k_is)
    (case a_iCM => k_is)
    (case i_iCM => k_is)
    (case l_iCM => k_is)
    (case c_iCM => k_is)
    (case k_iCM => k_is)
    (case pgCM => k_is)
    (case hdCM => k_is)
    (case poCM => k_is)
    (case saCM => k_is)
    (case mkCM => k_is)
    (case kcCM => k_is)
    (case nCM_components => k_is)
    (case nCM_state => k_is)
  case S =>
    intro K H xs a hO hwi hask hx
    exact VP.said hwi hask hx
#print axioms PySem.Challenge.cw_vectorpoints_s01_answers_holds
