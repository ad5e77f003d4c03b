import PyProof.Rows.All
import Wide.All
import OpenK.AllK
import Wide.FinOn
import Open.SpecLaws
import KE.OsGo
import HandS.ForMost
import HandS.ForSpec
import HandS.TupLen
import KE.GoesEnumKw
import HandS.DictTup
import KE.KeyNested
import KE.KDictCopyH
import HandS.SortOrd
import HandS.TupAny
import HandS.TupLe
import HandS.More
import HandS.FStr
import HandS.Codes
import HandS.StrMore
import KE.SortKeyHeap
import HandS.Lambda
import KE.KNest
import HandS.Spec
import PySem.Challenge.RW_evenbook_s03_moves
namespace Ev
open Sf42
set_option autoImplicit false

/-! ### split -/
theorem split_ne (p : UInt8 → Bool) : ∀ (b w : Bytes), split p b w ≠ []
  | [], w => by simp [split]
  | c :: r, w => by
    unfold split
    split
    · simp
    · exact split_ne p r _

theorem split_snoc_yes (p : UInt8 → Bool) (c : UInt8) (h : p c = true) : ∀ (b w : Bytes), split p (b ++ [c]) w = split p b w ++ [[]]
  | [], w => by simp [split, h]
  | d :: r, w => by
    by_cases hd : p d = true
    · simp [split, hd, split_snoc_yes p c h r]
    · simp [split, hd, split_snoc_yes p c h r]

theorem split_snoc_no (p : UInt8 → Bool) (c : UInt8) (h : p c = false) : ∀ (b w : Bytes), split p (b ++ [c]) w = (split p b w).dropLast ++ [(split p b w).getLast (split_ne p b w) ++ [c]]
  | [], w => by simp [split, h]
  | d :: r, w => by
    by_cases hd : p d = true
    · simp only [List.cons_append, split, hd, if_true]
      rw [split_snoc_no p c h r, List.dropLast_cons_of_ne_nil (split_ne p r []), List.getLast_cons (split_ne p r [])]
      rfl
    · simp only [List.cons_append, split, hd]
      exact split_snoc_no p c h r _

theorem split_acc (p : UInt8 → Bool) : ∀ (b w v : Bytes), split p b (v ++ w) = (v ++ (split p b w).head (split_ne p b w)) :: (split p b w).tail
  | [], w, v => by simp [split]
  | c :: r, w, v => by
    by_cases hc : p c = true
    · simp [split, hc]
    · simp only [split, hc]
      have := split_acc p r (w ++ [c]) v
      rw [← List.append_assoc] at this
      simpa using this

theorem split_head (p : UInt8 → Bool) : ∀ (b w : Bytes), (split p b w).head (split_ne p b w) = w ++ b.takeWhile fun c => !p c
  | [], w => by simp [split]
  | c :: r, w => by
    by_cases hc : p c = true
    · simp [split, hc]
    · simp [split, hc, split_head p r]

/-- the pieces and the accumulator hold no mark -/
theorem split_free (p : UInt8 → Bool) : ∀ (b w : Bytes), (∀ c ∈ w, p c = false) → ∀ v ∈ split p b w, ∀ c ∈ v, p c = false
  | [], w, hw, v, hv, c, hc => by
    simp only [split, List.mem_singleton] at hv
    subst hv
    exact hw c hc
  | d :: r, w, hw, v, hv, c, hc => by
    by_cases hd : p d = true
    · simp only [split, hd, if_true, List.mem_cons] at hv
      rcases hv with rfl | hv
      · exact hw c hc
      · exact split_free p r [] (by simp) v hv c hc
    · simp only [split, hd] at hv
      refine split_free p r (w ++ [d]) (fun e he => ?_) v hv c hc
      rcases List.mem_append.mp he with h | h
      · exact hw e h
      · rw [List.mem_singleton.mp h]; simpa using hd

theorem split_all (p : UInt8 → Bool) : ∀ (b w : Bytes), (∀ c ∈ b, p c = false) → split p b w = [w ++ b]
  | [], w, _ => by simp [split]
  | c :: r, w, h => by
    have hc : p c = false := h c (by simp)
    simp only [split, hc]
    rw [show (if false = true then w :: split p r [] else split p r (w ++ [c])) = split p r (w ++ [c]) from rfl, split_all p r _ fun d hd => h d (by simp [hd])]
    simp

theorem split_app (p : UInt8 → Bool) (c : UInt8) (hc : p c = true) : ∀ (a b w : Bytes), (∀ d ∈ a, p d = false) → split p (a ++ c :: b) w = (w ++ a) :: split p b []
  | [], b, w, _ => by simp [split, hc]
  | d :: r, b, w, h => by
    have hd : p d = false := h d (by simp)
    simp only [List.cons_append, split, hd]
    rw [show (if false = true then w :: split p (r ++ c :: b) [] else split p (r ++ c :: b) (w ++ [d])) = split p (r ++ c :: b) (w ++ [d]) from rfl, split_app p c hc r b _ fun e he => h e (by simp [he])]
    simp

theorem split_len (p : UInt8 → Bool) : ∀ (b w : Bytes), (split p b w).length ≤ b.length + 1
  | [], w => by simp [split]
  | c :: r, w => by
    by_cases hc : p c = true
    · simp only [split, hc, if_true, List.length_cons]
      have := split_len p r []
      omega
    · simp only [split, hc]
      have := split_len p r (w ++ [c])
      simp only [List.length_cons]
      exact Nat.le_succ_of_le this

theorem split_mem_len (p : UInt8 → Bool) : ∀ (b w : Bytes), ∀ v ∈ split p b w, v.length ≤ w.length + b.length
  | [], w, v, hv => by
    simp only [split, List.mem_singleton] at hv
    subst hv; simp
  | c :: r, w, v, hv => by
    by_cases hc : p c = true
    · simp only [split, hc, if_true, List.mem_cons] at hv
      rcases hv with rfl | hv
      · simp
      · have := split_mem_len p r [] v hv
        simp only [List.length_nil, List.length_cons] at this ⊢
        omega
    · simp only [split, hc] at hv
      have := split_mem_len p r (w ++ [c]) v hv
      simp only [List.length_append, List.length_cons, List.length_nil] at this ⊢
      omega

/-! ### lines -/
def cutLast (l : List Bytes) : List Bytes := if l.getLast? = some [] then l.dropLast else l
theorem linesOf_eq : ∀ (b w : Bytes), linesOf b w = cutLast (split (fun c => c == 10) b w)
  | [], [] => by simp [linesOf, split, cutLast]
  | [], c :: r => by simp [linesOf, split, cutLast]
  | c :: r, w => by
    unfold linesOf split
    by_cases hc : c = 10
    · subst hc
      have ih := linesOf_eq r []
      simp only [if_true, beq_self_eq_true]
      rw [ih]
      have hne := split_ne (fun c => c == 10) r []
      unfold cutLast
      rw [List.getLast?_cons_of_ne_nil hne, List.dropLast_cons_of_ne_nil hne]
      split <;> rfl
    · have ih := linesOf_eq r (w ++ [c])
      rw [if_neg hc, if_neg (by simpa using hc)]
      exact ih

/-! ### words -/
def spaced (b : Bytes) : Bytes := b.map fun c => if c = 9 then 32 else c
theorem split_spaced : ∀ (b w : Bytes), split (fun c => c == 32) (spaced b) w = split blank b w
  | [], w => by simp [spaced, split]
  | c :: r, w => by
    have ih := fun v => split_spaced r v
    by_cases h9 : c = 9
    · subst h9
      simp only [spaced, List.map_cons, if_true, split]
      have : blank 9 = true := by decide
      simp only [this, if_true, beq_self_eq_true]
      exact congrArg _ (ih [])
    · simp only [spaced, List.map_cons, if_neg h9, split]
      by_cases h32 : c = 32
      · subst h32
        have : blank 32 = true := by decide
        simp only [this, if_true, beq_self_eq_true]
        exact congrArg _ (ih [])
      · have e : blank c = false := by simp [blank, h9, h32]
        have e2 : (c == 32) = false := by simpa using h32
        simp only [e, e2]
        exact ih (w ++ [c])
theorem words_eq (b : Bytes) : words b = (split (fun c => c == 32) (spaced b) []).filter fun w => w != [] := by
  rw [split_spaced]; rfl

theorem words_nil_aux : ∀ (b w : Bytes), ((split blank b w).filter (fun w => w != []) = []) ↔ (w = [] ∧ b.all blank = true)
  | [], w => by
    by_cases h : w = []
    · simp [split, h]
    · simp [split, h]
  | c :: r, w => by
    have ih := fun v => words_nil_aux r v
    by_cases hc : blank c = true
    · simp only [split, hc, if_true, List.all_cons, Bool.true_and]
      by_cases h : w = []
      · subst h
        simp only [List.filter_cons, bne_self_eq_false, Bool.false_eq_true, if_false]
        simpa using ih []
      · have : (w != []) = true := by simpa using h
        simp [h]
    · simp only [split, hc, List.all_cons]
      have := ih (w ++ [c])
      simp only [List.append_eq_nil_iff, List.cons_ne_nil, and_false, false_and, iff_false] at this
      simpa using this
theorem words_nil (b : Bytes) : words b = [] ↔ b.all blank = true := by
  have := words_nil_aux b []
  simpa [words] using this
/-- a word is not empty, and shorter than the row -/
theorem words_mem (b w : Bytes) (h : w ∈ words b) : w ≠ [] ∧ w.length ≤ b.length := by
  unfold words at h
  obtain ⟨h1, h2⟩ := List.mem_filter.mp h
  exact ⟨by simpa using h2, by simpa using split_mem_len blank b [] w h1⟩
theorem words_len (b : Bytes) : (words b).length ≤ b.length + 1 := Nat.le_trans (List.length_filter_le _ _) (split_len _ _ _)

/-! ### remarks -/
theorem remark_eq (l : Bytes) : (split (fun c => c == 35) l []).head (split_ne _ _ _) = l.takeWhile fun c => c != 35 := by
  rw [split_head]; simp [bne]

/-! ### numbers -/
theorem digit_iff (c : UInt8) : digit c = true ↔ 48 ≤ c.toNat ∧ c.toNat ≤ 57 := by simp [digit]
def numI (b : Bytes) : Int := b.foldl (fun n c => n * 10 + (c.toNat : Int) - 48) 0
theorem numI_aux : ∀ (b : Bytes) (n : Nat), b.all digit = true → b.foldl (fun n c => n * 10 + (c.toNat : Int) - 48) (n : Int) = ((b.foldl (fun n c => 10 * n + (c.toNat - 48)) n : Nat) : Int)
  | [], n, _ => rfl
  | c :: r, n, h => by
    simp only [List.all_cons, Bool.and_eq_true] at h
    have hc := (digit_iff c).mp h.1
    have e : (n : Int) * 10 + (c.toNat : Int) - 48 = ((10 * n + (c.toNat - 48) : Nat) : Int) := by omega
    simp only [List.foldl_cons, e]
    exact numI_aux r _ h.2
theorem numI_eq (b : Bytes) (h : b.all digit = true) : numI b = (number b : Int) := numI_aux b 0 h
theorem number_bound_aux : ∀ (b : Bytes) (n : Nat), b.all digit = true → b.foldl (fun n c => 10 * n + (c.toNat - 48)) n < (n + 1) * 10 ^ b.length
  | [], n, _ => by simp
  | c :: r, n, h => by
    simp only [List.all_cons, Bool.and_eq_true] at h
    have hc := (digit_iff c).mp h.1
    have ih := number_bound_aux r (10 * n + (c.toNat - 48)) h.2
    simp only [List.foldl_cons, List.length_cons, Nat.pow_succ]
    refine Nat.lt_of_lt_of_le ih ?_
    have e : (n + 1) * (10 ^ r.length * 10) = (n + 1) * 10 * 10 ^ r.length := by rw [Nat.mul_assoc, Nat.mul_comm (10 ^ r.length)]
    rw [e]
    exact Nat.mul_le_mul_right _ (by omega)
theorem number_bound (b : Bytes) (h : b.all digit = true) : number b < 10 ^ b.length := by
  have := number_bound_aux b 0 h
  simpa [number] using this
theorem number_snoc (b : Bytes) (c : UInt8) : number (b ++ [c]) = 10 * number b + (c.toNat - 48) := by simp [number, List.foldl_append]
theorem number_app_aux : ∀ (b : Bytes) (n : Nat), b.foldl (fun n c => 10 * n + (c.toNat - 48)) n = n * 10 ^ b.length + number b
  | [], n => by simp [number]
  | c :: r, n => by
    simp only [List.foldl_cons, number, List.length_cons, Nat.pow_succ]
    rw [number_app_aux r, number_app_aux r (10 * 0 + (c.toNat - 48))]
    rw [Nat.add_mul, ← Nat.add_assoc]
    congr 1
    have e : n * (10 ^ r.length * 10) = 10 * n * 10 ^ r.length := by rw [Nat.mul_comm (10 ^ r.length), ← Nat.mul_assoc, Nat.mul_comm n]
    rw [e]; simp
theorem number_app (a b : Bytes) : number (a ++ b) = number a * 10 ^ b.length + number b := by
  have := number_app_aux b (number a)
  simpa [number, List.foldl_append] using this
theorem number_zeros : ∀ n : Nat, number (List.replicate n 48) = 0
  | 0 => rfl
  | n + 1 => by
    rw [List.replicate_succ', number_snoc, number_zeros n]; rfl

/-! ### days -/
def monthDays : List Nat := [31, 28, 31, 30, 31, 30, 31, 31, 30, 31, 30, 31]
theorem daysIn_eq (y m : Nat) (h1 : 1 ≤ m) (h2 : m ≤ 12) (h : ¬ (m = 2 ∧ leap y = true)) : monthDays[m - 1]? = some (daysIn y m) := by
  have : m = 1 ∨ m = 2 ∨ m = 3 ∨ m = 4 ∨ m = 5 ∨ m = 6 ∨ m = 7 ∨ m = 8 ∨ m = 9 ∨ m = 10 ∨ m = 11 ∨ m = 12 := by omega
  rcases this with h | h | h | h | h | h | h | h | h | h | h | h <;> subst h <;> simp_all [daysIn, monthDays]
theorem daysIn_leap (y m : Nat) (h : m = 2 ∧ leap y = true) : daysIn y m = 29 := by simp [daysIn, h.1, h.2]
theorem daysIn_le (y m : Nat) : daysIn y m ≤ 31 := by
  unfold daysIn
  split <;> (try split) <;> omega
end Ev

namespace Ev
open Sf42
set_option autoImplicit false

/-! ### names and accounts -/
def nameSign (c : UInt8) : Bool := small c || (digit c || (c == 95 || c == 45))
def isName (w : Bytes) : Bool := decide (1 ≤ w.length) && (decide (w.length ≤ 31) && (((w.head?.map small).getD false) && w.all nameSign))
theorem isName_eq (w : Bytes) : isName w = isPart w := by
  cases w with
  | nil => rfl
  | cons c r =>
    unfold isName isPart nameSign
    simp only [List.length_cons, List.head?_cons, Option.map_some, Option.getD_some, List.all_cons]
    cases hs : small c with
    | false => simp
    | true =>
      simp only [Bool.true_or, Bool.true_and]
      have : decide (1 ≤ r.length + 1) = true := by simp
      rw [this, Bool.true_and]
      congr 1
      simp
def names (w : Bytes) : List Bytes := split (fun c => c == 58) w []
def isAccount (w : Bytes) : Bool := decide ((names w).length ≤ 8) && (names w).all isName
theorem account_some (w : Bytes) (h : isAccount w = true) : account w = some (names w) := by
  unfold isAccount at h
  simp only [Bool.and_eq_true, decide_eq_true_eq] at h
  unfold account
  have e : (names w).all isPart = true := by
    rw [← h.2]; congr 1; funext x; exact (isName_eq x).symm
  simp only [names] at e h ⊢
  rw [if_pos ⟨e, h.1⟩]
theorem account_none (w : Bytes) (h : isAccount w = false) : account w = none := by
  unfold account
  have e : (names w).all isPart = (names w).all isName := by
    congr 1; funext x; exact (isName_eq x).symm
  simp only [names] at e ⊢
  rw [if_neg]
  rintro ⟨h1, h2⟩
  rw [e] at h1
  have : isAccount w = true := by unfold isAccount names; simp [h1, h2]
  rw [h] at this; cases this
theorem joined_names_aux : ∀ (b w : Bytes), joined (split (fun c => c == 58) b w) = w ++ b
  | [], w => by simp [split, joined]
  | c :: r, w => by
    by_cases hc : c = 58
    · subst hc
      simp only [split, beq_self_eq_true, if_true]
      have ih := joined_names_aux r []
      have hne := split_ne (fun c => c == 58) r []
      revert ih hne
      cases split (fun c => c == 58) r [] with
      | nil => intro _ h; exact absurd rfl h
      | cons v t => intro ih _; simp only [joined]; rw [ih]; rfl
    · have e : (c == 58) = false := by simpa using hc
      simp only [split, e]
      have := joined_names_aux r (w ++ [c])
      simpa using this
theorem joined_names (w : Bytes) : joined (names w) = w := by simpa [names] using joined_names_aux w []
theorem names_inj (v w : Bytes) (h : names v = names w) : v = w := by rw [← joined_names v, h, joined_names]

/-! ### kinds, amounts -/
theorem isKind_eq (w : Bytes) : isKind w = (decide (1 ≤ w.length) && decide (w.length ≤ 8) && w.all capital) := by
  unfold isKind
  have : (w != []) = decide (1 ≤ w.length) := by cases w <;> simp
  rw [this, Bool.and_assoc]
def isMinus (w : Bytes) : Bool := w.take 1 == [45]
theorem isMinus_eq (w : Bytes) : isMinus w = (w.head? == some 45) := by
  cases w with
  | nil => rfl
  | cons c r => simp [isMinus]
def unsigned (w : Bytes) : Bytes := if isMinus w = true then w.drop 1 else w
def amountParts (w : Bytes) : List Bytes := split (fun c => c == 46) (unsigned w) []
def isWhole (b : Bytes) : Bool := decide (1 ≤ b.length) && (decide (b.length ≤ 14) && (b.all digit && (decide (b.length = 1) || decide (b.head? ≠ some 48))))
def isRest (b : Bytes) : Bool := decide (1 ≤ b.length) && (decide (b.length ≤ 4) && b.all digit)
def isAmount (w : Bytes) : Bool := match amountParts w with
  | [i] => isWhole i
  | [i, f] => isWhole i && isRest f
  | _ => false
def wide (i f : Bytes) : Bytes := i ++ f ++ List.replicate (4 - f.length) 48
def amountOf (w : Bytes) : Int := match amountParts w with
  | [i] => if isMinus w = true then -(number (wide i []) : Int) else (number (wide i []) : Int)
  | [i, f] => if isMinus w = true then -(number (wide i f) : Int) else (number (wide i f) : Int)
  | _ => 0
theorem number_wide (i f : Bytes) (h : f.length ≤ 4) : number (wide i f) = number i * 10000 + number f * 10 ^ (4 - f.length) := by
  unfold wide
  rw [number_app, number_zeros, List.length_replicate, number_app, Nat.add_mul, Nat.add_zero, Nat.mul_assoc, ← Nat.pow_add]
  have : f.length + (4 - f.length) = 4 := by omega
  rw [this]
theorem takeWhile_all {p : UInt8 → Bool} : ∀ {b : Bytes}, b.all p = true → b.takeWhile p = b
  | [], _ => rfl
  | c :: r, h => by
    simp only [List.all_cons, Bool.and_eq_true] at h
    simp [h.1, takeWhile_all h.2]
theorem takeWhile_stop {p : UInt8 → Bool} {c : UInt8} (hc : p c = false) : ∀ {b r : Bytes}, b.all p = true → (b ++ c :: r).takeWhile p = b
  | [], r, _ => by simp [hc]
  | d :: b, r, h => by
    simp only [List.all_cons, Bool.and_eq_true] at h
    simp [h.1, takeWhile_stop hc h.2]
theorem digit_no46 {b : Bytes} (h : b.all digit = true) : ∀ c ∈ b, (c == 46) = false := by
  intro c hc
  have := List.all_eq_true.mp h c hc
  cases e : c == 46 with
  | false => rfl
  | true =>
    have : c = 46 := by simpa using e
    subst this
    revert this; intro _
    have : digit 46 = true := List.all_eq_true.mp h 46 hc
    exact absurd this (by decide)
/-- what the pieces of a row say of the row -/
def joinBy : List Bytes → Bytes
  | [] => []
  | [w] => w
  | w :: r => w ++ (46 :: joinBy r)
theorem joinedBy : ∀ (b w : Bytes), joinBy (split (fun c => c == 46) b w) = w ++ b
  | [], w => by simp [split, joinBy]
  | c :: r, w => by
    by_cases hc : c = 46
    · subst hc
      simp only [split, beq_self_eq_true, if_true]
      have ih := joinedBy r []
      have hne := split_ne (fun c => c == 46) r []
      revert ih hne
      cases split (fun c => c == 46) r [] with
      | nil => intro _ h; exact absurd rfl h
      | cons v t => intro ih _; simp only [joinBy]; rw [ih]; rfl
    · have e : (c == 46) = false := by simpa using hc
      simp only [split, e]
      have := joinedBy r (w ++ [c])
      simpa using this
theorem split46_one {b i : Bytes} (h : split (fun c => c == 46) b [] = [i]) : b = i := by
  have := joinedBy b []
  rw [h] at this
  simpa [joinBy] using this.symm
theorem split46_two {b i f : Bytes} (h : split (fun c => c == 46) b [] = [i, f]) : b = i ++ 46 :: f := by
  have := joinedBy b []
  rw [h] at this
  simpa [joinBy] using this.symm
theorem takeWhile_has (p : UInt8 → Bool) : ∀ b : Bytes, (b.takeWhile p).all p = true
  | [] => rfl
  | c :: r => by
    cases h : p c with
    | false => simp [h]
    | true => simp only [List.takeWhile_cons, h, if_true, List.all_cons, Bool.true_and]; exact takeWhile_has p r
theorem unsigned_eq (w : Bytes) : unsigned w = if (w.head? == some 45) = true then w.tail else w := by
  unfold unsigned
  rw [isMinus_eq, List.drop_one]
theorem whole_iff (b : Bytes) : isWhole b = true ↔ (b ≠ [] ∧ b.length ≤ 14 ∧ b.all digit = true ∧ (b.length = 1 ∨ b.head? ≠ some 48)) := by
  unfold isWhole
  simp only [Bool.and_eq_true, Bool.or_eq_true, decide_eq_true_eq]
  constructor
  · rintro ⟨h1, h2, h3, h4⟩
    exact ⟨by intro e; subst e; simp at h1, h2, h3, h4⟩
  · rintro ⟨h1, h2, h3, h4⟩
    exact ⟨List.length_pos_iff.mpr h1, h2, h3, h4⟩
theorem rest_iff (b : Bytes) : isRest b = true ↔ (b ≠ [] ∧ b.length ≤ 4 ∧ b.all digit = true) := by
  unfold isRest
  simp only [Bool.and_eq_true, decide_eq_true_eq]
  constructor
  · rintro ⟨h1, h2, h3⟩
    exact ⟨by intro e; subst e; simp at h1, h2, h3⟩
  · rintro ⟨h1, h2, h3⟩
    exact ⟨List.length_pos_iff.mpr h1, h2, h3⟩
theorem amount_some (w : Bytes) (h : isAmount w = true) : amount w = some (amountOf w) := by
  unfold isAmount at h
  unfold amount amountOf
  have eu := unsigned_eq w
  rw [← isMinus_eq] at eu ⊢
  have hd46 : digit 46 = false := by decide
  split at h
  · next i hp =>
    have hb := split46_one hp
    obtain ⟨w1, w2, w3, w4⟩ := (whole_iff i).mp h
    have eb : (if isMinus w = true then w.tail else w) = i := by rw [← eu]; exact hb
    simp only [eb, hp]
    rw [takeWhile_all w3, if_pos ⟨w1, w2, w4, Or.inl rfl⟩]
    have e0 : i.drop (i.length + 1) = [] := by simp
    rw [e0]
    have := number_wide i [] (by simp)
    simp only [this]
  · next i f hp =>
    simp only [Bool.and_eq_true] at h
    have hb := split46_two hp
    obtain ⟨w1, w2, w3, w4⟩ := (whole_iff i).mp h.1
    obtain ⟨f1, f2, f3⟩ := (rest_iff f).mp h.2
    have eb : (if isMinus w = true then w.tail else w) = i ++ 46 :: f := by rw [← eu]; exact hb
    simp only [eb, hp]
    rw [takeWhile_stop hd46 w3]
    have e0 : (i ++ 46 :: f).drop (i.length + 1) = f := by simp
    have e1 : (i ++ 46 :: f)[i.length]? = some 46 := by simp
    rw [e0, e1, if_pos ⟨w1, w2, w4, Or.inr ⟨rfl, f1, f2, f3⟩⟩]
    have := number_wide i f f2
    simp only [this]
  · cases h
theorem amount_none (w : Bytes) (h : isAmount w = false) : amount w = none := by
  unfold amount
  have eu := unsigned_eq w
  rw [← isMinus_eq] at eu ⊢
  simp only
  rw [← eu]
  rw [if_neg]
  rintro ⟨h1, h2, h3, h4⟩
  have hi := takeWhile_has digit (unsigned w)
  have e : isAmount w = true := by
    unfold isAmount amountParts
    rcases h4 with h4 | ⟨h4, h5, h6, h7⟩
    · have eb : (unsigned w).takeWhile digit = unsigned w := by
        have := List.takeWhile_append_dropWhile (p := digit) (l := unsigned w)
        have hl := congrArg List.length this
        rw [List.length_append] at hl
        have : (unsigned w).dropWhile digit = [] := List.length_eq_zero_iff.mp (by omega)
        have e2 := List.takeWhile_append_dropWhile (p := digit) (l := unsigned w)
        rw [this, List.append_nil] at e2
        exact e2
      rw [eb] at hi h1 h2 h3
      rw [split_all _ _ _ (digit_no46 hi)]
      simp only [List.nil_append]
      exact (whole_iff _).mpr ⟨h1, h2, hi, h3⟩
    · have eb : unsigned w = (unsigned w).takeWhile digit ++ 46 :: (unsigned w).drop (((unsigned w).takeWhile digit).length + 1) := by
        have hlt : ((unsigned w).takeWhile digit).length < (unsigned w).length := by
          have := List.getElem?_eq_some_iff.mp h4
          exact this.1
        have h4' := (List.getElem?_eq_some_iff.mp h4).2
        have e2 : (unsigned w).drop ((unsigned w).takeWhile digit).length = 46 :: (unsigned w).drop (((unsigned w).takeWhile digit).length + 1) := by
          rw [List.drop_eq_getElem_cons hlt, h4']
        rw [← e2]
        have e3 : (unsigned w).take ((unsigned w).takeWhile digit).length = (unsigned w).takeWhile digit := by
          have h5 := List.takeWhile_append_dropWhile (p := digit) (l := unsigned w)
          conv => lhs; arg 2; rw [← h5]
          rw [List.take_left]
        conv => lhs; rw [← List.take_append_drop ((unsigned w).takeWhile digit).length (unsigned w)]
        rw [e3]
      have es : split (fun c => c == 46) (unsigned w) [] = [(unsigned w).takeWhile digit, (unsigned w).drop (((unsigned w).takeWhile digit).length + 1)] := by
        conv => lhs; rw [eb]
        rw [split_app _ _ (by decide) _ _ _ (digit_no46 hi), split_all _ _ _ (digit_no46 h7)]
        simp
      rw [es]
      simp only [Bool.and_eq_true]
      exact ⟨(whole_iff _).mpr ⟨h1, h2, hi, h3⟩, (rest_iff _).mpr ⟨h5, h6, h7⟩⟩
  rw [h] at e; cases e
end Ev

set_option Elab.async false
set_option linter.all false
set_option maxRecDepth 100000
set_option maxHeartbeats 2000000
namespace Ev
open PySem PySem.Spec PyProof.Rows L2
open Sf42 (Bytes)

/-! ### bytes as values -/
def vb (b : Bytes) : List V := b.map fun c => V.int (c.toNat : Int)
theorem vb_len (b : Bytes) : (vb b).length = b.length := by simp [vb]
theorem vb_get {b : Bytes} {i : Nat} {y : V} (h : (vb b)[i]? = some y) : ∃ c, b[i]? = some c ∧ y = V.int (c.toNat : Int) := by
  unfold vb at h
  rw [List.getElem?_map] at h
  cases e : b[i]? with
  | none => rw [e] at h; cases h
  | some c => rw [e] at h; exact ⟨c, rfl, (Option.some.inj h).symm⟩
theorem vb_at {b : Bytes} {i : Nat} {c : UInt8} (h : b[i]? = some c) : (vb b)[i]? = some (V.int (c.toNat : Int)) := by
  unfold vb
  rw [List.getElem?_map, h]
  rfl
theorem vb_app (a b : Bytes) : vb (a ++ b) = vb a ++ vb b := by simp [vb]
theorem toNat_eq {c d : UInt8} : ((c.toNat : Int) = (d.toNat : Int)) ↔ c = d := by
  constructor
  · intro h
    exact UInt8.toNat_inj.mp (Int.ofNat.inj h)
  · rintro rfl; rfl
theorem take_more {α : Type} : ∀ {l : List α} {i : Nat} {x : α}, l[i]? = some x → l.take (i + 1) = l.take i ++ [x]
  | [], i, x, h => by simp at h
  | a :: l, 0, x, h => by
    have e : a = x := Option.some.inj h
    subst e
    rfl
  | a :: l, i + 1, x, h => by
    have ih := take_more (l := l) (i := i) (x := x) h
    show a :: l.take (i + 1) = a :: l.take i ++ [x]
    rw [ih]
    rfl
/-- a row at an address -/
abbrev RowAt (K : PySem.W.Frag) (H : Hp) (a : Addr) (b : Bytes) : Prop := SqL K H a (vb b)
/-- rows, one a tracked list -/
def Rows (H : Hp) : List Addr → List Bytes → Prop := Paired fun a b => H a = some (.lst (vb b))
theorem Rows.same {H H' : Hp} {as : List Addr} {bs : List Bytes} (h : Rows H as bs) (e : ∀ a xs, H a = some (.lst xs) → H' a = some (.lst xs)) : Rows H' as bs := by
  unfold Rows at h ⊢
  induction h with
  | nil => exact .nil
  | cons r t ih => exact .cons (e _ _ r) ih
theorem Rows.snoc {H : Hp} {as : List Addr} {bs : List Bytes} {a : Addr} {b : Bytes} (h : Rows H as bs) (e : H a = some (.lst (vb b))) : Rows H (as ++ [a]) (bs ++ [b]) := by
  unfold Rows at h ⊢
  induction h with
  | nil => exact .cons e .nil
  | cons r t ih => exact .cons r ih
theorem Rows.len {H : Hp} {as : List Addr} {bs : List Bytes} (h : Rows H as bs) : as.length = bs.length := Paired.length h
theorem Rows.get {H : Hp} {as : List Addr} {bs : List Bytes} (h : Rows H as bs) : ∀ {i : Nat} {a : Addr}, as[i]? = some a → ∃ b, bs[i]? = some b ∧ H a = some (.lst (vb b)) := fun e => paired_get h e
theorem Rows.get' {H : Hp} {as : List Addr} {bs : List Bytes} (h : Rows H as bs) : ∀ {i : Nat} {b : Bytes}, bs[i]? = some b → ∃ a, as[i]? = some a ∧ H a = some (.lst (vb b)) := by
  intro i b e
  have hl : i < as.length := by rw [h.len]; exact (List.getElem?_eq_some_iff.mp e).1
  obtain ⟨b', e', r⟩ := h.get (List.getElem?_eq_getElem hl)
  rw [e] at e'
  cases e'
  exact ⟨as[i], List.getElem?_eq_getElem hl, r⟩
theorem refs_get {as : List Addr} {i : Nat} {y : V} (h : (as.map V.ref)[i]? = some y) : ∃ a, as[i]? = some a ∧ y = .ref a := by
  rw [List.getElem?_map] at h
  cases e : as[i]? with
  | none => rw [e] at h; cases h
  | some c => rw [e] at h; exact ⟨c, rfl, (Option.some.inj h).symm⟩
theorem refs_at' {as : List Addr} {i : Nat} {a : Addr} (h : as[i]? = some a) : (as.map V.ref)[i]? = some (V.ref a) := by
  rw [List.getElem?_map, h]; rfl
theorem same_upd {H H' : Hp} {p : Addr} {o : HO} (s : Same H H') (hp : H' p = none) : Same H (upd H' p o) := fun b o e => by
  rw [upd_ne (ne_of_none (s b o e) hp)]
  exact s b o e
theorem same_row {K : PySem.W.Frag} {H H' : Hp} {a : Addr} {b : Bytes} (s : Same H H') (h : RowAt K H a b) : RowAt K H' a b := s.seq h

/-! ### a def of the module, by its promise -/
structure DefAt (K : PySem.W.Frag) (mg : Str → Option Value) (x : Str) (st : Stmt) : Prop where
  ex : ∃ f fd, mg x = some (.ref f) ∧ Fun K x x st f fd
structure Fn (P : Program) (w : World) (K : PySem.W.Frag) (mg : Str → Option Value) (base : Heap) (x : Str) (ps : List Str) (k : Nat) (sp : Sp) : Prop where
  ex : ∃ f fd, mg x = some (.ref f) ∧ PySem.W.keepIn K (.ref f) = true ∧ Binds K fd ps [] ∧ FnOk P w K mg base CX0 k f fd ps sp
theorem pe_fn {X : Cx} {x : Str} {ps : List Str} {k : Nat} {sp : Sp} {e : Expr} {es : List Expr} {t : TA} {p pos : Pos} (F : Fn X.prog X.w X.K X.mg X.base x ps k sp) (hr : Room k X.A) (hg : Gl X x)
    (ha : PA X (e :: es) t) (hdb : (x == ("__debug__" : Str)) = false := by decide) (he : starEach (e :: es) X.env = (false, eval e X.env) :: starEach es X.env := by rfl) (hpl : (backTo pos (starEach es X.env)).any (·.1) = false := by rfl) :
    PE X (.Call (.Name x p) (e :: es) [] pos) (tCall sp [] E0 t) := by
  obtain ⟨f, fd, hm, hk, hb, G⟩ := F.ex
  exact pe_call G hr hg hm hk hb .nil pass0 ha hdb he hpl
theorem fn_mk {P : Program} {w : World} {K : PySem.W.Frag} {mg : Str → Option Value} {base : Heap} {x : Str} {st : Stmt} {ps : List Str} {k : Nat} {sp : Sp} (D : DefAt K mg x st)
    (hb : ∀ (kV doc pm : Value) (an : Option Addr) (cdv ct : Value) (us : List Value), us.length = ps.length → bindArgs (PySem.W.fnOf x x (defArgs st) (defBody st) (defScope st) .none kV doc pm an cdv ct) ⟨us, []⟩ = pure (ps.zip us))
    (h : ∀ f fd, Fun K x x st f fd → FnOk P w K mg base CX0 k f fd ps sp) : Fn P w K mg base x ps k sp := by
  obtain ⟨f, fd, hm, F⟩ := D.ex
  exact ⟨f, fd, hm, F.kp, F.binds hb, h f fd F⟩
/-- an int of the module -/
structure IntAt (mg : Str → Option Value) (x : Str) (i : Int) : Prop where
  ex : ∃ t, mg x = some (.int i t)
end Ev

set_option Elab.async false
set_option linter.all false
set_option maxRecDepth 100000
set_option maxHeartbeats 2000000
namespace Ev
open PySem PySem.Spec PyProof.Rows L2
open Sf42 (Bytes)

/-! ### for k, x in enumerate(xs, start=k0) -/
/-- the list at a as it stands at each turn, its items in new pairs, counted from k0 on -/
def ItFrom (K : PySem.W.Frag) (a : Addr) (k0 : Int) : It where
  go := fun i H => ∃ (xs : List V) (x : V), SqL K H a xs ∧ xs[i]? = some x
  yld := fun i H v H' => ∃ T x, v = .ref T ∧ H T = none ∧ H' = L2.upd H T (.tup [.int (k0 + (i : Int)), x]) ∧ ∀ xs, SqL K H a xs → xs[i]? = some x
  stop := fun i H => ∃ xs : List V, SqL K H a xs ∧ xs.length = i
theorem two_mem {b e it : Addr} (h : b ∈ [e, it]) : b = e ∨ b = it := by simpa using h
theorem turn_from {P : Program} {w : World} {K : PySem.W.Frag} {elts : List Expr} {kk : Nat} {tpos : Pos} (a e it : Addr) (k0 : Int) :
    Turn P w K (.Tuple elts kk tpos) (ItFrom K a k0) [e, it] e (fun i h => (∃ old, IsEnum h e it (k0 + (i : Int)) old) ∧ h.IsListIter it a i ∧ e ≠ it) where
  mem := List.mem_cons_self
  obj := by
    rintro i h ⟨⟨old, he⟩, ⟨o, ho, hc, hd⟩, _⟩ b hb
    rcases two_mem hb with rfl | rfl
    · exact ⟨_, he, nofun⟩
    · refine ⟨o, ho, fun v q => ?_⟩
      rw [hd] at q
      cases q
  keep := by
    rintro i h h' ⟨⟨old, he⟩, hi, hne⟩ k
    exact ⟨⟨old, k e List.mem_cons_self _ he⟩, hi.at fun o q => k it (by simp) o q, hne⟩
  item := by
    intro X hP hw hK hc i pins s σ H E I hf st hg
    subst hP hw hK
    obtain ⟨⟨old, he⟩, hit, hne⟩ := st
    obtain ⟨xs, x, hq, hx⟩ := hg
    obtain ⟨its, rv, p, hz⟩ := I.list hq
    obtain ⟨u, hu, ru⟩ := rv.get hx
    have hel : e < s.heap.objs.size := Heap.lt_size he
    have hil : it < s.heap.objs.size := by
      obtain ⟨_, q, _⟩ := hit
      exact Heap.lt_size q
    have hai : a ≠ it := by
      intro z
      obtain ⟨o1, e1, c1, _⟩ := hit
      obtain ⟨o2, _, e2, c2, _⟩ := p
      rw [z, e1] at e2
      cases e2
      rw [c1] at c2
      exact absurd (Value.type.inj c2) (by decide)
    have hea : e ≠ a := by
      intro z
      obtain ⟨o2, _, e2, c2, _⟩ := p
      have he' : s.heap.get? e = _ := he
      rw [z, e2] at he'
      cases he'
      exact absurd (Value.type.inj c2) (by decide)
    have hlt : i < its.toArray.size := by
      rw [List.size_toArray]
      exact (List.getElem?_eq_some_iff.mp hu).1
    refine wpAny_pyNext_enum_itemC (Draws.list (A := X.A.in1) (I.ok.hd hc) it a hai its.toArray) he ⟨hit, p.isList⟩ hlt hne (by simp [hne, hea]) fun y h' tk hy ho hit' hT hsz hk => ?_
    have eu : y = u := by
      have h1 : its.toArray[i]? = some u := by simpa using hu
      exact Option.some.inj (hy.symm.trans h1)
    subst eu
    refine ⟨_, rfl, wpAny_letOwnedTupleGo_enum (s := { s with heap := h', toks := tk + 1 }) ho fun h'' he' sb => ?_⟩
    have hT2 : h''.get? s.heap.objs.size = some { cls := .type "tuple", data := .seq #[.int (k0 + (i : Int)) tk, y] } := (sb.2 _ (Nat.ne_of_gt hel)).trans hT
    have new : ObjOk X.prog X.w (L2.upd H s.heap.objs.size (.tup [.int (k0 + (i : Int)), x])) h'' s.heap.objs.size (.tup [.int (k0 + (i : Int)), x]) :=
      ⟨by show 2 ≤ sizeLine; decide, [.int (k0 + (i : Int)) tk, y], .cons ⟨_, rfl⟩ (.cons ru .nil), ⟨_, hT2, rfl, _, rfl⟩⟩
    have stay : ∀ b ob, b ∉ [e, it] → s.heap.get? b = some ob → h''.get? b = some ob := fun b ob hb q =>
      (sb.2 b (fun z => hb (by simp [z]))).trans (hk b ob (fun z => hb (by simp [z])) (fun z => hb (by simp [z])) q)
    have I1 := I.turnedNew (t' := tk + 1) (ch := [e, it]) stay hf (Nat.le_refl _) new
    refine ⟨.ref s.heap.objs.size, _, I1, rfl, ⟨_, x, rfl, I.hok.fresh (Nat.le_refl _), rfl, fun ys hy2 => ?_⟩, ⟨⟨y, ?_⟩, hit'.1.at fun o q => (sb.2 it (Ne.symm hne)).trans q, hne⟩, fun b hb => ?_⟩
    · rw [I.list_inj hy2 hq]
      exact hx
    · have e1 : k0 + ((i + 1 : Nat) : Int) = k0 + (i : Int) + 1 := by omega
      show IsEnum h'' e it (k0 + ((i + 1 : Nat) : Int)) y
      rw [e1]
      exact he'
    · have hb' : b < s.heap.objs.size := by
        rcases two_mem hb with rfl | rfl
        · exact hel
        · exact hil
      rw [upd_ne (Nat.ne_of_lt hb')]
      exact (hf b hb).1
  done := by
    intro X hP hw hK hc i pins s σ H E I hf st hg
    subst hP hw hK
    obtain ⟨⟨old, he⟩, hit, hne⟩ := st
    obtain ⟨xs, hq, hx⟩ := hg
    obtain ⟨its, rv, p, hz⟩ := I.list hq
    obtain ⟨f0, f1, f2, f3, f4, f5⟩ := hf it (by simp)
    have hai : a ≠ it := by
      intro z
      obtain ⟨o1, e1, c1, _⟩ := hit
      obtain ⟨o2, _, e2, c2, _⟩ := p
      rw [z, e1] at e2
      cases e2
      rw [c1] at c2
      exact absurd (Value.type.inj c2) (by decide)
    have hn : its.toArray.size = i := by rw [List.size_toArray, ← rv.length, hx]
    refine wpAny_pyNext_enum_endD (Draws.list (A := X.A.in1) (I.ok.hd hc) it a hai its.toArray) he ⟨by rw [hn]; exact hit, p.isList⟩ fun h' eb => ⟨rfl, ?_⟩
    exact I.turned (t' := s.toks) (fun b o hb q => eb b o hb q) f0 f1 f3 f4 f5
  self := by
    rintro A i s Q E ⟨⟨old, he⟩, _⟩ h
    exact wpAny_pyIter_enum he h
def iFrom (K : PySem.W.Frag) (ta tk : TA) : TI := fun σ H R => ta σ H fun vs H1 => tk σ H1 fun ks H2 => ∃ a xs k0, vs = [.ref a] ∧ ks = [.int k0] ∧ -(2 ^ 63) ≤ k0 ∧ k0 < 2 ^ 63 ∧ SqL K H2 a xs ∧ R (ItFrom K a k0) H2
theorem pi_from {X : Cx} {e k : Expr} {ta tk : TA} {p pos tpos kpos : Pos} {elts : List Expr} {kk : Nat} (hg : Gl X "enumerate") (hm : X.mg "enumerate" = none) (ha : PA X [e] ta) (hk : PK X [⟨some "start", k, kpos⟩] tk)
    (hs : backTo pos (starEach [e] X.env) = (false, eval e X.env) :: backTo pos (starEach [] X.env) := by rfl)
    (hpl : ((backTo pos (starEach [e] X.env)).any (·.1) || (backToKw pos (keywordEach [⟨some "start", k, kpos⟩] X.env)).any (·.1.isNone)) = false := by rfl) :
    PI X (.Tuple elts kk tpos) (.Call (.Name "enumerate" p) [e] [⟨some "start", k, kpos⟩] pos) (iFrom X.K ta tk) := by
  refine ⟨fun pins s σ H R I h => ?_⟩
  refine wpAny_Call_Name_kw (ld_blt I hg hm boot_enumerate ?_)
  refine PySem.W.callWith_of (P := fun _ => True) hpl (fun h _ => ⟨.machine, .inr (.inl rfl), .of_pure rfl⟩) ?_
  have ha' := ha.run pos pins s σ H _ I h
  rw [hs] at ha' ⊢
  refine evalArgs_kwB rfl (thn ha' fun us s1 ⟨vs, H1, I1, r1, q1⟩ => ?_)
  refine thn (hk.run pos pins s1 σ H1 _ I1 q1) fun ws s2 ⟨zs, H2, I2, r2, q2⟩ => ⟨trivial, ?_⟩
  obtain ⟨a, xs, k0, ev, ek, hk0, hk1, hq, q⟩ := q2
  subst ev ek
  cases r1 with
  | cons r rr =>
    cases rr
    cases r
    cases r2 with
    | cons r' rr' =>
      cases rr'
      obtain ⟨t, rfl⟩ := r'
      obtain ⟨its, rv, p', hz⟩ := I2.list hq
      refine enum_begins_start (begins_list a its.toArray) p'.isList hk0 hk1 fun h' he hit hsz hkp => wpAny_pyIter_enum he ?_
      have I3 : Inv X pins σ H2 { s2 with heap := h' } := I2.kept (t' := s2.toks) hkp
      refine ⟨s2.heap.objs.size + 1, [s2.heap.objs.size + 1, s2.heap.objs.size], _, _, H2, rfl, I3, turn_from a (s2.heap.objs.size + 1) s2.heap.objs.size k0, ⟨⟨.none, ?_⟩, ⟨_, hit, rfl, rfl⟩, Nat.succ_ne_self _⟩, fun b hb => ?_, q⟩
      · have e0 : k0 + ((0 : Nat) : Int) = k0 := by omega
        rw [e0]
        exact he
      · have hle : s2.heap.objs.size ≤ b := by
          rcases two_mem hb with rfl | rfl
          · exact Nat.le_succ _
          · exact Nat.le_refl _
        exact I2.fpOk hle (I2.hok.fresh hle)
/-- the loop over it, by an invariant -/
theorem for_from {K : PySem.W.Frag} {a : Addr} {k0 : Int} {xs : List V} {g : TG} {tb : TS} {D : Ends} {σ : L2.St} {H : Hp} (Pv : Nat → L2.St → Hp → Prop) (h0 : Pv 0 σ H) (hl : ∀ i σ H, i ≤ xs.length → Pv i σ H → SqL K H a xs)
    (hs : ∀ (i : Nat) x σ H T, xs[i]? = some x → Pv i σ H → H T = none → g (.ref T) σ (L2.upd H T (.tup [.int (k0 + (i : Int)), x])) fun σ2 H2 => tb { D with nx := Pv (i + 1), ct := Pv (i + 1), bk := D.nx } σ2 H2)
    (hd : ∀ σ H, Pv xs.length σ H → D.nx σ H) :
    ∃ W : Nat → Nat → L2.St → Hp → Prop, (∃ m, W 0 m σ H) ∧ ∀ i m σ H, W i m σ H →
      ((ItFrom K a k0).stop i H ∧ D.nx σ H) ∨ ((ItFrom K a k0).go i H ∧ ∃ N : L2.St → Hp → Prop, (∀ σ' H', N σ' H' → ∃ m', m' < m ∧ W (i + 1) m' σ' H') ∧ ∀ x H', (ItFrom K a k0).yld i H x H' → g x σ H' fun σ2 H2 => tb { D with nx := N, ct := N, bk := D.nx } σ2 H2) := by
  refine ⟨fun i m σ H => m + i = xs.length ∧ Pv i σ H, ⟨xs.length, Nat.add_zero _, h0⟩, ?_⟩
  rintro i m σ H ⟨hm, p⟩
  have q := hl i σ H (by omega) p
  by_cases hlt : i < xs.length
  · refine .inr ⟨⟨xs, xs[i], q, List.getElem?_eq_getElem hlt⟩, Pv (i + 1), fun σ' H' p' => ⟨m - 1, by omega, by omega, p'⟩, ?_⟩
    rintro x H' ⟨T, y, rfl, hT, rfl, hy⟩
    exact hs i y σ H T (hy xs q) p hT
  · have e : xs.length = i := by omega
    refine .inl ⟨⟨xs, q, e⟩, hd σ H ?_⟩
    rw [e]
    exact p

/-! ### for k, v in d.items(), d a dict whose keys are tuples -/
/-- the pairs of the locked dict at d, each a new tuple of the key's own tuple and the value -/
def ItPairs (d : Addr) (o : Obj) (kvs : List (List Key × V)) : It where
  go := fun i H => H d = some (.frz o (.dT kvs)) ∧ i < kvs.length
  yld := fun i H x H' => ∃ (T q : Addr) (k : List Key) (v : V), kvs[i]? = some (k, v) ∧ x = .ref T ∧ H T = none ∧ H q = some (.tup (k.map kV)) ∧ H' = L2.upd H T (.tup [.ref q, v])
  stop := fun i H => H d = some (.frz o (.dT kvs)) ∧ kvs.length = i
/-- what the locked dict is in the machine -/
theorem locked_at {X : Cx} {pins : List (Addr × Obj)} {σ : L2.St} {H : Hp} {s : Shared} {d : Addr} {o : Obj} {kvs : List (List Key × V)} (I : Inv X pins σ H s) (h : H d = some (.frz o (.dT kvs))) :
    (d == sysModules) = false ∧ ∃ (es : Array DictEntry) (ep : Nat), o.data = .dict es ep ∧ DT.Raw s.heap d es ep ∧ es.size = kvs.length ∧
      ∀ (i : Nat) (k : List Key) (v : V), kvs[i]? = some (k, v) → ∃ (en : DictEntry) (q : Addr), es[i]? = some en ∧ en.key = .ref q ∧ H q = some (.tup (k.map kV)) ∧ RelV v en.val := by
  obtain ⟨hd, hz, hs, xs, pr, o', es, ep, ho, hx, hdt, he, _⟩ := I.hok d _ h
  have eo : o' = o := Option.some.inj (ho.symm.trans hd)
  subst eo
  refine ⟨hs, es, ep, hdt, ⟨o', hd, hx, hdt⟩, ?_, fun i k v e => ?_⟩
  · exact (size_of_entries he).trans (Paired.length pr).symm
  · obtain ⟨b, hb, e1, e2, e3⟩ := paired_get pr e
    have q := entry_at he i
    rw [hb] at q
    exact ⟨_, b.2.1, q, rfl, e2, e3⟩
theorem turn_pairs {P : Program} {w : World} {K : PySem.W.Frag} {d : Addr} {o : Obj} {es : Array DictEntry} {ep : Nat} {kvs : List (List Key × V)} {elts : List Expr} {kk : Nat} {tpos : Pos} (it : Addr) (hod : o.data = .dict es ep) :
    Turn P w K (.Tuple elts kk tpos) (ItPairs d o kvs) [it] it (fun i h => ∃ ok ov, IsItemIter h it d i es.size ep ok ov) where
  mem := List.mem_singleton.mpr rfl
  obj := by
    rintro i h ⟨ok, ov, e⟩ b hb
    rw [List.mem_singleton.mp hb]
    exact ⟨_, e, nofun⟩
  keep := by
    rintro i h h' ⟨ok, ov, e⟩ k
    exact ⟨ok, ov, k it (List.mem_singleton.mpr rfl) _ e⟩
  item := by
    intro X hP hw hK hc i pins s σ H E I hf st hg
    subst hP hw hK
    obtain ⟨hd, hi⟩ := hg
    obtain ⟨hs, es', ep', hdt, raw, hsz, ent⟩ := locked_at I hd
    obtain ⟨rfl, rfl⟩ := dict_ep hod hdt
    have hkv : kvs[i]? = some (kvs[i].1, kvs[i].2) := List.getElem?_eq_getElem hi
    obtain ⟨en, q, hen, hkey, hq, hval⟩ := ent i _ _ hkv
    obtain ⟨hil, hen2⟩ := Array.getElem?_eq_some_iff.mp hen
    obtain ⟨ok, ov, he⟩ := st
    have hlt : it < s.heap.objs.size := Heap.lt_size he
    refine DT.nextI he raw hil fun h' ho hT hz hk => ?_
    rw [hen2] at ho hT
    refine ⟨_, rfl, wpAny_letOwnedTupleGo_items (s := { s with heap := h' }) ho fun h'' he' sb => ?_⟩
    have hT2 : h''.get? s.heap.objs.size = some { cls := .type "tuple", data := .seq #[en.key, en.val] } := (sb.2 _ (Nat.ne_of_gt hlt)).trans hT
    have new : ObjOk X.prog X.w (L2.upd H s.heap.objs.size (.tup [.ref q, kvs[i].2])) h'' s.heap.objs.size (.tup [.ref q, kvs[i].2]) :=
      ⟨by show 2 ≤ sizeLine; decide, [en.key, en.val], .cons hkey (.cons hval .nil), ⟨_, hT2, rfl, _, rfl⟩⟩
    have stay : ∀ b ob, b ∉ [it] → s.heap.get? b = some ob → h''.get? b = some ob := fun b ob hb e =>
      have hb' : b ≠ it := fun z => hb (List.mem_singleton.mpr z)
      (sb.2 b hb').trans (hk b ob hb' e)
    have I1 := I.turnedNew (t' := s.toks) (ch := [it]) stay hf (Nat.le_refl _) new
    refine ⟨.ref s.heap.objs.size, _, I1, rfl, ⟨_, q, _, _, hkv, rfl, I.hok.fresh (Nat.le_refl _), hq, rfl⟩, ⟨_, _, he'⟩, fun b hb => ?_⟩
    have eb := List.mem_singleton.mp hb
    rw [eb, upd_ne (Nat.ne_of_lt hlt)]
    exact (hf it (List.mem_singleton.mpr rfl)).1
  done := by
    intro X hP hw hK hc i pins s σ H E I hf st hg
    subst hP hw hK
    obtain ⟨hd, hi⟩ := hg
    obtain ⟨f0, f1, f2, f3, f4, f5⟩ := hf it (List.mem_singleton.mpr rfl)
    obtain ⟨hs, es', ep', hdt, raw, hsz, ent⟩ := locked_at I hd
    obtain ⟨rfl, rfl⟩ := dict_ep hod hdt
    obtain ⟨ok, ov, he⟩ := st
    refine DT.endI (I.ok.hd hc) he raw (by omega) fun h' eb => ⟨rfl, ?_⟩
    exact I.turned (t' := s.toks) (fun b ob hb e => eb b ob hb e) f0 f1 f3 f4 f5
  self := by
    rintro A i s Q E ⟨ok, ov, e⟩ h
    exact PySem.W.kcp_self e h
def iPairs (td : TE) : TI := fun σ H R => td σ H fun x H1 => ∃ d o kvs, x = .ref d ∧ H1 d = some (.frz o (.dT kvs)) ∧ R (ItPairs d o kvs) H1
theorem pi_pairs {X : Cx} {e : Expr} {td : TE} {apos cpos : Pos} {elts : List Expr} {kk : Nat} {tpos : Pos} (he : PE X e td) (hbase : attributeBase e "items" X.env (eval e X.env) = eval e X.env := by rfl) (hline : (apos.endLine == cpos.line) = true := by rfl) :
    PI X (.Tuple elts kk tpos) (.Call (.Attribute e "items" apos) [] [] cpos) (iPairs td) := by
  refine ⟨fun pins s σ H R I h => ?_⟩
  refine wpAny_Call_method (T := "dict") (id := "dict.items") hbase rfl hline PySem.F.plainAttrs_dict PySem.F.slot_dict_items PySem.F.type_dict_items
    (thn (he.run pins s σ H _ I h) fun u s1 ⟨x, H1, I1, rx, d, o, kvs, ex, hd, q⟩ => ?_)
  subst ex
  obtain rfl : u = Value.ref d := rx
  obtain ⟨hs, es, ep, hdt, raw, hsz, ent⟩ := locked_at I1 hd
  obtain ⟨od, ho, hx, _⟩ := id raw
  refine ⟨raw.typeIs, fun a z => by cases z; exact ⟨od, ho, hx.2.1⟩, ?_⟩
  have I2 : Inv X pins σ H1 { s1 with heap := s1.heap.push { cls := .type "dict_items", data := .fields #[.ref d] } } := I1.kept (t' := s1.toks) fun b ob z => Heap.get?_push_of_some _ z
  have fin : wpAny (model X.prog X.w) X.A (pyIter (.ref s1.heap.objs.size)) (PIE X pins σ (.Tuple elts kk tpos) R) X.xe { s1 with heap := s1.heap.push { cls := .type "dict_items", data := .fields #[.ref d] } } := by
    refine DT.iterI (d := d) ⟨_, Heap.get?_push_size _ rfl, rfl, rfl⟩ (raw.push _) ?_
    exact pi_one (tk := s1.toks) I2 _ (turn_pairs _ hdt) ⟨.none, .none, Heap.get?_push_size _ rfl⟩ q
  show wpAny _ _ (callWith cpos (.builtin "dict.items") [.ref d] [] []) _ X.xe s1
  refine method_meetsIn PySem.F.slot_dict_items PySem.F.entry_dict_items rfl (PySem.evalArgs_none ?_)
  exact ⟨rfl, raw.typeIs, PySem.F.args_dict_items_1 _, _, DT.meetsItems (es := es) (ep := ep) hs, raw, fin⟩
end Ev

namespace Ev
open Sf42
set_option autoImplicit false

/-! ### eraseDups -/
section
variable {α : Type} [BEq α] [LawfulBEq α]
theorem eraseDups_snoc (l : List α) (k : α) : (l ++ [k]).eraseDups = if l.contains k = true then l.eraseDups else l.eraseDups ++ [k] := by
  rw [List.eraseDups_append]
  unfold List.removeAll
  cases h : l.contains k with
  | true =>
    have : [k].filter (fun x => !l.elem x) = [] := by
      have h' : k ∈ l := by simpa using h
      simp [List.filter_cons, h']
    rw [this]; simp
  | false =>
    have : [k].filter (fun x => !l.elem x) = [k] := by
      have h' : k ∉ l := by simpa using h
      simp [List.filter_cons, h']
    rw [this]
    simp [List.eraseDups_cons]
theorem nodup_eraseDups_aux : ∀ (n : Nat) (l : List α), l.length ≤ n → l.eraseDups.Nodup
  | _, [], _ => by simp
  | 0, a :: l, h => absurd h (by simp)
  | n + 1, a :: l, h => by
    rw [List.eraseDups_cons]
    refine List.nodup_cons.mpr ⟨?_, nodup_eraseDups_aux n _ ?_⟩
    · rw [List.mem_eraseDups]
      simp
    · have := List.length_filter_le (fun b => !b == a) l
      simp only [List.length_cons] at h
      omega
theorem nodup_eraseDups (l : List α) : l.eraseDups.Nodup := nodup_eraseDups_aux l.length l (Nat.le_refl _)
theorem len_of_mem {l l' : List α} (hl : l.Nodup) (hl' : l'.Nodup) (h : ∀ a, a ∈ l ↔ a ∈ l') : l.length = l'.length :=
  ((List.perm_ext_iff_of_nodup hl hl').mpr h).length_eq
end

/-! ### pairs: an amount, its kind -/
abbrev Pairs := List (Int × Bytes)
def kinds (l : Pairs) : List Bytes := l.map fun p => p.2
def size (l : Pairs) (k : Bytes) : Nat := ((l.filter fun p => p.2 == k).map fun p => p.1.natAbs).sum
structure Fair (l : Pairs) : Prop where
  len : l.length ≤ 4096
  kin : (kinds l).eraseDups.length ≤ 16
  siz : ∀ k ∈ kinds l, size l k < 10 ^ 18
theorem kinds_app (l r : Pairs) : kinds (l ++ r) = kinds l ++ kinds r := by simp [kinds]
theorem size_app (l r : Pairs) (k : Bytes) : size (l ++ r) k = size l k + size r k := by simp [size]
theorem size_one (z : Int) (k j : Bytes) : size [(z, k)] j = if k = j then z.natAbs else 0 := by
  by_cases h : k = j
  · subst h; simp [size]
  · simp [size, h]
theorem size_none {l : Pairs} {k : Bytes} (h : k ∉ kinds l) : size l k = 0 := by
  have : (l.filter fun p => p.2 == k) = [] := by
    rw [List.filter_eq_nil_iff]
    intro p hp e
    exact h (List.mem_map.mpr ⟨p, hp, by simpa using e⟩)
  simp [size, this]
theorem kinds_snoc_len (l : Pairs) (z : Int) (k : Bytes) : (kinds (l ++ [(z, k)])).eraseDups.length = if k ∈ kinds l then (kinds l).eraseDups.length else (kinds l).eraseDups.length + 1 := by
  rw [kinds_app]
  show (kinds l ++ [k]).eraseDups.length = _
  rw [eraseDups_snoc]
  by_cases h : k ∈ kinds l
  · have : (kinds l).contains k = true := by simpa using h
    rw [if_pos this, if_pos h]
  · have : ¬ (kinds l).contains k = true := by simpa using h
    rw [if_neg this, if_neg h]
    simp
theorem Fair.snoc {l : Pairs} (h : Fair l) {z : Int} {k : Bytes} (h1 : l.length + 1 ≤ 4096) (h2 : (kinds (l ++ [(z, k)])).eraseDups.length ≤ 16) (h3 : size l k + z.natAbs < 10 ^ 18) : Fair (l ++ [(z, k)]) := by
  refine ⟨by simpa using h1, h2, fun j hj => ?_⟩
  rw [size_app, size_one]
  by_cases e : k = j
  · subst e
    rw [if_pos rfl]
    exact h3
  · rw [if_neg e, Nat.add_zero]
    refine h.siz j ?_
    rw [kinds_app] at hj
    rcases List.mem_append.mp hj with hj | hj
    · exact hj
    · exact absurd (List.mem_singleton.mp hj).symm e
theorem Fair.of_snoc {l : Pairs} {z : Int} {k : Bytes} (h : Fair (l ++ [(z, k)])) : Fair l ∧ l.length + 1 ≤ 4096 ∧ size l k + z.natAbs < 10 ^ 18 := by
  have hk : k ∈ kinds (l ++ [(z, k)]) := by rw [kinds_app]; exact List.mem_append_right _ (List.mem_singleton.mpr rfl)
  refine ⟨⟨?_, ?_, fun j hj => ?_⟩, by simpa using h.len, ?_⟩
  · have := h.len; simp at this; omega
  · have := h.kin
    rw [kinds_snoc_len] at this
    split at this <;> omega
  · have := h.siz j (by rw [kinds_app]; exact List.mem_append_left _ hj)
    rw [size_app] at this
    omega
  · have := h.siz k hk
    rw [size_app, size_one, if_pos rfl] at this
    exact this
theorem Fair.of_app {l : Pairs} : ∀ {r : Pairs}, Fair (l ++ r) → Fair l := by
  intro r
  induction r generalizing l with
  | nil => intro h; simpa using h
  | cons p r ih =>
    intro h
    have h' : Fair ((l ++ [p]) ++ r) := by simpa using h
    exact (ih h').of_snoc.1
theorem size_perm {l l' : Pairs} (h : l.Perm l') (k : Bytes) : size l k = size l' k := ((h.filter _).map _).sum_nat
theorem kinds_mem_perm {l l' : Pairs} (h : l.Perm l') (k : Bytes) : k ∈ kinds l ↔ k ∈ kinds l' := (h.map _).mem_iff
theorem kinds_len_perm {l l' : Pairs} (h : l.Perm l') : (kinds l).eraseDups.length = (kinds l').eraseDups.length :=
  len_of_mem (nodup_eraseDups _) (nodup_eraseDups _) fun a => by rw [List.mem_eraseDups, List.mem_eraseDups]; exact kinds_mem_perm h a
theorem Fair.perm {l l' : Pairs} (h : l.Perm l') (f : Fair l) : Fair l' :=
  ⟨by rw [← h.length_eq]; exact f.len, by rw [← kinds_len_perm h]; exact f.kin, fun k hk => by rw [← size_perm h]; exact f.siz k ((kinds_mem_perm h k).mpr hk)⟩

/-! ### tables -/
abbrev Tab := List (Bytes × Int)
def tput (t : Tab) (k : Bytes) (v : Int) : Tab := if (t.any fun q => decide (q.1 = k)) = true then t.map (fun q => if q.1 = k then (q.1, v) else q) else t ++ [(k, v)]
def tget (t : Tab) (k : Bytes) : Option Int := (t.find? fun q => decide (q.1 = k)).map (·.2)
theorem tany (t : Tab) (k : Bytes) : (t.any fun q => decide (q.1 = k)) = true ↔ k ∈ t.map (·.1) := by
  rw [List.any_eq_true, List.mem_map]
  constructor
  · rintro ⟨q, hq, e⟩; exact ⟨q, hq, of_decide_eq_true e⟩
  · rintro ⟨q, hq, e⟩; exact ⟨q, hq, decide_eq_true e⟩
theorem tput_keys (t : Tab) (k : Bytes) (v : Int) : (tput t k v).map (·.1) = if k ∈ t.map (·.1) then t.map (·.1) else t.map (·.1) ++ [k] := by
  unfold tput
  by_cases h : k ∈ t.map (·.1)
  · rw [if_pos ((tany t k).mpr h), if_pos h, List.map_map]
    congr 1
    funext q
    simp only [Function.comp]
    split <;> rfl
  · rw [if_neg (fun z => h ((tany t k).mp z)), if_neg h]
    simp
theorem tput_mem {t : Tab} {k : Bytes} {v : Int} {q : Bytes × Int} (h : q ∈ tput t k v) : q = (k, v) ∨ (q ∈ t ∧ q.1 ≠ k) := by
  unfold tput at h
  split at h
  · obtain ⟨r, hr, e⟩ := List.mem_map.mp h
    by_cases hk : r.1 = k
    · rw [if_pos hk] at e
      left
      rw [← e, hk]
    · rw [if_neg hk] at e
      subst e
      exact .inr ⟨hr, hk⟩
  · next hn =>
    rcases List.mem_append.mp h with h | h
    · refine .inr ⟨h, fun z => hn ((tany t k).mpr ?_)⟩
      rw [← z]
      exact List.mem_map.mpr ⟨q, h, rfl⟩
    · exact .inl (List.mem_singleton.mp h)
theorem tget_some {t : Tab} {k : Bytes} {v : Int} (h : tget t k = some v) : (k, v) ∈ t := by
  unfold tget at h
  cases e : t.find? fun q => decide (q.1 = k) with
  | none => rw [e] at h; cases h
  | some q =>
    rw [e] at h
    have h1 := List.find?_some e
    have h2 := List.mem_of_find?_eq_some e
    have e1 : q.1 = k := of_decide_eq_true h1
    have e2 : q.2 = v := Option.some.inj h
    have : q = (k, v) := by rw [← e1, ← e2]
    rw [← this]
    exact h2
theorem tget_none {t : Tab} {k : Bytes} (h : tget t k = none) : k ∉ t.map (·.1) := by
  unfold tget at h
  cases e : t.find? fun q => decide (q.1 = k) with
  | some q => rw [e] at h; cases h
  | none =>
    intro hk
    obtain ⟨q, hq, e1⟩ := List.mem_map.mp hk
    have := List.find?_eq_none.mp e q hq
    exact this (decide_eq_true e1)
structure Sizes (l : Pairs) (t : Tab) : Prop where
  nd : (t.map (·.1)).Nodup
  has : ∀ k, k ∈ t.map (·.1) ↔ k ∈ kinds l
  val : ∀ q ∈ t, q.2 = (size l q.1 : Int)
theorem Sizes.nil : Sizes [] [] := ⟨by simp, by simp [kinds], by simp⟩
theorem Sizes.get {l : Pairs} {t : Tab} (h : Sizes l t) (k : Bytes) : (tget t k).getD 0 = (size l k : Int) := by
  cases e : tget t k with
  | some v => exact h.val _ (tget_some e)
  | none =>
    rw [size_none fun z => tget_none e ((h.has k).mpr z)]
    rfl
theorem Sizes.len {l : Pairs} {t : Tab} (h : Sizes l t) : t.length = (kinds l).eraseDups.length := by
  have := len_of_mem h.nd (nodup_eraseDups (kinds l)) fun a => by rw [List.mem_eraseDups]; exact h.has a
  simpa using this
theorem Sizes.put {l : Pairs} {t : Tab} (h : Sizes l t) (z : Int) (k : Bytes) : Sizes (l ++ [(z, k)]) (tput t k ((size l k : Int) + (z.natAbs : Int))) := by
  refine ⟨?_, fun j => ?_, fun q hq => ?_⟩
  · rw [tput_keys]
    split
    · exact h.nd
    · next hn =>
      rw [List.nodup_append]
      exact ⟨h.nd, by simp, fun a ha b hb e => by rw [List.mem_singleton.mp hb] at e; subst e; exact hn ha⟩
  · rw [tput_keys, kinds_app]
    have hk : kinds [(z, k)] = [k] := rfl
    rw [hk]
    split
    · next hin =>
      rw [h.has, List.mem_append]
      constructor
      · exact .inl
      · rintro (e | e)
        · exact e
        · rw [List.mem_singleton.mp e]; exact (h.has k).mp hin
    · rw [List.mem_append, List.mem_append, h.has]
  · rw [size_app, size_one]
    rcases tput_mem hq with rfl | ⟨hq, hne⟩
    · rw [if_pos rfl]
      show (size l k : Int) + (z.natAbs : Int) = ((size l k + z.natAbs : Nat) : Int)
      omega
    · rw [if_neg fun e => hne e.symm, h.val q hq]; omega
theorem Sizes.perm {l l' : Pairs} {t : Tab} (p : l.Perm l') (h : Sizes l t) : Sizes l' t :=
  ⟨h.nd, fun k => (h.has k).trans (kinds_mem_perm p k), fun q hq => by rw [h.val q hq, size_perm p]⟩

/-! ### sums of an entry -/
def sumsT (l : Pairs) : Tab := (kindsOf l).map fun k => (k, sumOf l k)
theorem kindsOf_eq (l : Pairs) : kindsOf l = (kinds l).eraseDups := rfl
theorem sumOf_snoc (l : Pairs) (z : Int) (k j : Bytes) : sumOf (l ++ [(z, k)]) j = sumOf l j + if k = j then z else 0 := by
  unfold sumOf
  rw [List.filter_append, List.map_append, List.sum_append]
  by_cases h : k = j
  · subst h; simp
  · simp [h]
theorem sumOf_none {l : Pairs} {k : Bytes} (h : k ∉ kinds l) : sumOf l k = 0 := by
  have : (l.filter fun p => p.2 == k) = [] := by
    rw [List.filter_eq_nil_iff]
    intro p hp e
    exact h (List.mem_map.mpr ⟨p, hp, by simpa using e⟩)
  simp [sumOf, this]
theorem sumsT_keys (l : Pairs) : (sumsT l).map (·.1) = (kinds l).eraseDups := by
  unfold sumsT
  rw [List.map_map, kindsOf_eq]
  simp [Function.comp_def]
theorem sumsT_get (l : Pairs) (k : Bytes) : (tget (sumsT l) k).getD 0 = sumOf l k := by
  cases e : tget (sumsT l) k with
  | some v =>
    have := tget_some e
    unfold sumsT at this
    obtain ⟨j, hj, e1⟩ := List.mem_map.mp this
    injection e1 with e1 e2
    subst e1
    exact e2.symm
  | none =>
    have := tget_none e
    rw [sumsT_keys, List.mem_eraseDups] at this
    rw [sumOf_none this]
    rfl
theorem sumsT_put (l : Pairs) (z : Int) (k : Bytes) : tput (sumsT l) k (sumOf l k + z) = sumsT (l ++ [(z, k)]) := by
  unfold tput
  have hk : kindsOf (l ++ [(z, k)]) = if (kinds l).contains k = true then (kinds l).eraseDups else (kinds l).eraseDups ++ [k] := by
    rw [kindsOf_eq, kinds_app]
    exact eraseDups_snoc (kinds l) k
  by_cases h : k ∈ kinds l
  · have h1 : k ∈ (sumsT l).map (·.1) := by rw [sumsT_keys, List.mem_eraseDups]; exact h
    rw [if_pos ((tany _ _).mpr h1)]
    have h2 : (kinds l).contains k = true := by simpa using h
    rw [if_pos h2] at hk
    unfold sumsT
    rw [hk, kindsOf_eq, List.map_map]
    refine List.map_congr_left fun j _ => ?_
    simp only [Function.comp]
    rw [sumOf_snoc]
    by_cases e : j = k
    · subst e; simp
    · rw [if_neg e, if_neg (fun z => e z.symm)]; simp
  · have h1 : k ∉ (sumsT l).map (·.1) := by rw [sumsT_keys, List.mem_eraseDups]; exact h
    rw [if_neg fun z => h1 ((tany _ _).mp z)]
    have h2 : ¬ (kinds l).contains k = true := by simpa using h
    rw [if_neg h2] at hk
    unfold sumsT
    rw [hk, kindsOf_eq, List.map_append]
    congr 1
    · refine List.map_congr_left fun j hj => ?_
      rw [sumOf_snoc]
      have hne : k ≠ j := fun e => h (by subst e; exact List.mem_eraseDups.mp hj)
      rw [if_neg hne]; simp
    · simp [sumOf_snoc]
def wantT (t : Tab) : Pairs := (t.filter fun q => q.2 != 0).map fun q => (-q.2, q.1)
theorem wanting_eq (e : Entry) : e.wanting = wantT (sumsT e.amounts) := by
  unfold Entry.wanting wantT sumsT
  rw [List.filter_map, List.filter_map, List.map_map]
  congr 1
  congr 1
  funext k
  simp only [Function.comp]
  cases h : sumOf e.amounts k != 0 with
  | true =>
    have : sumOf e.amounts k ≠ 0 := by simpa using h
    simpa using this
  | false =>
    have : sumOf e.amounts k = 0 := by simpa using h
    simpa using this
theorem wantT_kinds (e : Entry) (k : Bytes) (h : k ∈ kinds e.wanting) : k ∈ kinds e.amounts := by
  rw [wanting_eq] at h
  unfold kinds wantT at h
  rw [List.map_map] at h
  obtain ⟨q, hq, rfl⟩ := List.mem_map.mp h
  have hq := (List.mem_filter.mp hq).1
  have : q.1 ∈ (sumsT e.amounts).map (·.1) := List.mem_map.mpr ⟨q, hq, rfl⟩
  rw [sumsT_keys, List.mem_eraseDups] at this
  exact this
end Ev

namespace Ev
open Sf42
set_option autoImplicit false

/-! ### what is read -/
def pairs (x : Read) : Pairs := x.moves.map fun p => p.2
theorem sizes_eq (l : List (Account × Int × Bytes)) (k : Bytes) : sizes l k = size (l.map fun p => p.2) k := by
  unfold sizes size
  rw [List.filter_map, List.map_map]
  rfl
theorem fair_iff (x : Read) : x.fair = true ↔ Fair (pairs x) ∧ x.accounts.length ≤ 256 := by
  unfold Read.fair
  have hk : (x.moves.map fun p => p.2.2) = kinds (pairs x) := by unfold kinds pairs; rw [List.map_map]; rfl
  simp only [Bool.and_eq_true, decide_eq_true_eq, List.all_eq_true, hk, sizes_eq]
  constructor
  · rintro ⟨h1, h2, h3, h4⟩
    exact ⟨⟨by unfold pairs; rw [List.length_map]; exact h1, h3, fun k hk => h4 k (List.mem_eraseDups.mpr hk)⟩, h2⟩
  · rintro ⟨⟨h1, h2, h3⟩, h4⟩
    exact ⟨by unfold pairs at h1; rw [List.length_map] at h1; exact h1, h4, h2, fun k hk => h3 k (List.mem_eraseDups.mp hk)⟩
def put (e : Entry) (m : Move) : Entry := { e with moves := e.moves ++ [m] }
def add (x : Read) (e : Entry) (m : Move) : Read := { x with now := some (put e m) }
/-- an entry's amounts beside their accounts -/
def stands (e : Entry) : List (Account × Int × Bytes) := e.moves.filterMap fun m => m.amount.map fun p => (m.account, p.1, p.2)
theorem moves_some {x : Read} {e : Entry} (h : x.now = some e) : x.moves = amountsOf x.closed ++ stands e := by
  unfold Read.moves stands
  rw [h]
  simp
theorem moves_none {x : Read} (h : x.now = none) : x.moves = amountsOf x.closed := by
  unfold Read.moves
  rw [h]
  simp
theorem stands_pairs (e : Entry) : ((stands e).map fun p => p.2) = e.amounts := by
  unfold stands Entry.amounts
  rw [List.map_filterMap]
  congr 1
  funext m
  cases m.amount <;> rfl
theorem stands_open (e : Entry) (a : Account) : stands (put e ⟨a, none⟩) = stands e := by simp [stands, put]
theorem stands_some (e : Entry) (a : Account) (z : Int) (k : Bytes) : stands (put e ⟨a, some (z, k)⟩) = stands e ++ [(a, z, k)] := by simp [stands, put]
theorem amounts_open (e : Entry) (a : Account) : (put e ⟨a, none⟩).amounts = e.amounts := by simp [Entry.amounts, put]
theorem amounts_some (e : Entry) (a : Account) (z : Int) (k : Bytes) : (put e ⟨a, some (z, k)⟩).amounts = e.amounts ++ [(z, k)] := by simp [Entry.amounts, put]
theorem open_open (e : Entry) (a : Account) : (put e ⟨a, none⟩).open_ = e.open_ + 1 := by simp [Entry.open_, put]
theorem open_some (e : Entry) (a : Account) (z : Int) (k : Bytes) : (put e ⟨a, some (z, k)⟩).open_ = e.open_ := by simp [Entry.open_, put]
theorem put_len (e : Entry) (m : Move) : (put e m).moves.length = e.moves.length + 1 := by simp [put]
theorem accounts_add {x : Read} {e : Entry} (h : x.now = some e) (m : Move) : (add x e m).accounts = if x.accounts.contains m.account = true then x.accounts else x.accounts ++ [m.account] := by
  unfold Read.accounts
  have e1 : ((add x e m).all.flatMap fun e => e.moves.map fun m => m.account) = (x.all.flatMap fun e => e.moves.map fun m => m.account) ++ [m.account] := by
    unfold Read.all add put
    rw [h]
    simp
  rw [e1, eraseDups_snoc]
  have : (x.all.flatMap fun e => e.moves.map fun m => m.account).eraseDups.contains m.account = (x.all.flatMap fun e => e.moves.map fun m => m.account).contains m.account := by
    rw [Bool.eq_iff_iff, List.contains_iff_mem, List.contains_iff_mem, List.mem_eraseDups]
  rw [this]
theorem pairs_open {x : Read} {e : Entry} (h : x.now = some e) (a : Account) : pairs (add x e ⟨a, none⟩) = pairs x := by
  unfold pairs
  rw [moves_some h, moves_some (x := add x e ⟨a, none⟩) (e := put e ⟨a, none⟩) rfl, stands_open]
  rfl
theorem pairs_some {x : Read} {e : Entry} (h : x.now = some e) (a : Account) (z : Int) (k : Bytes) : pairs (add x e ⟨a, some (z, k)⟩) = pairs x ++ [(z, k)] := by
  unfold pairs
  rw [moves_some h, moves_some (x := add x e ⟨a, some (z, k)⟩) (e := put e ⟨a, some (z, k)⟩) rfl, stands_some]
  show List.map _ (amountsOf x.closed ++ (stands e ++ [(a, z, k)])) = _
  simp
/-! ### an entry that ends -/
def closed (x : Read) (e : Entry) : Read := ⟨x.closed ++ [e], none⟩
theorem close_some {x : Read} {e : Entry} (h : x.now = some e) : x.close = if e.even = true then (if (closed x e).fair = true then some (closed x e) else none) else none := by
  unfold Read.close
  rw [h]
  rfl
theorem close_none {x : Read} (h : x.now = none) : x.close = some x := by
  unfold Read.close
  rw [h]
theorem accounts_closed {x : Read} {e : Entry} (h : x.now = some e) : (closed x e).accounts = x.accounts := by
  unfold Read.accounts Read.all closed
  rw [h]
  simp
theorem moves_closed (x : Read) (e : Entry) : (closed x e).moves = amountsOf x.closed ++ e.done := by
  rw [moves_none rfl]
  simp [amountsOf, closed]
/-- what is done beside what stands: what is wanting, once for each movement without an amount -/
theorem done_perm_aux (w : Pairs) : ∀ l : List Move,
    ((l.flatMap fun m => match m.amount with | some p => [(m.account, p.1, p.2)] | none => w.map fun p => (m.account, p.1, p.2)).map fun p => p.2).Perm
      ((l.filterMap fun m => m.amount) ++ (List.replicate (l.filter fun m => m.amount.isNone).length w).flatten)
  | [] => by simp
  | m :: l => by
    have ih := done_perm_aux w l
    cases hm : m.amount with
    | some p =>
      simp only [List.flatMap_cons, hm, List.map_append, List.filterMap_cons, List.filter_cons, Option.isNone_some, Bool.false_eq_true, if_false]
      exact ih.cons p
    | none =>
      simp only [List.flatMap_cons, hm, List.map_append, List.filterMap_cons, List.filter_cons, Option.isNone_none, if_true, List.length_cons, List.replicate_succ, List.flatten_cons, List.map_map]
      have e : (w.map ((fun p : Account × Int × Bytes => p.2) ∘ fun p : Int × Bytes => (m.account, p.1, p.2))) = w := by
        have : ((fun p : Account × Int × Bytes => p.2) ∘ fun p : Int × Bytes => (m.account, p.1, p.2)) = id := by funext p; rfl
        rw [this, List.map_id]
      rw [e]
      refine (ih.append_left w).trans ?_
      rw [← List.append_assoc, ← List.append_assoc]
      exact (List.perm_append_comm).append_right _
theorem done_perm (e : Entry) : (e.done.map fun p => p.2).Perm (e.amounts ++ (List.replicate e.open_ e.wanting).flatten) := done_perm_aux e.wanting e.moves
theorem pairs_closed {x : Read} {e : Entry} (h : x.now = some e) : (pairs (closed x e)).Perm (pairs x ++ (List.replicate e.open_ e.wanting).flatten) := by
  unfold pairs
  rw [moves_closed, moves_some h, List.map_append, List.map_append, stands_pairs, List.append_assoc]
  exact (done_perm e).append_left _
theorem pairs_closed0 {x : Read} {e : Entry} (h : x.now = some e) (h0 : e.open_ = 0) : (pairs (closed x e)).Perm (pairs x) := by
  have := pairs_closed h
  rw [h0] at this
  simpa using this
theorem pairs_closed1 {x : Read} {e : Entry} (h : x.now = some e) (h0 : e.open_ = 1) : (pairs (closed x e)).Perm (pairs x ++ e.wanting) := by
  have := pairs_closed h
  rw [h0] at this
  simpa using this
/-! ### an entry that begins -/
def begun (y : Read) (day : Bytes) : Read := { y with now := some ⟨day, []⟩ }
theorem pairs_begun {y : Read} (h : y.now = none) (day : Bytes) : pairs (begun y day) = pairs y := by
  unfold pairs
  rw [moves_none h, moves_some (x := begun y day) (e := ⟨day, []⟩) rfl]
  simp [begun, stands]
theorem accounts_begun {y : Read} (h : y.now = none) (day : Bytes) : (begun y day).accounts = y.accounts := by
  unfold Read.accounts Read.all begun
  rw [h]
  simp
theorem close_now {x y : Read} (h : x.close = some y) : y.now = none := by
  unfold Read.close at h
  cases hn : x.now with
  | none => rw [hn] at h; cases h; exact hn
  | some e =>
    rw [hn] at h
    dsimp only at h
    split at h
    · split at h
      · cases h; rfl
      · cases h
    · cases h
theorem close_fair {x y : Read} (hf : x.fair = true) (h : x.close = some y) : y.fair = true := by
  cases hn : x.now with
  | none => rw [close_none hn] at h; cases h; exact hf
  | some e =>
    rw [close_some hn] at h
    split at h
    · split at h
      · next hy => cases h; exact hy
      · cases h
    · cases h
/-! ### a movement -/
def moveW (ws : List Bytes) : Option Move := match ws with
  | [a] => (account a).map fun a => ⟨a, none⟩
  | [a, z, k] => (account a).bind fun a => (amount z).bind fun z => if isKind k = true then some ⟨a, some (z, k)⟩ else none
  | _ => none
def takeMove (x : Read) (ws : List Bytes) : Option Read := match x.now with
  | none => none
  | some e => (moveW ws).bind fun m => if (put e m).moves.length ≤ 64 ∧ (put e m).open_ ≤ 1 ∧ (add x e m).fair = true then some (add x e m) else none
def said (l : Bytes) : Bytes := l.takeWhile fun c => c != 35
theorem line_eq (x : Read) (l : Bytes) : x.line l = if words (said l) = [] then some x else if ((said l).head?.map blank).getD false = true then takeMove x (words (said l))
    else (x.close.bind fun y => if Sf42.isDay ((said l).take 10) = true ∧ ((said l).length = 10 ∨ ((said l)[10]?.map blank).getD false = true) then some (begun y ((said l).take 10)) else none) := by
  unfold Read.line
  simp only
  rw [show (l.takeWhile fun c => c != 35) = said l from rfl]
  by_cases h1 : (said l).all blank = true
  · rw [if_pos h1, if_pos ((words_nil _).mpr h1)]
  · rw [if_neg h1, if_neg (fun z => h1 ((words_nil _).mp z))]
    by_cases h2 : ((said l).head?.map blank).getD false = true
    · rw [if_pos h2, if_pos h2]
      unfold takeMove move
      rfl
    · rw [if_neg h2, if_neg h2]
      by_cases h3 : Sf42.isDay ((said l).take 10) = true ∧ ((said l).length = 10 ∨ ((said l)[10]?.map blank).getD false = true)
      · rw [if_pos h3]
        simp only [if_pos h3]
        cases x.close <;> rfl
      · rw [if_neg h3]
        simp only [if_neg h3]
        cases x.close <;> rfl
/-! ### accounts are as they are written -/
def Named (x : Read) : Prop := ∀ a ∈ x.accounts, names (joined a) = a
theorem named_mem {x : Read} (h : Named x) (w : Bytes) : w ∈ x.accounts.map joined ↔ names w ∈ x.accounts := by
  constructor
  · intro hw
    obtain ⟨a, ha, rfl⟩ := List.mem_map.mp hw
    rw [h a ha]; exact ha
  · intro hw
    exact List.mem_map.mpr ⟨_, hw, joined_names w⟩
theorem named_add {x : Read} {e : Entry} (h : Named x) (hn : x.now = some e) (w : Bytes) (o : Option (Int × Bytes)) : Named (add x e ⟨names w, o⟩) := by
  intro a ha
  rw [accounts_add hn] at ha
  split at ha
  · exact h a ha
  · rcases List.mem_append.mp ha with ha | ha
    · exact h a ha
    · rw [List.mem_singleton.mp ha]
      show names (joined (names w)) = names w
      rw [joined_names]
theorem accounts_words {x : Read} {e : Entry} (h : Named x) (hn : x.now = some e) (w : Bytes) (o : Option (Int × Bytes)) :
    (add x e ⟨names w, o⟩).accounts.map joined = if w ∈ x.accounts.map joined then x.accounts.map joined else x.accounts.map joined ++ [w] := by
  rw [accounts_add hn]
  by_cases hm : names w ∈ x.accounts
  · have h1 : x.accounts.contains (names w) = true := by simpa using hm
    rw [if_pos h1, if_pos ((named_mem h w).mpr hm)]
  · have h1 : ¬ x.accounts.contains (names w) = true := by simpa using hm
    rw [if_neg h1, if_neg (fun z => hm ((named_mem h w).mp z)), List.map_append]
    show _ ++ [joined (names w)] = _
    rw [joined_names]
end Ev

namespace Ev
open Sf42
set_option autoImplicit false

/-! ### order of bytes -/
/-- as tuples of whole numbers are compared: x <= y -/
def lexLe : Bytes → Bytes → Bool
  | [], _ => true
  | _ :: _, [] => false
  | a :: r, b :: s => if a = b then lexLe r s else decide (a.toNat ≤ b.toNat)
theorem u8_ne {a b : UInt8} (h : a ≠ b) : a.toNat ≠ b.toNat := fun e => h (UInt8.toNat_inj.mp e)
theorem before_irrefl : ∀ a : Bytes, before a a = false
  | [] => rfl
  | a :: r => by
    unfold before
    rw [before_irrefl r]
    simp
theorem before_asym : ∀ {a b : Bytes}, before a b = true → before b a = false
  | [], [], h => by cases h
  | [], _ :: _, _ => rfl
  | _ :: _, [], h => by cases h
  | a :: r, b :: s, h => by
    unfold before at h ⊢
    rw [Bool.or_eq_true, Bool.and_eq_true, decide_eq_true_eq, beq_iff_eq] at h
    rw [Bool.or_eq_false_iff, decide_eq_false_iff_not]
    rcases h with h | ⟨rfl, h⟩
    · refine ⟨by omega, ?_⟩
      have : (b == a) = false := beq_false_of_ne fun e => by rw [e] at h; omega
      rw [this, Bool.false_and]
    · exact ⟨by omega, by rw [before_asym h, Bool.and_false]⟩
theorem before_total : ∀ {a b : Bytes}, before a b = false → before b a = false → a = b
  | [], [], _, _ => rfl
  | [], _ :: _, h, _ => by cases h
  | _ :: _, [], _, h => by cases h
  | a :: r, b :: s, h, h' => by
    unfold before at h h'
    rw [Bool.or_eq_false_iff, decide_eq_false_iff_not] at h h'
    have e : a = b := UInt8.toNat_inj.mp (by omega)
    subst e
    have h1 := h.2
    have h2 := h'.2
    simp only [beq_self_eq_true, Bool.true_and] at h1 h2
    rw [before_total h1 h2]
theorem before_trans : ∀ {a b c : Bytes}, before a b = true → before b c = true → before a c = true
  | [], [], _, h, _ => by cases h
  | [], _ :: _, [], _, h => by cases h
  | [], _ :: _, _ :: _, _, _ => rfl
  | _ :: _, [], _, h, _ => by cases h
  | _ :: _, _ :: _, [], _, h => by cases h
  | a :: r, b :: s, c :: t, h, h' => by
    unfold before at h h' ⊢
    rw [Bool.or_eq_true, Bool.and_eq_true, decide_eq_true_eq, beq_iff_eq] at h h' ⊢
    rcases h with h | ⟨rfl, h⟩
    · rcases h' with h' | ⟨rfl, h'⟩
      · exact .inl (by omega)
      · exact .inl h
    · rcases h' with h' | ⟨rfl, h'⟩
      · exact .inl h'
      · exact .inr ⟨rfl, before_trans h h'⟩

/-! ### keys: an account, a kind -/
abbrev K2 := Bytes × Bytes
/-- strictly ahead -/
def kLt (p q : K2) : Bool := if p.1 = q.1 then before p.2 q.2 else before p.1 q.1
def kLe (p q : K2) : Bool := before p.1 q.1 || (p.1 == q.1 && (before p.2 q.2 || p.2 == q.2))
theorem kLe_eq (p q : K2) : kLe p q = !kLt q p := by
  obtain ⟨a, b⟩ := p
  obtain ⟨c, d⟩ := q
  unfold kLe kLt
  simp only
  by_cases h : a = c
  · subst h
    rw [before_irrefl, if_pos rfl, Bool.false_or, beq_self_eq_true, Bool.true_and]
    cases h1 : before b d with
    | true => rw [before_asym h1]; rfl
    | false =>
      cases h2 : before d b with
      | true =>
        have : (b == d) = false := beq_false_of_ne fun e => by rw [e, before_irrefl] at h2; cases h2
        rw [this]; rfl
      | false => rw [before_total h1 h2]; simp
  · have e1 : (a == c) = false := beq_false_of_ne h
    rw [e1, Bool.false_and, Bool.or_false, if_neg (fun e => h e.symm)]
    cases h1 : before a c with
    | true => rw [before_asym h1]; rfl
    | false =>
      cases h2 : before c a with
      | true => rfl
      | false => exact absurd (before_total h1 h2) h
theorem kLt_irrefl (p : K2) : kLt p p = false := by
  unfold kLt
  rw [if_pos rfl]
  exact before_irrefl _
theorem kLt_asym {p q : K2} (h : kLt p q = true) : kLt q p = false := by
  unfold kLt at h ⊢
  by_cases e : p.1 = q.1
  · rw [if_pos e] at h
    rw [if_pos e.symm]
    exact before_asym h
  · rw [if_neg e] at h
    rw [if_neg (fun z => e z.symm)]
    exact before_asym h
theorem kLt_total {p q : K2} (h : kLt p q = false) (h' : kLt q p = false) : p = q := by
  obtain ⟨a, b⟩ := p
  obtain ⟨c, d⟩ := q
  unfold kLt at h h'
  simp only at h h'
  by_cases e : a = c
  · subst e
    rw [if_pos rfl] at h h'
    rw [before_total h h']
  · rw [if_neg e] at h
    rw [if_neg (fun z => e z.symm)] at h'
    exact absurd (before_total h h') e
theorem kLt_trans {p q r : K2} (h : kLt p q = true) (h' : kLt q r = true) : kLt p r = true := by
  obtain ⟨a, b⟩ := p
  obtain ⟨c, d⟩ := q
  obtain ⟨e, f⟩ := r
  unfold kLt at h h' ⊢
  simp only at h h' ⊢
  by_cases e1 : a = c
  · subst e1
    rw [if_pos rfl] at h
    by_cases e2 : a = e
    · subst e2
      rw [if_pos rfl] at h' ⊢
      exact before_trans h h'
    · rw [if_neg e2] at h' ⊢
      exact h'
  · rw [if_neg e1] at h
    by_cases e2 : c = e
    · subst e2
      rw [if_neg e1]
      exact h
    · rw [if_neg e2] at h'
      by_cases e3 : a = e
      · subst e3
        rw [before_asym h] at h'
        cases h'
      · rw [if_neg e3]
        exact before_trans h h'
/-- not above: passed on -/
theorem kLt_tr {x y z : K2} (h1 : kLt y x = false) (h2 : kLt z y = false) : kLt z x = false := by
  cases h : kLt z x with
  | false => rfl
  | true =>
    cases h3 : kLt x y with
    | true => rw [kLt_trans h h3] at h2; cases h2
    | false =>
      have := kLt_total h1 h3
      subst this
      rw [h] at h2
      cases h2
/-- two lists in order without doubles, of the same keys -/
theorem sorted_eq : ∀ {l l' : List K2}, l.Nodup → l'.Nodup → l.Pairwise (fun x y => kLt y x = false) → l'.Pairwise (fun x y => kLt y x = false) → (∀ k, k ∈ l ↔ k ∈ l') → l = l'
  | [], [], _, _, _, _, _ => rfl
  | [], b :: s, _, _, _, _, h => absurd ((h b).mpr (List.mem_cons_self ..)) (by simp)
  | a :: r, [], _, _, _, _, h => absurd ((h a).mp (List.mem_cons_self ..)) (by simp)
  | a :: r, b :: s, n1, n2, p1, p2, h => by
    rw [List.nodup_cons] at n1 n2
    rw [List.pairwise_cons] at p1 p2
    have e : a = b := by
      by_cases e : a = b
      · exact e
      · have h1 : a ∈ s := by
          rcases List.mem_cons.mp ((h a).mp (List.mem_cons_self ..)) with z | z
          · exact absurd z e
          · exact z
        have h2 : b ∈ r := by
          rcases List.mem_cons.mp ((h b).mpr (List.mem_cons_self ..)) with z | z
          · exact absurd z.symm e
          · exact z
        exact kLt_total (p2.1 a h1) (p1.1 b h2)
    subst e
    rw [sorted_eq n1.2 n2.2 p1.2 p2.2 fun k => ?_]
    have := h k
    rw [List.mem_cons, List.mem_cons] at this
    constructor
    · intro hk
      rcases this.mp (.inr hk) with z | z
      · subst z; exact absurd hk n1.1
      · exact z
    · intro hk
      rcases this.mpr (.inr hk) with z | z
      · subst z; exact absurd hk n2.1
      · exact z
theorem mergeSort_kLe (l : List K2) : (l.mergeSort kLe).Pairwise (fun x y => kLt y x = false) := by
  have h := List.pairwise_mergeSort (le := kLe) (fun a b c h1 h2 => ?_) (fun a b => ?_) l
  · refine h.imp fun {a b} h => ?_
    rw [kLe_eq] at h
    simpa using h
  · rw [kLe_eq] at h1 h2 ⊢
    rw [Bool.not_eq_true'] at h1 h2 ⊢
    exact kLt_tr h1 h2
  · rw [kLe_eq, kLe_eq]
    cases h1 : kLt b a with
    | false => rfl
    | true => rw [kLt_asym h1]; rfl

/-! ### days in order -/
theorem lexLe_app : ∀ {a b r s : Bytes}, a.length = b.length → lexLe (a ++ r) (b ++ s) = if a = b then lexLe r s else lexLe a b
  | [], [], r, s, _ => by rw [if_pos rfl]; rfl
  | [], _ :: _, _, _, h => by cases h
  | _ :: _, [], _, _, h => by cases h
  | x :: a, y :: b, r, s, h => by
    have ih := lexLe_app (a := a) (b := b) (r := r) (s := s) (by simpa using h)
    show (if x = y then lexLe (a ++ r) (b ++ s) else decide (x.toNat ≤ y.toNat)) = _
    by_cases e : x = y
    · subst e
      rw [if_pos rfl, ih]
      by_cases e2 : a = b
      · subst e2; rw [if_pos rfl, if_pos rfl]
      · rw [if_neg e2, if_neg (fun z => e2 (List.cons.inj z).2)]
        show _ = (if x = x then lexLe a b else _)
        rw [if_pos rfl]
    · rw [if_neg e, if_neg (fun z => e (List.cons.inj z).1)]
      show _ = (if x = y then lexLe a b else _)
      rw [if_neg e]
theorem lexLe_cons {c d : UInt8} {r s : Bytes} : lexLe (c :: r) (d :: s) = if c = d then lexLe r s else decide (c.toNat ≤ d.toNat) := rfl
/-- rows of digits of one length are in the order of their numbers -/
theorem lexLe_number : ∀ {a b : Bytes}, a.length = b.length → a.all digit = true → b.all digit = true → lexLe a b = decide (number a ≤ number b)
  | [], [], _, _, _ => rfl
  | [], _ :: _, h, _, _ => by cases h
  | _ :: _, [], h, _, _ => by cases h
  | x :: a, y :: b, h, ha, hb => by
    have hl : a.length = b.length := by simpa using h
    rw [List.all_cons, Bool.and_eq_true] at ha hb
    have ih := lexLe_number hl ha.2 hb.2
    have dx := (digit_iff x).mp ha.1
    have dy := (digit_iff y).mp hb.1
    have ba := number_bound a ha.2
    have bb := number_bound b hb.2
    have ea : number (x :: a) = (x.toNat - 48) * 10 ^ a.length + number a := by
      have := number_app [x] a
      simpa [number] using this
    have eb : number (y :: b) = (y.toNat - 48) * 10 ^ a.length + number b := by
      have := number_app [y] b
      rw [hl]
      simpa [number] using this
    rw [← hl] at bb
    rw [lexLe_cons, ea, eb, ih]
    by_cases e : x = y
    · subst e
      rw [if_pos rfl]
      congr 1
      exact propext ⟨fun h => by omega, fun h => by omega⟩
    · have ne := u8_ne e
      rw [if_neg e]
      congr 1
      refine propext ⟨fun h => ?_, fun h => ?_⟩
      · have h1 : x.toNat - 48 + 1 ≤ y.toNat - 48 := by omega
        have h2 := Nat.mul_le_mul_right (10 ^ a.length) h1
        rw [Nat.add_mul, Nat.one_mul] at h2
        omega
      · by_cases h0 : x.toNat ≤ y.toNat
        · exact h0
        · exfalso
          have h1 : y.toNat - 48 + 1 ≤ x.toNat - 48 := by omega
          have h2 := Nat.mul_le_mul_right (10 ^ a.length) h1
          rw [Nat.add_mul, Nat.one_mul] at h2
          omega
/-- a day's pieces -/
structure DayIs (b : Bytes) (y m d : Bytes) : Prop where
  eq : b = y ++ (45 :: (m ++ (45 :: d)))
  ly : y.length = 4
  lm : m.length = 2
  ld : d.length = 2
  dig : (y ++ (m ++ d)).all digit = true
  num : dayNumber b = number (y ++ (m ++ d))
theorem day_is {b : Bytes} (h : isDay b = true) : ∃ y m d, DayIs b y m d := by
  unfold isDay at h
  simp only [Bool.and_eq_true] at h
  obtain ⟨h1, h2, h3, h4, _⟩ := h
  have hl : b.length = 10 := by simpa using h1
  match b, hl with
  | [a0, a1, a2, a3, a4, a5, a6, a7, a8, a9], _ =>
    have e4 : a4 = 45 := by simpa using h2
    have e7 : a7 = 45 := by simpa using h3
    subst e4 e7
    refine ⟨[a0, a1, a2, a3], [a5, a6], [a8, a9], rfl, rfl, rfl, rfl, ?_, ?_⟩
    · simpa using h4
    · rw [number_app, number_app]
      show number [a0, a1, a2, a3] * 10000 + number [a5, a6] * 100 + number [a8, a9] = number [a0, a1, a2, a3] * 10 ^ 4 + (number [a5, a6] * 10 ^ 2 + number [a8, a9])
      omega
theorem lexLe_day {a b : Bytes} (ha : isDay a = true) (hb : isDay b = true) : lexLe a b = decide (dayNumber a ≤ dayNumber b) := by
  obtain ⟨y, m, d, A⟩ := day_is ha
  obtain ⟨y', m', d', B⟩ := day_is hb
  have l1 : y.length = y'.length := A.ly.trans B.ly.symm
  have l2 : m.length = m'.length := A.lm.trans B.lm.symm
  have l3 : d.length = d'.length := A.ld.trans B.ld.symm
  rw [A.num, B.num, ← lexLe_number (by simp [l1, l2, l3]) A.dig B.dig, A.eq, B.eq, lexLe_app l1, lexLe_app l1]
  by_cases e : y = y'
  · rw [if_pos e, if_pos e, lexLe_cons, if_pos rfl, lexLe_app l2, lexLe_app l2]
    by_cases e2 : m = m'
    · rw [if_pos e2, if_pos e2, lexLe_cons, if_pos rfl]
    · rw [if_neg e2, if_neg e2]
  · rw [if_neg e, if_neg e]

/-! ### names -/
theorem split_mid (p : UInt8 → Bool) (c : UInt8) (hc : p c = true) : ∀ (a b w : Bytes), split p (a ++ c :: b) w = split p a w ++ split p b []
  | [], b, w => by
    show (if p c = true then w :: split p b [] else split p b (w ++ [c])) = [w] ++ split p b []
    rw [if_pos hc]
    rfl
  | d :: a, b, w => by
    show (if p d = true then w :: split p (a ++ c :: b) [] else split p (a ++ c :: b) (w ++ [d])) = (if p d = true then w :: split p a [] else split p a (w ++ [d])) ++ split p b []
    by_cases h : p d = true
    · rw [if_pos h, if_pos h, split_mid p c hc a b []]
      rfl
    · rw [if_neg h, if_neg h, split_mid p c hc a b (w ++ [d])]
theorem names_mid (a b : Bytes) : names (a ++ 58 :: b) = names a ++ names b := split_mid _ _ (by decide) a b []
theorem names_ne (a : Bytes) : names a ≠ [] := split_ne _ _ _
theorem joined_app : ∀ {l r : List Bytes}, l ≠ [] → r ≠ [] → joined (l ++ r) = joined l ++ 58 :: joined r
  | [], _, h, _ => absurd rfl h
  | [w], [], _, h => absurd rfl h
  | [w], x :: r, _, _ => rfl
  | w :: v :: l, r, _, h => by
    have ih := joined_app (l := v :: l) (r := r) (by simp) h
    show w ++ (58 :: joined (v :: l ++ r)) = (w ++ (58 :: joined (v :: l))) ++ 58 :: joined r
    rw [ih]
    simp
/-- the account's first names -/
def firstNames (b : Bytes) (n : Nat) : Bytes := joined ((names b).take n)
theorem firstNames_at {b : Bytes} {i n : Nat} (h : b[i]? = some 58) (hn : (names (b.take i)).length = n) : firstNames b n = b.take i := by
  have e : b = b.take i ++ 58 :: b.drop (i + 1) := by
    obtain ⟨h1, h2⟩ := List.getElem?_eq_some_iff.mp h
    have e0 := (List.take_append_drop i b).symm
    rw [List.drop_eq_getElem_cons h1, h2] at e0
    exact e0
  unfold firstNames
  have e2 : names b = names (b.take i) ++ names (b.drop (i + 1)) := by
    conv => lhs; rw [e]
    exact names_mid _ _
  rw [e2, List.take_left' hn, joined_names]
theorem firstNames_all {b : Bytes} {n : Nat} (h : (names b).length ≤ n) : firstNames b n = b := by
  unfold firstNames
  rw [List.take_of_length_le h, joined_names]
theorem names_snoc_yes (b : Bytes) : (names (b ++ [58])).length = (names b).length + 1 := by
  unfold names
  rw [split_snoc_yes _ _ (by decide)]
  simp
theorem names_snoc_no (b : Bytes) {c : UInt8} (h : (c == 58) = false) : (names (b ++ [c])).length = (names b).length := by
  unfold names
  rw [split_snoc_no (fun c => c == 58) c h, List.length_append, List.length_dropLast]
  have := List.length_pos_iff.mpr (split_ne (fun c => c == 58) b [])
  simp only [List.length_singleton]
  omega
/-- an account is the outer one, or within it -/
def isWithin (acc outer : Bytes) : Bool := decide (outer = []) || (acc ++ [58]).take (outer.length + 1) == outer ++ [58]
theorem within_eq (acc outer : Bytes) (h : outer ≠ []) : isWithin acc outer = ((names acc).take (names outer).length == names outer) := by
  unfold isWithin
  rw [decide_eq_false h, Bool.false_or]
  have iff : (acc ++ [58]).take (outer.length + 1) = outer ++ [58] ↔ (names acc).take (names outer).length = names outer := by
    constructor
    · intro e
      have e1 : acc ++ [58] = outer ++ 58 :: (acc ++ [58]).drop (outer.length + 1) := by
        have := (List.take_append_drop (outer.length + 1) (acc ++ [58])).symm
        rw [e] at this
        simpa using this
      have e2 : names (acc ++ [58]) = names acc ++ [[]] := names_mid acc []
      have e3 := names_mid outer ((acc ++ [58]).drop (outer.length + 1))
      rw [← e1, e2] at e3
      have hl := congrArg List.length e3
      have hp := List.length_pos_iff.mpr (names_ne ((acc ++ [58]).drop (outer.length + 1)))
      rw [List.length_append, List.length_append, List.length_singleton] at hl
      have h4 := congrArg (List.take (names outer).length) e3
      rw [List.take_left, List.take_append_of_le_length (by omega)] at h4
      exact h4
    · intro e
      have e1 := (List.take_append_drop (names outer).length (names acc)).symm
      rw [e] at e1
      have e2 : acc = joined (names outer ++ (names acc).drop (names outer).length) := by rw [← e1, joined_names]
      by_cases hd : (names acc).drop (names outer).length = []
      · rw [hd, List.append_nil, joined_names] at e2
        rw [e2, List.take_of_length_le (by simp)]
      · rw [joined_app (names_ne outer) hd, joined_names] at e2
        rw [e2]
        have : outer ++ 58 :: joined ((names acc).drop (names outer).length) ++ [58] = (outer ++ [58]) ++ (joined ((names acc).drop (names outer).length) ++ [58]) := by simp
        rw [this, List.take_left' (by simp)]
  cases h1 : ((names acc).take (names outer).length == names outer) with
  | true => rw [beq_iff_eq]; exact iff.mpr (by simpa using h1)
  | false =>
    refine beq_false_of_ne fun z => ?_
    have := iff.mp z
    rw [this] at h1
    simp at h1
end Ev

namespace Ev
open Sf42
set_option autoImplicit false

/-! ### movements as the program has them: day, account, kind, amount -/
abbrev Mv := Bytes × Bytes × Bytes × Int
abbrev Sv := Bytes × Account × Int × Bytes
def mvOf (p : Sv) : Mv := (p.1, joined p.2.1, p.2.2.2, p.2.2.1)
def prs (ms : List Mv) : Pairs := ms.map fun m => (m.2.2.2, m.2.2.1)
theorem prs_app (a b : List Mv) : prs (a ++ b) = prs a ++ prs b := by simp [prs]
theorem prs_len (a : List Mv) : (prs a).length = a.length := by simp [prs]
def dayed (d : Bytes) (l : List (Account × Int × Bytes)) : List Sv := l.map fun p => (d, p.1, p.2.1, p.2.2)
def allDone (l : List Entry) : List Sv := l.flatMap fun e => dayed e.day e.done
def movesD (x : Read) : List Sv := allDone x.closed ++ x.now.toList.flatMap fun e => dayed e.day (stands e)
theorem dayed_prs (d : Bytes) (l : List (Account × Int × Bytes)) : prs ((dayed d l).map mvOf) = l.map fun p => p.2 := by
  unfold prs dayed
  rw [List.map_map, List.map_map]
  rfl
theorem allDone_prs (l : List Entry) : prs ((allDone l).map mvOf) = (amountsOf l).map fun p => p.2 := by
  unfold allDone amountsOf
  induction l with
  | nil => rfl
  | cons e l ih =>
    rw [List.flatMap_cons, List.flatMap_cons, List.map_append, List.map_append, prs_app, dayed_prs, ih]
theorem movesD_prs (x : Read) : prs ((movesD x).map mvOf) = pairs x := by
  unfold movesD pairs
  rw [List.map_append, prs_app, allDone_prs]
  cases h : x.now with
  | none => rw [moves_none h]; simp [prs]
  | some e =>
    rw [moves_some h, List.map_append]
    congr 1
    show prs ((List.flatMap (fun e => dayed e.day (stands e)) [e]).map mvOf) = _
    rw [List.flatMap_cons, List.flatMap_nil, List.append_nil, dayed_prs]
theorem perm_prs {ms : List Mv} {x : Read} (h : ms.Perm ((movesD x).map mvOf)) : (prs ms).Perm (pairs x) := by
  rw [← movesD_prs x]
  exact h.map _
theorem movesD_open {x : Read} {e : Entry} (h : x.now = some e) (a : Account) : movesD (add x e ⟨a, none⟩) = movesD x := by
  unfold movesD add
  rw [h]
  show allDone x.closed ++ List.flatMap (fun e => dayed e.day (stands e)) [put e ⟨a, none⟩] = allDone x.closed ++ List.flatMap (fun e => dayed e.day (stands e)) [e]
  rw [List.flatMap_cons, List.flatMap_cons, stands_open]
  rfl
theorem movesD_some {x : Read} {e : Entry} (h : x.now = some e) (a : Account) (z : Int) (k : Bytes) : movesD (add x e ⟨a, some (z, k)⟩) = movesD x ++ [(e.day, a, z, k)] := by
  unfold movesD add
  rw [h]
  show allDone x.closed ++ List.flatMap (fun e => dayed e.day (stands e)) [put e ⟨a, some (z, k)⟩] = allDone x.closed ++ List.flatMap (fun e => dayed e.day (stands e)) [e] ++ _
  rw [List.flatMap_cons, List.flatMap_cons, stands_some]
  simp [dayed, put]
theorem movesD_begun {y : Read} (h : y.now = none) (day : Bytes) : movesD (begun y day) = movesD y := by
  unfold movesD begun
  rw [h]
  rfl
theorem movesD_none {y : Read} (h : y.now = none) : movesD y = allDone y.closed := by
  unfold movesD
  rw [h]
  simp
/-- the account of the movement without an amount -/
def lackOf (e : Entry) : Option Account := (e.moves.find? fun m => m.amount.isNone).map (·.account)
theorem lack_open (e : Entry) (a : Account) : lackOf (put e ⟨a, none⟩) = some ((lackOf e).getD a) := by
  unfold lackOf put
  simp only
  rw [List.find?_append]
  cases h : e.moves.find? fun m => m.amount.isNone with
  | none => rfl
  | some m => rfl
theorem lack_some (e : Entry) (a : Account) (z : Int) (k : Bytes) : lackOf (put e ⟨a, some (z, k)⟩) = lackOf e := by
  unfold lackOf put
  simp only
  rw [List.find?_append]
  cases h : e.moves.find? fun m => m.amount.isNone with
  | none => rfl
  | some m => rfl
theorem lack_none (e : Entry) : lackOf e = none ↔ e.open_ = 0 := by
  unfold lackOf Entry.open_
  rw [Option.map_eq_none_iff, List.find?_eq_none, List.length_eq_zero_iff, List.filter_eq_nil_iff]
theorem lack_mem {e : Entry} {a : Account} (h : lackOf e = some a) : ∃ m ∈ e.moves, m.account = a := by
  unfold lackOf at h
  obtain ⟨m, hm, rfl⟩ := Option.map_eq_some_iff.mp h
  exact ⟨m, List.mem_of_find?_eq_some hm, rfl⟩
/-- what is done beside what stands -/
theorem done_stands_aux (w : Pairs) : ∀ l : List Move, (l.flatMap fun m => match m.amount with
    | some p => [(m.account, p.1, p.2)]
    | none => w.map fun p => (m.account, p.1, p.2)).Perm ((l.filterMap fun m => m.amount.map fun p => (m.account, p.1, p.2)) ++ (l.filter fun m => m.amount.isNone).flatMap fun m => w.map fun p => (m.account, p.1, p.2))
  | [] => .refl _
  | m :: l => by
    have ih := done_stands_aux w l
    obtain ⟨a, o⟩ := m
    cases o with
    | some p =>
      rw [List.flatMap_cons]
      simp only [List.filterMap_cons, Option.map_some, List.filter_cons, Option.isNone_some, Bool.false_eq_true, if_false]
      exact ih.cons _
    | none =>
      rw [List.flatMap_cons]
      simp only [List.filterMap_cons, Option.map_none, List.filter_cons, Option.isNone_none, if_true, List.flatMap_cons]
      refine (List.Perm.append_left _ ih).trans ?_
      rw [← List.append_assoc, ← List.append_assoc]
      exact List.Perm.append_right _ List.perm_append_comm
theorem done_stands0 {e : Entry} (h : e.open_ = 0) : e.done.Perm (stands e) := by
  have := done_stands_aux e.wanting e.moves
  unfold Entry.open_ at h
  rw [List.length_eq_zero_iff.mp h, List.flatMap_nil, List.append_nil] at this
  exact this
theorem done_stands1 {e : Entry} {a : Account} (h : e.open_ = 1) (ha : lackOf e = some a) : e.done.Perm (stands e ++ e.wanting.map fun p => (a, p.1, p.2)) := by
  have := done_stands_aux e.wanting e.moves
  unfold Entry.open_ at h
  obtain ⟨m, hm⟩ := List.length_eq_one_iff.mp h
  have hl : m.account = a := by
    unfold lackOf at ha
    rw [← List.head?_filter, hm] at ha
    exact Option.some.inj ha
  rw [hm, List.flatMap_cons, List.flatMap_nil, List.append_nil, hl] at this
  exact this
theorem movesD_closed {x : Read} {e : Entry} (h : x.now = some e) {w : List (Account × Int × Bytes)} (hp : e.done.Perm (stands e ++ w)) : (movesD (closed x e)).Perm (movesD x ++ dayed e.day w) := by
  unfold movesD closed allDone
  rw [h]
  simp only [Option.toList_none, Option.toList_some, List.flatMap_nil, List.append_nil, List.flatMap_append, List.flatMap_cons]
  rw [List.append_assoc]
  refine List.Perm.append_left _ ?_
  have := hp.map fun p : Account × Int × Bytes => ((e.day, p.1, p.2.1, p.2.2) : Sv)
  rw [List.map_append] at this
  exact this

/-! ### entries as they may stand -/
def AccOk (a : Account) : Prop := names (joined a) = a ∧ (joined a).length ≤ 255
structure GoodE (e : Entry) : Prop where
  day : isDay e.day = true
  acc : ∀ m ∈ e.moves, AccOk m.account
  kin : ∀ m ∈ e.moves, ∀ q, m.amount = some q → q.2.length ≤ 8
structure GoodS (p : Sv) : Prop where
  day : isDay p.1 = true
  acc : AccOk p.2.1
  kin : p.2.2.2.length ≤ 8
theorem good_wanting {e : Entry} (h : GoodE e) : ∀ p ∈ e.wanting, p.2.length ≤ 8 := by
  intro p hp
  have h1 : p.2 ∈ kinds e.wanting := List.mem_map.mpr ⟨p, hp, rfl⟩
  have h2 := wantT_kinds e _ h1
  obtain ⟨q, hq, e2⟩ := List.mem_map.mp h2
  unfold Entry.amounts at hq
  obtain ⟨m, hm, hmq⟩ := List.mem_filterMap.mp hq
  rw [← e2]
  exact h.kin m hm q hmq
theorem good_done {e : Entry} (h : GoodE e) : ∀ p ∈ dayed e.day e.done, GoodS p := by
  intro p hp
  obtain ⟨q, hq, rfl⟩ := List.mem_map.mp hp
  unfold Entry.done at hq
  obtain ⟨m, hm, hq⟩ := List.mem_flatMap.mp hq
  cases ho : m.amount with
  | some r =>
    rw [ho] at hq
    have e1 := List.mem_singleton.mp hq
    subst e1
    exact ⟨h.day, h.acc m hm, h.kin m hm r ho⟩
  | none =>
    rw [ho] at hq
    obtain ⟨r, hr, rfl⟩ := List.mem_map.mp hq
    exact ⟨h.day, h.acc m hm, good_wanting h r hr⟩
theorem good_all {l : List Entry} (h : ∀ e ∈ l, GoodE e) : ∀ p ∈ allDone l, GoodS p := by
  intro p hp
  obtain ⟨e, he, hp⟩ := List.mem_flatMap.mp hp
  exact good_done (h e he) p hp

/-! ### which movements are meant -/
def outerOf (w : Bytes) : Account := if w = [] then [] else names w
def passS (a : Account) (day : Bytes) (p : Sv) : Bool := (p.2.1.take a.length == a) && decide (dayNumber p.1 ≤ dayNumber day)
def passM (w day : Bytes) (m : Mv) : Bool := lexLe m.1 day && isWithin m.2.1 w
theorem pass_eq {w day : Bytes} (hd : isDay day = true) {p : Sv} (h : GoodS p) : passM w day (mvOf p) = passS (outerOf w) day p := by
  unfold passM passS mvOf outerOf
  simp only
  rw [lexLe_day h.day hd, Bool.and_comm]
  congr 1
  by_cases hw : w = []
  · rw [if_pos hw]
    unfold isWithin
    rw [decide_eq_true hw, Bool.true_or]
    simp
  · rw [if_neg hw, within_eq _ _ hw, h.acc.1]
theorem upTo_eq (l : List Entry) (a : Account) (day : Bytes) : upTo l a day = ((allDone l).filter (passS a day)).mergeSort fun p q => decide (dayNumber p.1 ≤ dayNumber q.1) := by
  unfold upTo
  simp only
  congr 1
  have e1 : (l.flatMap fun e => (e.done.filter fun p => p.1.take a.length == a).map fun p => (e.day, p.1, p.2.1, p.2.2)) = (allDone l).filter fun p => p.2.1.take a.length == a := by
    unfold allDone
    rw [List.filter_flatMap]
    congr 1
    funext e
    unfold dayed
    rw [List.filter_map]
    rfl
  rw [e1, List.filter_filter]
  congr 1
  funext p
  unfold passS
  rw [Bool.and_comm]
theorem filter_perm {ms : List Mv} {l : List Entry} {w day : Bytes} (hd : isDay day = true) (hg : ∀ e ∈ l, GoodE e) (hp : ms.Perm ((allDone l).map mvOf)) : (ms.filter (passM w day)).Perm ((upTo l (outerOf w) day).map mvOf) := by
  refine (hp.filter _).trans ?_
  rw [upTo_eq, List.filter_map]
  refine List.Perm.map _ ?_
  refine List.Perm.trans ?_ (List.mergeSort_perm _ _).symm
  rw [List.filter_congr fun p hm => (show (passM w day ∘ mvOf) p = passS (outerOf w) day p from pass_eq hd (good_all hg p hm))]
theorem good_upTo {l : List Entry} {a : Account} {day : Bytes} (hg : ∀ e ∈ l, GoodE e) : ∀ p ∈ upTo l a day, GoodS p := by
  intro p hp
  rw [upTo_eq, List.mem_mergeSort] at hp
  exact good_all hg p (List.mem_filter.mp hp).1

/-! ### sums by keys -/
def key (n : Nat) (m : Mv) : K2 := (firstNames m.2.1 n, m.2.2.1)
def sumK (n : Nat) (F : List Mv) (k : K2) : Int := ((F.filter fun m => key n m == k).map fun m => m.2.2.2).sum
def keysK (n : Nat) (F : List Mv) : List K2 := (F.map (key n)).eraseDups
abbrev Tab2 := List (K2 × Int)
def sumsK (n : Nat) (F : List Mv) : Tab2 := (keysK n F).map fun k => (k, sumK n F k)
def t2get (t : Tab2) (k : K2) : Option Int := (t.find? fun q => decide (q.1 = k)).map (·.2)
def t2put (t : Tab2) (k : K2) (v : Int) : Tab2 := if (t.any fun q => decide (q.1 = k)) = true then t.map (fun q => if q.1 = k then (q.1, v) else q) else t ++ [(k, v)]
theorem sumK_snoc (n : Nat) (F : List Mv) (m : Mv) (k : K2) : sumK n (F ++ [m]) k = sumK n F k + if key n m = k then m.2.2.2 else 0 := by
  unfold sumK
  rw [List.filter_append, List.map_append, List.sum_append]
  congr 1
  by_cases h : key n m = k
  · rw [if_pos h]; simp [h]
  · rw [if_neg h]; simp [h]
theorem sumK_none {n : Nat} {F : List Mv} {k : K2} (h : k ∉ F.map (key n)) : sumK n F k = 0 := by
  unfold sumK
  have : (F.filter fun m => key n m == k) = [] := by
    rw [List.filter_eq_nil_iff]
    intro m hm e
    exact h (List.mem_map.mpr ⟨m, hm, by simpa using e⟩)
  rw [this]
  rfl
theorem keysK_mem {n : Nat} {F : List Mv} {k : K2} : k ∈ keysK n F ↔ k ∈ F.map (key n) := by
  unfold keysK
  exact List.mem_eraseDups
theorem t2get_map {l : List K2} {f : K2 → Int} {k : K2} : t2get (l.map fun k => (k, f k)) k = if k ∈ l then some (f k) else none := by
  unfold t2get
  rw [List.find?_map, Option.map_map]
  by_cases h : k ∈ l
  · rw [if_pos h]
    cases e : l.find? ((fun q : K2 × Int => decide (q.1 = k)) ∘ fun k => (k, f k)) with
    | none =>
      rw [List.find?_eq_none] at e
      exact absurd (e k h) (by simp)
    | some j =>
      have := List.find?_some e
      have hj : j = k := by simpa using this
      subst hj
      rfl
  · rw [if_neg h]
    have : l.find? ((fun q : K2 × Int => decide (q.1 = k)) ∘ fun k => (k, f k)) = none := by
      rw [List.find?_eq_none]
      intro j hj e
      have : j = k := by simpa using e
      subst this
      exact h hj
    rw [this]
    rfl
theorem sumsK_get (n : Nat) (F : List Mv) (k : K2) : (t2get (sumsK n F) k).getD 0 = sumK n F k := by
  unfold sumsK
  rw [t2get_map]
  by_cases h : k ∈ keysK n F
  · rw [if_pos h]; rfl
  · rw [if_neg h]
    exact (sumK_none fun z => h (keysK_mem.mpr z)).symm
theorem sumsK_put (n : Nat) (F : List Mv) (m : Mv) : t2put (sumsK n F) (key n m) (sumK n F (key n m) + m.2.2.2) = sumsK n (F ++ [m]) := by
  have hk : keysK n (F ++ [m]) = if (F.map (key n)).contains (key n m) = true then keysK n F else keysK n F ++ [key n m] := by
    unfold keysK
    rw [List.map_append]
    exact eraseDups_snoc _ _
  have ha : ((sumsK n F).any fun q => decide (q.1 = key n m)) = (F.map (key n)).contains (key n m) := by
    rw [Bool.eq_iff_iff, List.any_eq_true, List.contains_iff_mem, ← keysK_mem]
    unfold sumsK
    constructor
    · rintro ⟨q, hq, e⟩
      obtain ⟨k, hk, rfl⟩ := List.mem_map.mp hq
      have : k = key n m := by simpa using e
      rw [← this]
      exact hk
    · intro h
      exact ⟨_, List.mem_map.mpr ⟨_, h, rfl⟩, by simp⟩
  unfold t2put
  rw [ha]
  have hs : sumsK n (F ++ [m]) = (keysK n (F ++ [m])).map fun k => (k, sumK n (F ++ [m]) k) := rfl
  rw [hs, hk]
  by_cases h : (F.map (key n)).contains (key n m) = true
  · rw [if_pos h, if_pos h]
    unfold sumsK
    rw [List.map_map]
    refine List.map_congr_left fun k _ => ?_
    simp only [Function.comp]
    rw [sumK_snoc]
    by_cases e : k = key n m
    · rw [if_pos e, if_pos e.symm, e]
    · rw [if_neg e, if_neg (fun z => e z.symm), Int.add_zero]
  · rw [if_neg h, if_neg h, List.map_append]
    unfold sumsK
    congr 1
    · refine List.map_congr_left fun k hk' => ?_
      rw [sumK_snoc, if_neg (fun z => ?_), Int.add_zero]
      subst z
      exact h (List.contains_iff_mem.mpr (keysK_mem.mp hk'))
    · show [_] = [(key n m, sumK n (F ++ [m]) (key n m))]
      rw [sumK_snoc, if_pos rfl]
theorem sum_perm {a b : List Int} (h : a.Perm b) : a.sum = b.sum := by
  induction h with
  | nil => rfl
  | cons x _ ih => simp [ih]
  | swap x y l => simp only [List.sum_cons]; omega
  | trans _ _ h1 h2 => exact h1.trans h2
theorem sumK_perm {n : Nat} {F G : List Mv} (h : F.Perm G) (k : K2) : sumK n F k = sumK n G k := sum_perm ((h.filter _).map _)
theorem key_mvOf {n : Nat} {p : Sv} (h : AccOk p.2.1) : key n (mvOf p) = (joined (p.2.1.take n), p.2.2.2) := by
  unfold key mvOf firstNames
  simp only
  rw [h.1]
def tellSums (out : List K2) (f : K2 → Int) : Bytes := out.flatMap fun k => if f k = 0 then [] else line [k.1, told (f k), k.2]
theorem balance_eq {n : Nat} {L : List Sv} {F : List Mv} {out : List K2} (hp : F.Perm (L.map mvOf)) (hg : ∀ p ∈ L, GoodS p) (hn : out.Nodup) (hs : out.Pairwise fun x y => kLt y x = false) (hm : ∀ k, k ∈ out ↔ k ∈ F.map (key n)) :
    tellSums out (sumK n F) = Sf42.balance L n := by
  have hmap : L.map (fun p => key n (mvOf p)) = L.map fun p => (joined (p.2.1.take n), p.2.2.2) := List.map_congr_left fun p h => key_mvOf (hg p h).acc
  have hkeys : out = keys L n := by
    have e : keys L n = ((L.map fun p => (joined (p.2.1.take n), p.2.2.2)).eraseDups).mergeSort kLe := rfl
    rw [e]
    refine sorted_eq hn ?_ hs (mergeSort_kLe _) fun k => ?_
    · exact (List.mergeSort_perm _ _).nodup_iff.mpr (nodup_eraseDups _)
    · rw [hm, List.mem_mergeSort, List.mem_eraseDups, ← hmap]
      have := (hp.map (key n)).mem_iff (a := k)
      rw [this, List.map_map]
      rfl
  unfold tellSums Sf42.balance
  rw [hkeys]
  congr 1
  funext k
  have es : sumK n F k = ((L.filter fun p => joined (p.2.1.take n) == k.1 && p.2.2.2 == k.2).map fun p => p.2.2.1).sum := by
    rw [sumK_perm hp]
    unfold sumK
    rw [List.filter_map, List.map_map]
    congr 2
    refine List.filter_congr fun p h => ?_
    show (key n (mvOf p) == k) = _
    rw [key_mvOf (hg p h).acc]
    obtain ⟨k1, k2⟩ := k
    rfl
  simp only
  rw [es]

/-! ### sizes of sums -/
theorem natAbs_sum : ∀ l : List Int, l.sum.natAbs ≤ (l.map Int.natAbs).sum
  | [] => Nat.le_refl _
  | a :: l => by
    have := natAbs_sum l
    rw [List.sum_cons, List.map_cons, List.sum_cons]
    omega
theorem sum_sub {l l' : List Nat} (h : l.Sublist l') : l.sum ≤ l'.sum := by
  induction h with
  | slnil => exact Nat.le_refl _
  | cons a _ ih => rw [List.sum_cons]; omega
  | cons_cons a _ ih => rw [List.sum_cons, List.sum_cons]; omega
theorem sumK_size (n : Nat) {F ms : List Mv} (h : F.Sublist ms) (k : K2) : (sumK n F k).natAbs ≤ size (prs ms) k.2 := by
  unfold sumK
  refine Nat.le_trans (natAbs_sum _) ?_
  unfold size prs
  rw [List.filter_map, List.map_map, List.map_map]
  refine Nat.le_trans (sum_sub (l' := (F.filter fun m => m.2.2.1 == k.2).map fun m => m.2.2.2.natAbs) ?_) (sum_sub ?_)
  · refine List.Sublist.map _ ?_
    have : (F.filter fun m => key n m == k) = (F.filter fun m => m.2.2.1 == k.2).filter fun m => key n m == k := by
      rw [List.filter_filter]
      refine List.filter_congr fun m _ => ?_
      by_cases e : key n m = k
      · have e2 : m.2.2.1 = k.2 := by rw [← e]; rfl
        simp [e, e2]
      · simp [e]
    rw [this]
    exact List.filter_sublist
  · exact (h.filter _).map _
end Ev

set_option Elab.async false
set_option linter.all false
set_option maxRecDepth 100000
set_option maxHeartbeats 2000000
namespace Ev
open PySem PySem.Spec PyProof.Rows L2
open Sf42 (Bytes)

theorem absI (z : Int) : (if z < 0 then -z else z) = (z.natAbs : Int) := by split <;> omega
/-! ### a list in a box: a list that a method changes, told apart from all other lists -/
def box (a : Addr) (xs : List V) : HO := .ext fun h => xs.length ≤ sizeLine ∧ ∃ (its : List Value) (n : Nat), Vals xs its ∧ h.get? a = some { cls := .type "list", data := .seq its.toArray n }
theorem upd_self {H : Hp} {a : Addr} {o : HO} (h : H a = some o) : L2.upd H a o = H := by
  funext b
  by_cases e : b = a
  · subst e; rw [upd_same, h]
  · rw [upd_ne e]
section
variable {X : Cx} {pins : List (Addr × Obj)} {σ : L2.St} {H : Hp} {s : Shared} {a : Addr} {xs : List V}
theorem inv_box (I : Inv X pins σ H s) (h : H a = some (.lst xs)) : Inv X pins σ (L2.upd H a (box a xs)) s := by
  obtain ⟨z, its, n, r, e⟩ := (show ObjOk X.prog X.w H s.heap a (.lst xs) from I.hok a _ h)
  refine I.write (h' := s.heap) (t' := s.toks) (x := a) (e := a) (by rw [h]; exact True.intro) (.inl rfl) (fun b u _ q => q) ⟨_, e⟩ ?_
  exact ⟨⟨z, its, n, r, e⟩, ⟨_, e⟩, fun h1 h2 ⟨z, its, n, r, e⟩ k => ⟨z, its, n, r, k _ e⟩⟩
theorem inv_unbox (I : Inv X pins σ H s) (h : H a = some (box a xs)) : Inv X pins σ (L2.upd H a (.lst xs)) s := by
  obtain ⟨⟨z, its, n, r, e⟩, _⟩ := (show ObjOk X.prog X.w H s.heap a (box a xs) from I.hok a _ h)
  exact I.write (h' := s.heap) (t' := s.toks) (x := a) (e := a) (by rw [h]; exact True.intro) (.inl rfl) (fun b u _ q => q) ⟨_, e⟩ ⟨z, its, n, r, e⟩
end
/-- a list that e has made goes into the box -/
def tBox (t : TE) : TE := fun σ H Q => t σ H fun v H1 => ∃ a xs, H1 a = some (.lst xs) ∧ Q v (L2.upd H1 a (box a xs))
theorem pe_box {X : Cx} {e : Expr} {t : TE} (h : PE X e t) : PE X e (tBox t) := by
  refine ⟨fun pins s σ H Q I hw => ?_⟩
  refine thn (h.run pins s σ H _ I hw) fun v s1 ⟨x, H1, I1, r, a, xs, ha, q⟩ => ?_
  exact ⟨x, _, inv_box I1 ha, r, q⟩
/-- the box is opened for e, and closed behind it -/
def tOpen (t : TE) : TE := fun σ H Q => ∃ a xs, H a = some (box a xs) ∧ t σ (L2.upd H a (.lst xs)) fun v H1 => ∃ ys, H1 a = some (.lst ys) ∧ Q v (L2.upd H1 a (box a ys))
theorem pe_open {X : Cx} {e : Expr} {t : TE} (h : PE X e t) : PE X e (tOpen t) := by
  refine ⟨fun pins s σ H Q I hw => ?_⟩
  obtain ⟨a, xs, ha, hw⟩ := hw
  refine thn (h.run pins s σ _ _ (inv_unbox I ha) hw) fun v s1 ⟨x, H1, I1, r, ys, hy, q⟩ => ?_
  exact ⟨x, _, inv_box I1 hy, r, q⟩
/-- the box is opened for good -/
def tUnbox (t : TE) : TE := fun σ H Q => ∃ a xs, H a = some (box a xs) ∧ t σ (L2.upd H a (.lst xs)) Q
theorem pe_unbox {X : Cx} {e : Expr} {t : TE} (h : PE X e t) : PE X e (tUnbox t) := by
  refine ⟨fun pins s σ H Q I hw => ?_⟩
  obtain ⟨a, xs, ha, hw⟩ := hw
  exact h.run pins s σ _ _ (inv_unbox I ha) hw

/-! ### xs.extend(t), t a tuple -/
section
open PySem.SeqAt
open PySem.AutoSeq1 (wpAny_loadPart')
open PySem.MeetsSeq PySem.MeetsSeq2 PySem.MeetsSeq3
theorem ext_tup (l b : Addr) (us vs : Array Value) (n m : Nat) (dd : Option Addr) (sl : Array (Option Value)) (h0 : ¬ (!us.isEmpty && Builtin.List.listTooLong (us.size + vs.size)) = true) (h1 : us.size ≤ sizeLine) (h2 : us.size + vs.size ≤ sizeLine + 1) :
    Meets (Builtin.«list.extend» ⟨[.ref l, .ref b], []⟩) (fun _ R s => s.heap.get? l = some { cls := .type "list", data := .seq us n } ∧ s.heap.get? b = some { cls := .type "tuple", dict := dd, data := .seq vs m, slots := sl } ∧
      R (.ok (.ret Value.none)) { s with heap := s.heap.update l (Obj.mapSeq fun x => x ++ vs), toks := s.toks }) := by
  refine .of_wp fun prog w A R s h => ?_
  obtain ⟨hp, g, d, tk, os⟩ := s
  obtain ⟨hl, hb, h⟩ := h
  have e1 := AutoSeq1.sub_tuple_tuple
  have e2 := AutoSeq1.sub_list_list
  have e3 := AutoSeq1.sub_tuple_list
  have e4 := AutoSeq1.sub_list_tuple
  have hz : (us ++ vs).size ≤ sizeLine + 1 := by
    rw [Array.size_append]
    exact h2
  wp_walk using (wpAny_updateSeq hl rfl (hz := h1) (_hz' := hz)), wpAny_loadPart' hl, wpAny_loadPart' hb
  exact ⟨_, rfl, h⟩
end
def rExtendT (K : PySem.W.Frag) : V → List V → Hp → VK → Prop := fun x vs H Q => ∃ l b xs zs, x = .ref l ∧ vs = [.ref b] ∧ H l = some (.lst xs) ∧ SqT K H b zs ∧ xs.length + zs.length ≤ sizeLine ∧ Q .non (L2.upd H l (.lst (xs ++ zs)))
theorem mt_extendT {X : Cx} : MtM X "list.extend" (rExtendT X.K) := by
  intro pins s σ H x vs v us Q I rx rv h
  obtain ⟨l, b, xs, zs, rfl, rfl, hH, hB, hz, q⟩ := h
  cases rx
  obtain ⟨u, rfl, ru⟩ := rv.one
  cases ru
  obtain ⟨z, its, n, r, hl, e⟩ := I.lstM hH
  obtain ⟨its2, r2, p2, z2⟩ := I.tuple hB
  obtain ⟨⟨cls, dd, data, sl⟩, ho, hc, n2, hd⟩ := id p2
  simp only at hc hd
  subst hc hd
  have hl2 := r2.length
  have hsz : its.toArray.size + its2.toArray.size ≤ sizeLine := by rw [List.size_toArray, List.size_toArray]; omega
  have hlong : ¬ (!its.toArray.isEmpty && Builtin.List.listTooLong (its.toArray.size + its2.toArray.size)) = true := by
    rw [notLongL hsz, Bool.and_false]
    decide
  refine call_meets PySem.F.slot_list_extend ⟨_, e, rfl⟩ PySem.F.entry_list_extend (PySem.F.args_list_extend_2 _ _) (ext_tup l b its.toArray its2.toArray n n2 dd sl hlong (by rw [List.size_toArray]; omega) (by omega)) ⟨e, ho, ?_⟩
  refine ⟨.non, _, I.lset (its' := its ++ its2) hH e (by simp) (r.append r2) ?_, rfl, q⟩
  rw [List.length_append]
  exact hz

/-! ### keys that are pairs of tuples -/
def nums (b : Bytes) : List NestedKey := b.map fun c => .num (c.toNat : Int)
def nk (k : K2) : NestedKey := .tup [.tup (nums k.1), .tup (nums k.2)]
theorem nums_inj : ∀ {a b : Bytes}, nums a = nums b → a = b
  | [], [], _ => rfl
  | [], _ :: _, h => by cases h
  | _ :: _, [], h => by cases h
  | c :: r, d :: t, h => by
    unfold nums at h
    rw [List.map_cons, List.map_cons] at h
    injection h with h1 h2
    injection h1 with h1
    rw [toNat_eq.mp h1, nums_inj h2]
theorem nk_inj {k j : K2} (h : nk k = nk j) : k = j := by
  unfold nk at h
  injection h with h
  injection h with h1 h2
  injection h2 with h2 _
  injection h1 with h1
  injection h2 with h2
  exact Prod.ext (nums_inj h1) (nums_inj h2)
theorem nums_depth : ∀ b : Bytes, NestedKey.depthAll (nums b) = 0
  | [] => rfl
  | c :: r => by
    unfold nums
    rw [List.map_cons]
    unfold NestedKey.depthAll
    have := nums_depth r
    unfold nums at this
    rw [this]
    rfl
theorem nk_depth (k : K2) : (nk k).depth ≤ 8 := by
  unfold nk
  simp only [NestedKey.depth, NestedKey.depthAll, nums_depth]
  decide
/-- the tuple of the two tuples of k stands at b -/
def NK (H : Hp) (b : Addr) (k : K2) : Prop := ∃ p q, H b = some (.tup [.ref p, .ref q]) ∧ H p = some (.tup (vb k.1)) ∧ H q = some (.tup (vb k.2))
theorem vb_inj : ∀ {a b : Bytes}, vb a = vb b → a = b
  | [], [], _ => rfl
  | [], _ :: _, h => by cases h
  | _ :: _, [], h => by cases h
  | c :: r, d :: t, h => by
    unfold vb at h
    rw [List.map_cons, List.map_cons] at h
    injection h with h1 h2
    rw [toNat_eq.mp (V.int.inj h1), vb_inj h2]
theorem NK.inj {H : Hp} {b : Addr} {k j : K2} (h : NK H b k) (h' : NK H b j) : k = j := by
  obtain ⟨p, q, h1, h2, h3⟩ := h
  obtain ⟨p', q', g1, g2, g3⟩ := h'
  rw [h1] at g1
  cases g1
  rw [h2] at g2
  rw [h3] at g3
  injection g2 with g2
  injection g2 with g2
  injection g3 with g3
  injection g3 with g3
  exact Prod.ext (vb_inj g2) (vb_inj g3)
theorem NK.keep {H H' : Hp} {b : Addr} {k : K2} (h : NK H b k) (e : ∀ a xs, H a = some (.tup xs) → H' a = some (.tup xs)) : NK H' b k := by
  obtain ⟨p, q, h1, h2, h3⟩ := h
  exact ⟨p, q, e _ _ h1, e _ _ h2, e _ _ h3⟩
theorem nums_all {h : Heap} : ∀ {b : Bytes} {its : List Value}, Vals (vb b) its → NestedAll h (nums b) its
  | [], _, r => by cases r; exact .nil
  | c :: b, _, r => by
    unfold vb at r
    rw [List.map_cons] at r
    cases r with
    | cons r1 r2 =>
      obtain ⟨t, rfl⟩ := r1
      exact .cons (.int _ _) (nums_all r2)
theorem tup_nested {P : Program} {w : World} {H : Hp} {h : Heap} (ok : HOk P w H h) {a : Addr} {b : Bytes} (e : H a = some (.tup (vb b))) : NestedIs h (.tup (nums b)) (.ref a) := by
  obtain ⟨_, its, r, o, h1, h2, n, h3⟩ := (show ObjOk P w H h a (.tup (vb b)) from ok a _ e)
  exact .tup h1 h2 h3 (by simpa using nums_all r)
theorem nk_of {P : Program} {w : World} {H : Hp} {h : Heap} (ok : HOk P w H h) {b : Addr} {k : K2} (e : NK H b k) : (nestedKind P w).is h (nk k) b := by
  obtain ⟨p, q, e1, e2, e3⟩ := e
  obtain ⟨_, its, r, o, h1, h2, n, h3⟩ := (show ObjOk P w H h b (.tup [.ref p, .ref q]) from ok b _ e1)
  refine ⟨.tup h1 h2 h3 ?_, nk_depth k⟩
  cases r with
  | cons r1 r2 =>
    cases r2 with
    | cons r2 r3 =>
      cases r3
      cases r1
      cases r2
      exact .cons (tup_nested ok e2) (.cons (tup_nested ok e3) .nil)

/-! ### a dict with such keys and whole numbers as values -/
abbrev Ent := K2 × Addr × Int
abbrev EntAt : Ent → NestedKey × Addr × Value → Prop := fun x y => y.1 = nk x.1 ∧ y.2.1 = x.2.1 ∧ RelV (.int x.2.2) y.2.2
def nd (P : Program) (w : World) (a : Addr) (xs : List Ent) : HO := .ext fun h => xs.length ≤ sizeLine ∧ (a == sysModules) = false ∧ (xs.map (·.1)).Nodup ∧ ∃ ys : List (NestedKey × Addr × Value), Paired EntAt xs ys ∧
  ∃ o es ep, h.get? a = some o ∧ o.ExactDict ∧ o.data = .dict es ep ∧ es.toList = ys.map (entryOfKey (nestedKind P w))
def NKs (H : Hp) (xs : List Ent) : Prop := ∀ x ∈ xs, NK H x.2.1 x.1
theorem NKs.keep {H H' : Hp} {xs : List Ent} (h : NKs H xs) (e : ∀ a ys, H a = some (.tup ys) → H' a = some (.tup ys)) : NKs H' xs := fun x hx => (h x hx).keep e
def xget (xs : List Ent) (k : K2) : Option Int := (xs.find? fun x => decide (x.1 = k)).map (·.2.2)
def xput (xs : List Ent) (k : K2) (b : Addr) (v : Int) : List Ent := if (xs.any fun x => decide (x.1 = k)) = true then xs.map (fun x => if x.1 = k then (x.1, x.2.1, v) else x) else xs ++ [(k, b, v)]
def tabOf (xs : List Ent) : Tab2 := xs.map fun x => (x.1, x.2.2)
theorem xget_tab (xs : List Ent) (k : K2) : xget xs k = t2get (tabOf xs) k := by
  unfold xget t2get tabOf
  rw [List.find?_map, Option.map_map]
  rfl
theorem xput_tab (xs : List Ent) (k : K2) (b : Addr) (v : Int) : tabOf (xput xs k b v) = t2put (tabOf xs) k v := by
  unfold xput t2put tabOf
  rw [List.any_map]
  have e : ((fun q : K2 × Int => decide (q.1 = k)) ∘ fun x : Ent => (x.1, x.2.2)) = fun x : Ent => decide (x.1 = k) := rfl
  rw [e]
  by_cases h : (xs.any fun x => decide (x.1 = k)) = true
  · rw [if_pos h, if_pos h, List.map_map, List.map_map]
    refine List.map_congr_left fun x _ => ?_
    simp only [Function.comp]
    by_cases e : x.1 = k
    · rw [if_pos e, if_pos e]
    · rw [if_neg e, if_neg e]
  · rw [if_neg h, if_neg h, List.map_append]
    rfl
theorem xput_keys (xs : List Ent) (k : K2) (b : Addr) (v : Int) : (xput xs k b v).map (·.1) = if (xs.any fun x => decide (x.1 = k)) = true then xs.map (·.1) else xs.map (·.1) ++ [k] := by
  unfold xput
  by_cases h : (xs.any fun x => decide (x.1 = k)) = true
  · rw [if_pos h, if_pos h, List.map_map]
    refine List.map_congr_left fun x _ => ?_
    simp only [Function.comp]
    by_cases e : x.1 = k
    · rw [if_pos e]
    · rw [if_neg e]
  · rw [if_neg h, if_neg h, List.map_append]
    rfl
theorem xput_nodup {xs : List Ent} (hn : (xs.map (·.1)).Nodup) (k : K2) (b : Addr) (v : Int) : ((xput xs k b v).map (·.1)).Nodup := by
  rw [xput_keys]
  by_cases h : (xs.any fun x => decide (x.1 = k)) = true
  · rw [if_pos h]; exact hn
  · rw [if_neg h, List.nodup_append]
    refine ⟨hn, by simp, fun a ha c hc => ?_⟩
    have e := List.mem_singleton.mp hc
    subst e
    intro z
    subst z
    obtain ⟨x, hx, e⟩ := List.mem_map.mp ha
    exact h (List.any_eq_true.mpr ⟨x, hx, decide_eq_true e⟩)
theorem xput_len (xs : List Ent) (k : K2) (b : Addr) (v : Int) : (xput xs k b v).length ≤ xs.length + 1 := by
  unfold xput
  split
  · rw [List.length_map]; omega
  · rw [List.length_append]; exact Nat.le_refl _
theorem xput_nks {H : Hp} {xs : List Ent} {k : K2} {b : Addr} {v : Int} (h : NKs H xs) (hb : NK H b k) : NKs H (xput xs k b v) := by
  intro x hx
  unfold xput at hx
  split at hx
  · obtain ⟨y, hy, rfl⟩ := List.mem_map.mp hx
    by_cases e : y.1 = k
    · rw [if_pos e]; exact h y hy
    · rw [if_neg e]; exact h y hy
  · rcases List.mem_append.mp hx with hx | hx
    · exact h x hx
    · rw [List.mem_singleton.mp hx]
      exact hb
section
variable {xs : List Ent} {ys : List (NestedKey × Addr × Value)}
theorem ent_get (r : Paired EntAt xs ys) (k : K2) : RelO ((xget xs k).map V.int) ((atKey ys (nk k)).map (·.2)) := by
  induction r with
  | nil => exact True.intro
  | @cons x y l m h t ih =>
    obtain ⟨h1, h2, h3⟩ := h
    by_cases e : x.1 = k
    · have e' : y.1 = nk k := by rw [h1, e]
      have a1 : xget (x :: l) k = some x.2.2 := by simp [xget, e]
      have a2 : atKey (y :: m) (nk k) = some y.2 := by simp [atKey, e']
      rw [a1, a2]
      exact h3
    · have e' : ¬ y.1 = nk k := fun z => e (nk_inj (h1.symm.trans z))
      have a1 : xget (x :: l) k = xget l k := by simp [xget, e]
      have a2 : atKey (y :: m) (nk k) = atKey m (nk k) := by simp [atKey, e']
      rw [a1, a2]
      exact ih
theorem ent_any (r : Paired EntAt xs ys) (k : K2) : (atKey ys (nk k)).isSome = xs.any fun x => decide (x.1 = k) := by
  induction r with
  | nil => rfl
  | @cons x y l m h t ih =>
    obtain ⟨h1, h2, h3⟩ := h
    rw [List.any_cons, ← ih]
    by_cases e : x.1 = k
    · have e' : y.1 = nk k := by rw [h1, e]
      simp [atKey, e', e]
    · have e' : ¬ y.1 = nk k := fun z => e (nk_inj (h1.symm.trans z))
      simp [atKey, e', e]
theorem ent_put (r : Paired EntAt xs ys) (k : K2) (b : Addr) {v : Int} {u : Value} (rv : RelV (.int v) u) : Paired EntAt (xput xs k b v) (storedH ys (nk k) b u) := by
  unfold xput storedH
  rw [ent_any r k]
  by_cases h : (xs.any fun x => decide (x.1 = k)) = true
  · rw [if_pos h, if_pos h]
    clear h
    induction r with
    | nil => exact .nil
    | @cons x y l m h t ih =>
      obtain ⟨h1, h2, h3⟩ := h
      rw [List.map_cons, List.map_cons]
      refine .cons ?_ ih
      unfold putAt
      by_cases e : x.1 = k
      · have e' : y.1 = nk k := by rw [h1, e]
        rw [if_pos e, if_pos e']
        exact ⟨h1, h2, rv⟩
      · have e' : ¬ y.1 = nk k := fun z => e (nk_inj (h1.symm.trans z))
        rw [if_neg e, if_neg e']
        exact ⟨h1, h2, h3⟩
  · rw [if_neg h, if_neg h]
    exact Paired.snoc r ⟨rfl, rfl, rv⟩
theorem ent_nodup (r : Paired EntAt xs ys) (hn : (xs.map (·.1)).Nodup) : (ys.map (·.1)).Nodup := by
  have e : ys.map (·.1) = (xs.map (·.1)).map nk := by
    clear hn
    induction r with
    | nil => rfl
    | cons h t ih => rw [List.map_cons, List.map_cons, List.map_cons, ih, h.1]
  rw [e]
  exact List.Pairwise.map nk (fun a b h z => h (nk_inj z)) hn
end
theorem nd_of {P : Program} {w : World} {H : Hp} {h : Heap} {a : Addr} {xs : List Ent} (ok : HOk P w H h) (e : H a = some (nd P w a xs)) (ks : NKs H xs) :
    xs.length ≤ sizeLine ∧ (a == sysModules) = false ∧ ∃ ys, Paired EntAt xs ys ∧ h.DictOfH (nestedKind P w) a ys := by
  obtain ⟨⟨z, y, hn, ys, r, o, es, ep, h1, h2, h3, h4⟩, st⟩ := (show ObjOk P w H h a (nd P w a xs) from ok a _ e)
  refine ⟨z, y, ys, r, o, es, ep, h1, h2, h3, h4, ?_, ent_nodup r hn⟩
  clear h4 hn z e st
  induction r with
  | nil => intro x hx; cases hx
  | @cons x y l m q t ih =>
    intro c hc
    rcases List.mem_cons.mp hc with rfl | hc
    · rw [q.1, q.2.1]
      exact nk_of ok (ks x (List.mem_cons_self ..))
    · exact ih (fun d hd => ks d (List.mem_cons_of_mem _ hd)) c hc
theorem nd_new {P : Program} {w : World} {H : Hp} {h : Heap} {a : Addr} {xs : List Ent} {ys : List (NestedKey × Addr × Value)} (z : xs.length ≤ sizeLine) (y : (a == sysModules) = false) (hn : (xs.map (·.1)).Nodup) (r : Paired EntAt xs ys)
    (dd : ∃ o es ep, h.get? a = some o ∧ o.ExactDict ∧ o.data = .dict es ep ∧ es.toList = ys.map (entryOfKey (nestedKind P w))) : ObjOk P w H h a (nd P w a xs) := by
  refine ⟨⟨z, y, hn, ys, r, dd⟩, let ⟨o, _, _, e, _⟩ := dd; ⟨o, e⟩, fun h1 h2 q k => ?_⟩
  obtain ⟨z, y, hn, ys, r, o, es, ep, e, q⟩ := q
  exact ⟨z, y, hn, ys, r, o, es, ep, k _ e, q⟩

/-! ### {}, d.get(k, x), d[k], d[k] = v -/
section
variable {X : Cx} {o e f i value : Expr} {pos pos' apos cpos : Pos} {td ty tx tv : TE}
def tNNew (P : Program) (w : World) : TE := fun _ H Q => ∀ p, H p = none → Q (.ref p) (L2.upd H p (nd P w p []))
theorem pe_nnew : PE X (.Dict [] [] pos) (tNNew X.prog X.w) := ⟨fun pins s σ H Q I h =>
  wpAny_Dict_empty ⟨.ref s.heap.objs.size, _, I.laid (a := s.heap.objs.size) (o := nd X.prog X.w s.heap.objs.size []) (t' := s.toks) (fun _ _ q => Heap.get?_push_of_some _ q) (Nat.le_refl _)
    (nd_new (Nat.zero_le _) (beq_eq_false_iff_ne.mpr (Ne.symm (Nat.ne_of_lt I.big))) List.nodup_nil .nil ⟨_, #[], 0, Heap.get?_push_size _ rfl, ⟨rfl, rfl, rfl⟩, rfl, rfl⟩), rfl, h _ (I.hok.fresh (Nat.le_refl _))⟩⟩
theorem nroom {A : Around} (hu : A.units + 64 < cLine) : (nestedKind X.prog X.w).room A.in1 := by
  show A.in1.units + 8 < cLine
  rw [Around.in1_units]
  omega
def tNGet2 (P : Program) (w : World) (td ty tx : TE) : TE := fun σ H Q => td σ H fun x H1 => ∃ a xs, x = .ref a ∧ H1 a = some (nd P w a xs) ∧ ty σ H1 fun y H2 => tx σ H2 fun z H3 =>
  ∃ xs' b k, y = .ref b ∧ H3 a = some (nd P w a xs') ∧ NKs H3 xs' ∧ NK H3 b k ∧ Q (((xget xs' k).map V.int).getD z) H3
theorem nd_type {pins : List (Addr × Obj)} {σ : L2.St} {H : Hp} {s : Shared} {a : Addr} {xs : List Ent} (I : Inv X pins σ H s) (e : H a = some (nd X.prog X.w a xs)) :
    s.TypeIs (.ref a) "dict" ∧ ∀ b, Value.ref a = .ref b → ∃ ob, s.heap.get? b = some ob ∧ ob.dict = none := by
  obtain ⟨⟨_, _, _, _, _, ob, _, _, h1, h2, _⟩, _⟩ := (show ObjOk X.prog X.w H s.heap a (nd X.prog X.w a xs) from I.hok a _ e)
  refine ⟨⟨ob, h1, h2.1⟩, fun b q => ?_⟩
  cases q
  exact ⟨ob, h1, h2.2.1⟩
theorem pe_nget2 (hu : X.A.units + 64 < cLine) (ho : PE X o td) (he : PE X e ty) (hf : PE X f tx) (m : M2 X o "get" apos e f cpos) : PE X (.Call (.Attribute o "get" apos) [e, f] [] cpos) (tNGet2 X.prog X.w td ty tx) := by
  refine ⟨fun pins s σ H Q I h => ?_⟩
  refine wpAny_Call_method m.base m.few m.line PySem.F.plainAttrs_dict PySem.F.slot_dict_get PySem.F.type_dict_get (thn (ho.run pins s σ H _ I h) fun u s1 ⟨x, H1, I1, rx, a, xs, ex, d, q1⟩ => ?_)
  subst ex
  obtain rfl : u = Value.ref a := rx
  obtain ⟨t1, t2⟩ := nd_type I1 d
  refine ⟨t1, t2, ?_⟩
  rw [m.trees]
  refine Calls.callWith_builtin rfl (Calls.evalArgs_plain (Calls.spliced_cons (thn (he.run pins s1 σ H1 _ I1 q1) fun iv s2 ⟨y, H2, I2, ry, q2⟩ =>
    Calls.spliced_cons (thn (hf.run pins s2 σ H2 _ I2 q2) fun fv s3 ⟨z, H3, I3, rz, xs', b, k, ey, hd, hks, hk, q3⟩ => Calls.spliced_nil ?_))))
  subst ey
  cases (show iv = Value.ref b from ry)
  obtain ⟨_, lo, ys, rel, dd⟩ := nd_of I3.hok hd hks
  refine call_meetsIn PySem.F.slot_dict_get dd.typeIs PySem.F.entry_dict_get (PySem.F.args_dict_get_3 _ _ _) (meetsH_dict_get_default (nestedKind X.prog X.w) a b lo fv) ⟨nroom hu, nk k, ys, nk_of I3.hok hk, dd, ?_⟩
  exact ⟨_, H3, I3.tok _, (ent_get rel k).getD rz, q3⟩
def tNGet (P : Program) (w : World) (td ty : TE) : TE := fun σ H Q => td σ H fun x H1 => ty σ H1 fun y H2 => ∃ a xs b k v, x = .ref a ∧ y = .ref b ∧ H2 a = some (nd P w a xs) ∧ NKs H2 xs ∧ NK H2 b k ∧ xget xs k = some v ∧ Q (.int v) H2
theorem pe_nget (hu : X.A.units + 64 < cLine) (ho : PE X o td) (hi : PE X i ty) (hs : NoSl i) : PE X (.Subscript o i pos) (tNGet X.prog X.w td ty) := by
  refine ⟨fun pins s σ H Q I h => ?_⟩
  refine subD_of PySem.F.slot_dict_getitem.lookup hs (thn (ho.run pins s σ H _ I h) fun u s1 ⟨x, H1, I1, rx, q1⟩ => thn (hi.run pins s1 σ H1 _ I1 q1) fun iv s2 ⟨y, H2, I2, ry, a, xs, b, k, v, ex, ey, hd, hks, hk, hv, q2⟩ => ?_)
  subst ex ey
  obtain rfl : u = Value.ref a := rx
  cases (show iv = Value.ref b from ry)
  refine ⟨(nd_type I2 hd).1, ?_⟩
  obtain ⟨_, lo, ys, rel, dd⟩ := nd_of I2.hok hd hks
  have rr : RelO (some (V.int v)) ((atKey ys (nk k)).map fun x => x.2) := by
    have z := ent_get rel k
    rw [hv] at z
    exact z
  obtain ⟨w', hw, rw'⟩ := RelO.some_of rr
  obtain ⟨p, hp, hp2⟩ := Option.map_eq_some_iff.mp hw
  refine wpAny_getItem_heap (nroom hu) (nk_of I2.hok hk) dd hp ?_
  rw [hp2]
  exact ⟨_, H2, I2.tok _, rw', q2⟩
def sNPut (P : Program) (w : World) (td ty tv : TE) : TS := fun D σ H => tv σ H fun v H1 => td σ H1 fun x H2 => ty σ H2 fun y H3 => ∃ a xs b k z, x = .ref a ∧ y = .ref b ∧ v = .int z ∧ H3 a = some (nd P w a xs) ∧ NKs H3 xs ∧ NK H3 b k ∧ xs.length < sizeLine ∧
  D.nx σ (L2.upd H3 a (nd P w a (xput xs k b z)))
theorem ps_nput (hu : X.A.units + 64 < cLine) (ho : PE X o td) (hi : PE X i ty) (hv : PE X value tv) (hs : swapsWith value (some (.Subscript o i pos')) pos.line X.env = pure false) :
    PS X (.Assign [.Subscript o i pos'] value pos) (sNPut X.prog X.w td ty tv) := by
  refine ⟨fun pins s σ H D I h => ?_⟩
  refine wpAny_Assign_Subscript (thn (hv.run pins s σ H _ I h) fun r s1 ⟨v, H1, I1, rv, q1⟩ => thn (ho.run pins s1 σ H1 _ I1 q1) fun u s2 ⟨x, H2, I2, rx, q2⟩ => thn (hi.run pins s2 σ H2 _ I2 q2) fun iv s3 ⟨y, H3, I3, ry, a, xs, b, k, z, ex, ey, ev, hd, hks, hk, hl, q3⟩ => ?_) hs
  subst ex ey ev
  obtain rfl : u = Value.ref a := rx
  cases (show iv = Value.ref b from ry)
  obtain ⟨_, lo, ys, rel, dd⟩ := nd_of I3.hok hd hks
  have hz : ys.length ≤ sizeLine := by rw [← Paired.length rel]; omega
  have hz2 : (xput xs k b z).length ≤ sizeLine := by have := xput_len xs k b z; omega
  have hnd : (xs.map (·.1)).Nodup := by
    obtain ⟨⟨_, _, hn, _⟩, _⟩ := (show ObjOk X.prog X.w H3 s3.heap a (nd X.prog X.w a xs) from I3.hok a _ hd)
    exact hn
  refine wpAny_setItem_heap (hsz := hz) (nroom hu) (nk_of I3.hok hk) dd fun h' dd' hs' => ?_
  obtain ⟨q, es, ep, hq, h2, h3, h4, _, h5⟩ := dd'
  exact ⟨σ, _, d_write I3 (by rw [hd]; exact True.intro) hs' ⟨q, hq⟩ (nd_new hz2 lo (xput_nodup hnd k b z) (ent_put rel k b rv) ⟨q, es, ep, hq, h2, h3, h4⟩), q3⟩
end
/-! ### sorted(d) -/
/-- the key of the entry at an address -/
def keyV (xs : List Ent) : Value → K2
  | .ref a => ((xs.find? fun x => decide (x.2.1 = a)).map (·.1)).getD ([], [])
  | _ => ([], [])
theorem keyV_at {H : Hp} {xs : List Ent} (ks : NKs H xs) {x : Ent} (hx : x ∈ xs) : keyV xs (.ref x.2.1) = x.1 := by
  cases e : xs.find? fun y => decide (y.2.1 = x.2.1) with
  | none =>
    rw [List.find?_eq_none] at e
    exact absurd (e x hx) (by simp)
  | some y =>
    have h1 := List.find?_some e
    have h2 : y.2.1 = x.2.1 := of_decide_eq_true h1
    have h3 := ks y (List.mem_of_find?_eq_some e)
    rw [h2] at h3
    show ((xs.find? fun y => decide (y.2.1 = x.2.1)).map (·.1)).getD ([], []) = x.1
    rw [e]
    exact h3.inj (ks x hx)
def ltE (xs : List Ent) (v u : Value) : Bool := kLt (keyV xs v) (keyV xs u)
theorem swo_ltE (xs : List Ent) : SrtO.Swo (ltE xs) := ⟨fun x y h => kLt_asym h, fun x y z h1 h2 => kLt_tr h1 h2⟩
def keyI (b : Bytes) : List Key := b.map fun c => Sum.inl (c.toNat : Int)
theorem keyI_inj : ∀ {a b : Bytes}, keyI a = keyI b → a = b
  | [], [], _ => rfl
  | [], _ :: _, h => by cases h
  | _ :: _, [], h => by cases h
  | c :: r, d :: t, h => by
    unfold keyI at h
    rw [List.map_cons, List.map_cons] at h
    injection h with h1 h2
    rw [toNat_eq.mp (Sum.inl.inj h1), keyI_inj h2]
/-- the order of tuples of bytes -/
theorem lexLt_before : ∀ a b : Bytes, HT.lexLt (a.map fun c => (c.toNat : Int)) (b.map fun c => (c.toNat : Int)) = Sf42.before a b
  | [], [] => rfl
  | [], _ :: _ => rfl
  | _ :: _, [] => rfl
  | c :: r, d :: t => by
    rw [List.map_cons, List.map_cons, HT.lexLt_cons, lexLt_before r t]
    show _ = (decide (c.toNat < d.toNat) || (c == d && Sf42.before r t))
    by_cases e : c = d
    · subst e
      rw [if_pos rfl]
      simp
    · rw [if_neg (fun z => e (toNat_eq.mp z)), beq_false_of_ne e, Bool.false_and, Bool.or_false]
      congr 1
      exact propext ⟨fun h => by omega, fun h => by omega⟩
/-- the tuple of the two tuples of k is the value v, in the raw heap -/
def RawK (h : Heap) (v : Value) (k : K2) : Prop := ∃ (b p q : Addr) (us vs : List Value), v = .ref b ∧ IsTup h b #[.ref p, .ref q] ∧ IsTup h p us.toArray ∧ IsTup h q vs.toArray ∧ Vals (vb k.1) us ∧ Vals (vb k.2) vs
theorem RawK.keep {h h' : Heap} {v : Value} {k : K2} (x : RawK h v k) (e : ∀ b o, h.get? b = some o → o.cls = .type "tuple" → h'.get? b = some o) : RawK h' v k := by
  obtain ⟨b, p, q, us, vs, ev, ⟨o1, a1, b1, c1⟩, ⟨o2, a2, b2, c2⟩, ⟨o3, a3, b3, c3⟩, r1, r2⟩ := x
  exact ⟨b, p, q, us, vs, ev, ⟨o1, e _ _ a1 b1, b1, c1⟩, ⟨o2, e _ _ a2 b2, b2, c2⟩, ⟨o3, e _ _ a3 b3, b3, c3⟩, r1, r2⟩
theorem raw_of {P : Program} {w : World} {H : Hp} {h : Heap} (ok : HOk P w H h) {b : Addr} {k : K2} (e : NK H b k) : RawK h (.ref b) k := by
  obtain ⟨p, q, e1, e2, e3⟩ := e
  obtain ⟨_, its, r, t1⟩ := (show ObjOk P w H h b (.tup [.ref p, .ref q]) from ok b _ e1)
  obtain ⟨_, us, r2, t2⟩ := (show ObjOk P w H h p (.tup (vb k.1)) from ok p _ e2)
  obtain ⟨_, vs, r3, t3⟩ := (show ObjOk P w H h q (.tup (vb k.2)) from ok q _ e3)
  cases r with
  | cons ra rb =>
    cases rb with
    | cons rb rc =>
      cases rc
      cases ra
      cases rb
      exact ⟨b, p, q, us, vs, rfl, t1, t2, t3, r2, r3⟩
theorem vb_ints {b : Bytes} {us : List Value} (r : Vals (vb b) us) : IntsAre us (b.map fun c => (c.toNat : Int)) := by
  have e : vb b = (b.map fun c => (c.toNat : Int)).map V.int := by
    unfold vb
    rw [List.map_map]
    rfl
  rw [e] at r
  exact Vals.ints r
theorem key_items {P : Program} {w : World} {b : Bytes} {us : List Value} (r : Vals (vb b) us) : ItemsAre (mixKind P w) (keyI b) us := by
  have e : vb b = (keyI b).map kV := by
    unfold vb keyI
    rw [List.map_map]
    rfl
  rw [e] at r
  exact items_are r
section
variable {prog : Program} {w : World} {A : Around} {E : Value → Shared → Prop} {s : Shared} {xs : List Ent}
theorem firsts_k : ∀ vs : List Value, (∀ v ∈ vs, ∃ k, RawK s.heap v k) → ∃ fs : List Value, PySem.W.KatTups s.heap vs fs ∧ fs.length = vs.length ∧ ∀ f ∈ fs, ∃ (q : Addr) (o : Obj), f = Value.ref q ∧ s.heap.get? q = some o ∧ o.cls = .type "tuple"
  | [], _ => ⟨[], PySem.W.KatTups.nil, rfl, fun f hf => by cases hf⟩
  | v :: vs, x => by
    obtain ⟨fs, k, hl, hi⟩ := firsts_k vs fun u hu => x u (List.mem_cons_of_mem _ hu)
    obtain ⟨k', b, p, q, us, ws, rfl, ⟨o, ho, hc, n, hd⟩, ⟨o2, ho2, hc2, _⟩, _⟩ := x v (List.mem_cons_self ..)
    refine ⟨.ref p :: fs, PySem.W.KatTups.cons ho hc hd rfl k, by rw [List.length_cons, List.length_cons, hl], fun f hf => ?_⟩
    rcases List.mem_cons.mp hf with rfl | hf
    · exact ⟨p, o2, rfl, ho2, hc2⟩
    · exact hi f hf
theorem cmp_k {vs : List Value} (hu : A.units < cLine) (hv : ∀ v ∈ vs, RawK s.heap v (keyV xs v)) : SrtO.Cmp prog w A s (tuples' false) (fun p => p.1 ∈ vs) (SrtO.lt2 (ltE xs)) := by
  intro p q hp hq
  show wpAny (model prog w) A (keyLt' (tuples' false) p.1 q.1) (fun r s' => s' = s ∧ r = kLt (keyV xs p.1) (keyV xs q.1)) (fun _ _ => False) s
  obtain ⟨b, b1, b2, us, us2, e1, ⟨o, ho, hc, n, hd⟩, t1, t2, r1, r2⟩ := hv _ hp
  obtain ⟨c, c1, c2, ws, ws2, f1, ⟨o', ho', hc', n', hd'⟩, g1, g2, l1, l2⟩ := hv _ hq
  generalize keyV xs p.1 = k at r1 r2 ⊢
  generalize keyV xs q.1 = j at l1 l2 ⊢
  rw [e1, f1]
  refine PySem.W.kat_lt ho hd ho' hd' ?_
  show PySem.W.KatLex prog w A false false _ [(Value.ref b1, Value.ref c1), (Value.ref b2, Value.ref c2)] 0 s
  have tk : ∀ {a : Addr} {z : Bytes} {its : List Value}, IsTup s.heap a its.toArray → Vals (vb z) its → IsTupleKey (mixKind prog w) s.heap (keyI z) a := by
    rintro a z its ⟨oa, ha, ca, na, da⟩ r
    exact ⟨oa, _, na, ha, ca, da, by simpa using key_items r⟩
  have lt : ∀ {a d : Addr} {y z : Bytes} {is js : List Value}, IsTup s.heap a is.toArray → IsTup s.heap d js.toArray → Vals (vb y) is → Vals (vb z) js → ∀ Q : Bool → Shared → Prop, Q (Sf42.before y z) s → wpAny (model prog w) A (oneLt' false (.ref a) (.ref d)) Q (fun _ _ => False) s := by
    intro a d y z is js ta td ry rz Q hQ
    refine PySem.W.kat_one _ _ (HT.lt_tupInts ta td (by simpa using vb_ints ry) (by simpa using vb_ints rz) hu ?_)
    rw [lexLt_before]
    exact hQ
  unfold kLt
  refine PySem.W.kat_cons (wpAny_eqBool_tuple hu (tk t1 r1) (tk g1 l1) ?_)
  refine PySem.W.kat_go (fun e => ?_) (fun e => ?_)
  · have ek := keyI_inj (of_decide_eq_true e)
    rw [if_pos ek]
    refine PySem.W.kat_yes (PySem.W.kat_cons (wpAny_eqBool_tuple hu (tk t2 r2) (tk g2 l2) ?_))
    refine PySem.W.kat_go (fun e' => ?_) (fun e' => ?_)
    · have ej := keyI_inj (of_decide_eq_true e')
      refine PySem.W.kat_yes (PySem.W.kat_nil ⟨rfl, ?_⟩)
      rw [ej, before_irrefl]
    · exact PySem.W.kat_no (lt t2 g2 r2 l2 _ ⟨rfl, rfl⟩)
  · have ek : ¬ k.1 = j.1 := fun z => of_decide_eq_false e (by rw [z])
    rw [if_neg ek]
    exact PySem.W.kat_no (lt t1 g1 r1 l1 _ ⟨rfl, rfl⟩)
theorem sortable_k {a : Addr} {vs : List Value} (h2 : 2 ≤ vs.length) (hu : A.units < cLine) (hv : ∀ v ∈ vs, RawK s.heap v (keyV xs v)) (ha : ∀ o, s.heap.get? a = some o → o.cls ≠ .type "tuple") : SrtO.SortableO prog w A s a vs (ltE xs) := by
  intro h' keep
  have hv' : ∀ v ∈ vs, RawK h' v (keyV xs v) := fun v hm => (hv v hm).keep fun b o e c => keep b o (fun z => by subst z; exact ha o e c) e
  obtain ⟨fs, k, hl, hi⟩ := firsts_k (s := { s with heap := h' }) vs fun v hm => ⟨_, hv' v hm⟩
  refine ⟨tuples' false, fun Q E hq => ?_, cmp_k hu hv'⟩
  refine PySem.W.kat_kind (T := Value.type "tuple") k (by omega) (fun f hf => ?_) rfl ?_
  · obtain ⟨q, o, rfl, ho, hc⟩ := hi f hf
    have z : PySem.W.Looks (model prog w) h' (typeOf (.ref q)) o.cls := (PySem.W.Looks.ld ho).andThen .now
    rw [hc] at z
    exact z
  · have e : (Value.type "tuple" != Value.type "tuple") = false := by first | rfl | decide | simp
    rw [e]
    exact hq
end
def rSortN (P : Program) (w : World) : List V → Hp → VK → Prop := fun vs H Q => ∃ (a : Addr) (xs : List Ent), vs = [.ref a] ∧ H a = some (nd P w a xs) ∧ NKs H xs ∧
  ∀ (out : List Ent) (p : Addr), out.Perm xs → out.Pairwise (fun x y => kLt y.1 x.1 = false) → H p = none → Q (.ref p) (L2.upd H p (.lst (out.map fun x => .ref x.2.1)))
theorem perm_map {α β : Type} {f : α → β} : ∀ {l : List α} {m : List β}, m.Perm (l.map f) → ∃ l' : List α, l'.Perm l ∧ m = l'.map f := by
  intro l m h
  generalize e : l.map f = n at h
  induction h generalizing l with
  | nil =>
    have := List.map_eq_nil_iff.mp e
    subst this
    exact ⟨[], .refl _, rfl⟩
  | @cons x l1 l2 _ ih =>
    obtain ⟨a, r, rfl, rfl, er⟩ := List.map_eq_cons_iff.mp e
    obtain ⟨l', p, e'⟩ := ih er
    exact ⟨a :: l', p.cons a, by rw [e']; rfl⟩
  | swap x y r =>
    obtain ⟨a, r1, rfl, rfl, er⟩ := List.map_eq_cons_iff.mp e
    obtain ⟨b, r2, rfl, rfl, er⟩ := List.map_eq_cons_iff.mp er
    exact ⟨b :: a :: r2, .swap a b r2, by rw [List.map_cons] at er; injection er with _ er; rw [List.map_cons, List.map_cons, er]⟩
  | @trans l1 l2 l3 _ _ h1 h2 =>
    obtain ⟨l', p, e'⟩ := h2 e
    obtain ⟨l'', p', e''⟩ := h1 e'.symm
    exact ⟨l'', p'.trans p, e''⟩
theorem cr_sortedN {X : Cx} (hc : X.calm = true) (hu : X.A.units + 64 < cLine) : CallR X (.builtin "sorted") (rSortN X.prog X.w) := by
  intro pins s σ H vs us Q I r q
  obtain ⟨a, xs, ex, hd, hks, q⟩ := q
  subst ex
  obtain ⟨u, eu, rx⟩ := vals1 r
  subst eu
  cases rx
  obtain ⟨hz, lo, ys, rel, dd⟩ := nd_of I.hok hd hks
  obtain ⟨o, es, ep, h1, h2, h3, h4, _, _⟩ := id dd
  have hsz : es.size = xs.length := by rw [size_of_entries h4, Paired.length rel]
  have raw : s.heap.DictRaw a es ep := ⟨o, h1, h2, h3⟩
  refine Calls.call_function_entry PyProof.Rows.kind_sorted PyProof.Rows.plain_sorted PyProof.Rows.entry_sorted (PyProof.Rows.args_sorted1 _) ?_
  unfold Builtin.«sorted»
  refine wpAny_bind (m := checkCount "sorted" 1 1 _) (wpAny_pure ?_)
  refine wpAny_bind (PySem.W.kdu_collect (A := X.A.in1) (PySem.KdlSrc.rawDict lo) (I.ok.hd hc) raw (by rw [hsz]; exact hz) fun h' tk acc hk hacc => ?_)
  have hacc' : acc.toList = xs.map fun x => Value.ref x.2.1 := by
    refine List.ext_getElem? fun j => ?_
    rw [List.getElem?_map]
    cases ej : acc.toList[j]? with
    | none =>
      have : ¬ j < xs.length := fun hj => by
        rw [List.getElem?_eq_none_iff, Array.length_toList, hacc.1, hsz] at ej
        omega
      rw [List.getElem?_eq_none (by omega)]
      rfl
    | some v =>
      obtain ⟨hj, ev⟩ := hacc.2 j v (by rw [← Array.getElem?_toList]; exact ej)
      have hj2 : j < xs.length := by omega
      have ey := entry_at h4 j
      have hyl : ys.length = xs.length := (Paired.length rel).symm
      have hy : ys[j]? = some ys[j] := List.getElem?_eq_getElem (by omega)
      obtain ⟨x, hx, hxy⟩ := DX.pget rel hy
      rw [hx]
      rw [hy, Array.getElem?_eq_getElem hj] at ey
      have ee : es[j] = entryOfKey (nestedKind X.prog X.w) ys[j] := Option.some.inj ey
      rw [ev, ee]
      show some (Value.ref ys[j].2.1) = some (Value.ref x.2.1)
      rw [hxy.2.1]
  have hal : acc.toList.length = xs.length := by rw [hacc', List.length_map]
  have I1 : Inv X pins σ H { s with heap := h', toks := tk } := I.kept hk
  refine wpAny_bind (wpAny_newList ?_ (by rw [hal]; exact hz))
  have hoL : (h'.push (seqObj "list" acc.toList.toArray 0)).get? h'.objs.size = some (seqObj "list" acc.toList.toArray 0) := Heap.get?_push_size _ rfl
  show wpAny _ _ _ _ _ { s with heap := h'.push (seqObj "list" acc.toList.toArray 0), toks := tk }
  have ok2 : HOk X.prog X.w H (h'.push (seqObj "list" acc.toList.toArray 0)) := I1.hok.kept fun b o e => Heap.get?_push_of_some _ e
  have hraw : ∀ v ∈ acc.toList, RawK (h'.push (seqObj "list" acc.toList.toArray 0)) v (keyV xs v) := fun v hv => by
    rw [hacc'] at hv
    obtain ⟨x, hx, rfl⟩ := List.mem_map.mp hv
    rw [keyV_at hks hx]
    exact raw_of ok2 (hks x hx)
  refine wpAny_bind (wpAny_holding (wpAny_call_entry PyProof.Rows.slot_list_sort ⟨_, hoL, rfl⟩ PyProof.Rows.entry_list_sort
    (SrtO.list_sort_ord (s := { s with heap := h'.push (seqObj "list" acc.toList.toArray 0), toks := tk }) (swo_ltE xs) hoL (by rw [hal]; exact hz)
      (fun h2 => sortable_k h2 (by simp only [Around.in1_units]; omega) hraw fun o e => ?_) fun out hs hb => ⟨_, rfl, ?_⟩) (PyProof.Rows.args_list_sort _)))
  · have e' : some o = some (seqObj "list" acc.toList.toArray 0) := e.symm.trans hoL
    cases e'
    intro c
    exact absurd (Value.type.inj c) (by decide)
  have hp := hb.perm
  rw [hacc'] at hp
  obtain ⟨os, po, eo⟩ := perm_map hp
  have hs' : os.Pairwise fun x y => kLt y.1 x.1 = false := by
    rw [eo] at hs
    have hs2 := List.pairwise_map.mp hs
    refine List.Pairwise.imp_of_mem ?_ hs2
    intro x y hx hy z
    have z' : kLt (keyV xs (Value.ref y.2.1)) (keyV xs (Value.ref x.2.1)) = false := z
    rw [keyV_at hks (po.mem_iff.mp hx), keyV_at hks (po.mem_iff.mp hy)] at z'
    exact z'
  obtain ⟨e', he'⟩ := PyProof.Rows.sortedHeap_at (vs := acc.toList) (out := out.toArray) hoL
  have hlen : (os.map fun x => V.ref x.2.1).length ≤ sizeLine := by rw [List.length_map, po.length_eq]; exact hz
  have hvals : Vals (os.map fun x => V.ref x.2.1) out := by
    rw [eo]
    clear hs hb hp po eo hs' he' hlen
    induction os with
    | nil => exact .nil
    | cons x l ih => exact .cons rfl ih
  refine wpAny_pure ⟨_, rfl, .ref h'.objs.size, L2.upd H h'.objs.size (.lst (os.map fun x => V.ref x.2.1)), I1.laid (t' := tk) (fun b u e => ?_) (Nat.le_refl _)
    (show ObjOk X.prog X.w _ _ _ (.lst (os.map fun x => V.ref x.2.1)) from ⟨hlen, out, e', hvals, he'⟩), rfl, q os _ po hs' (I1.hok.fresh (Nat.le_refl _))⟩
  have hb' : b < h'.objs.size := Heap.lt_size e
  rw [PyProof.Rows.sortedHeap_old (Nat.ne_of_lt hb') (by rw [size_push']; exact Nat.lt_succ_of_lt hb')]
  exact Heap.get?_push_of_some _ e
end Ev

namespace Ev
open Sf42
set_option autoImplicit false

/-! ### movements told one by one -/
/-- what there is of a kind -/
def sumKd (F : List Mv) (k : Bytes) : Int := ((F.filter fun m => m.2.2.1 == k).map fun m => m.2.2.2).sum
theorem sumKd_snoc (F : List Mv) (m : Mv) (k : Bytes) : sumKd (F ++ [m]) k = sumKd F k + if m.2.2.1 = k then m.2.2.2 else 0 := by
  unfold sumKd
  rw [List.filter_append, List.map_append, List.sum_append]
  congr 1
  by_cases h : m.2.2.1 = k
  · rw [if_pos h]; simp [h]
  · rw [if_neg h]; simp [h]
def moveLine (pre : List Mv) (m : Mv) : Bytes := line [m.1, m.2.1, told m.2.2.2, m.2.2.1, told (sumKd (pre ++ [m]) m.2.2.1)]
/-- the lines of r, behind what has been told of pre -/
def tellMoves : List Mv → List Mv → Bytes
  | _, [] => []
  | pre, m :: r => moveLine pre m ++ tellMoves (pre ++ [m]) r
theorem tellMoves_app : ∀ (a pre b : List Mv), tellMoves pre (a ++ b) = tellMoves pre a ++ tellMoves (pre ++ a) b
  | [], pre, b => by rw [List.nil_append, List.append_nil]; rfl
  | m :: a, pre, b => by
    show moveLine pre m ++ tellMoves (pre ++ [m]) (a ++ b) = (moveLine pre m ++ tellMoves (pre ++ [m]) a) ++ tellMoves (pre ++ m :: a) b
    rw [tellMoves_app a (pre ++ [m]) b, List.append_assoc (moveLine pre m), List.append_assoc pre]
    rfl
theorem moves_aux (L : List Sv) : ∀ n, n ≤ L.length → ((List.range n).flatMap fun i => match L[i]? with
    | none => []
    | some p => line [p.1, joined p.2.1, told p.2.2.1, p.2.2.2, told (((L.take (i + 1)).filter fun q => q.2.2.2 == p.2.2.2).map fun q => q.2.2.1).sum]) = tellMoves [] ((L.take n).map mvOf)
  | 0, _ => by simp [tellMoves]
  | n + 1, h => by
    have hn : n < L.length := h
    have e := List.getElem?_eq_getElem hn
    have et : L.take (n + 1) = L.take n ++ [L[n]] := by rw [List.take_add_one, e]; rfl
    rw [List.range_succ, List.flatMap_append, moves_aux L n (by omega), et, List.map_append, tellMoves_app]
    congr 1
    rw [List.flatMap_cons, List.flatMap_nil, List.append_nil, e]
    show _ = moveLine ([] ++ (L.take n).map mvOf) (mvOf L[n]) ++ []
    rw [List.append_nil, List.nil_append]
    unfold moveLine
    have es : sumKd ((L.take n).map mvOf ++ [mvOf L[n]]) (mvOf L[n]).2.2.1 = (((L.take n ++ [L[n]]).filter fun q => q.2.2.2 == L[n].2.2.2).map fun q => q.2.2.1).sum := by
      have e2 : (L.take n).map mvOf ++ [mvOf L[n]] = (L.take n ++ [L[n]]).map mvOf := by rw [List.map_append]; rfl
      rw [e2]
      unfold sumKd
      rw [List.filter_map, List.map_map]
      rfl
    rw [es, et]
    rfl
theorem moves_eq (L : List Sv) : Sf42.moves L = tellMoves [] (L.map mvOf) := by
  have := moves_aux L L.length (Nat.le_refl _)
  rw [List.take_length] at this
  exact this

/-! ### the order of days, as they stand -/
/-- in order by f, and of one f as they stand in l -/
structure ByDay (f : Sv → Nat) (l l' : List Sv) : Prop where
  ord : l'.Pairwise fun x y => f x ≤ f y
  cls : ∀ k, (l'.filter fun x => f x == k) = l.filter fun x => f x == k
theorem byDay_unique {f : Sv → Nat} : ∀ {a b : List Sv}, a.Pairwise (fun x y => f x ≤ f y) → b.Pairwise (fun x y => f x ≤ f y) → (∀ k, (a.filter fun x => f x == k) = b.filter fun x => f x == k) → a = b
  | [], [], _, _, _ => rfl
  | [], y :: b, _, _, h => by
    have := h (f y)
    simp at this
  | x :: a, [], _, _, h => by
    have := h (f x)
    simp at this
  | x :: a, y :: b, ha, hb, h => by
    rw [List.pairwise_cons] at ha hb
    have hx : x ∈ (y :: b) := by
      have hm : x ∈ (x :: a).filter fun z => f z == f x := List.mem_filter.mpr ⟨List.mem_cons_self .., by simp⟩
      rw [h (f x)] at hm
      exact (List.mem_filter.mp hm).1
    have hy : y ∈ (x :: a) := by
      have hm : y ∈ (y :: b).filter fun z => f z == f y := List.mem_filter.mpr ⟨List.mem_cons_self .., by simp⟩
      rw [← h (f y)] at hm
      exact (List.mem_filter.mp hm).1
    have h1 : f y ≤ f x := by
      rcases List.mem_cons.mp hx with e | e
      · rw [e]; exact Nat.le_refl _
      · exact hb.1 x e
    have h2 : f x ≤ f y := by
      rcases List.mem_cons.mp hy with e | e
      · rw [e]; exact Nat.le_refl _
      · exact ha.1 y e
    have ef : f x = f y := Nat.le_antisymm h2 h1
    have hk := h (f x)
    rw [List.filter_cons, List.filter_cons, if_pos (by simp), if_pos (by simp [ef])] at hk
    injection hk with e1 e2
    subst e1
    rw [byDay_unique ha.2 hb.2 fun k => ?_]
    have hk := h k
    rw [List.filter_cons, List.filter_cons] at hk
    by_cases e : (f x == k) = true
    · rw [if_pos e, if_pos e] at hk
      injection hk
    · rw [if_neg e, if_neg e] at hk
      exact hk
theorem byDay_sort (f : Sv → Nat) (l : List Sv) : ByDay f l (l.mergeSort fun p q => decide (f p ≤ f q)) := by
  have tr : ∀ a b c : Sv, decide (f a ≤ f b) = true → decide (f b ≤ f c) = true → decide (f a ≤ f c) = true := fun a b c h1 h2 => by
    rw [decide_eq_true_eq] at h1 h2 ⊢
    omega
  have to : ∀ a b : Sv, (decide (f a ≤ f b) || decide (f b ≤ f a)) = true := fun a b => by
    rw [Bool.or_eq_true, decide_eq_true_eq, decide_eq_true_eq]
    omega
  refine ⟨(List.pairwise_mergeSort tr to l).imp fun {a b} h => of_decide_eq_true h, fun k => ?_⟩
  have hs : (l.filter fun x => f x == k).Sublist (l.mergeSort fun p q => decide (f p ≤ f q)) := by
    refine List.sublist_mergeSort tr to ?_ List.filter_sublist
    refine List.Pairwise.imp_of_mem (R := fun _ _ => True) ?_ (List.pairwise_of_forall fun _ _ => trivial)
    intro a b h1 h2 _
    have e1 : f a = k := by simpa using (List.mem_filter.mp h1).2
    have e2 : f b = k := by simpa using (List.mem_filter.mp h2).2
    rw [decide_eq_true_eq]
    omega
  have hs2 := hs.filter fun x => f x == k
  rw [List.filter_filter] at hs2
  have e3 : (l.filter fun x => (f x == k) && (f x == k)) = l.filter fun x => f x == k := List.filter_congr fun x _ => by rw [Bool.and_self]
  rw [e3] at hs2
  exact (hs2.eq_of_length ((List.mergeSort_perm l _).filter _).length_eq.symm).symm
/-- what is in order by days, and of one day as it stands, is what is asked -/
theorem upTo_by {l : List Entry} {a : Account} {day : Bytes} {l' : List Sv} (h : ByDay (fun p => dayNumber p.1) ((allDone l).filter (passS a day)) l') : l' = upTo l a day := by
  rw [upTo_eq]
  have h2 := byDay_sort (fun p : Sv => dayNumber p.1) ((allDone l).filter (passS a day))
  exact byDay_unique h.ord h2.ord fun k => (h.cls k).trans (h2.cls k).symm
/-- the program's movements, where they stand just as what is done -/
theorem filter_eq {l : List Entry} {w day : Bytes} (hd : isDay day = true) (hg : ∀ e ∈ l, GoodE e) : ((allDone l).map mvOf).filter (passM w day) = ((allDone l).filter (passS (outerOf w) day)).map mvOf := by
  rw [List.filter_map]
  congr 1
  exact List.filter_congr fun p hm => pass_eq hd (good_all hg p hm)
/-- the sizes of what an account has -/
theorem sumKd_size {F ms : List Mv} (h : F.Sublist ms) (k : Bytes) : (sumKd F k).natAbs ≤ size (prs ms) k := by
  unfold sumKd
  refine Nat.le_trans (natAbs_sum _) ?_
  unfold size prs
  rw [List.filter_map, List.map_map, List.map_map]
  exact sum_sub ((h.filter _).map _)
end Ev

namespace Ev
open Sf42
set_option autoImplicit false

/-! ### what is put in at a place -/
def ins {α : Type} (xs : List α) (n : Nat) (y : α) : List α := xs.take n ++ [y] ++ xs.drop n
theorem ins_perm {α : Type} (xs : List α) (n : Nat) (y : α) : (ins xs n y).Perm (xs ++ [y]) := by
  unfold ins
  rw [List.append_assoc]
  have h1 : (xs.take n ++ ([y] ++ xs.drop n)).Perm (xs.take n ++ (xs.drop n ++ [y])) := List.Perm.append_left _ List.perm_append_comm
  refine h1.trans ?_
  rw [← List.append_assoc, List.take_append_drop]
theorem ins_end {α : Type} (xs : List α) (y : α) : ins xs xs.length y = xs ++ [y] := by
  unfold ins
  rw [List.take_length, List.drop_length, List.append_nil]
theorem ins_map {α β : Type} (f : α → β) (xs : List α) (n : Nat) (y : α) : (ins xs n y).map f = ins (xs.map f) n (f y) := by
  unfold ins
  rw [List.map_append, List.map_append, List.map_take, List.map_drop]
  rfl
theorem ins_len {α : Type} (xs : List α) (n : Nat) (y : α) : (ins xs n y).length = xs.length + 1 := by
  have := (ins_perm xs n y).length_eq
  rw [List.length_append] at this
  exact this
theorem ins_more {α : Type} {A W B : List α} {n i : Nat} (hA : A.length = n) (hW : W.length = i) (y : α) : ins (A ++ W ++ B) (n + i) y = A ++ (W ++ [y]) ++ B := by
  have hl : (A ++ W).length = n + i := by rw [List.length_append, hA, hW]
  unfold ins
  rw [List.take_left' hl, List.drop_left' hl]
  simp only [List.append_assoc]
/-- w put in at a place -/
def insAll {α : Type} (xs : List α) (n : Nat) (w : List α) : List α := xs.take n ++ w ++ xs.drop n
theorem insAll_nil {α : Type} (xs : List α) (n : Nat) : insAll xs n [] = xs := by
  unfold insAll
  rw [List.append_nil, List.take_append_drop]
theorem insAll_more {α : Type} {xs w : List α} {n i : Nat} (hn : n ≤ xs.length) (hw : w.length = i) (y : α) : ins (insAll xs n w) (n + i) y = insAll xs n (w ++ [y]) :=
  ins_more (by rw [List.length_take]; omega) hw y
theorem insAll_perm {α : Type} (xs : List α) (n : Nat) (w : List α) : (insAll xs n w).Perm (xs ++ w) := by
  unfold insAll
  rw [List.append_assoc]
  have h1 : (xs.take n ++ (w ++ xs.drop n)).Perm (xs.take n ++ (xs.drop n ++ w)) := List.Perm.append_left _ List.perm_append_comm
  refine h1.trans ?_
  rw [← List.append_assoc, List.take_append_drop]
theorem insAll_map {α β : Type} (f : α → β) (xs : List α) (n : Nat) (w : List α) : (insAll xs n w).map f = insAll (xs.map f) n (w.map f) := by
  unfold insAll
  rw [List.map_append, List.map_append, List.map_take, List.map_drop]
theorem insAll_len {α : Type} (xs : List α) (n : Nat) (w : List α) : (insAll xs n w).length = xs.length + w.length := by
  rw [(insAll_perm xs n w).length_eq, List.length_append]
theorem insAll_app {α : Type} (A : List α) (xs : List α) (n : Nat) (w : List α) : A ++ insAll xs n w = insAll (A ++ xs) (A.length + n) w := by
  unfold insAll
  rw [List.take_length_add_append, List.drop_length_add_append]
  simp only [List.append_assoc]
theorem prs_perm {a b : List Mv} (h : a.Perm b) : (prs a).Perm (prs b) := h.map _

/-! ### the place of the movement without an amount -/
def placeOf (e : Entry) : Nat := (e.moves.takeWhile fun m => m.amount.isSome).length
theorem tw_all : ∀ l : List Move, (∀ m ∈ l, m.amount.isNone = false) → (l.takeWhile fun m => m.amount.isSome) = l ∧ (l.filterMap fun m => m.amount.map fun p => (m.account, p.1, p.2)).length = l.length
  | [], _ => ⟨rfl, rfl⟩
  | m :: l, h => by
    obtain ⟨h1, h2⟩ := tw_all l fun x hx => h x (List.mem_cons_of_mem _ hx)
    have hm := h m (List.mem_cons_self ..)
    obtain ⟨a, o⟩ := m
    cases o with
    | none => cases hm
    | some p =>
      constructor
      · rw [List.takeWhile_cons, h1]; rfl
      · rw [List.filterMap_cons]
        simp only [Option.map_some, List.length_cons]
        rw [h2]
theorem no_lack {e : Entry} (h : lackOf e = none) : ∀ m ∈ e.moves, m.amount.isNone = false := by
  have h0 := (lack_none e).mp h
  unfold Entry.open_ at h0
  rw [List.length_eq_zero_iff, List.filter_eq_nil_iff] at h0
  intro m hm
  exact Bool.eq_false_iff.mpr (h0 m hm)
theorem place_open {e : Entry} (h : lackOf e = none) (a : Account) : placeOf (put e ⟨a, none⟩) = (stands e).length := by
  obtain ⟨h1, h2⟩ := tw_all e.moves (no_lack h)
  unfold placeOf put stands
  simp only
  rw [h2, List.takeWhile_append_of_pos (fun m hm => by
    have := no_lack h m hm
    cases hh : m.amount with
    | none => rw [hh] at this; cases this
    | some p => rfl)]
  simp
theorem tw_some : ∀ (l : List Move) (m : Move), (l.find? fun m => m.amount.isNone) ≠ none → ((l ++ [m]).takeWhile fun m => m.amount.isSome) = l.takeWhile fun m => m.amount.isSome
  | [], m, h => absurd rfl h
  | x :: l, m, h => by
    rw [List.cons_append, List.takeWhile_cons, List.takeWhile_cons]
    obtain ⟨a, o⟩ := x
    cases o with
    | none => rfl
    | some p =>
      have ih := tw_some l m (fun z => h (by rw [List.find?_cons]; exact z))
      rw [ih]
theorem place_some {e : Entry} (h : lackOf e ≠ none) (m : Move) : placeOf (put e m) = placeOf e := by
  unfold placeOf put
  simp only
  rw [tw_some e.moves m fun z => h (by unfold lackOf; rw [z]; rfl)]
theorem done0_aux (w : Pairs) : ∀ l : List Move, (∀ m ∈ l, m.amount.isNone = false) → (l.flatMap fun m => match m.amount with
    | some p => [(m.account, p.1, p.2)]
    | none => w.map fun p => (m.account, p.1, p.2)) = l.filterMap fun m => m.amount.map fun p => (m.account, p.1, p.2)
  | [], _ => rfl
  | m :: l, h => by
    have ih := done0_aux w l fun x hx => h x (List.mem_cons_of_mem _ hx)
    have hm := h m (List.mem_cons_self ..)
    obtain ⟨a, o⟩ := m
    cases o with
    | none => cases hm
    | some p =>
      rw [List.flatMap_cons, ih]
      rfl
theorem done1_aux (w : Pairs) : ∀ (l : List Move) (m : Move), (l.filter fun m => m.amount.isNone) = [m] → (l.takeWhile fun m => m.amount.isSome).length ≤ (l.filterMap fun m => m.amount.map fun p => (m.account, p.1, p.2)).length ∧ (l.flatMap fun m => match m.amount with
    | some p => [(m.account, p.1, p.2)]
    | none => w.map fun p => (m.account, p.1, p.2)) = insAll (l.filterMap fun m => m.amount.map fun p => (m.account, p.1, p.2)) (l.takeWhile fun m => m.amount.isSome).length (w.map fun p => (m.account, p.1, p.2))
  | [], m, h => by cases h
  | x :: l, m, h => by
    obtain ⟨a, o⟩ := x
    cases o with
    | some p =>
      obtain ⟨h1, h2⟩ := done1_aux w l m (by rw [List.filter_cons] at h; exact h)
      refine ⟨?_, ?_⟩
      · rw [List.takeWhile_cons, List.filterMap_cons]
        exact Nat.succ_le_succ h1
      · rw [List.flatMap_cons, h2, List.takeWhile_cons, List.filterMap_cons]
        rfl
    | none =>
      rw [List.filter_cons] at h
      have h : (⟨a, none⟩ : Move) :: (l.filter fun m => m.amount.isNone) = [m] := h
      injection h with e1 e2
      subst e1
      have hl : ∀ m ∈ l, m.amount.isNone = false := fun m hm => Bool.eq_false_iff.mpr ((List.filter_eq_nil_iff.mp e2) m hm)
      refine ⟨?_, ?_⟩
      · rw [List.takeWhile_cons]
        exact Nat.zero_le _
      · rw [List.flatMap_cons, done0_aux w l hl, List.takeWhile_cons, List.filterMap_cons]
        rfl
theorem done_none {e : Entry} (h : e.open_ = 0) : e.done = stands e := by
  have hl := no_lack ((lack_none e).mpr h)
  exact done0_aux e.wanting e.moves hl
theorem done_one {e : Entry} {a : Account} (h : e.open_ = 1) (ha : lackOf e = some a) : placeOf e ≤ (stands e).length ∧ e.done = insAll (stands e) (placeOf e) (e.wanting.map fun p => (a, p.1, p.2)) := by
  unfold Entry.open_ at h
  obtain ⟨m, hm⟩ := List.length_eq_one_iff.mp h
  have hl : m.account = a := by
    unfold lackOf at ha
    rw [← List.head?_filter, hm] at ha
    exact Option.some.inj ha
  have := done1_aux e.wanting e.moves m hm
  rw [hl] at this
  exact this

/-! ### what an entry's end makes of the movements, in order -/
theorem movesD_now {x : Read} {e : Entry} (h : x.now = some e) : movesD x = allDone x.closed ++ dayed e.day (stands e) := by
  unfold movesD
  rw [h]
  simp
theorem movesD_shut {x : Read} {e : Entry} : movesD (closed x e) = allDone x.closed ++ dayed e.day e.done := by
  unfold movesD closed allDone
  simp
theorem movesD_shut0 {x : Read} {e : Entry} (h : x.now = some e) (h0 : e.open_ = 0) : movesD (closed x e) = movesD x := by
  rw [movesD_shut, movesD_now h, done_none h0]
theorem dayed_ins (d : Bytes) (l : List (Account × Int × Bytes)) (n : Nat) (w : List (Account × Int × Bytes)) : dayed d (insAll l n w) = insAll (dayed d l) n (dayed d w) := insAll_map _ _ _ _
theorem movesD_shut1 {x : Read} {e : Entry} (h : x.now = some e) {a : Account} (h1 : e.open_ = 1) (ha : lackOf e = some a) :
    (allDone x.closed).length + placeOf e ≤ (movesD x).length ∧ movesD (closed x e) = insAll (movesD x) ((allDone x.closed).length + placeOf e) (dayed e.day (e.wanting.map fun p => (a, p.1, p.2))) := by
  obtain ⟨hp, hd⟩ := done_one h1 ha
  constructor
  · rw [movesD_now h, List.length_append]
    have : (dayed e.day (stands e)).length = (stands e).length := by unfold dayed; rw [List.length_map]
    omega
  · rw [movesD_shut, movesD_now h, hd, dayed_ins, insAll_app]
theorem movesD_len {x : Read} {e : Entry} (h : x.now = some e) : (movesD x).length = (allDone x.closed).length + (stands e).length := by
  rw [movesD_now h, List.length_append]
  congr 1
  unfold dayed
  rw [List.length_map]
end Ev

set_option Elab.async false
set_option linter.all false
set_option maxRecDepth 100000
set_option maxHeartbeats 2000000
namespace Ev
open PySem PySem.Spec PyProof.Rows L2
open Sf42 (Bytes)

def top (i : Nat) : Stmt := PySem.Challenge.pw_evenbook_s03_moves.main.body.getD i (.Pass ⟨0, 0, 0, 0⟩)
abbrev sParts : Stmt := top 25
abbrev sIsBlank : Stmt := top 28

theorem pe_num {X : Cx} {x : Str} {i : Int} {pos : Pos} (c : IntAt X.mg x i) (hg : Gl X x) (hd : (x == ("__debug__" : Str)) = false := by decide) : PE X (.Name x pos) (tC (.int i)) := by
  obtain ⟨t, h⟩ := c.ex
  exact pe_glob hg h ⟨t, rfl⟩ hd

section
variable {P : Program} {w : World} {K : PySem.W.Frag} {mg : Str → Option Value} {base : Heap}

/-! ### is_blank(byte) -/
def spByte (f : UInt8 → Bool) : Sp := fun vs H Q _ => ∃ c : UInt8, vs = [.int (c.toNat : Int)] ∧ ∀ H', Same H H' → Q (.bl (f c)) H'
theorem scIsBlank : FnScope ["byte"] ["byte"] (defScope sIsBlank) := ⟨rfl, rfl, rfl, by decide +kernel, rfl, by decide +kernel, by decide +kernel⟩
theorem fn_is_blank (D : DefAt K mg "is_blank" sIsBlank) (c1 : IntAt mg "SPACE" 32) (c2 : IntAt mg "TAB" 9) : Fn P w K mg base "is_blank" ["byte"] 1 (spByte Sf42.blank) := by
  refine fn_mk D (fun _ _ _ _ _ _ us hl => match us, hl with | [_], _ => rfl) fun f fd F => ?_
  refine F.ok scIsBlank (fun vs H Q E h => ?_) (fun cdv A outer s H vs Q E hr h => ?_)
  · obtain ⟨c, rfl, _⟩ := h
    rfl
  · obtain ⟨c, rfl, k⟩ := h
    refine ⟨_, pss_one (ps_ret (pe_or (pe_cmpR op_eq (pv 0) (pe_num c1 rfl) (nomark _)) (pe_one (pe_cmpR op_eq (pv 0) (pe_num c2 rfl) (nomark _))))), ?_⟩
    refine ⟨_, rfl, rfl, _, rfl, ?_⟩
    have e1 : decide (V.int (c.toNat : Int) = V.int 32) = (c == 32) := by
      have : (V.int (c.toNat : Int) = V.int 32) ↔ c = 32 := ⟨fun h => (toNat_eq (d := 32)).mp (V.int.inj h), fun h => by rw [h]; rfl⟩
      simp only [this]; rfl
    have e2 : decide (V.int (c.toNat : Int) = V.int 9) = (c == 9) := by
      have : (V.int (c.toNat : Int) = V.int 9) ↔ c = 9 := ⟨fun h => (toNat_eq (d := 9)).mp (V.int.inj h), fun h => by rw [h]; rfl⟩
      simp only [this]; rfl
    have kk := k H (Same.refl H)
    unfold Sf42.blank at kk
    rw [e1]
    cases h32 : (c == 32) with
    | true =>
      rw [h32] at kk
      exact iteT kk
    | false =>
      rw [h32] at kk
      refine iteF ⟨_, rfl, rfl, ?_⟩
      rw [e2]
      exact kk
end
end Ev

set_option Elab.async false
set_option linter.all false
set_option maxRecDepth 100000
set_option maxHeartbeats 2000000
namespace Ev
open PySem PySem.Spec PyProof.Rows L2
open Sf42 (Bytes)
theorem line_of {n : Nat} (h : n ≤ 200000) : n < sizeLine := Nat.lt_of_le_of_lt h (by decide)
theorem dec_byte (c d : UInt8) : decide (V.int (c.toNat : Int) = V.int (d.toNat : Int)) = (c == d) := by
  have : (V.int (c.toNat : Int) = V.int (d.toNat : Int)) ↔ c = d := ⟨fun h => toNat_eq.mp (V.int.inj h), fun h => by rw [h]⟩
  simp only [this]; rfl
section
variable {P : Program} {w : World} {K : PySem.W.Frag} {mg : Str → Option Value} {base : Heap}

/-! ### parts_of(row, mark) -/
def spParts (K : PySem.W.Frag) : Sp := fun vs H Q _ => ∃ (a : Addr) (b : Bytes) (m : UInt8), vs = [.ref a, .int (m.toNat : Int)] ∧ RowAt K H a b ∧ b.length ≤ 100000 ∧
  ∀ H' p as, Same H H' → H' p = some (.lst (as.map V.ref)) → Rows H' as (Sf42.split (fun c => c == m) b []) → Q (.ref p) H'
theorem scParts : FnScope ["row", "mark", "parts", "part", "byte"] ["row", "mark"] (defScope sParts) := ⟨rfl, rfl, rfl, by decide +kernel, rfl, by decide +kernel, by decide +kernel⟩
/-- what the loop has: the pieces that are ended, the one that is open -/
structure PartsInv (H H' : Hp) (p q : Addr) (as : List Addr) (m : UInt8) (b : Bytes) : Prop where
  same : Same H H'
  at_p : H' p = some (.lst (as.map V.ref))
  rows : Rows H' as (Sf42.split (fun c => c == m) b []).dropLast
  at_q : H' q = some (.lst (vb ((Sf42.split (fun c => c == m) b []).getLast (split_ne _ _ _))))
  pq : p ≠ q
  pa : p ∉ as
  qa : q ∉ as
  np : H p = none
  nq : H q = none
theorem Rows.upd {H : Hp} {as : List Addr} {bs : List Bytes} {q : Addr} {o : HO} (h : Rows H as bs) (hq : q ∉ as) : Rows (upd H q o) as bs := by
  unfold Rows at h ⊢
  induction h with
  | nil => exact .nil
  | @cons a b l₁ l₂ r t ih =>
    refine .cons ?_ (ih fun z => hq (List.mem_cons_of_mem _ z))
    rw [upd_ne (fun z => hq (by rw [z]; exact List.mem_cons_self))]
    exact r
theorem Rows.ne {H : Hp} {as : List Addr} {bs : List Bytes} {q : Addr} (h : Rows H as bs) (hq : H q = none) : q ∉ as := by
  unfold Rows at h
  induction h with
  | nil => simp
  | @cons a b l₁ l₂ r t ih =>
    intro z
    rcases List.mem_cons.mp z with rfl | z
    · rw [hq] at r; cases r
    · exact ih z
theorem same_new {H H' : Hp} {p : Addr} {o : HO} (s : Same H H') (hp : H p = none) : Same H (L2.upd H' p o) := fun b o e => by
  rw [upd_ne (ne_of_none e hp)]
  exact s b o e
theorem fn_parts_of (D : DefAt K mg "parts_of" sParts) : Fn P w K mg base "parts_of" ["row", "mark"] 1 (spParts K) := by
  refine fn_mk D (fun _ _ _ _ _ _ us hl => match us, hl with | [_, _], _ => rfl) fun f fd F => ?_
  refine F.ok scParts (fun vs H Q E h => ?_) (fun cdv A outer s H vs Q E hr h => ?_)
  · obtain ⟨a, b, m, rfl, _⟩ := h
    rfl
  · obtain ⟨a, b, m, rfl, hrow, hlen, k⟩ := h
    refine ⟨_, pss_cons (ps_set (i := 2) scParts.nd rfl (.inl rfl) (pe_lst pa_nil))
      (pss_cons (ps_set (i := 3) scParts.nd rfl (.inl rfl) (pe_lst pa_nil))
      (pss_cons (ps_for PassesOwn.never rfl (pi_list (pv 0)) (pg_name (i := 4) scParts.nd rfl (.inl rfl))
        (pss_one (ps_if (pt_cmpR op_eq (pv 4) (pv 1) (nomark _))
          (pss_cons (ps_expr (pe_bm PySem.F.plainAttrs_list PySem.F.slot_list_append PySem.F.type_list_append mt_append (pv 2) (pa_cons (pv 3) pa_nil)))
            (pss_one (ps_set (i := 3) scParts.nd rfl (.inl rfl) (pe_lst pa_nil))))
          (pss_one (ps_expr (pe_bm PySem.F.plainAttrs_list PySem.F.slot_list_append PySem.F.type_list_append mt_append (pv 3) (pa_cons (pv 4) pa_nil)))))))
      (pss_cons (ps_expr (pe_bm PySem.F.plainAttrs_list PySem.F.slot_list_append PySem.F.type_list_append mt_append (pv 2) (pa_cons (pv 3) pa_nil)))
      (pss_one (ps_ret (pv 2)))))), ?_⟩
    refine ⟨Nat.zero_le _, fun p hp => ⟨Nat.zero_le _, fun q hq => ?_⟩⟩
    have npq : p ≠ q := fun z => by rw [← z, upd_same] at hq; cases hq
    have hq' : H q = none := by rw [upd_ne npq.symm] at hq; exact hq
    have s1 : Same H (L2.upd (L2.upd H p (.lst [])) q (.lst [])) := same_new (same_new (Same.refl H) hp) hq'
    refine ⟨_, rfl, a, rfl, ⟨_, s1.seq hrow⟩, for_list (K := K) (a := a) (xs := vb b) (fun i σ H' => ∃ (q : Addr) (as : List Addr) (v : Option V), σ = [some (.ref a), some (.int (m.toNat : Int)), some (.ref p), some (.ref q), v] ∧ PartsInv H H' p q as m (b.take i))
      ⟨q, [], none, rfl, s1, by rw [upd_ne npq, upd_same]; rfl, .nil, upd_same, npq, by simp, by simp, hp, hq'⟩ (fun i σ H' _ ⟨_, _, _, _, I⟩ => I.same.seq hrow) ?_ ?_⟩
    · rintro i y σ H' hi ⟨q, as, v, rfl, I⟩
      obtain ⟨c, hc, rfl⟩ := vb_get hi
      have eb := take_more hc
      have hil : i < b.length := (List.getElem?_eq_some_iff.mp hc).1
      have hal : as.length ≤ b.length := by
        have h1 := I.rows.len
        rw [List.length_dropLast] at h1
        have h2 := split_len (fun c => c == m) (b.take i) []
        rw [List.length_take] at h2
        omega
      refine ⟨_, rfl, _, rfl, rfl, _, rfl, ?_⟩
      rw [dec_byte]
      cases hcm : (c == m) with
      | true =>
        refine iteT ⟨_, rfl, .inl ⟨rfl, _, SqL.of I.at_p⟩, _, rfl, p, _, _, rfl, rfl, I.at_p, line_of (by rw [List.length_map]; omega), Nat.zero_le _, fun r hr' => ?_⟩
        have nrp : r ≠ p := fun z => by rw [z, upd_same] at hr'; cases hr'
        have hr1 : H' r = none := by rw [upd_ne nrp] at hr'; exact hr'
        have hr0 : H r = none := I.same.free hr1
        have nrq : r ≠ q := fun z => by rw [z, I.at_q] at hr1; cases hr1
        refine ⟨r, as ++ [q], _, rfl, ?_⟩
        rw [eb]
        have es := split_snoc_yes (fun c => c == m) c hcm (b.take i) []
        have e1 : (Sf42.split (fun c => c == m) (b.take i ++ [c]) []).dropLast = (Sf42.split (fun c => c == m) (b.take i) []).dropLast ++ [(Sf42.split (fun c => c == m) (b.take i) []).getLast (split_ne _ _ _)] := by
          rw [es, List.dropLast_concat, List.dropLast_concat_getLast]
        have e2 : (Sf42.split (fun c => c == m) (b.take i ++ [c]) []).getLast (split_ne _ _ _) = [] := by
          simp only [es, List.getLast_concat]
        refine ⟨same_new (same_new I.same I.np) hr0, ?_, ?_, ?_, nrp.symm, ?_, ?_, I.np, hr0⟩
        · rw [upd_ne nrp.symm, upd_same, List.map_append]; rfl
        · rw [e1]
          have hn : r ∉ as := I.rows.ne hr1
          refine Rows.snoc ((I.rows.upd I.pa).upd hn) ?_
          rw [upd_ne nrq.symm, upd_ne I.pq.symm]
          exact I.at_q
        · rw [e2]; exact upd_same
        · intro z
          rcases List.mem_append.mp z with z | z
          · exact I.pa z
          · exact I.pq (List.mem_singleton.mp z)
        · intro z
          rcases List.mem_append.mp z with z | z
          · exact I.rows.ne hr1 z
          · exact nrq (List.mem_singleton.mp z)
      | false =>
        have hl := split_mem_len (fun c => c == m) (b.take i) [] _ (List.getLast_mem (split_ne _ _ _))
        rw [List.length_take] at hl
        refine iteF ⟨_, rfl, .inl ⟨rfl, _, SqL.of I.at_q⟩, _, rfl, q, _, _, rfl, rfl, I.at_q, line_of (by rw [vb_len]; simp only [List.length_nil] at hl; omega), ?_⟩
        refine ⟨q, as, _, rfl, ?_⟩
        rw [eb]
        have es := split_snoc_no (fun c => c == m) c hcm (b.take i) []
        have e1 : (Sf42.split (fun c => c == m) (b.take i ++ [c]) []).dropLast = (Sf42.split (fun c => c == m) (b.take i) []).dropLast := by
          rw [es, List.dropLast_concat]
        have e2 : (Sf42.split (fun c => c == m) (b.take i ++ [c]) []).getLast (split_ne _ _ _) = (Sf42.split (fun c => c == m) (b.take i) []).getLast (split_ne _ _ _) ++ [c] := by
          simp only [es, List.getLast_concat]
        refine ⟨same_new I.same I.nq, ?_, ?_, ?_, I.pq, I.pa, I.qa, I.np, I.nq⟩
        · rw [upd_ne I.pq]; exact I.at_p
        · rw [e1]; exact I.rows.upd I.qa
        · rw [e2, vb_app]; exact upd_same
    · rintro σ H' ⟨q, as, v, rfl, I⟩
      rw [vb_len, List.take_length] at I
      have hal : as.length ≤ b.length := by
        have h1 := I.rows.len
        rw [List.length_dropLast] at h1
        have h2 := split_len (fun c => c == m) b []
        omega
      refine ⟨_, rfl, .inl ⟨rfl, _, SqL.of I.at_p⟩, _, rfl, p, _, _, rfl, rfl, I.at_p, line_of (by rw [List.length_map]; omega), _, rfl, ?_⟩
      refine k _ p (as ++ [q]) (same_new I.same I.np) ?_ ?_
      · rw [upd_same, List.map_append]; rfl
      · have e := List.dropLast_concat_getLast (split_ne (fun c => c == m) b [])
        rw [← e]
        refine Rows.snoc (I.rows.upd I.pa) ?_
        rw [upd_ne I.pq.symm]
        exact I.at_q
end
end Ev

set_option Elab.async false
set_option linter.all false
set_option maxRecDepth 100000
set_option maxHeartbeats 2000000
namespace Ev
open PySem PySem.Spec PyProof.Rows L2
open Sf42 (Bytes)

theorem wipe_set (σ : L2.St) (i : Nat) (x : V) : wipe ((wipe σ [i]).set i (some x)) [i] = wipe σ [i] := by
  show (((σ.set i none).set i (some x)).set i none : L2.St) = σ.set i none
  rw [List.set_set, List.set_set]
/-- [e for x in a list of xs], each item's e a value that changes nothing: what stands behind -/
theorem comp_map {K : PySem.W.Frag} {a : Addr} {xs ys : List V} (hl : xs.length = ys.length) (hz : xs.length ≤ 200000) {te : TE} {i : Nat} {σ : L2.St} {H : Hp} {Q : Addr → Hp → Prop} (hs : SqL K H a xs)
    (he : ∀ (j : Nat) (x y : V), xs[j]? = some x → ys[j]? = some y → ∀ H' Q', Same H H' → (∀ H'', Same H' H'' → Q' y H'') → te ((wipe σ [i]).set i (some x)) H' Q')
    (k : ∀ H' D, Same H H' → H D = none → H' D = some (.lst ys) → Q D H') :
    ∀ D, H D = none → ∃ W : Nat → Nat → Hp → Prop, (∃ m, W 0 m (L2.upd H D (.lst []))) ∧ ∀ j m H, W j m H →
      ((Itl K a).stop j H ∧ Q D H) ∨ ((Itl K a).go j H ∧ ∃ Nx : Hp → Prop, (∀ H', Nx H' → ∃ m', m' < m ∧ W (j + 1) m' H') ∧ ∀ x H', (Itl K a).yld j H x H' → gName i x (wipe σ [i]) H' fun σ2 H2 => wipe σ2 [i] = wipe σ [i] ∧ tYes σ2 H2 fun b H3 =>
        if b = true then te σ2 H3 fun y H4 => ∃ acc, H4 D = some (.lst acc) ∧ acc.length < sizeLine ∧ Nx (L2.upd H4 D (.lst (acc ++ [y]))) else Nx H3) := by
  intro D hD
  refine lc_list (K := K) (a := a) (xs := xs) (Qd := fun H' => Q D H') (fun j H' => Same H H' ∧ H' D = some (.lst (ys.take j))) ⟨same_new (Same.refl H) hD, upd_same⟩ (fun j H' _ h => h.1.seq hs) ?_ ?_
  · rintro j x H' hj ⟨s1, h1⟩
    refine ⟨wipe_set σ i x, ?_⟩
    unfold tYes
    simp only [if_true]
    have hjl : j < ys.length := by rw [← hl]; exact (List.getElem?_eq_some_iff.mp hj).1
    have hy := List.getElem?_eq_getElem hjl
    refine he j x _ hj hy H' _ s1 fun H'' s2 => ⟨_, s2 _ _ h1, line_of ?_, same_new (s1.trans s2) hD, ?_⟩
    · rw [List.length_take]; omega
    · rw [take_more hy]; exact upd_same
  · rintro H' ⟨s1, h1⟩
    rw [hl, List.take_length] at h1
    exact k H' D s1 hD h1
/-- all([f(x) for x in xs]) -/
theorem all_map {K : PySem.W.Frag} {a : Addr} {xs : List V} {bs : List Bool} (hl : xs.length = bs.length) (hz : xs.length ≤ 200000) {te : TE} {i : Nat} {σ : L2.St} {H : Hp} {Q : VK} (hs : SqL K H a xs)
    (he : ∀ (j : Nat) (x : V) (b : Bool), xs[j]? = some x → bs[j]? = some b → ∀ H' Q', Same H H' → (∀ H'', Same H' H'' → Q' (.bl b) H'') → te ((wipe σ [i]).set i (some x)) H' Q')
    (k : ∀ H', Same H H' → Q (.bl (bs.all id)) H') :
    ∀ D, H D = none → ∃ W : Nat → Nat → Hp → Prop, (∃ m, W 0 m (L2.upd H D (.lst []))) ∧ ∀ j m H, W j m H →
      ((Itl K a).stop j H ∧ rAll K [.ref D] H Q) ∨ ((Itl K a).go j H ∧ ∃ Nx : Hp → Prop, (∀ H', Nx H' → ∃ m', m' < m ∧ W (j + 1) m' H') ∧ ∀ x H', (Itl K a).yld j H x H' → gName i x (wipe σ [i]) H' fun σ2 H2 => wipe σ2 [i] = wipe σ [i] ∧ tYes σ2 H2 fun b H3 =>
        if b = true then te σ2 H3 fun y H4 => ∃ acc, H4 D = some (.lst acc) ∧ acc.length < sizeLine ∧ Nx (L2.upd H4 D (.lst (acc ++ [y]))) else Nx H3) := by
  refine comp_map (Q := fun D H' => rAll K [.ref D] H' Q) (ys := bs.map V.bl) (by rw [List.length_map]; exact hl) hz hs (fun j x y hx hy H' Q' s1 q => ?_) fun H' D s1 hD h1 => ⟨D, bs, rfl, SqL.of h1, k H' s1⟩
  rw [List.getElem?_map] at hy
  cases e : bs[j]? with
  | none => rw [e] at hy; cases hy
  | some b =>
    rw [e] at hy
    have ey : V.bl b = y := Option.some.inj hy
    subst ey
    exact he j x b hx e H' Q' s1 q

abbrev sLines : Stmt := top 26
abbrev sRemark : Stmt := top 27
abbrev sWords : Stmt := top 29
abbrev sIsDigit : Stmt := top 31
abbrev sIsCapital : Stmt := top 32
abbrev sIsSmall : Stmt := top 33
abbrev sAreDigits : Stmt := top 34
abbrev sNumber : Stmt := top 35
section
variable {P : Program} {w : World} {K : PySem.W.Frag} {mg : Str → Option Value} {base : Heap}

/-! ### is_digit, is_capital, is_small -/
theorem scIsDigit : FnScope ["byte"] ["byte"] (defScope sIsDigit) := ⟨rfl, rfl, rfl, by decide +kernel, rfl, by decide +kernel, by decide +kernel⟩
theorem fn_is_digit (D : DefAt K mg "is_digit" sIsDigit) (c1 : IntAt mg "ZERO" 48) (c2 : IntAt mg "NINE" 57) : Fn P w K mg base "is_digit" ["byte"] 1 (spByte Sf42.digit) := by
  refine fn_mk D (fun _ _ _ _ _ _ us hl => match us, hl with | [_], _ => rfl) fun f fd F => ?_
  refine F.ok scIsDigit (fun vs H Q E h => ?_) (fun cdv A outer s H vs Q E hr h => ?_)
  · obtain ⟨c, rfl, _⟩ := h
    rfl
  · obtain ⟨c, rfl, k⟩ := h
    refine ⟨_, pss_one (ps_ret (pe_chain op_le op_le (pe_num c1 rfl) (pv 0) (pe_num c2 rfl))), ?_⟩
    have kk := k H (Same.refl H)
    unfold Sf42.digit at kk
    refine ⟨_, rfl, _, _, rfl, rfl, _, rfl, ?_⟩
    have e1 : decide ((48 : Int) ≤ (c.toNat : Int)) = decide (48 ≤ c.toNat) := by congr 1; exact propext (by omega)
    have e2 : decide ((c.toNat : Int) ≤ 57) = decide (c.toNat ≤ 57) := by congr 1; exact propext (by omega)
    have kt : Q (V.bl (decide (c.toNat ≤ 57))) H → Q (V.bl (decide ((c.toNat : Int) ≤ 57))) H := by rw [e2]; exact id
    rw [e1]
    cases h1 : decide (48 ≤ c.toNat) with
    | false => rw [h1] at kk; exact iteF kk
    | true => rw [h1] at kk; exact iteT ⟨_, _, rfl, rfl, kt kk⟩
theorem scIsCapital : FnScope ["byte"] ["byte"] (defScope sIsCapital) := ⟨rfl, rfl, rfl, by decide +kernel, rfl, by decide +kernel, by decide +kernel⟩
theorem fn_is_capital (D : DefAt K mg "is_capital" sIsCapital) (c1 : IntAt mg "CAPITAL_A" 65) (c2 : IntAt mg "CAPITAL_Z" 90) : Fn P w K mg base "is_capital" ["byte"] 1 (spByte Sf42.capital) := by
  refine fn_mk D (fun _ _ _ _ _ _ us hl => match us, hl with | [_], _ => rfl) fun f fd F => ?_
  refine F.ok scIsCapital (fun vs H Q E h => ?_) (fun cdv A outer s H vs Q E hr h => ?_)
  · obtain ⟨c, rfl, _⟩ := h
    rfl
  · obtain ⟨c, rfl, k⟩ := h
    refine ⟨_, pss_one (ps_ret (pe_chain op_le op_le (pe_num c1 rfl) (pv 0) (pe_num c2 rfl))), ?_⟩
    have kk := k H (Same.refl H)
    unfold Sf42.capital at kk
    refine ⟨_, rfl, _, _, rfl, rfl, _, rfl, ?_⟩
    have e1 : decide ((65 : Int) ≤ (c.toNat : Int)) = decide (65 ≤ c.toNat) := by congr 1; exact propext (by omega)
    have e2 : decide ((c.toNat : Int) ≤ 90) = decide (c.toNat ≤ 90) := by congr 1; exact propext (by omega)
    have kt : Q (V.bl (decide (c.toNat ≤ 90))) H → Q (V.bl (decide ((c.toNat : Int) ≤ 90))) H := by rw [e2]; exact id
    rw [e1]
    cases h1 : decide (65 ≤ c.toNat) with
    | false => rw [h1] at kk; exact iteF kk
    | true => rw [h1] at kk; exact iteT ⟨_, _, rfl, rfl, kt kk⟩
theorem scIsSmall : FnScope ["byte"] ["byte"] (defScope sIsSmall) := ⟨rfl, rfl, rfl, by decide +kernel, rfl, by decide +kernel, by decide +kernel⟩
theorem fn_is_small (D : DefAt K mg "is_small" sIsSmall) (c1 : IntAt mg "SMALL_A" 97) (c2 : IntAt mg "SMALL_Z" 122) : Fn P w K mg base "is_small" ["byte"] 1 (spByte Sf42.small) := by
  refine fn_mk D (fun _ _ _ _ _ _ us hl => match us, hl with | [_], _ => rfl) fun f fd F => ?_
  refine F.ok scIsSmall (fun vs H Q E h => ?_) (fun cdv A outer s H vs Q E hr h => ?_)
  · obtain ⟨c, rfl, _⟩ := h
    rfl
  · obtain ⟨c, rfl, k⟩ := h
    refine ⟨_, pss_one (ps_ret (pe_chain op_le op_le (pe_num c1 rfl) (pv 0) (pe_num c2 rfl))), ?_⟩
    have kk := k H (Same.refl H)
    unfold Sf42.small at kk
    refine ⟨_, rfl, _, _, rfl, rfl, _, rfl, ?_⟩
    have e1 : decide ((97 : Int) ≤ (c.toNat : Int)) = decide (97 ≤ c.toNat) := by congr 1; exact propext (by omega)
    have e2 : decide ((c.toNat : Int) ≤ 122) = decide (c.toNat ≤ 122) := by congr 1; exact propext (by omega)
    have kt : Q (V.bl (decide (c.toNat ≤ 122))) H → Q (V.bl (decide ((c.toNat : Int) ≤ 122))) H := by rw [e2]; exact id
    rw [e1]
    cases h1 : decide (97 ≤ c.toNat) with
    | false => rw [h1] at kk; exact iteF kk
    | true => rw [h1] at kk; exact iteT ⟨_, _, rfl, rfl, kt kk⟩

/-! ### are_digits(row) -/
def spRow (K : PySem.W.Frag) (f : Bytes → Bool) : Sp := fun vs H Q _ => ∃ (a : Addr) (b : Bytes), vs = [.ref a] ∧ RowAt K H a b ∧ b.length ≤ 100000 ∧ ∀ H', Same H H' → Q (.bl (f b)) H'
theorem all_map_eq (f : UInt8 → Bool) (b : Bytes) : (b.map f).all id = b.all f := by
  rw [List.all_map]; rfl
theorem scAreDigits : FnScope ["row", "byte"] ["row"] (defScope sAreDigits) := ⟨rfl, rfl, rfl, by decide +kernel, rfl, by decide +kernel, by decide +kernel⟩
theorem fn_are_digits (D : DefAt K mg "are_digits" sAreDigits) (n1 : mg "all" = none) (G : Fn P w K mg base "is_digit" ["byte"] 1 (spByte Sf42.digit)) : Fn P w K mg base "are_digits" ["row"] 2 (spRow K fun b => b.all Sf42.digit) := by
  refine fn_mk D (fun _ _ _ _ _ _ us hl => match us, hl with | [_], _ => rfl) fun f fd F => ?_
  refine F.ok scAreDigits (fun vs H Q E h => ?_) (fun cdv A outer s H vs Q E hr h => ?_)
  · obtain ⟨a, b, rfl, _⟩ := h
    rfl
  · obtain ⟨a, b, rfl, hrow, hlen, k⟩ := h
    refine ⟨_, pss_one (ps_ret (pe_callB (cr_all rfl) (by rfl) n1 boot_all (pa_cons (pe_lc (own := [("byte", 1)]) (g := gName 1) (tt := tYes) rfl scAreDigits.nd (pi_list (pv 0))
      (blkOk_by (N := ["row", "byte"]) (sc := defScope sAreDigits) (by decide +kernel)) (fun _ _ _ _ _ => pg_name (i := 1) scAreDigits.nd rfl (Or.inl rfl)) (fun _ _ _ _ _ => pts_nil)
      (fun _ _ _ _ _ => pe_fn G hr (by rfl) (pa_cons (pv 1) pa_nil))) pa_nil))), ?_⟩
    refine ⟨_, rfl, a, rfl, ⟨_, hrow⟩, all_map (K := K) (xs := vb b) (bs := b.map Sf42.digit) (by rw [vb_len, List.length_map]) (by rw [vb_len]; omega) hrow (fun j x y hx hy H' Q' s1 q => ?_) fun H' s1 => by rw [all_map_eq]; exact k H' s1⟩
    obtain ⟨c, hc, rfl⟩ := vb_get hx
    rw [List.getElem?_map, hc] at hy
    have ey : Sf42.digit c = y := Option.some.inj hy
    subst ey
    exact ⟨_, rfl, c, rfl, q⟩

/-! ### number_of(digits) -/
def spNumber (K : PySem.W.Frag) : Sp := fun vs H Q _ => ∃ (a : Addr) (b : Bytes), vs = [.ref a] ∧ RowAt K H a b ∧ b.all Sf42.digit = true ∧ b.length ≤ 18 ∧ ∀ H', Same H H' → Q (.int (Sf42.number b : Int)) H'
theorem scNumber : FnScope ["digits", "number", "digit"] ["digits"] (defScope sNumber) := ⟨rfl, rfl, rfl, by decide +kernel, rfl, by decide +kernel, by decide +kernel⟩
theorem fn_number_of (D : DefAt K mg "number_of" sNumber) (c1 : IntAt mg "ZERO" 48) : Fn P w K mg base "number_of" ["digits"] 1 (spNumber K) := by
  refine fn_mk D (fun _ _ _ _ _ _ us hl => match us, hl with | [_], _ => rfl) fun f fd F => ?_
  refine F.ok scNumber (fun vs H Q E h => ?_) (fun cdv A outer s H vs Q E hr h => ?_)
  · obtain ⟨a, b, rfl, _⟩ := h
    rfl
  · obtain ⟨a, b, rfl, hrow, hd, hlen, k⟩ := h
    refine ⟨_, pss_cons (ps_set (i := 1) scNumber.nd rfl (.inl rfl) pe_int)
      (pss_cons (ps_for PassesOwn.never rfl (pi_list (pv 0)) (pg_name (i := 2) scNumber.nd rfl (.inl rfl))
        (pss_one (ps_set (i := 1) scNumber.nd rfl (.inl rfl) (pe_op op_sub (pe_op op_add (pe_op op_mul (pv 1) pe_int) (pv 2)) (pe_num c1 rfl)))))
      (pss_one (ps_ret (pv 1)))), ?_⟩
    refine ⟨_, rfl, a, rfl, ⟨_, hrow⟩, for_list (K := K) (a := a) (xs := vb b) (fun i σ H' => ∃ (v : Option V), σ = [some (.ref a), some (.int (Sf42.number (b.take i) : Int)), v] ∧ Same H H')
      ⟨none, rfl, Same.refl H⟩ (fun i σ H' _ ⟨_, _, s1⟩ => s1.seq hrow) ?_ ?_⟩
    · rintro i y σ H' hi ⟨v, rfl, s1⟩
      obtain ⟨c, hc, rfl⟩ := vb_get hi
      have eb := take_more hc
      have hcd : Sf42.digit c = true := List.all_eq_true.mp hd c (List.mem_of_getElem? hc)
      have hcd' := (digit_iff c).mp hcd
      have hb := number_bound (b.take i) (by rw [List.all_eq_true] at hd ⊢; exact fun x hx => hd x (List.mem_of_mem_take hx))
      have hb2 : Sf42.number (b.take i) < 10 ^ 18 := Nat.lt_of_lt_of_le hb (Nat.pow_le_pow_right (by decide) (by rw [List.length_take]; omega))
      refine ⟨_, rfl, _, _, rfl, rfl, .inl ⟨by omega, by omega⟩, _, rfl, _, _, rfl, rfl, _, _, rfl, rfl, ?_⟩
      refine ⟨some (.int (c.toNat : Int)), ?_, s1⟩
      rw [eb, number_snoc]
      have e : ((10 * Sf42.number (b.take i) + (c.toNat - 48) : Nat) : Int) = (Sf42.number (b.take i) : Int) * 10 + (c.toNat : Int) - 48 := by omega
      rw [e]
      rfl
    · rintro σ H' ⟨v, rfl, s1⟩
      rw [vb_len, List.take_length]
      exact ⟨_, rfl, k H' s1⟩
end
end Ev

set_option Elab.async false
set_option linter.all false
set_option maxRecDepth 100000
set_option maxHeartbeats 2000000
namespace Ev
open PySem PySem.Spec PyProof.Rows L2
open Sf42 (Bytes)
theorem cut_take (b : Bytes) (n : Nat) {z : Int} (hz : z = (n : Int)) : cutV (vb b) none (some z) = vb (b.take n) := by
  subst hz
  unfold cutV
  rw [HT.sIx_none, HT.sIx_nat, vb_len, List.drop_zero, Nat.sub_zero]
  unfold vb
  rw [← List.map_take]
  congr 1
  by_cases h : n ≤ b.length
  · rw [Nat.min_eq_left h]
  · rw [Nat.min_eq_right (by omega), List.take_of_length_le (by omega), List.take_of_length_le (by omega)]
theorem cut_drop (b : Bytes) (n : Nat) {z : Int} (hz : z = (n : Int)) : cutV (vb b) (some z) none = vb (b.drop n) := by
  subst hz
  unfold cutV
  rw [HT.sIx_none, HT.sIx_nat, vb_len]
  unfold vb
  rw [← List.map_drop, ← List.map_take]
  congr 1
  by_cases h : n ≤ b.length
  · rw [Nat.min_eq_left h, List.take_of_length_le (by rw [List.length_drop]; omega)]
  · rw [Nat.min_eq_right (by omega), List.drop_of_length_le (Nat.le_refl _), List.drop_of_length_le (by omega)]
    simp
theorem cut_mid (b : Bytes) (m n : Nat) (hm : m ≤ b.length) (hn : n ≤ b.length) {y z : Int} (hy : y = (m : Int)) (hz : z = (n : Int)) : cutV (vb b) (some y) (some z) = vb ((b.drop m).take (n - m)) := by
  subst hy hz
  unfold cutV
  rw [HT.sIx_nat, HT.sIx_nat, vb_len]
  unfold vb
  rw [← List.map_drop, ← List.map_take, Nat.min_eq_left hm, Nat.min_eq_left hn]
theorem vb_atI {b : Bytes} {j : Nat} {c : UInt8} {z : Int} (hz : z = (j : Int)) (h : b[j]? = some c) : atI (vb b) z = some (V.int (c.toNat : Int)) := by
  subst hz
  exact atI_nat (vb_at h)
theorem refs_atI {as : List Addr} {j : Nat} {a : Addr} {z : Int} (hz : z = (j : Int)) (h : as[j]? = some a) : atI (as.map V.ref) z = some (V.ref a) := by
  subst hz
  exact atI_nat (refs_at' h)
theorem Rows.last {H : Hp} {as : List Addr} {bs : List Bytes} (h : Rows H as bs) (hb : bs ≠ []) : ∃ as' a, as = as' ++ [a] ∧ H a = some (.lst (vb (bs.getLast hb))) ∧ Rows H as' bs.dropLast := by
  have hl := h.len
  have hne : as ≠ [] := fun z => by
    subst z
    rw [List.length_nil] at hl
    exact hb (List.length_eq_zero_iff.mp hl.symm)
  have hpos : 0 < as.length := List.length_pos_iff.mpr hne
  refine ⟨as.dropLast, as.getLast hne, (List.dropLast_concat_getLast hne).symm, ?_, ?_⟩
  · obtain ⟨b, hb', r⟩ := h.get (i := as.length - 1) (a := as.getLast hne) (by rw [← List.getLast?_eq_getElem?, List.getLast?_eq_getLast hne])
    have : bs[as.length - 1]? = some (bs.getLast hb) := by rw [hl, ← List.getLast?_eq_getElem?, List.getLast?_eq_getLast hb]
    rw [this] at hb'
    cases hb'
    exact r
  · unfold Rows at h ⊢
    revert hl hne hpos hb
    induction h with
    | nil => intro _ _ h; exact absurd rfl h
    | @cons a b l₁ l₂ r t ih =>
      intro _ _ _ _
      cases t with
      | nil => exact .nil
      | @cons a' b' l₁' l₂' r' t' =>
        have := ih (by simp) (Paired.length (.cons r' t')) (by simp) (by simp)
        exact .cons r this

section
variable {P : Program} {w : World} {K : PySem.W.Frag} {mg : Str → Option Value} {base : Heap}

/-! ### lines_of(text) -/
def spRows (K : PySem.W.Frag) (f : Bytes → List Bytes) : Sp := fun vs H Q _ => ∃ (a : Addr) (b : Bytes), vs = [.ref a] ∧ RowAt K H a b ∧ b.length ≤ 100000 ∧
  ∀ H' p as, Same H H' → H' p = some (.lst (as.map V.ref)) → Rows H' as (f b) → Q (.ref p) H'
theorem scLines : FnScope ["text", "lines"] ["text"] (defScope sLines) := ⟨rfl, rfl, rfl, by decide +kernel, rfl, by decide +kernel, by decide +kernel⟩
def rLenS (K : PySem.W.Frag) : List V → Hp → VK → Prop := fun xs H Q => ∃ p ys, xs = [V.ref p] ∧ (SqL K H p ys ∨ SqT K H p ys) ∧ Q (.int ys.length) H
theorem call_lenS {X : Cx} {K : PySem.W.Frag} (h : X.K = K) : CallR X (.builtin "len") (rLenS K) := by
  subst h
  exact call_len_seq
theorem cut_last {xs : List V} {x : V} : cutV (xs ++ [x]) none (some (-1)) = xs := by
  unfold cutV
  rw [HT.sIx_none, List.drop_zero, Nat.sub_zero]
  have e : HT.sIx (xs ++ [x]).length (xs ++ [x]).length (some (-1)) = xs.length := by
    unfold HT.sIx
    simp only [List.length_append, List.length_singleton]
    rw [if_pos (by decide)]
    omega
  rw [e, List.take_left]
theorem fn_lines_of (D : DefAt K mg "lines_of" sLines) (n1 : mg "len" = none) (c1 : IntAt mg "LINE_FEED" 10) (G : Fn P w K mg base "parts_of" ["row", "mark"] 1 (spParts K)) : Fn P w K mg base "lines_of" ["text"] 2 (spRows K fun b => Sf42.linesOf b []) := by
  refine fn_mk D (fun _ _ _ _ _ _ us hl => match us, hl with | [_], _ => rfl) fun f fd F => ?_
  refine F.ok scLines (fun vs H Q E h => ?_) (fun cdv A outer s H vs Q E hr h => ?_)
  · obtain ⟨a, b, rfl, _⟩ := h
    rfl
  · obtain ⟨a, b, rfl, hrow, hlen, k⟩ := h
    refine ⟨_, pss_cons (ps_set (i := 1) scLines.nd rfl (.inl rfl) (pe_fn G hr (by rfl) (pa_cons (pv 0) (pa_cons (pe_num c1 rfl) pa_nil))))
      (pss_cons (ps_if (pt_cmpR op_eq (pe_callB call_len_seq (by rfl) n1 PySem.boot_len (pa_cons (pe_ix ix_list (pv 1) (pe_un un_neg pe_int) (fun _ _ => rfl)) pa_nil)) pe_int (nomark _))
        (pss_one (ps_ret (pe_slice sl_list (pv 1) po_none (po_some (pe_un un_neg pe_int))))) pss_nil)
      (pss_one (ps_ret (pv 1)))), ?_⟩
    refine ⟨_, rfl, a, b, 10, rfl, hrow, hlen, fun H1 p as s1 h1 r1 => ?_⟩
    obtain ⟨as', z, rfl, hz, r2⟩ := r1.last (split_ne _ _ _)
    rw [List.map_append] at h1
    refine ⟨_, rfl, _, rfl, p, _, _, _, rfl, rfl, SqL.of h1, atI_last _ _, z, _, rfl, .inl (SqL.of hz), rfl, _, rfl, ?_⟩
    have el := linesOf_eq b []
    unfold cutLast at el
    have hg : (Sf42.split (fun c => c == 10) b []).getLast? = some ((Sf42.split (fun c => c == 10) b []).getLast (split_ne _ _ _)) := List.getLast?_eq_getLast _
    rw [hg] at el
    by_cases hb : (Sf42.split (fun c => c == 10) b []).getLast (split_ne _ _ _) = []
    · have e0 : decide (V.int (((vb ((Sf42.split (fun c => c == 10) b []).getLast (split_ne _ _ _))).length : Nat) : Int) = V.int 0) = true := by rw [hb]; rfl
      rw [e0]
      refine iteT ⟨_, rfl, _, rfl, _, rfl, p, _, rfl, SqL.of h1, fun q hq => ?_⟩
      rw [if_pos (by rw [hb])] at el
      refine k _ q as' (same_new s1 (s1.free hq)) ?_ ?_
      · show L2.upd H1 q (.lst (cutV (as'.map V.ref ++ [V.ref z]) none (some (-1)))) q = _
        rw [cut_last, upd_same]
      · show Rows _ as' (Sf42.linesOf b [])
        rw [el]
        exact r2.upd (r2.ne hq)
    · have e0 : decide (V.int (((vb ((Sf42.split (fun c => c == 10) b []).getLast (split_ne _ _ _))).length : Nat) : Int) = V.int 0) = false := by
        rw [decide_eq_false_iff_not]
        intro h
        have := V.int.inj h
        rw [vb_len] at this
        exact hb (List.length_eq_zero_iff.mp (Int.ofNat.inj this))
      rw [e0]
      refine iteF ⟨_, rfl, ?_⟩
      rw [if_neg (fun z => hb (Option.some.inj z))] at el
      refine k _ p (as' ++ [z]) s1 (by rw [List.map_append]; exact h1) ?_
      show Rows _ _ (Sf42.linesOf b [])
      rw [el]
      exact r1

/-! ### without_remark(line) -/
def spRemark (K : PySem.W.Frag) : Sp := fun vs H Q _ => ∃ (a : Addr) (b : Bytes), vs = [.ref a] ∧ RowAt K H a b ∧ b.length ≤ 100000 ∧
  ∀ H' p, Same H H' → H' p = some (.lst (vb (b.takeWhile fun c => c != 35))) → Q (.ref p) H'
theorem scRemark : FnScope ["line"] ["line"] (defScope sRemark) := ⟨rfl, rfl, rfl, by decide +kernel, rfl, by decide +kernel, by decide +kernel⟩
theorem fn_without_remark (D : DefAt K mg "without_remark" sRemark) (c1 : IntAt mg "HASH" 35) (G : Fn P w K mg base "parts_of" ["row", "mark"] 1 (spParts K)) : Fn P w K mg base "without_remark" ["line"] 2 (spRemark K) := by
  refine fn_mk D (fun _ _ _ _ _ _ us hl => match us, hl with | [_], _ => rfl) fun f fd F => ?_
  refine F.ok scRemark (fun vs H Q E h => ?_) (fun cdv A outer s H vs Q E hr h => ?_)
  · obtain ⟨a, b, rfl, _⟩ := h
    rfl
  · obtain ⟨a, b, rfl, hrow, hlen, k⟩ := h
    refine ⟨_, pss_one (ps_ret (pe_ix ix_list (pe_fn G hr (by rfl) (pa_cons (pv 0) (pa_cons (pe_num c1 rfl) pa_nil))) pe_int (fun _ _ => rfl))), ?_⟩
    refine ⟨_, rfl, a, b, 35, rfl, hrow, hlen, fun H1 p as s1 h1 r1 => ?_⟩
    have hb : (Sf42.split (fun c => c == 35) b [])[0]? = some (b.takeWhile fun c => c != 35) := by
      rw [← remark_eq, ← List.head?_eq_getElem?, List.head?_eq_head]
    obtain ⟨z, hz, hz2⟩ := r1.get' hb
    exact ⟨p, _, _, _, rfl, rfl, SqL.of h1, refs_atI (j := 0) rfl hz, k H1 z s1 hz2⟩

/-! ### words_of(line) -/
theorem scWords : FnScope ["line", "spaced", "byte", "word"] ["line"] (defScope sWords) := ⟨rfl, rfl, rfl, by decide +kernel, rfl, by decide +kernel, by decide +kernel⟩
theorem fn_words_of (D : DefAt K mg "words_of" sWords) (n1 : mg "len" = none) (c1 : IntAt mg "TAB" 9) (c2 : IntAt mg "SPACE" 32) (G : Fn P w K mg base "parts_of" ["row", "mark"] 1 (spParts K)) : Fn P w K mg base "words_of" ["line"] 2 (spRows K Sf42.words) := by
  refine fn_mk D (fun _ _ _ _ _ _ us hl => match us, hl with | [_], _ => rfl) fun f fd F => ?_
  refine F.ok scWords (fun vs H Q E h => ?_) (fun cdv A outer s H vs Q E hr h => ?_)
  · obtain ⟨a, b, rfl, _⟩ := h
    rfl
  · obtain ⟨a, b, rfl, hrow, hlen, k⟩ := h
    refine ⟨_, pss_cons (ps_setLc (i := 1) (own := [("byte", 2)]) (g := gName 2) (tt := tYes) rfl scWords.nd rfl rfl (sw_true rfl rfl rfl (by decide +kernel)) (pi_list (pv 0))
        (blkOk_by (N := ["line", "spaced", "byte", "word"]) (sc := defScope sWords) (by decide +kernel)) (fun _ _ _ _ _ => pg_name (i := 2) scWords.nd rfl (Or.inl rfl)) (fun _ _ _ _ _ => pts_nil)
        (fun _ _ _ _ _ => pe_ifExp (pt_cmpR op_eq (pv 2) (pe_num c1 (by rfl)) (nomark _)) (pe_num c2 (by rfl)) (pv 2)))
      (pss_one (ps_ret (pe_lc (own := [("word", 3)]) (g := gName 3) rfl scWords.nd (pi_list (pe_fn G hr (by rfl) (pa_cons (pv 1) (pa_cons (pe_num c2 rfl) pa_nil))))
        (blkOk_by (N := ["line", "spaced", "byte", "word"]) (sc := defScope sWords) (by decide +kernel)) (fun _ _ _ _ _ => pg_name (i := 3) scWords.nd rfl (Or.inl rfl))
        (fun _ _ _ _ _ => pts_one (pt_cmpR op_gt (pe_callB (call_lenS (K := K) rfl) (by rfl) n1 PySem.boot_len (pa_cons (pv 3) pa_nil)) pe_int (nomark _)))
        (fun _ _ _ _ _ => pv 3)))), ?_⟩
    refine ⟨_, rfl, a, rfl, ⟨_, hrow⟩, comp_map (K := K) (xs := vb b) (ys := vb (spaced b)) (by rw [vb_len, vb_len]; simp [spaced]) (by rw [vb_len]; omega) hrow (fun j x y hx hy H' Q' s1 q => ?_) ?_⟩
    · obtain ⟨c, hc, rfl⟩ := vb_get hx
      obtain ⟨d, hd, rfl⟩ := vb_get hy
      have ed : d = if c = 9 then 32 else c := by
        unfold spaced at hd
        rw [List.getElem?_map, hc] at hd
        exact (Option.some.inj hd).symm
      refine ⟨_, rfl, rfl, _, rfl, ?_⟩
      have e1 := dec_byte c 9
      have e2 : decide (V.int (c.toNat : Int) = V.int 9) = (c == 9) := e1
      rw [e2]
      by_cases h9 : c = 9
      · subst h9
        refine iteT ?_
        rw [if_pos rfl] at ed
        subst ed
        exact q H' (Same.refl _)
      · have : (c == 9) = false := by simpa using h9
        rw [this]
        refine iteF ⟨_, rfl, ?_⟩
        rw [if_neg h9] at ed
        subst ed
        exact q H' (Same.refl _)
    · intro H1 p s1 hp h1
      refine ⟨_, rfl, p, spaced b, 32, rfl, SqL.of h1, by simp [spaced]; omega, fun H2 q as s2 h2 r2 => ?_⟩
      refine ⟨q, rfl, ⟨_, SqL.of h2⟩, fun D hD => ?_⟩
      rw [split_spaced] at r2
      have hal : as.length ≤ b.length + 1 := by rw [r2.len]; exact split_len _ _ _
      refine lc_list (K := K) (a := q) (xs := as.map V.ref) (fun j H' => Same H2 H' ∧ ∃ as', H' D = some (.lst (as'.map V.ref)) ∧ Rows H2 as' (((Sf42.split Sf42.blank b []).take j).filter fun w => w != []))
        ⟨same_new (Same.refl _) hD, [], upd_same, .nil⟩ (fun j H' _ h => h.1.seq (SqL.of h2)) ?_ ?_
      · rintro j x H' hj ⟨s3, as', h3, r3⟩
        obtain ⟨z, hz, rfl⟩ := refs_get hj
        obtain ⟨r, hr', hzr⟩ := r2.get hz
        have er := take_more hr'
        refine ⟨rfl, _, rfl, z, _, rfl, .inl (SqL.of (s3 _ _ hzr)), _, _, rfl, rfl, _, rfl, ?_⟩
        rw [er, List.filter_append]
        by_cases he : r = []
        · subst he
          refine iteF ⟨s3, as', h3, ?_⟩
          simpa using r3
        · have e0 : decide ((0 : Int) < (((vb r).length : Nat) : Int)) = true := by
            rw [decide_eq_true_eq, vb_len]
            have := List.length_pos_iff.mpr he
            omega
          have e1 : ([r].filter fun w => w != []) = [r] := by simp [he]
          rw [e1]
          have hl' : as'.length ≤ b.length + 1 := by
            rw [r3.len]
            refine Nat.le_trans (List.length_filter_le _ _) ?_
            rw [List.length_take]
            have := split_len Sf42.blank b []
            omega
          show if decide ((0 : Int) < (((vb r).length : Nat) : Int)) = true then _ else _
          rw [e0]
          refine iteT ⟨_, rfl, _, h3, line_of (by rw [List.length_map]; omega), same_new s3 hD, as' ++ [z], ?_, r3.snoc hzr⟩
          rw [upd_same, List.map_append]
          rfl
      · rintro H' ⟨s3, as', h3, r3⟩
        have hl : (as.map V.ref).length = (Sf42.split Sf42.blank b []).length := by rw [List.length_map, r2.len]
        rw [hl, List.take_length] at r3
        exact k H' D as' ((s1.trans s2).trans s3) h3 (r3.same fun a xs e => s3 _ _ e)
end
end Ev

set_option Elab.async false
set_option linter.all false
set_option maxRecDepth 100000
set_option maxHeartbeats 2000000
namespace Ev
open PySem PySem.Spec PyProof.Rows L2
open Sf42 (Bytes)
abbrev sIsLeap : Stmt := top 36
abbrev sDaysIn : Stmt := top 37
abbrev sIsDay : Stmt := top 38
abbrev sBegins : Stmt := top 39
/-- a tuple of the module -/
structure TupIn (K : PySem.W.Frag) (mg : Str → Option Value) (x : Str) (xs : List V) : Prop where
  ex : ∃ t, mg x = some (.ref t) ∧ ∀ H : Hp, SqT K H t xs
theorem not_t {b : Bool} (h : (!b) = true) : b = false := by cases b <;> simp_all
theorem not_f {b : Bool} (h : (!b) = false) : b = true := by cases b <;> simp_all
theorem two_ways {Q : Bool → Prop} (b : Bool) (h1 : b = true → Q true) (h2 : b = false → Q false) : Q b := by
  cases b with
  | true => exact h1 rfl
  | false => exact h2 rfl
theorem if_bool {b : Bool} {A B : Prop} (h1 : b = true → A) (h2 : b = false → B) : if b = true then A else B := by
  cases b with
  | true => exact iteT (h1 rfl)
  | false => exact iteF (h2 rfl)
section
variable {P : Program} {w : World} {K : PySem.W.Frag} {mg : Str → Option Value} {base : Heap}

/-! ### is_leap(year) -/
def spLeap : Sp := fun vs H Q _ => ∃ y : Nat, vs = [.int (y : Int)] ∧ ∀ H', Same H H' → Q (.bl (Sf42.leap y)) H'
theorem scIsLeap : FnScope ["year"] ["year"] (defScope sIsLeap) := ⟨rfl, rfl, rfl, by decide +kernel, rfl, by decide +kernel, by decide +kernel⟩
theorem dec_mod (y : Nat) (m : Nat) (r : Nat) : decide (V.int ((y : Int) % (m : Int)) = V.int (r : Int)) = (y % m == r) := by
  have : (V.int ((y : Int) % (m : Int)) = V.int (r : Int)) ↔ y % m = r := ⟨fun h => by have := V.int.inj h; omega, fun h => by congr 1; omega⟩
  simp only [this]; rfl
theorem fn_is_leap (D : DefAt K mg "is_leap" sIsLeap) : Fn P w K mg base "is_leap" ["year"] 1 spLeap := by
  refine fn_mk D (fun _ _ _ _ _ _ us hl => match us, hl with | [_], _ => rfl) fun f fd F => ?_
  refine F.ok scIsLeap (fun vs H Q E h => ?_) (fun cdv A outer s H vs Q E hr h => ?_)
  · obtain ⟨y, rfl, _⟩ := h
    rfl
  · obtain ⟨y, rfl, k⟩ := h
    refine ⟨_, pss_one (ps_ret (pe_and (pe_cmpR op_eq (pe_op op_mod (pv 0) pe_int) pe_int (nomark _))
      (pe_one (pe_or (pe_cmpR op_ne (pe_op op_mod (pv 0) pe_int) pe_int (nomark _)) (pe_one (pe_cmpR op_eq (pe_op op_mod (pv 0) pe_int) pe_int (nomark _))))))), ?_⟩
    have kk := k H (Same.refl H)
    unfold Sf42.leap at kk
    refine ⟨_, rfl, _, _, rfl, rfl, (by show (0 : Int) < 4; decide), rfl, _, rfl, ?_⟩
    have e1 := dec_mod y 4 0
    have e2 := dec_mod y 100 0
    have e3 := dec_mod y 400 0
    refine if_bool (fun h1 => ?_) (fun h1 => ?_)
    · have h1 := e1.symm.trans h1
      rw [h1] at kk
      refine ⟨_, rfl, _, _, rfl, rfl, (by show (0 : Int) < 100; decide), rfl, _, rfl, if_bool (fun h2 => ?_) (fun h2 => ?_)⟩
      · have h2 : (y % 100 != 0) = true := by unfold bne; rw [← e2]; exact h2
        rw [h2] at kk
        exact kk
      · have h2 : (y % 100 != 0) = false := by unfold bne; rw [← e2]; exact h2
        rw [h2] at kk
        refine ⟨_, rfl, _, _, rfl, rfl, (by show (0 : Int) < 400; decide), rfl, ?_⟩
        have kt : Q (.bl (y % 400 == 0)) H → Q (.bl (decide (V.int ((y : Int) % (400 : Nat)) = V.int (0 : Nat)))) H := by rw [e3]; exact id
        exact kt kk
    · have h1 := e1.symm.trans h1
      rw [h1] at kk
      exact kk

/-! ### days_in(year, month) -/
def spDays : Sp := fun vs H Q _ => ∃ y m : Nat, vs = [.int (y : Int), .int (m : Int)] ∧ 1 ≤ m ∧ m ≤ 12 ∧ ∀ H', Same H H' → Q (.int (Sf42.daysIn y m : Int)) H'
theorem scDaysIn : FnScope ["year", "month"] ["year", "month"] (defScope sDaysIn) := ⟨rfl, rfl, rfl, by decide +kernel, rfl, by decide +kernel, by decide +kernel⟩
def vMonths : List V := monthDays.map fun (n : Nat) => V.int (n : Int)
theorem dec_nat (y r : Nat) : decide (V.int (y : Int) = V.int (r : Int)) = decide (y = r) := by
  have : (V.int (y : Int) = V.int (r : Int)) ↔ y = r := ⟨fun h => by have := V.int.inj h; omega, fun h => by congr 1; omega⟩
  simp only [this]
theorem fn_days_in (D : DefAt K mg "days_in" sDaysIn) (c1 : IntAt mg "FEBRUARY" 2) (c2 : TupIn K mg "MONTH_DAYS" vMonths) (G : Fn P w K mg base "is_leap" ["year"] 1 spLeap) : Fn P w K mg base "days_in" ["year", "month"] 2 spDays := by
  obtain ⟨t, mt, ht⟩ := c2.ex
  refine fn_mk D (fun _ _ _ _ _ _ us hl => match us, hl with | [_, _], _ => rfl) fun f fd F => ?_
  refine F.ok scDaysIn (fun vs H Q E h => ?_) (fun cdv A outer s H vs Q E hr h => ?_)
  · obtain ⟨y, m, rfl, _⟩ := h
    rfl
  · obtain ⟨y, m, rfl, hm1, hm2, k⟩ := h
    refine ⟨_, pss_cons (ps_if (PW.pt (pw_and (pt_cmpR op_eq (pv 1) (pe_num c1 rfl) (nomark _)) (pw_and1 (pt_val (pe_fn G hr (by rfl) (pa_cons (pv 0) pa_nil)))))) (pss_one (ps_ret pe_int)) pss_nil)
      (pss_one (ps_ret (pe_ix ix_tup (pe_glob (v := .ref t) rfl mt rfl) (pe_op op_sub (pv 1) pe_int) (fun _ _ => rfl)))), ?_⟩
    have last : ∀ H', Same H H' → ¬ (m = 2 ∧ Sf42.leap y = true) → tRet (tOp (rIxT K) (tC (.ref t)) (tOp (rI0 fun i j => .int (i - j)) (tVar 1) (tC (.int 1)))) { nx := fun _ H' => Q .non H', rt := Q } (L2.start ["year", "month"] [.int (y : Int), .int (m : Int)]) H' := by
      intro H' s1 hn
      refine ⟨_, rfl, _, _, rfl, rfl, t, _, _, _, rfl, rfl, ht H', ?_, k H' s1⟩
      have e := daysIn_eq y m hm1 hm2 hn
      have e2 : vMonths[m - 1]? = some (V.int (Sf42.daysIn y m : Int)) := by unfold vMonths; rw [List.getElem?_map, e]; rfl
      have e3 : (m : Int) - 1 = ((m - 1 : Nat) : Int) := by omega
      show atI vMonths ((m : Int) - 1) = _
      rw [e3]
      exact atI_nat e2
    refine ⟨_, rfl, rfl, _, rfl, ?_⟩
    have e1 := dec_nat m 2
    refine if_bool (fun h1 => ?_) (fun h1 => ?_)
    · have h1 := of_decide_eq_true (e1.symm.trans h1)
      refine ⟨_, rfl, y, rfl, fun H' s1 => ⟨_, rfl, if_bool (fun h2 => ?_) (fun h2 => ?_)⟩⟩
      · have := k H' s1
        rw [daysIn_leap y m ⟨h1, h2⟩] at this
        exact this
      · exact last H' s1 (fun z => by rw [z.2] at h2; cases h2)
    · have h1 := of_decide_eq_false (e1.symm.trans h1)
      exact iteF (last H (Same.refl H) (fun z => h1 z.1))

/-! ### is_day(row) -/
theorem scIsDay : FnScope ["row", "year", "month"] ["row"] (defScope sIsDay) := ⟨rfl, rfl, rfl, by decide +kernel, rfl, by decide +kernel, by decide +kernel⟩
theorem dec_byte' (c : UInt8) (o : Option UInt8) (d : UInt8) (h : o = some c) : (!decide (V.int (c.toNat : Int) = V.int (d.toNat : Int))) = !(o == some d) := by
  rw [dec_byte, h]
  rfl
theorem all_take {p : UInt8 → Bool} {b : Bytes} (n : Nat) (h : b.all p = true) : (b.take n).all p = true := by
  rw [List.all_eq_true] at h ⊢
  exact fun x hx => h x (List.mem_of_mem_take hx)
theorem isDay_eq (b : Bytes) (hl : b.length = 10) (h4 : (b[4]? == some 45) = true) (h7 : (b[7]? == some 45) = true) (hd : (b.take 4 ++ (b.drop 5).take 2 ++ b.drop 8).all Sf42.digit = true) :
    Sf42.isDay b = (decide (1583 ≤ Sf42.number (b.take 4)) && (decide (1 ≤ Sf42.number ((b.drop 5).take 2)) && (decide (Sf42.number ((b.drop 5).take 2) ≤ 12) && (decide (1 ≤ Sf42.number (b.drop 8)) && decide (Sf42.number (b.drop 8) ≤ Sf42.daysIn (Sf42.number (b.take 4)) (Sf42.number ((b.drop 5).take 2))))))) := by
  unfold Sf42.isDay
  have e1 : (b.length == 10) = true := by rw [hl]; rfl
  rw [List.append_assoc] at hd
  simp only [e1, h4, h7, hd, Bool.true_and]
theorem isDay_len (b : Bytes) (hl : b.length ≠ 10) : Sf42.isDay b = false := by
  unfold Sf42.isDay
  have e1 : (b.length == 10) = false := by simpa using hl
  simp only [e1, Bool.false_and]
theorem isDay_4 (b : Bytes) (h4 : (b[4]? == some 45) = false) : Sf42.isDay b = false := by
  unfold Sf42.isDay
  simp only [h4, Bool.false_and, Bool.and_false]
theorem isDay_7 (b : Bytes) (h7 : (b[7]? == some 45) = false) : Sf42.isDay b = false := by
  unfold Sf42.isDay
  simp only [h7, Bool.false_and, Bool.and_false]
theorem isDay_d (b : Bytes) (hd : (b.take 4 ++ (b.drop 5).take 2 ++ b.drop 8).all Sf42.digit = false) : Sf42.isDay b = false := by
  rw [List.append_assoc] at hd
  unfold Sf42.isDay
  simp only [hd, Bool.false_and, Bool.and_false]
theorem fn_is_day (D : DefAt K mg "is_day" sIsDay) (n1 : mg "len" = none) (c1 : IntAt mg "DAY_BYTES" 10) (c2 : IntAt mg "DASH" 45) (c3 : IntAt mg "FIRST_YEAR" 1583)
    (G1 : Fn P w K mg base "are_digits" ["row"] 2 (spRow K fun b => b.all Sf42.digit)) (G2 : Fn P w K mg base "number_of" ["digits"] 1 (spNumber K)) (G3 : Fn P w K mg base "days_in" ["year", "month"] 2 spDays) :
    Fn P w K mg base "is_day" ["row"] 3 (spRow K Sf42.isDay) := by
  refine fn_mk D (fun _ _ _ _ _ _ us hl => match us, hl with | [_], _ => rfl) fun f fd F => ?_
  refine F.ok scIsDay (fun vs H Q E h => ?_) (fun cdv A outer s H vs Q E hr h => ?_)
  · obtain ⟨a, b, rfl, _⟩ := h
    rfl
  · obtain ⟨a, b, rfl, hrow, hlen, k⟩ := h
    have hr1 : Room 1 _ := hr.mono (by decide)
    refine ⟨_, pss_cons (ps_if (PW.pt (pw_or (pt_cmpR op_ne (pe_callB call_len_seq (by rfl) n1 PySem.boot_len (pa_cons (pv 0) pa_nil)) (pe_num c1 rfl) (nomark _))
        (pw_or (pt_cmpR op_ne (pe_ix ix_list (pv 0) pe_int (fun _ _ => rfl)) (pe_num c2 rfl) (nomark _)) (pw_or1 (pt_cmpR op_ne (pe_ix ix_list (pv 0) pe_int (fun _ _ => rfl)) (pe_num c2 rfl) (nomark _)))))) (pss_one (ps_ret pe_bl)) pss_nil)
      (pss_cons (ps_if (pt_not (pt_val (pe_fn G1 hr (by rfl) (pa_cons (pe_op op_cat (pe_op op_cat (pe_slice sl_list (pv 0) po_none (po_some pe_int)) (pe_slice sl_list (pv 0) (po_some pe_int) (po_some pe_int))) (pe_slice sl_list (pv 0) (po_some pe_int) po_none)) pa_nil)))) (pss_one (ps_ret pe_bl)) pss_nil)
      (pss_cons (ps_set (i := 1) scIsDay.nd rfl (.inl rfl) (pe_fn G2 hr1 (by rfl) (pa_cons (pe_slice sl_list (pv 0) po_none (po_some pe_int)) pa_nil)))
      (pss_cons (ps_set (i := 2) scIsDay.nd rfl (.inl rfl) (pe_fn G2 hr1 (by rfl) (pa_cons (pe_slice sl_list (pv 0) (po_some pe_int) (po_some pe_int)) pa_nil)))
      (pss_cons (ps_if (PW.pt (pw_or (pt_cmpR op_lt (pv 1) (pe_num c3 rfl) (nomark _)) (pw_or (pt_cmpR op_lt (pv 2) pe_int (nomark _)) (pw_or1 (pt_cmpR op_gt (pv 2) pe_int (nomark _)))))) (pss_one (ps_ret pe_bl)) pss_nil)
      (pss_one (ps_ret (pe_chain op_le op_le pe_int (pe_fn G2 hr1 (by rfl) (pa_cons (pe_slice sl_list (pv 0) (po_some pe_int) po_none) pa_nil)) (pe_fn G3 hr (by rfl) (pa_cons (pv 1) (pa_cons (pv 2) pa_nil))))))))))
      , ?_⟩
    refine ⟨_, rfl, a, _, rfl, .inl hrow, rfl, _, rfl, ?_⟩
    have kf : ∀ H', Same H H' → Sf42.isDay b = false → Q (.bl false) H' := fun H' s1 e => by have := k H' s1; rw [e] at this; exact this
    refine if_bool (fun h1 => ?_) (fun h1 => ?_)
    · refine iteT (kf H (Same.refl H) (isDay_len b fun z => ?_))
      rw [vb_len, z] at h1
      exact absurd h1 (by decide)
    have hl : b.length = 10 := by
      have h1 : (!decide (V.int (((vb b).length : Nat) : Int) = V.int 10)) = false := h1
      rw [vb_len] at h1
      have h2 : decide (V.int ((b.length : Nat) : Int) = V.int ((10 : Nat) : Int)) = true := by simpa using h1
      rw [dec_nat] at h2
      exact of_decide_eq_true h2
    have hb4 := List.getElem?_eq_getElem (l := b) (i := 4) (by omega)
    have hb7 := List.getElem?_eq_getElem (l := b) (i := 7) (by omega)
    refine ⟨_, rfl, a, _, _, _, rfl, rfl, hrow, vb_atI (j := 4) rfl hb4, rfl, _, rfl, if_bool (fun h2 => ?_) (fun h2 => ?_)⟩
    · have h2 := (dec_byte' b[4] _ 45 hb4).symm.trans h2
      exact iteT (kf H (Same.refl H) (isDay_4 b (by simpa using h2)))
    have h4 : (b[4]? == some 45) = true := by
      have h2 := (dec_byte' b[4] _ 45 hb4).symm.trans h2
      simpa using h2
    refine ⟨_, rfl, a, _, _, _, rfl, rfl, hrow, vb_atI (j := 7) rfl hb7, rfl, _, rfl, if_bool (fun h3 => ?_) (fun h3 => ?_)⟩
    · have h3 := (dec_byte' b[7] _ 45 hb7).symm.trans h3
      exact kf H (Same.refl H) (isDay_7 b (by simpa using h3))
    have h7 : (b[7]? == some 45) = true := by
      have h3 := (dec_byte' b[7] _ 45 hb7).symm.trans h3
      simpa using h3
    -- the three slices, their sum
    refine ⟨_, rfl, _, rfl, a, _, rfl, hrow, fun p1 n1' => ?_⟩
    have e1 := cut_take b 4 (z := 4) rfl
    have e2 := cut_mid b 5 7 (by omega) (by omega) (y := 5) (z := 7) rfl rfl
    have e3 := cut_drop b 8 (z := 8) rfl
    have s1 := same_new (o := .lst (cutV (vb b) none (some 4))) (Same.refl H) n1'
    refine ⟨_, rfl, _, rfl, _, rfl, a, _, rfl, s1.seq hrow, fun p2 n2 => ?_⟩
    have ne12 : p1 ≠ p2 := fun z => by rw [← z, upd_same] at n2; cases n2
    have s2 := same_upd (o := .lst (cutV (vb b) (some 5) (some 7))) s1 n2
    refine ⟨p1, p2, _, _, rfl, rfl, by rw [upd_ne ne12, upd_same], upd_same, Nat.le_of_lt (line_of (by
      have := cutV_length (vb b) none (some 4)
      have := cutV_length (vb b) (some 5) (some 7)
      rw [vb_len] at *
      omega)), fun p3 n3 => ?_⟩
    have s3 := same_upd (o := .lst (cutV (vb b) none (some 4) ++ cutV (vb b) (some 5) (some 7))) s2 n3
    refine ⟨_, rfl, _, rfl, a, _, rfl, s3.seq hrow, fun p4 n4 => ?_⟩
    have ne34 : p3 ≠ p4 := fun z => by rw [← z, upd_same] at n4; cases n4
    have s4 := same_upd (o := .lst (cutV (vb b) (some 8) none)) s3 n4
    refine ⟨p3, p4, _, _, rfl, rfl, by rw [upd_ne ne34, upd_same], upd_same, Nat.le_of_lt (line_of (by
      have := cutV_length (vb b) none (some 4)
      have := cutV_length (vb b) (some 5) (some 7)
      have := cutV_length (vb b) (some 8) none
      rw [List.length_append]
      rw [vb_len] at *
      omega)), fun p5 n5 => ?_⟩
    have s5 := same_upd (o := .lst (cutV (vb b) none (some 4) ++ cutV (vb b) (some 5) (some 7) ++ cutV (vb b) (some 8) none)) s4 n5
    refine ⟨p5, b.take 4 ++ (b.drop 5).take 2 ++ b.drop 8, rfl, SqL.of ?_, ?_, fun H6 s6 => ⟨_, rfl, if_bool (fun h6 => ?_) (fun h6 => ?_)⟩⟩
    · rw [upd_same, vb_app, vb_app, e1, e2, e3]
    · simp only [List.length_append, List.length_take, List.length_drop]
      omega
    · exact kf H6 (s5.trans s6) (isDay_d b (not_t h6))
    have hd : (b.take 4 ++ (b.drop 5).take 2 ++ b.drop 8).all Sf42.digit = true := not_f h6
    have ek := isDay_eq b hl h4 h7 hd
    rw [List.all_append, List.all_append, Bool.and_eq_true, Bool.and_eq_true] at hd
    have s6' := s5.trans s6
    -- year, month
    refine ⟨_, rfl, _, rfl, a, _, rfl, s6'.seq hrow, fun p6 n6 => ?_⟩
    have s7 := same_upd (o := .lst (cutV (vb b) none (some 4))) s6' n6
    refine ⟨p6, b.take 4, rfl, SqL.of (by rw [upd_same, e1]), hd.1.1, by rw [List.length_take]; omega, fun H8 s8 => ?_⟩
    have s8' := s7.trans s8
    refine ⟨_, rfl, _, rfl, _, rfl, a, _, rfl, s8'.seq hrow, fun p7 n7 => ?_⟩
    have s9 := same_upd (o := .lst (cutV (vb b) (some 5) (some 7))) s8' n7
    refine ⟨p7, (b.drop 5).take 2, rfl, SqL.of (by rw [upd_same, e2]), hd.1.2, by rw [List.length_take]; omega, fun H10 s10 => ?_⟩
    have s10' := s9.trans s10
    generalize hy : Sf42.number (b.take 4) = y at *
    generalize hm : Sf42.number ((b.drop 5).take 2) = m at *
    refine ⟨_, rfl, _, _, rfl, rfl, _, rfl, if_bool (fun g1 => ?_) (fun g1 => ?_)⟩
    · have g1 : (y : Int) < 1583 := of_decide_eq_true g1
      refine iteT (kf H10 s10' ?_)
      rw [ek, decide_eq_false (by omega)]; rfl
    have g1 : ¬ (y : Int) < 1583 := of_decide_eq_false g1
    refine ⟨_, rfl, _, _, rfl, rfl, _, rfl, if_bool (fun g2 => ?_) (fun g2 => ?_)⟩
    · have g2 : (m : Int) < 1 := of_decide_eq_true g2
      refine iteT (kf H10 s10' ?_)
      rw [ek, decide_eq_true (show 1583 ≤ y by omega), decide_eq_false (show ¬ 1 ≤ m by omega)]; rfl
    have g2 : ¬ (m : Int) < 1 := of_decide_eq_false g2
    refine ⟨_, rfl, _, _, rfl, rfl, _, rfl, if_bool (fun g3 => ?_) (fun g3 => ?_)⟩
    · have g3 : (12 : Int) < (m : Int) := of_decide_eq_true g3
      refine kf H10 s10' ?_
      rw [ek, decide_eq_true (show 1583 ≤ y by omega), decide_eq_true (show 1 ≤ m by omega), decide_eq_false (show ¬ m ≤ 12 by omega)]; rfl
    have g3 : ¬ (12 : Int) < (m : Int) := of_decide_eq_false g3
    rw [decide_eq_true (show 1583 ≤ y by omega), decide_eq_true (show 1 ≤ m by omega), decide_eq_true (show m ≤ 12 by omega), Bool.true_and, Bool.true_and, Bool.true_and] at ek
    rw [ek] at k
    refine ⟨_, rfl, _, rfl, a, _, rfl, s10'.seq hrow, fun p8 n8 => ?_⟩
    have s11 := same_upd (o := .lst (cutV (vb b) (some 8) none)) s10' n8
    refine ⟨p8, b.drop 8, rfl, SqL.of (by rw [upd_same, e3]), hd.2, by rw [List.length_drop]; omega, fun H12 s12 => ?_⟩
    have s12' := s11.trans s12
    refine ⟨_, _, rfl, rfl, _, rfl, if_bool (fun g4 => ?_) (fun g4 => ?_)⟩
    · have g4 : (1 : Int) ≤ ((Sf42.number (b.drop 8) : Nat) : Int) := of_decide_eq_true g4
      refine ⟨_, rfl, _, rfl, y, m, rfl, by omega, by omega, fun H13 s13 => ⟨_, _, rfl, rfl, ?_⟩⟩
      have kk := k H13 (s12'.trans s13)
      rw [decide_eq_true (show 1 ≤ Sf42.number (b.drop 8) by omega), Bool.true_and] at kk
      have e9 : decide (((Sf42.number (b.drop 8) : Nat) : Int) ≤ ((Sf42.daysIn y m : Nat) : Int)) = decide (Sf42.number (b.drop 8) ≤ Sf42.daysIn y m) := by congr 1; exact propext (by omega)
      have kt : Q (.bl (decide (Sf42.number (b.drop 8) ≤ Sf42.daysIn y m))) H13 → Q (.bl (decide (((Sf42.number (b.drop 8) : Nat) : Int) ≤ ((Sf42.daysIn y m : Nat) : Int)))) H13 := by rw [e9]; exact id
      exact kt kk
    · have g4 : ¬ (1 : Int) ≤ ((Sf42.number (b.drop 8) : Nat) : Int) := of_decide_eq_false g4
      have kk := k H12 s12'
      rw [decide_eq_false (show ¬ 1 ≤ Sf42.number (b.drop 8) by omega), Bool.false_and] at kk
      exact kk

/-! ### begins_entry(line) -/
def begins (b : Bytes) : Bool := Sf42.isDay (b.take 10) && (decide (b.length = 10) || (b[10]?.map Sf42.blank).getD false)
theorem begins_iff (b : Bytes) : begins b = true ↔ (Sf42.isDay (b.take 10) = true ∧ (b.length = 10 ∨ (b[10]?.map Sf42.blank).getD false = true)) := by
  unfold begins
  simp only [Bool.and_eq_true, Bool.or_eq_true, decide_eq_true_eq]
theorem isDay_ten {b : Bytes} (h : Sf42.isDay b = true) : b.length = 10 := by
  by_cases hl : b.length = 10
  · exact hl
  · rw [isDay_len b hl] at h; cases h
theorem scBegins : FnScope ["line"] ["line"] (defScope sBegins) := ⟨rfl, rfl, rfl, by decide +kernel, rfl, by decide +kernel, by decide +kernel⟩
theorem fn_begins_entry (D : DefAt K mg "begins_entry" sBegins) (n1 : mg "len" = none) (c1 : IntAt mg "DAY_BYTES" 10) (G1 : Fn P w K mg base "is_day" ["row"] 3 (spRow K Sf42.isDay)) (G2 : Fn P w K mg base "is_blank" ["byte"] 1 (spByte Sf42.blank)) :
    Fn P w K mg base "begins_entry" ["line"] 4 (spRow K begins) := by
  refine fn_mk D (fun _ _ _ _ _ _ us hl => match us, hl with | [_], _ => rfl) fun f fd F => ?_
  refine F.ok scBegins (fun vs H Q E h => ?_) (fun cdv A outer s H vs Q E hr h => ?_)
  · obtain ⟨a, b, rfl, _⟩ := h
    rfl
  · obtain ⟨a, b, rfl, hrow, hlen, k⟩ := h
    have hr1 : Room 1 _ := hr.mono (by decide)
    refine ⟨_, pss_cons (ps_if (pt_not (pt_val (pe_fn G1 hr (by rfl) (pa_cons (pe_slice sl_list (pv 0) po_none (po_some (pe_num c1 rfl))) pa_nil)))) (pss_one (ps_ret pe_bl)) pss_nil)
      (pss_one (ps_ret (pe_or (pe_cmpR op_eq (pe_callB call_len_seq (by rfl) n1 PySem.boot_len (pa_cons (pv 0) pa_nil)) (pe_num c1 rfl) (nomark _)) (pe_one (pe_fn G2 hr1 (by rfl) (pa_cons (pe_ix ix_list (pv 0) (pe_num c1 rfl) (fun _ _ => rfl)) pa_nil)))))), ?_⟩
    refine ⟨_, rfl, _, rfl, a, _, rfl, hrow, fun p hp => ?_⟩
    have e1 := cut_take b 10 (z := 10) rfl
    have s1 := same_new (o := .lst (cutV (vb b) none (some 10))) (Same.refl H) hp
    refine ⟨p, b.take 10, rfl, SqL.of (by rw [upd_same, e1]), by rw [List.length_take]; omega, fun H1 s2 => ⟨_, rfl, if_bool (fun h1 => ?_) (fun h1 => ?_)⟩⟩
    · have kk := k H1 (s1.trans s2)
      have h1 := not_t h1
      unfold begins at kk
      rw [h1, Bool.false_and] at kk
      exact kk
    have h1 := not_f h1
    have hten := isDay_ten h1
    rw [List.length_take] at hten
    have s2' := s1.trans s2
    refine ⟨_, rfl, a, _, rfl, .inl (s2'.seq hrow), rfl, _, rfl, if_bool (fun h2 => ?_) (fun h2 => ?_)⟩
    · have kk := k H1 s2'
      have h2 : decide (V.int (((vb b).length : Nat) : Int) = V.int ((10 : Nat) : Int)) = true := h2
      rw [vb_len, dec_nat] at h2
      unfold begins at kk
      rw [h1, h2, Bool.true_and, Bool.true_or] at kk
      exact kk
    · have h2 : decide (V.int (((vb b).length : Nat) : Int) = V.int ((10 : Nat) : Int)) = false := h2
      rw [vb_len, dec_nat] at h2
      have hne := of_decide_eq_false h2
      have hb := List.getElem?_eq_getElem (l := b) (i := 10) (by omega)
      refine ⟨_, rfl, a, _, _, _, rfl, rfl, s2'.seq hrow, vb_atI (j := 10) rfl hb, b[10], rfl, fun H3 s3 => ?_⟩
      have kk := k H3 (s2'.trans s3)
      unfold begins at kk
      rw [h1, h2, hb, Bool.true_and, Bool.false_or] at kk
      exact kk
end
end Ev

set_option Elab.async false
set_option linter.all false
set_option maxRecDepth 100000
set_option maxHeartbeats 2000000
namespace Ev
open PySem PySem.Spec PyProof.Rows L2
open Sf42 (Bytes)
abbrev sIsNameSign : Stmt := top 40
abbrev sIsName : Stmt := top 41
abbrev sIsAccount : Stmt := top 42
abbrev sIsKind : Stmt := top 44
abbrev sIsWhole : Stmt := top 45
abbrev sIsRest : Stmt := top 46
section
variable {P : Program} {w : World} {K : PySem.W.Frag} {mg : Str → Option Value} {base : Heap}

/-! ### is_name_sign(byte) -/
theorem scIsNameSign : FnScope ["byte"] ["byte"] (defScope sIsNameSign) := ⟨rfl, rfl, rfl, by decide +kernel, rfl, by decide +kernel, by decide +kernel⟩
theorem fn_is_name_sign (D : DefAt K mg "is_name_sign" sIsNameSign) (c1 : IntAt mg "UNDERSCORE" 95) (c2 : IntAt mg "DASH" 45) (G1 : Fn P w K mg base "is_small" ["byte"] 1 (spByte Sf42.small)) (G2 : Fn P w K mg base "is_digit" ["byte"] 1 (spByte Sf42.digit)) :
    Fn P w K mg base "is_name_sign" ["byte"] 2 (spByte nameSign) := by
  refine fn_mk D (fun _ _ _ _ _ _ us hl => match us, hl with | [_], _ => rfl) fun f fd F => ?_
  refine F.ok scIsNameSign (fun vs H Q E h => ?_) (fun cdv A outer s H vs Q E hr h => ?_)
  · obtain ⟨c, rfl, _⟩ := h
    rfl
  · obtain ⟨c, rfl, k⟩ := h
    refine ⟨_, pss_one (ps_ret (pe_or (pe_fn G1 hr (by rfl) (pa_cons (pv 0) pa_nil)) (pe_or (pe_fn G2 hr (by rfl) (pa_cons (pv 0) pa_nil))
      (pe_or (pe_cmpR op_eq (pv 0) (pe_num c1 rfl) (nomark _)) (pe_one (pe_cmpR op_eq (pv 0) (pe_num c2 rfl) (nomark _))))))), ?_⟩
    unfold nameSign at k
    refine ⟨_, rfl, c, rfl, fun H1 s1 => ⟨_, rfl, if_bool (fun h1 => ?_) (fun h1 => ?_)⟩⟩
    · have kk := k H1 s1
      rw [h1, Bool.true_or] at kk
      exact kk
    refine ⟨_, rfl, c, rfl, fun H2 s2 => ⟨_, rfl, if_bool (fun h2 => ?_) (fun h2 => ?_)⟩⟩
    · have kk := k H2 (s1.trans s2)
      rw [h1, h2, Bool.false_or, Bool.true_or] at kk
      exact kk
    have kk := k H2 (s1.trans s2)
    rw [h1, h2, Bool.false_or, Bool.false_or] at kk
    have e1 := dec_byte c 95
    have e2 := dec_byte c 45
    refine ⟨_, rfl, rfl, _, rfl, if_bool (fun h3 => ?_) (fun h3 => ?_)⟩
    · rw [e1.symm.trans h3, Bool.true_or] at kk
      exact kk
    · rw [e1.symm.trans h3, Bool.false_or] at kk
      refine ⟨_, rfl, rfl, ?_⟩
      have kt : Q (.bl (c == 45)) H2 → Q (.bl (decide (V.int (c.toNat : Int) = V.int ((45 : UInt8).toNat : Int)))) H2 := by rw [e2]; exact id
      exact kt kk

/-! ### is_name(row) -/
theorem scIsName : FnScope ["row", "byte"] ["row"] (defScope sIsName) := ⟨rfl, rfl, rfl, by decide +kernel, rfl, by decide +kernel, by decide +kernel⟩
theorem fn_is_name (D : DefAt K mg "is_name" sIsName) (n1 : mg "len" = none) (n2 : mg "all" = none) (c1 : IntAt mg "MOST_NAME_SIGNS" 31) (G1 : Fn P w K mg base "is_small" ["byte"] 1 (spByte Sf42.small)) (G2 : Fn P w K mg base "is_name_sign" ["byte"] 2 (spByte nameSign)) :
    Fn P w K mg base "is_name" ["row"] 3 (spRow K isName) := by
  refine fn_mk D (fun _ _ _ _ _ _ us hl => match us, hl with | [_], _ => rfl) fun f fd F => ?_
  refine F.ok scIsName (fun vs H Q E h => ?_) (fun cdv A outer s H vs Q E hr h => ?_)
  · obtain ⟨a, b, rfl, _⟩ := h
    rfl
  · obtain ⟨a, b, rfl, hrow, hlen, k⟩ := h
    have hr1 : Room 1 _ := hr.mono (by decide)
    refine ⟨_, pss_cons (ps_if (PW.pt (pw_or (pt_cmpR op_lt (pe_callB call_len_seq (by rfl) n1 PySem.boot_len (pa_cons (pv 0) pa_nil)) pe_int (nomark _)) (pw_or1 (pt_cmpR op_gt (pe_callB call_len_seq (by rfl) n1 PySem.boot_len (pa_cons (pv 0) pa_nil)) (pe_num c1 rfl) (nomark _))))) (pss_one (ps_ret pe_bl)) pss_nil)
      (pss_one (ps_ret (pe_and (pe_fn G1 hr1 (by rfl) (pa_cons (pe_ix ix_list (pv 0) pe_int (fun _ _ => rfl)) pa_nil))
        (pe_one (pe_callB (cr_all rfl) (by rfl) n2 boot_all (pa_cons (pe_lc (own := [("byte", 1)]) (g := gName 1) (tt := tYes) rfl scIsName.nd (pi_list (pv 0))
          (blkOk_by (N := ["row", "byte"]) (sc := defScope sIsName) (by decide +kernel)) (fun _ _ _ _ _ => pg_name (i := 1) scIsName.nd rfl (Or.inl rfl)) (fun _ _ _ _ _ => pts_nil)
          (fun _ _ _ _ _ => pe_fn G2 hr (by rfl) (pa_cons (pv 1) pa_nil))) pa_nil)))))), ?_⟩
    unfold isName at k
    have kk := k H (Same.refl H)
    refine ⟨_, rfl, a, _, rfl, .inl hrow, _, _, rfl, rfl, _, rfl, if_bool (fun h1 => ?_) (fun h1 => ?_)⟩
    · have h1 : (((vb b).length : Nat) : Int) < 1 := of_decide_eq_true h1
      rw [vb_len] at h1
      rw [decide_eq_false (show ¬ 1 ≤ b.length by omega), Bool.false_and] at kk
      exact iteT kk
    have h1 : ¬ (((vb b).length : Nat) : Int) < 1 := of_decide_eq_false h1
    rw [vb_len] at h1
    refine ⟨_, rfl, a, _, rfl, .inl hrow, _, _, rfl, rfl, _, rfl, if_bool (fun h2 => ?_) (fun h2 => ?_)⟩
    · have h2 : (31 : Int) < (((vb b).length : Nat) : Int) := of_decide_eq_true h2
      rw [vb_len] at h2
      rw [decide_eq_false (show ¬ b.length ≤ 31 by omega), Bool.false_and, Bool.and_false] at kk
      exact kk
    have h2 : ¬ (31 : Int) < (((vb b).length : Nat) : Int) := of_decide_eq_false h2
    rw [vb_len] at h2
    rw [decide_eq_true (show 1 ≤ b.length by omega), decide_eq_true (show b.length ≤ 31 by omega), Bool.true_and, Bool.true_and] at k
    have hb := List.getElem?_eq_getElem (l := b) (i := 0) (by omega)
    have hh : b.head? = some b[0] := by rw [List.head?_eq_getElem?]; exact hb
    rw [hh] at k
    refine ⟨_, rfl, a, _, _, _, rfl, rfl, hrow, vb_atI (j := 0) rfl hb, b[0], rfl, fun H1 s1 => ⟨_, rfl, if_bool (fun h3 => ?_) (fun h3 => ?_)⟩⟩
    · refine ⟨_, rfl, a, rfl, ⟨_, s1.seq hrow⟩, all_map (K := K) (xs := vb b) (bs := b.map nameSign) (by rw [vb_len, List.length_map]) (by rw [vb_len]; omega) (s1.seq hrow) (fun j x y hx hy H' Q' s2 q => ?_) fun H' s2 => ?_⟩
      · obtain ⟨c, hc, rfl⟩ := vb_get hx
        rw [List.getElem?_map, hc] at hy
        have ey : nameSign c = y := Option.some.inj hy
        subst ey
        exact ⟨_, rfl, c, rfl, q⟩
      · have kk := k H' (s1.trans s2)
        rw [all_map_eq]
        have h3' : (Option.map Sf42.small (some b[0])).getD false = true := h3
        rw [h3', Bool.true_and] at kk
        exact kk
    · have kk := k H1 s1
      have h3' : (Option.map Sf42.small (some b[0])).getD false = false := h3
      rw [h3', Bool.false_and] at kk
      exact kk

/-! ### is_account(row) -/
theorem scIsAccount : FnScope ["row", "names", "name"] ["row"] (defScope sIsAccount) := ⟨rfl, rfl, rfl, by decide +kernel, rfl, by decide +kernel, by decide +kernel⟩
theorem fn_is_account (D : DefAt K mg "is_account" sIsAccount) (n1 : mg "len" = none) (n2 : mg "all" = none) (c1 : IntAt mg "COLON" 58) (c2 : IntAt mg "MOST_NAMES" 8) (G1 : Fn P w K mg base "parts_of" ["row", "mark"] 1 (spParts K)) (G2 : Fn P w K mg base "is_name" ["row"] 3 (spRow K isName)) :
    Fn P w K mg base "is_account" ["row"] 4 (spRow K isAccount) := by
  refine fn_mk D (fun _ _ _ _ _ _ us hl => match us, hl with | [_], _ => rfl) fun f fd F => ?_
  refine F.ok scIsAccount (fun vs H Q E h => ?_) (fun cdv A outer s H vs Q E hr h => ?_)
  · obtain ⟨a, b, rfl, _⟩ := h
    rfl
  · obtain ⟨a, b, rfl, hrow, hlen, k⟩ := h
    have hr1 : Room 1 _ := hr.mono (by decide)
    refine ⟨_, pss_cons (ps_set (i := 1) scIsAccount.nd rfl (.inl rfl) (pe_fn G1 hr1 (by rfl) (pa_cons (pv 0) (pa_cons (pe_num c1 rfl) pa_nil))))
      (pss_one (ps_ret (pe_and (pe_cmpR op_le (pe_callB call_len_seq (by rfl) n1 PySem.boot_len (pa_cons (pv 1) pa_nil)) (pe_num c2 rfl) (nomark _))
        (pe_one (pe_callB (cr_all rfl) (by rfl) n2 boot_all (pa_cons (pe_lc (own := [("name", 2)]) (g := gName 2) (tt := tYes) rfl scIsAccount.nd (pi_list (pv 1))
          (blkOk_by (N := ["row", "names", "name"]) (sc := defScope sIsAccount) (by decide +kernel)) (fun _ _ _ _ _ => pg_name (i := 2) scIsAccount.nd rfl (Or.inl rfl)) (fun _ _ _ _ _ => pts_nil)
          (fun _ _ _ _ _ => pe_fn G2 hr (by rfl) (pa_cons (pv 2) pa_nil))) pa_nil)))))), ?_⟩
    refine ⟨_, rfl, a, b, 58, rfl, hrow, hlen, fun H1 p as s1 h1 r1 => ?_⟩
    have r1 : Rows H1 as (names b) := r1
    unfold isAccount at k
    have hl : (((as.map V.ref).length : Nat) : Int) = ((names b).length : Int) := by rw [List.length_map, r1.len]
    refine ⟨_, rfl, p, _, rfl, .inl (SqL.of h1), _, _, rfl, rfl, _, rfl, if_bool (fun h2 => ?_) (fun h2 => ?_)⟩
    · have h2 : (((as.map V.ref).length : Nat) : Int) ≤ 8 := of_decide_eq_true h2
      rw [hl] at h2
      rw [decide_eq_true (show (names b).length ≤ 8 by omega), Bool.true_and] at k
      refine ⟨_, rfl, p, rfl, ⟨_, SqL.of h1⟩, all_map (K := K) (xs := as.map V.ref) (bs := (names b).map isName) (by rw [List.length_map, List.length_map, r1.len]) (by rw [List.length_map, r1.len]; omega) (SqL.of h1) (fun j x y hx hy H' Q' s2 q => ?_) fun H' s2 => ?_⟩
      · obtain ⟨z, hz, rfl⟩ := refs_get hx
        obtain ⟨r, hr', hzr⟩ := r1.get hz
        rw [List.getElem?_map, hr'] at hy
        have ey : isName r = y := Option.some.inj hy
        subst ey
        refine ⟨_, rfl, z, r, rfl, SqL.of (s2 _ _ hzr), ?_, q⟩
        have := split_mem_len (fun c => c == 58) b [] r (List.mem_of_getElem? hr')
        simp only [List.length_nil] at this
        omega
      · have kk := k H' (s1.trans s2)
        have e : ((names b).map isName).all id = (names b).all isName := by rw [List.all_map]; rfl
        rw [e]
        exact kk
    · have h2 : ¬ (((as.map V.ref).length : Nat) : Int) ≤ 8 := of_decide_eq_false h2
      rw [hl] at h2
      have kk := k H1 s1
      rw [decide_eq_false (show ¬ (names b).length ≤ 8 by omega), Bool.false_and] at kk
      exact kk

/-! ### is_kind(row) -/
theorem scIsKind : FnScope ["row", "byte"] ["row"] (defScope sIsKind) := ⟨rfl, rfl, rfl, by decide +kernel, rfl, by decide +kernel, by decide +kernel⟩
theorem fn_is_kind (D : DefAt K mg "is_kind" sIsKind) (n1 : mg "len" = none) (n2 : mg "all" = none) (c1 : IntAt mg "MOST_KIND_SIGNS" 8) (G1 : Fn P w K mg base "is_capital" ["byte"] 1 (spByte Sf42.capital)) :
    Fn P w K mg base "is_kind" ["row"] 2 (spRow K Sf42.isKind) := by
  refine fn_mk D (fun _ _ _ _ _ _ us hl => match us, hl with | [_], _ => rfl) fun f fd F => ?_
  refine F.ok scIsKind (fun vs H Q E h => ?_) (fun cdv A outer s H vs Q E hr h => ?_)
  · obtain ⟨a, b, rfl, _⟩ := h
    rfl
  · obtain ⟨a, b, rfl, hrow, hlen, k⟩ := h
    refine ⟨_, pss_one (ps_ret (pe_and (pe_chain op_le op_le pe_int (pe_callB call_len_seq (by rfl) n1 PySem.boot_len (pa_cons (pv 0) pa_nil)) (pe_num c1 rfl))
        (pe_one (pe_callB (cr_all rfl) (by rfl) n2 boot_all (pa_cons (pe_lc (own := [("byte", 1)]) (g := gName 1) (tt := tYes) rfl scIsKind.nd (pi_list (pv 0))
          (blkOk_by (N := ["row", "byte"]) (sc := defScope sIsKind) (by decide +kernel)) (fun _ _ _ _ _ => pg_name (i := 1) scIsKind.nd rfl (Or.inl rfl)) (fun _ _ _ _ _ => pts_nil)
          (fun _ _ _ _ _ => pe_fn G1 hr (by rfl) (pa_cons (pv 1) pa_nil))) pa_nil))))), ?_⟩
    rw [isKind_eq] at k
    refine ⟨_, rfl, a, _, rfl, .inl hrow, _, _, rfl, rfl, _, rfl, if_bool (fun h1 => ?_) (fun h1 => ?_)⟩
    · have h1 : (1 : Int) ≤ (((vb b).length : Nat) : Int) := of_decide_eq_true h1
      rw [vb_len] at h1
      rw [decide_eq_true (show 1 ≤ b.length by omega), Bool.true_and] at k
      refine ⟨_, _, rfl, rfl, _, rfl, if_bool (fun h2 => ?_) (fun h2 => ?_)⟩
      · have h2 : (((vb b).length : Nat) : Int) ≤ 8 := of_decide_eq_true h2
        rw [vb_len] at h2
        rw [decide_eq_true (show b.length ≤ 8 by omega), Bool.true_and] at k
        refine ⟨_, rfl, a, rfl, ⟨_, hrow⟩, all_map (K := K) (xs := vb b) (bs := b.map Sf42.capital) (by rw [vb_len, List.length_map]) (by rw [vb_len]; omega) hrow (fun j x y hx hy H' Q' s2 q => ?_) fun H' s2 => ?_⟩
        · obtain ⟨c, hc, rfl⟩ := vb_get hx
          rw [List.getElem?_map, hc] at hy
          have ey : Sf42.capital c = y := Option.some.inj hy
          subst ey
          exact ⟨_, rfl, c, rfl, q⟩
        · rw [all_map_eq]
          exact k H' s2
      · have h2 : ¬ (((vb b).length : Nat) : Int) ≤ 8 := of_decide_eq_false h2
        rw [vb_len] at h2
        have kk := k H (Same.refl H)
        rw [decide_eq_false (show ¬ b.length ≤ 8 by omega), Bool.false_and] at kk
        exact kk
    · have h1 : ¬ (1 : Int) ≤ (((vb b).length : Nat) : Int) := of_decide_eq_false h1
      rw [vb_len] at h1
      have kk := k H (Same.refl H)
      rw [decide_eq_false (show ¬ 1 ≤ b.length by omega), Bool.false_and, Bool.false_and] at kk
      exact ⟨_, rfl, kk⟩
end
end Ev

set_option Elab.async false
set_option linter.all false
set_option maxRecDepth 100000
set_option maxHeartbeats 2000000
namespace Ev
open PySem PySem.Spec PyProof.Rows L2
open Sf42 (Bytes)
abbrev sIsMinus : Stmt := top 47
abbrev sAmountParts : Stmt := top 48
abbrev sIsAmount : Stmt := top 49
abbrev sAmountOf : Stmt := top 50
section
variable {P : Program} {w : World} {K : PySem.W.Frag} {mg : Str → Option Value} {base : Heap}

/-! ### is_whole(digits) -/
theorem scIsWhole : FnScope ["digits"] ["digits"] (defScope sIsWhole) := ⟨rfl, rfl, rfl, by decide +kernel, rfl, by decide +kernel, by decide +kernel⟩
theorem fn_is_whole (D : DefAt K mg "is_whole" sIsWhole) (n1 : mg "len" = none) (c1 : IntAt mg "MOST_WHOLE_DIGITS" 14) (c2 : IntAt mg "ZERO" 48) (G1 : Fn P w K mg base "are_digits" ["row"] 2 (spRow K fun b => b.all Sf42.digit)) :
    Fn P w K mg base "is_whole" ["digits"] 3 (spRow K isWhole) := by
  refine fn_mk D (fun _ _ _ _ _ _ us hl => match us, hl with | [_], _ => rfl) fun f fd F => ?_
  refine F.ok scIsWhole (fun vs H Q E h => ?_) (fun cdv A outer s H vs Q E hr h => ?_)
  · obtain ⟨a, b, rfl, _⟩ := h
    rfl
  · obtain ⟨a, b, rfl, hrow, hlen, k⟩ := h
    refine ⟨_, pss_cons (ps_if (PW.pt (pw_or (pt_cmpR op_lt (pe_callB call_len_seq (by rfl) n1 PySem.boot_len (pa_cons (pv 0) pa_nil)) pe_int (nomark _))
        (pw_or (pt_cmpR op_gt (pe_callB call_len_seq (by rfl) n1 PySem.boot_len (pa_cons (pv 0) pa_nil)) (pe_num c1 rfl) (nomark _)) (pw_or1 (pt_not (pt_val (pe_fn G1 hr (by rfl) (pa_cons (pv 0) pa_nil)))))))) (pss_one (ps_ret pe_bl)) pss_nil)
      (pss_one (ps_ret (pe_or (pe_cmpR op_eq (pe_callB call_len_seq (by rfl) n1 PySem.boot_len (pa_cons (pv 0) pa_nil)) pe_int (nomark _)) (pe_one (pe_cmpR op_ne (pe_ix ix_list (pv 0) pe_int (fun _ _ => rfl)) (pe_num c2 rfl) (nomark _)))))), ?_⟩
    unfold isWhole at k
    have kk := k H (Same.refl H)
    refine ⟨_, rfl, a, _, rfl, .inl hrow, _, _, rfl, rfl, _, rfl, if_bool (fun h1 => ?_) (fun h1 => ?_)⟩
    · have h1 : (((vb b).length : Nat) : Int) < 1 := of_decide_eq_true h1
      rw [vb_len] at h1
      rw [decide_eq_false (show ¬ 1 ≤ b.length by omega), Bool.false_and] at kk
      exact iteT kk
    have h1 : ¬ (((vb b).length : Nat) : Int) < 1 := of_decide_eq_false h1
    rw [vb_len] at h1
    refine ⟨_, rfl, a, _, rfl, .inl hrow, _, _, rfl, rfl, _, rfl, if_bool (fun h2 => ?_) (fun h2 => ?_)⟩
    · have h2 : (14 : Int) < (((vb b).length : Nat) : Int) := of_decide_eq_true h2
      rw [vb_len] at h2
      rw [decide_eq_false (show ¬ b.length ≤ 14 by omega), Bool.false_and, Bool.and_false] at kk
      exact iteT kk
    have h2 : ¬ (14 : Int) < (((vb b).length : Nat) : Int) := of_decide_eq_false h2
    rw [vb_len] at h2
    rw [decide_eq_true (show 1 ≤ b.length by omega), decide_eq_true (show b.length ≤ 14 by omega), Bool.true_and, Bool.true_and] at k
    refine ⟨_, rfl, a, b, rfl, hrow, hlen, fun H1 s1 => ⟨_, rfl, if_bool (fun h3 => ?_) (fun h3 => ?_)⟩⟩
    · have h3 : b.all Sf42.digit = false := not_t h3
      have kk := k H1 s1
      rw [h3, Bool.false_and] at kk
      exact kk
    have h3 : b.all Sf42.digit = true := not_f h3
    rw [h3, Bool.true_and] at k
    refine ⟨_, rfl, a, _, rfl, .inl (s1.seq hrow), rfl, _, rfl, if_bool (fun h4 => ?_) (fun h4 => ?_)⟩
    · have h4 : decide (V.int (((vb b).length : Nat) : Int) = V.int ((1 : Nat) : Int)) = true := h4
      rw [vb_len, dec_nat] at h4
      have kk := k H1 s1
      rw [h4, Bool.true_or] at kk
      exact kk
    · have h4 : decide (V.int (((vb b).length : Nat) : Int) = V.int ((1 : Nat) : Int)) = false := h4
      rw [vb_len, dec_nat] at h4
      have hb := List.getElem?_eq_getElem (l := b) (i := 0) (by omega)
      have hh : b.head? = some b[0] := by rw [List.head?_eq_getElem?]; exact hb
      refine ⟨_, rfl, a, _, _, _, rfl, rfl, s1.seq hrow, vb_atI (j := 0) rfl hb, rfl, ?_⟩
      have kk := k H1 s1
      rw [h4, Bool.false_or, hh] at kk
      have e : decide (some b[0] ≠ some (48 : UInt8)) = !decide (V.int (b[0].toNat : Int) = V.int ((48 : UInt8).toNat : Int)) := by
        rw [dec_byte]
        by_cases hz : b[0] = 48
        · rw [hz]; rfl
        · have : (b[0] == 48) = false := by simpa using hz
          rw [this]
          simp [hz]
      rw [e] at kk
      exact kk

/-! ### is_rest(digits) -/
theorem scIsRest : FnScope ["digits"] ["digits"] (defScope sIsRest) := ⟨rfl, rfl, rfl, by decide +kernel, rfl, by decide +kernel, by decide +kernel⟩
theorem fn_is_rest (D : DefAt K mg "is_rest" sIsRest) (n1 : mg "len" = none) (c1 : IntAt mg "MOST_REST_DIGITS" 4) (G1 : Fn P w K mg base "are_digits" ["row"] 2 (spRow K fun b => b.all Sf42.digit)) :
    Fn P w K mg base "is_rest" ["digits"] 3 (spRow K isRest) := by
  refine fn_mk D (fun _ _ _ _ _ _ us hl => match us, hl with | [_], _ => rfl) fun f fd F => ?_
  refine F.ok scIsRest (fun vs H Q E h => ?_) (fun cdv A outer s H vs Q E hr h => ?_)
  · obtain ⟨a, b, rfl, _⟩ := h
    rfl
  · obtain ⟨a, b, rfl, hrow, hlen, k⟩ := h
    refine ⟨_, pss_one (ps_ret (pe_and (pe_chain op_le op_le pe_int (pe_callB call_len_seq (by rfl) n1 PySem.boot_len (pa_cons (pv 0) pa_nil)) (pe_num c1 rfl)) (pe_one (pe_fn G1 hr (by rfl) (pa_cons (pv 0) pa_nil))))), ?_⟩
    unfold isRest at k
    have kk := k H (Same.refl H)
    refine ⟨_, rfl, a, _, rfl, .inl hrow, _, _, rfl, rfl, _, rfl, if_bool (fun h1 => ?_) (fun h1 => ?_)⟩
    · have h1 : (1 : Int) ≤ (((vb b).length : Nat) : Int) := of_decide_eq_true h1
      rw [vb_len] at h1
      rw [decide_eq_true (show 1 ≤ b.length by omega), Bool.true_and] at k kk
      refine ⟨_, _, rfl, rfl, _, rfl, if_bool (fun h2 => ?_) (fun h2 => ?_)⟩
      · have h2 : (((vb b).length : Nat) : Int) ≤ 4 := of_decide_eq_true h2
        rw [vb_len] at h2
        rw [decide_eq_true (show b.length ≤ 4 by omega), Bool.true_and] at k
        exact ⟨_, rfl, a, b, rfl, hrow, hlen, fun H1 s1 => k H1 s1⟩
      · have h2 : ¬ (((vb b).length : Nat) : Int) ≤ 4 := of_decide_eq_false h2
        rw [vb_len] at h2
        rw [decide_eq_false (show ¬ b.length ≤ 4 by omega), Bool.false_and] at kk
        exact kk
    · have h1 : ¬ (1 : Int) ≤ (((vb b).length : Nat) : Int) := of_decide_eq_false h1
      rw [vb_len] at h1
      rw [decide_eq_false (show ¬ 1 ≤ b.length by omega), Bool.false_and] at kk
      exact ⟨_, rfl, kk⟩

/-! ### is_minus(row) -/
theorem scIsMinus : FnScope ["row"] ["row"] (defScope sIsMinus) := ⟨rfl, rfl, rfl, by decide +kernel, rfl, by decide +kernel, by decide +kernel⟩
theorem fn_is_minus (D : DefAt K mg "is_minus" sIsMinus) (c1 : IntAt mg "DASH" 45) : Fn P w K mg base "is_minus" ["row"] 1 (spRow K isMinus) := by
  refine fn_mk D (fun _ _ _ _ _ _ us hl => match us, hl with | [_], _ => rfl) fun f fd F => ?_
  refine F.ok scIsMinus (fun vs H Q E h => ?_) (fun cdv A outer s H vs Q E hr h => ?_)
  · obtain ⟨a, b, rfl, _⟩ := h
    rfl
  · obtain ⟨a, b, rfl, hrow, hlen, k⟩ := h
    refine ⟨_, pss_one (ps_ret (pe_cmpR (op_eqD hr.units) (pe_slice sl_list (pv 0) po_none (po_some pe_int)) (pe_lst (pa_cons (pe_num c1 rfl) pa_nil)) (nomark _))), ?_⟩
    refine ⟨_, rfl, _, rfl, a, _, rfl, hrow, fun p hp => ?_⟩
    have e1 := cut_take b 1 (z := 1) rfl
    refine ⟨(by show 1 ≤ sizeLine; decide), fun q hq => ?_⟩
    have npq : p ≠ q := fun z => by rw [← z, upd_same] at hq; cases hq
    have s1 := same_new (o := .lst (cutV (vb b) none (some 1))) (Same.refl H) hp
    have s2 := same_upd (o := .lst [V.int 45]) s1 hq
    have h1 : L2.upd (L2.upd H p (.lst (cutV (vb b) none (some 1)))) q (.lst [V.int 45]) p = some (.lst (vb (b.take 1))) := by rw [upd_ne npq, upd_same, e1]
    have h2 : L2.upd (L2.upd H p (.lst (cutV (vb b) none (some 1)))) q (.lst [V.int 45]) q = some (.lst [V.int 45]) := upd_same
    have kk := k _ s2
    cases b with
    | nil => exact ⟨.list [], .list [.int 45], .lst (SqL.of h1) .nil, .lst (SqL.of h2) (.cons (.int 45) .nil), by decide, by decide, kk⟩
    | cons c r =>
      refine ⟨.list [.int (c.toNat : Int)], .list [.int 45], .lst (SqL.of h1) (.cons (.int _) .nil), .lst (SqL.of h2) (.cons (.int 45) .nil), rfl, by decide, ?_⟩
      have e : PyData.eqv (.list [.int (c.toNat : Int)]) (.list [.int 45]) = isMinus (c :: r) := by
        have e2 : ((c.toNat : Int) == 45) = (c == 45) := by
          have : ((c.toNat : Int) = 45) ↔ c = 45 := toNat_eq (d := 45)
          by_cases hc : c = 45
          · rw [hc]; rfl
          · have h1 : ((c.toNat : Int) == 45) = false := by simpa using fun z => hc (this.mp z)
            have h2 : (c == 45) = false := by simpa using hc
            rw [h1, h2]
        have e3 : isMinus (c :: r) = (c == 45) := by
          unfold isMinus
          show ([c] == [45]) = _
          cases hc : (c == 45) with
          | true => have : c = 45 := by simpa using hc
                    rw [this]; rfl
          | false => have : c ≠ 45 := by simpa using hc
                     simpa using this
        rw [e3, ← e2]
        simp [PyData.eqv, PyData.eqvAll]
      rw [e]
      exact kk

/-! ### amount_parts(row) -/
theorem scAmountParts : FnScope ["row"] ["row"] (defScope sAmountParts) := ⟨rfl, rfl, rfl, by decide +kernel, rfl, by decide +kernel, by decide +kernel⟩
theorem fn_amount_parts (D : DefAt K mg "amount_parts" sAmountParts) (c1 : IntAt mg "POINT" 46) (G1 : Fn P w K mg base "parts_of" ["row", "mark"] 1 (spParts K)) (G2 : Fn P w K mg base "is_minus" ["row"] 1 (spRow K isMinus)) :
    Fn P w K mg base "amount_parts" ["row"] 2 (spRows K amountParts) := by
  refine fn_mk D (fun _ _ _ _ _ _ us hl => match us, hl with | [_], _ => rfl) fun f fd F => ?_
  refine F.ok scAmountParts (fun vs H Q E h => ?_) (fun cdv A outer s H vs Q E hr h => ?_)
  · obtain ⟨a, b, rfl, _⟩ := h
    rfl
  · obtain ⟨a, b, rfl, hrow, hlen, k⟩ := h
    refine ⟨_, pss_one (ps_ret (pe_fn G1 hr (by rfl) (pa_cons (pe_ifExp (pt_val (pe_fn G2 hr (by rfl) (pa_cons (pv 0) pa_nil))) (pe_slice sl_list (pv 0) (po_some pe_int) po_none) (pv 0)) (pa_cons (pe_num c1 rfl) pa_nil)))), ?_⟩
    unfold amountParts unsigned at k
    refine ⟨_, rfl, a, b, rfl, hrow, hlen, fun H1 s1 => ⟨_, rfl, if_bool (fun h1 => ?_) (fun h1 => ?_)⟩⟩
    · rw [if_pos h1] at k
      refine ⟨_, rfl, _, rfl, a, _, rfl, s1.seq hrow, fun p hp => ?_⟩
      have e1 := cut_drop b 1 (z := 1) rfl
      have s2 := same_upd (o := .lst (cutV (vb b) (some 1) none)) s1 hp
      exact ⟨p, b.drop 1, 46, rfl, SqL.of (by rw [upd_same, e1]), by rw [List.length_drop]; omega, fun H3 q as s3 h3 r3 => k H3 q as (s2.trans s3) h3 r3⟩
    · rw [if_neg (by rw [h1]; exact Bool.false_ne_true)] at k
      exact ⟨_, rfl, a, b, 46, rfl, s1.seq hrow, hlen, fun H3 q as s3 h3 r3 => k H3 q as (s1.trans s3) h3 r3⟩

/-! ### is_amount(row) -/
theorem scIsAmount : FnScope ["row", "parts"] ["row"] (defScope sIsAmount) := ⟨rfl, rfl, rfl, by decide +kernel, rfl, by decide +kernel, by decide +kernel⟩
theorem parts_mem_len {b r : Bytes} (h : r ∈ amountParts b) : r.length ≤ b.length := by
  have := split_mem_len (fun c => c == 46) (unsigned b) [] r h
  have hu : (unsigned b).length ≤ b.length := by
    unfold unsigned
    split
    · rw [List.length_drop]; omega
    · exact Nat.le_refl _
  simp only [List.length_nil] at this
  omega
theorem fn_is_amount (D : DefAt K mg "is_amount" sIsAmount) (n1 : mg "len" = none) (G1 : Fn P w K mg base "amount_parts" ["row"] 2 (spRows K amountParts)) (G2 : Fn P w K mg base "is_whole" ["digits"] 3 (spRow K isWhole)) (G3 : Fn P w K mg base "is_rest" ["digits"] 3 (spRow K isRest)) :
    Fn P w K mg base "is_amount" ["row"] 4 (spRow K isAmount) := by
  refine fn_mk D (fun _ _ _ _ _ _ us hl => match us, hl with | [_], _ => rfl) fun f fd F => ?_
  refine F.ok scIsAmount (fun vs H Q E h => ?_) (fun cdv A outer s H vs Q E hr h => ?_)
  · obtain ⟨a, b, rfl, _⟩ := h
    rfl
  · obtain ⟨a, b, rfl, hrow, hlen, k⟩ := h
    have hr2 : Room 2 _ := hr.mono (by decide)
    refine ⟨_, pss_cons (ps_set (i := 1) scIsAmount.nd rfl (.inl rfl) (pe_fn G1 hr2 (by rfl) (pa_cons (pv 0) pa_nil)))
      (pss_cons (ps_if (PW.pt (pw_or (pt_cmpR op_gt (pe_callB call_len_seq (by rfl) n1 PySem.boot_len (pa_cons (pv 1) pa_nil)) pe_int (nomark _)) (pw_or1 (pt_not (pt_val (pe_fn G2 hr (by rfl) (pa_cons (pe_ix ix_list (pv 1) pe_int (fun _ _ => rfl)) pa_nil))))))) (pss_one (ps_ret pe_bl)) pss_nil)
      (pss_one (ps_ret (pe_or (pe_cmpR op_eq (pe_callB call_len_seq (by rfl) n1 PySem.boot_len (pa_cons (pv 1) pa_nil)) pe_int (nomark _)) (pe_one (pe_fn G3 hr (by rfl) (pa_cons (pe_ix ix_list (pv 1) pe_int (fun _ _ => rfl)) pa_nil))))))), ?_⟩
    refine ⟨_, rfl, a, b, rfl, hrow, hlen, fun H1 p as s1 h1 r1 => ?_⟩
    have hl : (((as.map V.ref).length : Nat) : Int) = ((amountParts b).length : Int) := by rw [List.length_map, r1.len]
    have hne : amountParts b ≠ [] := split_ne _ _ _
    unfold isAmount at k
    refine ⟨_, rfl, p, _, rfl, .inl (SqL.of h1), _, _, rfl, rfl, _, rfl, if_bool (fun h2 => ?_) (fun h2 => ?_)⟩
    · have h2 : (2 : Int) < (((as.map V.ref).length : Nat) : Int) := of_decide_eq_true h2
      rw [hl] at h2
      have kk := k H1 s1
      revert kk h2
      cases amountParts b with
      | nil => intro h _; exact absurd h (by simp)
      | cons i r =>
        cases r with
        | nil => intro h _; exact absurd h (by simp)
        | cons g r =>
          cases r with
          | nil => intro h _; exact absurd h (by simp)
          | cons _ _ => intro _ kk; exact iteT kk
    have h2 : ¬ (2 : Int) < (((as.map V.ref).length : Nat) : Int) := of_decide_eq_false h2
    rw [hl] at h2
    have hmem : ∀ r, r ∈ amountParts b → r.length ≤ 100000 := fun r h => by have := parts_mem_len h; omega
    revert k h2 hne hl hmem r1
    cases amountParts b with
    | nil => intro _ _ _ h; exact absurd rfl h
    | cons i r =>
      intro k r1 hl _ h2 hmem
      obtain ⟨z, hz, hz2⟩ := r1.get' (i := 0) (b := i) rfl
      refine ⟨_, rfl, p, _, _, _, rfl, rfl, SqL.of h1, refs_atI (j := 0) rfl hz, z, i, rfl, SqL.of hz2, hmem i (by simp), fun H2 s2 => ⟨_, rfl, ?_⟩⟩
      cases r with
      | nil =>
        refine if_bool (fun h3 => ?_) (fun h3 => ?_)
        · have kk := k H2 (s1.trans s2)
          have kk : Q (.bl (isWhole i)) H2 := kk
          rw [not_t h3] at kk
          exact kk
        · have kk : Q (.bl (isWhole i)) H2 := k H2 (s1.trans s2)
          rw [not_f h3] at kk
          refine ⟨_, rfl, p, _, rfl, .inl (SqL.of (s2 _ _ h1)), rfl, _, rfl, ?_⟩
          have e : decide (V.int (((as.map V.ref).length : Nat) : Int) = V.int 1) = true := by rw [hl]; rfl
          rw [e]
          exact iteT kk
      | cons g r =>
        cases r with
        | nil =>
          refine if_bool (fun h3 => ?_) (fun h3 => ?_)
          · have kk : Q (.bl (isWhole i && isRest g)) H2 := k H2 (s1.trans s2)
            rw [not_t h3, Bool.false_and] at kk
            exact kk
          · refine ⟨_, rfl, p, _, rfl, .inl (SqL.of (s2 _ _ h1)), rfl, _, rfl, ?_⟩
            have e : decide (V.int (((as.map V.ref).length : Nat) : Int) = V.int 1) = false := by rw [hl]; rfl
            rw [e]
            obtain ⟨y, hy, hy2⟩ := r1.get' (i := 1) (b := g) rfl
            refine iteF ⟨_, rfl, p, _, _, _, rfl, rfl, SqL.of (s2 _ _ h1), refs_atI (j := 1) rfl hy, y, g, rfl, SqL.of (s2 _ _ hy2), hmem g (by simp), fun H3 s3 => ?_⟩
            have kk : Q (.bl (isWhole i && isRest g)) H3 := k H3 ((s1.trans s2).trans s3)
            rw [not_f h3, Bool.true_and] at kk
            exact kk
        | cons _ _ => exact absurd (by simp only [List.length_cons]; omega) h2

/-! ### amount_of(row) -/
def spAmountOf (K : PySem.W.Frag) : Sp := fun vs H Q _ => ∃ (a : Addr) (b : Bytes), vs = [.ref a] ∧ RowAt K H a b ∧ b.length ≤ 100000 ∧ isAmount b = true ∧ ∀ H', Same H H' → Q (.int (amountOf b)) H'
theorem scAmountOf : FnScope ["row", "parts", "rest", "size"] ["row"] (defScope sAmountOf) := ⟨rfl, rfl, rfl, by decide +kernel, rfl, by decide +kernel, by decide +kernel⟩
theorem rep_zero (n : Nat) : (List.replicate n [V.int 48]).flatten = vb (List.replicate n 48) := by
  induction n with
  | zero => rfl
  | succ n ih => rw [List.replicate_succ, List.flatten_cons, ih, List.replicate_succ]; rfl
theorem all_zeros (n : Nat) : (List.replicate n (48 : UInt8)).all Sf42.digit = true := by
  rw [List.all_eq_true]
  intro x hx
  rw [List.eq_of_mem_replicate hx]
  decide
theorem fn_amount_of (D : DefAt K mg "amount_of" sAmountOf) (n1 : mg "len" = none) (c1 : IntAt mg "ZERO" 48) (c2 : IntAt mg "MOST_REST_DIGITS" 4) (G1 : Fn P w K mg base "amount_parts" ["row"] 2 (spRows K amountParts)) (G2 : Fn P w K mg base "number_of" ["digits"] 1 (spNumber K)) (G3 : Fn P w K mg base "is_minus" ["row"] 1 (spRow K isMinus)) :
    Fn P w K mg base "amount_of" ["row"] 3 (spAmountOf K) := by
  refine fn_mk D (fun _ _ _ _ _ _ us hl => match us, hl with | [_], _ => rfl) fun f fd F => ?_
  refine F.ok scAmountOf (fun vs H Q E h => ?_) (fun cdv A outer s H vs Q E hr h => ?_)
  · obtain ⟨a, b, rfl, _⟩ := h
    rfl
  · obtain ⟨a, b, rfl, hrow, hlen, hok, k⟩ := h
    have hr1 : Room 1 _ := hr.mono (by decide)
    refine ⟨_, pss_cons (ps_set (i := 1) scAmountOf.nd rfl (.inl rfl) (pe_fn G1 hr (by rfl) (pa_cons (pv 0) pa_nil)))
      (pss_cons (ps_set (i := 2) scAmountOf.nd rfl (.inl rfl) (pe_ifExp (pt_cmpR op_eq (pe_callB call_len_seq (by rfl) n1 PySem.boot_len (pa_cons (pv 1) pa_nil)) pe_int (nomark _)) (pe_ix ix_list (pv 1) pe_int (fun _ _ => rfl)) (pe_lst pa_nil)))
      (pss_cons (ps_set (i := 3) scAmountOf.nd rfl (.inl rfl) (pe_fn G2 hr1 (by rfl) (pa_cons (pe_op op_cat (pe_op op_cat (pe_ix ix_list (pv 1) pe_int (fun _ _ => rfl)) (pv 2)) (pe_op op_rep (pe_lst (pa_cons (pe_num c1 rfl) pa_nil)) (pe_op op_sub (pe_num c2 rfl) (pe_callB call_len_seq (by rfl) n1 PySem.boot_len (pa_cons (pv 2) pa_nil))))) pa_nil)))
      (pss_one (ps_ret (pe_ifExp (pt_val (pe_fn G3 hr1 (by rfl) (pa_cons (pv 0) pa_nil))) (pe_un un_neg (pv 3)) (pv 3)))))), ?_⟩
    refine ⟨_, rfl, a, b, rfl, hrow, hlen, fun H1 p as s1 h1 r1 => ?_⟩
    have hl : (((as.map V.ref).length : Nat) : Int) = ((amountParts b).length : Int) := by rw [List.length_map, r1.len]
    -- behind rest: i and its rest g, both tracked
    have tail : ∀ (i g : Bytes) (z y : Addr) (H2 : Hp), Same H H2 → H2 p = some (.lst (as.map V.ref)) → as[0]? = some z → H2 z = some (.lst (vb i)) → H2 y = some (.lst (vb g)) → isWhole i = true → g.length ≤ 4 → g.all Sf42.digit = true →
        amountOf b = (if isMinus b = true then -(Sf42.number (wide i g) : Int) else (Sf42.number (wide i g) : Int)) →
        (tSeq (tAsg (tCall (spNumber K) [] E0 (tCons (tOp rCat (tOp rCat (tOp (rIxL K) (tVar 1) (tC (.int 0))) (tVar 2)) (tOp rRep (tLst (tCons (tC (.int 48)) tNil)) (tOp (rI0 fun i j => .int (i - j)) (tC (.int 4)) (tCB (fun xs H Q => ∃ p ys, xs = [V.ref p] ∧ (SqL K H p ys ∨ SqT K H p ys) ∧ Q (.int ys.length) H) (tCons (tVar 2) tNil))))) tNil)) (gName 3))
          (tRet (tIf (tB (tCall (spRow K isMinus) [] E0 (tCons (tVar 0) tNil))) (tUn (rU fun i => .int (-i)) (tVar 3)) (tVar 3)))) { nx := fun _ H' => Q .non H', rt := Q } [some (.ref a), some (.ref p), some (.ref y), none] H2 := by
      intro i g z y H2 s2 hp hz hzi hyg hw hg1 hg2 hval
      obtain ⟨w1, w2, w3, w4⟩ := (whole_iff i).mp hw
      refine ⟨_, rfl, p, _, _, _, rfl, rfl, SqL.of hp, refs_atI (j := 0) rfl hz, _, rfl, z, y, _, _, rfl, rfl, hzi, hyg, Nat.le_of_lt (line_of (by rw [vb_len, vb_len]; omega)), fun p3 n3 => ?_⟩
      have s3 := same_upd (o := .lst (vb i ++ vb g)) s2 n3
      refine ⟨(by show 1 ≤ sizeLine; decide), fun p4 n4 => ?_⟩
      have ne34 : p3 ≠ p4 := fun z => by rw [← z, upd_same] at n4; cases n4
      have s4 := same_upd (o := .lst [V.int 48]) s3 n4
      have hyg3 : L2.upd (L2.upd H2 p3 (.lst (vb i ++ vb g))) p4 (.lst [V.int 48]) y = some (.lst (vb g)) := by
        have n4' : H2 p4 = none := by rw [upd_ne ne34.symm] at n4; exact n4
        rw [upd_ne (ne_of_none hyg n4'), upd_ne (ne_of_none hyg n3)]
        exact hyg
      have ek : (4 : Int) - (((vb g).length : Nat) : Int) = ((4 - g.length : Nat) : Int) := by rw [vb_len]; omega
      refine ⟨_, rfl, y, _, rfl, .inl (SqL.of hyg3), _, _, rfl, rfl, p4, _, _, rfl, rfl, upd_same, ?_, ?_, ?_, fun p5 n5 => ?_⟩
      · show -(2 ^ 63) ≤ (4 : Int) - (((vb g).length : Nat) : Int)
        rw [ek]; omega
      · show (4 : Int) - (((vb g).length : Nat) : Int) < 2 ^ 63
        rw [ek]; omega
      · show 1 * ((4 : Int) - (((vb g).length : Nat) : Int)).toNat ≤ sizeLine
        rw [ek, Int.toNat_natCast]
        exact Nat.le_of_lt (line_of (by omega))
      have er : (List.replicate ((4 : Int) - (((vb g).length : Nat) : Int)).toNat [V.int 48]).flatten = vb (List.replicate (4 - g.length) 48) := by
        rw [ek, Int.toNat_natCast, rep_zero]
      have ne53 : p5 ≠ p3 := fun z => by
        rw [z, upd_ne ne34, upd_same] at n5; cases n5
      have h3 : L2.upd (L2.upd (L2.upd H2 p3 (.lst (vb i ++ vb g))) p4 (.lst [V.int 48])) p5 (.lst (List.replicate ((4 : Int) - (((vb g).length : Nat) : Int)).toNat [V.int 48]).flatten) p3 = some (.lst (vb i ++ vb g)) := by
        rw [upd_ne ne53.symm, upd_ne ne34, upd_same]
      have h5 : L2.upd (L2.upd (L2.upd H2 p3 (.lst (vb i ++ vb g))) p4 (.lst [V.int 48])) p5 (.lst (List.replicate ((4 : Int) - (((vb g).length : Nat) : Int)).toNat [V.int 48]).flatten) p5 = some (.lst (vb (List.replicate (4 - g.length) 48))) := by
        rw [upd_same, er]
      have s5 := same_upd (o := .lst (List.replicate ((4 : Int) - (((vb g).length : Nat) : Int)).toNat [V.int 48]).flatten) s4 n5
      refine ⟨p3, p5, _, _, rfl, rfl, h3, h5, Nat.le_of_lt (line_of (by rw [List.length_append, vb_len, vb_len, vb_len, List.length_replicate]; omega)), fun p6 n6 => ?_⟩
      have s6 := same_upd (o := .lst (vb i ++ vb g ++ vb (List.replicate (4 - g.length) 48))) s5 n6
      refine ⟨p6, wide i g, rfl, SqL.of (by rw [upd_same]; unfold wide; rw [vb_app, vb_app]), ?_, ?_, fun H7 s7 => ?_⟩
      · unfold wide
        rw [List.all_append, List.all_append, w3, hg2, all_zeros]
        rfl
      · unfold wide
        rw [List.length_append, List.length_append, List.length_replicate]
        omega
      have s7' := s6.trans s7
      refine ⟨_, rfl, a, b, rfl, s7'.seq hrow, hlen, fun H8 s8 => ⟨_, rfl, if_bool (fun h8 => ?_) (fun h8 => ?_)⟩⟩
      · have kk := k H8 (s7'.trans s8)
        rw [hval, if_pos h8] at kk
        exact ⟨_, rfl, _, rfl, kk⟩
      · have kk := k H8 (s7'.trans s8)
        rw [hval, if_neg (by rw [h8]; exact Bool.false_ne_true)] at kk
        exact ⟨_, rfl, kk⟩
    refine ⟨_, rfl, p, _, rfl, .inl (SqL.of h1), rfl, _, rfl, ?_⟩
    unfold isAmount at hok
    revert hok hl r1 tail
    unfold amountOf
    cases amountParts b with
    | nil => intro h; cases h
    | cons i r =>
      cases r with
      | nil =>
        intro hok r1 hl tail
        obtain ⟨z, hz, hz2⟩ := r1.get' (i := 0) (b := i) rfl
        have e : decide (V.int (((as.map V.ref).length : Nat) : Int) = V.int 2) = false := by rw [hl]; rfl
        rw [e]
        refine iteF ⟨Nat.zero_le _, fun y hy => ?_⟩
        refine tail i [] z y _ (same_upd s1 hy) ?_ hz ?_ upd_same hok (Nat.zero_le _) rfl rfl
        · rw [upd_ne (ne_of_none h1 hy)]; exact h1
        · rw [upd_ne (ne_of_none hz2 hy)]; exact hz2
      | cons g r =>
        cases r with
        | nil =>
          intro hok r1 hl tail
          have hok : (isWhole i && isRest g) = true := hok
          rw [Bool.and_eq_true] at hok
          obtain ⟨g1, g2, g3⟩ := (rest_iff g).mp hok.2
          obtain ⟨z, hz, hz2⟩ := r1.get' (i := 0) (b := i) rfl
          obtain ⟨y, hy, hy2⟩ := r1.get' (i := 1) (b := g) rfl
          have e : decide (V.int (((as.map V.ref).length : Nat) : Int) = V.int 2) = true := by rw [hl]; rfl
          rw [e]
          refine iteT ⟨_, rfl, p, _, _, _, rfl, rfl, SqL.of h1, refs_atI (j := 1) rfl hy, ?_⟩
          exact tail i g z y _ s1 h1 hz hz2 hy2 hok.1 g2 g3 rfl
        | cons _ _ => intro h; cases h
end
end Ev

set_option Elab.async false
set_option linter.all false
set_option maxRecDepth 100000
set_option maxHeartbeats 2000000
namespace Ev
open PySem PySem.Spec PyProof.Rows L2
open Sf42 (Bytes)

/-! ### methods by their promise -/
structure MDef (K : PySem.W.Frag) (C : Addr) (m qual : Str) (st : Stmt) : Prop where
  ex : ∃ f fd, Meth K C m f ∧ Fun K m qual st f fd
structure MFn (P : Program) (w : World) (K : PySem.W.Frag) (mg : Str → Option Value) (base : Heap) (C : Addr) (m : Str) (ps : List Str) (k : Nat) (sp : Sp) : Prop where
  ex : ∃ f fd, Meth K C m f ∧ Binds K fd ps [] ∧ FnOk P w K mg base CX0 k f fd ps sp
theorem mfn_mk {P : Program} {w : World} {K : PySem.W.Frag} {mg : Str → Option Value} {base : Heap} {C : Addr} {m qual : Str} {st : Stmt} {ps : List Str} {k : Nat} {sp : Sp} (D : MDef K C m qual st)
    (hb : ∀ (kV doc pm : Value) (an : Option Addr) (cdv ct : Value) (us : List Value), us.length = ps.length → bindArgs (PySem.W.fnOf m qual (defArgs st) (defBody st) (defScope st) .none kV doc pm an cdv ct) ⟨us, []⟩ = pure (ps.zip us))
    (h : ∀ f fd, Fun K m qual st f fd → FnOk P w K mg base CX0 k f fd ps sp) : MFn P w K mg base C m ps k sp := by
  obtain ⟨f, fd, M, F⟩ := D.ex
  exact ⟨f, fd, M, F.binds hb, h f fd F⟩
section
variable {X : Cx} {C : Addr} {m : Str} {ps : List Str} {k : Nat} {sp : Sp} {o e : Expr} {es : List Expr} {ta : TE} {t : TA} {apos pos : Pos}
theorem pe_mfn {pl : Sem Bool} (F : MFn X.prog X.w X.K X.mg X.base C m ps k sp) (c : Cls X.K C) (hr : Room k X.A) (he : PE X o ta) (ha : PA X (e :: es) t)
    (hst : starEach (e :: es) X.env = (false, eval e X.env) :: starEach es X.env := by rfl) (hpl : (backTo pos (starEach es X.env)).any (·.1) = false := by rfl)
    (ht : eval (.Call (.Attribute o m apos) (e :: es) [] pos) X.env = (do
      let ov ← eval o X.env
      standAt apos.atName
      let (f, first) ← holding [ov] (getMethod ov m pl)
      callWith pos f first (backTo pos (starEach (e :: es) X.env)) (backToKw pos (keywordEach [] X.env))) := by rfl) : PE X (.Call (.Attribute o m apos) (e :: es) [] pos) (tMeth C m sp [] E0 ta t) := by
  obtain ⟨f, fd, M, b, G⟩ := F.ex
  exact pe_meth (pl := pl) he c M G hr b .nil pass0 ha hst hpl ht
theorem pe_mfn0 {pl : Sem Bool} (F : MFn X.prog X.w X.K X.mg X.base C m ps k sp) (c : Cls X.K C) (hr : Room k X.A) (he : PE X o ta)
    (ht : eval (.Call (.Attribute o m apos) [] [] pos) X.env = (do
      let ov ← eval o X.env
      standAt apos.atName
      let (f, first) ← holding [ov] (getMethod ov m pl)
      callWith pos f first (backTo pos (starEach [] X.env)) (backToKw pos (keywordEach [] X.env))) := by rfl) : PE X (.Call (.Attribute o m apos) [] [] pos) (tMeth C m sp [] E0 ta tNil) := by
  obtain ⟨f, fd, M, b, G⟩ := F.ex
  exact pe_meth0 (pl := pl) he c M G hr b .nil pass0 ht
end

/-! ### attributes by name -/
theorem lk_here {k : Str} {v : V} {r : List (Str × V)} : List.lookup k ((k, v) :: r) = some v := by
  have e : (k == k) = true := beq_self_eq_true k
  simp only [List.lookup, e]
theorem lk_past {k g : Str} {v : V} {r : List (Str × V)} (h : (k == g) = false) : List.lookup k ((g, v) :: r) = List.lookup k r := by
  simp only [List.lookup, h]
theorem put_here {f : Str} {v x : V} {r : List (Str × V)} : putF f v ((f, x) :: r) = (f, v) :: r := if_pos rfl
theorem put_past {f g : Str} {v x : V} {r : List (Str × V)} (h : ¬ g = f) : putF f v ((g, x) :: r) = (g, x) :: putF f v r := if_neg h

/-! ### tables as dicts -/
def keyB (b : Bytes) : List Key := b.map fun c => Sum.inl (c.toNat : Int)
theorem keyB_vb (b : Bytes) : (keyB b).map kV = vb b := by
  unfold keyB vb
  rw [List.map_map]
  rfl
theorem keyB_inj : ∀ {a b : Bytes}, keyB a = keyB b → a = b
  | [], [], _ => rfl
  | [], _ :: _, h => by cases h
  | _ :: _, [], h => by cases h
  | c :: r, d :: t, h => by
    unfold keyB at h
    rw [List.map_cons, List.map_cons] at h
    injection h with h1 h2
    have e1 : c = d := toNat_eq.mp (Sum.inl.inj h1)
    have e2 : r = t := keyB_inj h2
    rw [e1, e2]
def dct (t : Tab) : List (List Key × V) := t.map fun q => (keyB q.1, V.int q.2)
theorem dct_len (t : Tab) : (dct t).length = t.length := by simp [dct]
theorem dct_get (t : Tab) (k : Bytes) : valV (dct t) (keyB k) = (tget t k).map V.int := by
  unfold valV dct tget
  rw [List.find?_map, Option.map_map, Option.map_map]
  have e : ((fun kv : List Key × V => decide (kv.1 = keyB k)) ∘ fun q : Bytes × Int => (keyB q.1, V.int q.2)) = fun q => decide (q.1 = k) := by
    funext q
    simp only [Function.comp]
    have : keyB q.1 = keyB k ↔ q.1 = k := ⟨keyB_inj, fun h => by rw [h]⟩
    simp only [this]
  rw [e]
  rfl
theorem dct_getD (t : Tab) (k : Bytes) : (valV (dct t) (keyB k)).getD (V.int 0) = V.int ((tget t k).getD 0) := by
  rw [dct_get]
  cases tget t k <;> rfl
theorem dct_put (t : Tab) (k : Bytes) (v : Int) : putK (dct t) (keyB k) (V.int v) = dct (tput t k v) := by
  unfold putK tput
  have e1 : ((dct t).any fun kv => decide (kv.1 = keyB k)) = t.any fun q => decide (q.1 = k) := by
    unfold dct
    rw [List.any_map]
    congr 1
    funext q
    simp only [Function.comp]
    have : keyB q.1 = keyB k ↔ q.1 = k := ⟨keyB_inj, fun h => by rw [h]⟩
    simp only [this]
  rw [e1]
  split
  · unfold dct
    rw [List.map_map, List.map_map]
    refine List.map_congr_left fun q _ => ?_
    simp only [Function.comp]
    by_cases h : q.1 = k
    · rw [if_pos h, if_pos (by rw [h])]
    · rw [if_neg h, if_neg (fun z => h (keyB_inj z))]
  · unfold dct
    rw [List.map_append]
    rfl

/-! ### Entry -/
abbrev sEntryInit : Stmt := inClass (top 59) 0
abbrev sAddAmount : Stmt := inClass (top 59) 1
abbrev sWanting : Stmt := inClass (top 59) 2
def eF (dy : Addr) (w : Int) (lv : V) (pl : Int) (d : Addr) : List (Str × V) := [("day", .ref dy), ("written", .int w), ("lacking", lv), ("lacking_place", .int pl), ("sums", .ref d)]
section
variable (dy : Addr) (w : Int) (lv : V) (pl : Int) (d : Addr)
theorem eF_day : (eF dy w lv pl d).lookup ("day" : Str) = some (.ref dy) := lk_here
theorem eF_written : (eF dy w lv pl d).lookup ("written" : Str) = some (.int w) := (lk_past (by decide +kernel)).trans lk_here
theorem eF_lack : (eF dy w lv pl d).lookup ("lacking" : Str) = some lv := (lk_past (by decide +kernel)).trans ((lk_past (by decide +kernel)).trans lk_here)
theorem eF_place : (eF dy w lv pl d).lookup ("lacking_place" : Str) = some (.int pl) := (lk_past (by decide +kernel)).trans ((lk_past (by decide +kernel)).trans ((lk_past (by decide +kernel)).trans lk_here))
theorem eF_sums : (eF dy w lv pl d).lookup ("sums" : Str) = some (.ref d) := (lk_past (by decide +kernel)).trans ((lk_past (by decide +kernel)).trans ((lk_past (by decide +kernel)).trans ((lk_past (by decide +kernel)).trans lk_here)))
theorem eF_no {m : Str} (h0 : (m == "day") = false) (h1 : (m == "written") = false) (h2 : (m == "lacking") = false) (h3 : (m == "lacking_place") = false) (h4 : (m == "sums") = false) : (eF dy w lv pl d).lookup m = none := (lk_past h0).trans ((lk_past h1).trans ((lk_past h2).trans ((lk_past h3).trans ((lk_past h4).trans rfl))))
theorem eF_putW (y : Int) : putF "written" (.int y) (eF dy w lv pl d) = eF dy y lv pl d := (put_past (by decide +kernel)).trans (congrArg _ put_here)
theorem eF_putL (y : V) : putF "lacking" y (eF dy w lv pl d) = eF dy w y pl d := (put_past (by decide +kernel)).trans (congrArg _ ((put_past (by decide +kernel)).trans (congrArg _ put_here)))
theorem eF_putP (y : Int) : putF "lacking_place" (.int y) (eF dy w lv pl d) = eF dy w lv y d := (put_past (by decide +kernel)).trans (congrArg _ ((put_past (by decide +kernel)).trans (congrArg _ ((put_past (by decide +kernel)).trans (congrArg _ put_here)))))
theorem eF_len : (eF dy w lv pl d).length < 1000 := by show 5 < 1000; decide
end
theorem eF_new2 (dy : Addr) : putF "written" (.int 0) (putF "day" (.ref dy) []) = ([("day", .ref dy), ("written", .int 0)] : List (Str × V)) := (put_past (by decide +kernel)).trans rfl
theorem eF_new3 (dy : Addr) : putF "lacking" .non (putF "written" (.int 0) (putF "day" (.ref dy) [])) = ([("day", .ref dy), ("written", .int 0), ("lacking", .non)] : List (Str × V)) := by
  rw [eF_new2]
  exact (put_past (by decide +kernel)).trans (congrArg _ ((put_past (by decide +kernel)).trans rfl))
theorem eF_new4 (dy : Addr) : putF "lacking_place" (.int 0) (putF "lacking" .non (putF "written" (.int 0) (putF "day" (.ref dy) []))) = ([("day", .ref dy), ("written", .int 0), ("lacking", .non), ("lacking_place", .int 0)] : List (Str × V)) := by
  rw [eF_new3]
  exact (put_past (by decide +kernel)).trans (congrArg _ ((put_past (by decide +kernel)).trans (congrArg _ ((put_past (by decide +kernel)).trans rfl))))
theorem eF_new (dy d : Addr) : putF "sums" (.ref d) (putF "lacking_place" (.int 0) (putF "lacking" .non (putF "written" (.int 0) (putF "day" (.ref dy) [])))) = eF dy 0 .non 0 d := by
  rw [eF_new4]
  exact (put_past (by decide +kernel)).trans (congrArg _ ((put_past (by decide +kernel)).trans (congrArg _ ((put_past (by decide +kernel)).trans (congrArg _ ((put_past (by decide +kernel)).trans rfl))))))
/-- what the top has of the class Entry -/
structure TxE (K : PySem.W.Frag) (CE : Addr) : Prop where
  cl : Cls K CE
  nD : NoAttr K CE "day"
  nW : NoAttr K CE "written"
  nO : NoAttr K CE "lacking"
  nP : NoAttr K CE "lacking_place"
  nS : NoAttr K CE "sums"
section
variable {P : Program} {w : World} {K : PySem.W.Frag} {mg : Str → Option Value} {base : Heap} {CE : Addr}

def spEntryInit (CE : Addr) : Sp := fun vs H Q _ => ∃ (p dx dy : Addr), vs = [.ref p, .ref dy] ∧ H p = some (.ins CE dx []) ∧
  ∀ (d : Addr) (H' : Hp), H d = none → H' p = some (.ins CE dx (eF dy 0 .non 0 d)) → H' d = some (.dT []) → (∀ b o, H b = some o → b ≠ p → H' b = some o) → Q .non H'
theorem scEntryInit : FnScope ["self", "day"] ["self", "day"] (defScope sEntryInit) := ⟨rfl, rfl, rfl, by decide +kernel, rfl, by decide +kernel, by decide +kernel⟩
theorem ok_entry_init {f : Addr} {fd : FuncData} (F : Fun K "__init__" "Entry.__init__" sEntryInit f fd) (T : TxE K CE) : FnOk P w K mg base CX0 1 f fd ["self", "day"] (spEntryInit CE) := by
  refine F.ok scEntryInit (fun vs H Q E h => ?_) (fun cdv A outer s H vs Q E hr h => ?_)
  · obtain ⟨p, dx, dy, rfl, _⟩ := h
    rfl
  · obtain ⟨p, dx, dy, rfl, hp, k⟩ := h
    refine ⟨_, pss_cons (ps_fld (pv 0) (pv 1) rfl) (pss_cons (ps_fld (pv 0) pe_int rfl) (pss_cons (ps_fld (pv 0) pe_non rfl) (pss_cons (ps_fld (pv 0) pe_int rfl) (pss_one (ps_fld (pv 0) pe_dnewT rfl))))), ?_⟩
    refine ⟨_, rfl, _, rfl, p, CE, dx, _, rfl, hp, T.cl, T.nD, (by show 0 < 1000; decide), ?_⟩
    refine ⟨_, rfl, p, CE, dx, _, rfl, upd_same, T.cl, T.nW, (by show 1 < 1000; decide), ?_⟩
    refine ⟨_, rfl, p, CE, dx, _, rfl, upd_same, T.cl, T.nO, (by rw [eF_new2]; show 2 < 1000; decide), ?_⟩
    refine ⟨_, rfl, p, CE, dx, _, rfl, upd_same, T.cl, T.nP, (by rw [eF_new3]; show 3 < 1000; decide), ?_⟩
    intro d hd
    have npd : d ≠ p := fun z => by rw [z, upd_same] at hd; cases hd
    have hd0 : H d = none := by rw [upd_ne npd, upd_ne npd, upd_ne npd, upd_ne npd] at hd; exact hd
    refine ⟨_, rfl, p, CE, dx, _, rfl, (by rw [upd_ne npd.symm, upd_same]), T.cl, T.nS, (by rw [eF_new4]; show 4 < 1000; decide), ?_⟩
    refine k d _ hd0 (by rw [upd_same, eF_new]) (by rw [upd_ne npd, upd_same]) fun b o e hb => ?_
    rw [upd_ne hb, upd_ne (ne_of_none e hd0), upd_ne hb, upd_ne hb, upd_ne hb, upd_ne hb]
    exact e

def spAddAmount (CE : Addr) : Sp := fun vs H Q _ => ∃ (q dq de dy kq : Addr) (wr : Int) (lv : V) (pl : Int) (z : Int) (t : Tab) (k : Bytes), vs = [.ref q, .ref kq, .int z] ∧ H q = some (.ins CE dq (eF dy wr lv pl de)) ∧ H de = some (.dT (dct t)) ∧ H kq = some (.tup (vb k)) ∧ t.length ≤ 10000 ∧
  Q .non (L2.upd H de (.dT (dct (tput t k ((tget t k).getD 0 + z)))))
theorem scAddAmount : FnScope ["self", "kind", "amount"] ["self", "kind", "amount"] (defScope sAddAmount) := ⟨rfl, rfl, rfl, by decide +kernel, rfl, by decide +kernel, by decide +kernel⟩
theorem fn_add_amount (D : MDef K CE "add_amount" "Entry.add_amount" sAddAmount) (T : TxE K CE) : MFn P w K mg base CE "add_amount" ["self", "kind", "amount"] 1 (spAddAmount CE) := by
  refine mfn_mk D (fun _ _ _ _ _ _ us hl => match us, hl with | [_, _, _], _ => rfl) fun f fd F => ?_
  refine F.ok scAddAmount (fun vs H Q E h => ?_) (fun cdv A outer s H vs Q E hr h => ?_)
  · obtain ⟨q, dq, de, dy, kq, wr, lv, pl, z, t, k, rfl, _⟩ := h
    rfl
  · obtain ⟨q, dq, de, dy, kq, wr, lv, pl, z, t, k, rfl, hq, hd, hk, hl, h⟩ := h
    have hu := hu_of hr
    refine ⟨_, pss_one (ps_dput hu (pe_fld (pv 0) rfl) (pv 1) (pe_op op_add (pe_dget2 hu (pe_fld (pv 0) rfl) (pv 1) pe_int ⟨rfl, rfl, rfl, rfl⟩) (pv 2)) rfl), ?_⟩
    have hk' : H kq = some (.tup ((keyB k).map kV)) := by rw [keyB_vb]; exact hk
    refine ⟨_, rfl, q, CE, dq, _, _, rfl, hq, T.cl, T.nS, eF_sums _ _ _ _ _, de, rfl, .inr ⟨_, .inl hd⟩, _, rfl, _, DGet.t hd hk', _, rfl, (tget t k).getD 0, z, dct_getD t k, rfl, ?_⟩
    refine ⟨_, rfl, q, CE, dq, _, _, rfl, hq, T.cl, T.nS, eF_sums _ _ _ _ _, _, rfl, de, _, rfl, DPut.t hd hk' (line_of (by rw [dct_len]; omega)), ?_⟩
    rw [dct_put]
    exact h

/-! ### wanting -/
/-- pairs of a key's tuple and an int, each a tracked tuple -/
def Wants (H : Hp) : List Addr → Pairs → Prop := Paired fun t p => ∃ q, H t = some (.tup [.ref q, .int p.1]) ∧ H q = some (.tup (vb p.2))
theorem Wants.keep {H H' : Hp} {ts : List Addr} {l : Pairs} (h : Wants H ts l) (e : ∀ a xs, H a = some (.tup xs) → H' a = some (.tup xs)) : Wants H' ts l := by
  unfold Wants at h ⊢
  induction h with
  | nil => exact .nil
  | cons r t ih =>
    obtain ⟨q, h1, h2⟩ := r
    exact .cons ⟨q, e _ _ h1, e _ _ h2⟩ ih
theorem Wants.snoc {H : Hp} {ts : List Addr} {l : Pairs} {t q : Addr} {z : Int} {k : Bytes} (h : Wants H ts l) (h1 : H t = some (.tup [.ref q, .int z])) (h2 : H q = some (.tup (vb k))) : Wants H (ts ++ [t]) (l ++ [(z, k)]) := by
  unfold Wants at h ⊢
  induction h with
  | nil => exact .cons ⟨q, h1, h2⟩ .nil
  | cons r t ih => exact .cons r ih
theorem Wants.len {H : Hp} {ts : List Addr} {l : Pairs} (h : Wants H ts l) : ts.length = l.length := Paired.length h
theorem Wants.get {H : Hp} {ts : List Addr} {l : Pairs} (h : Wants H ts l) {i : Nat} {t : Addr} (e : ts[i]? = some t) : ∃ p, l[i]? = some p ∧ ∃ q, H t = some (.tup [.ref q, .int p.1]) ∧ H q = some (.tup (vb p.2)) := paired_get h e
theorem wantT_app (a b : Tab) : wantT (a ++ b) = wantT a ++ wantT b := by simp [wantT]
/-- a comprehension over a locked dict's pairs -/
theorem lc_pairs {d : Addr} {o : Obj} {kvs : List (List Key × V)} {g : TG} {tt : TT} {te : TE} {vs : List Nat} {σ : L2.St} {H1 : Hp} {D : Addr} {Qd : Hp → Prop} (Pv : Nat → Hp → Prop) (h0 : Pv 0 (L2.upd H1 D (.lst [])))
    (hl : ∀ i H, i ≤ kvs.length → Pv i H → H d = some (.frz o (.dT kvs)))
    (hs : ∀ (i : Nat) k v H T q, kvs[i]? = some (k, v) → Pv i H → H T = none → H q = some (.tup (k.map kV)) → g (.ref T) (wipe σ vs) (L2.upd H T (.tup [.ref q, v])) fun σ2 H2 => wipe σ2 vs = wipe σ vs ∧ tt σ2 H2 fun b H3 =>
      if b = true then te σ2 H3 fun y H4 => ∃ acc, H4 D = some (.lst acc) ∧ acc.length < sizeLine ∧ Pv (i + 1) (L2.upd H4 D (.lst (acc ++ [y]))) else Pv (i + 1) H3) (hd : ∀ H, Pv kvs.length H → Qd H) :
    ∃ W : Nat → Nat → Hp → Prop, (∃ m, W 0 m (L2.upd H1 D (.lst []))) ∧ ∀ i m H, W i m H →
      ((ItPairs d o kvs).stop i H ∧ Qd H) ∨ ((ItPairs d o kvs).go i H ∧ ∃ Nx : Hp → Prop, (∀ H', Nx H' → ∃ m', m' < m ∧ W (i + 1) m' H') ∧ ∀ x H', (ItPairs d o kvs).yld i H x H' → g x (wipe σ vs) H' fun σ2 H2 => wipe σ2 vs = wipe σ vs ∧ tt σ2 H2 fun b H3 =>
        if b = true then te σ2 H3 fun y H4 => ∃ acc, H4 D = some (.lst acc) ∧ acc.length < sizeLine ∧ Nx (L2.upd H4 D (.lst (acc ++ [y]))) else Nx H3) := by
  refine ⟨fun i m H => m + i = kvs.length ∧ Pv i H, ⟨kvs.length, Nat.add_zero _, h0⟩, ?_⟩
  rintro i m H ⟨hm, p⟩
  have q := hl i H (by omega) p
  by_cases hlt : i < kvs.length
  · refine .inr ⟨⟨q, hlt⟩, Pv (i + 1), fun H' p' => ⟨m - 1, by omega, by omega, p'⟩, ?_⟩
    rintro x H' ⟨T, q', k, v, hkv, rfl, hT, hq', rfl⟩
    exact hs i k v H T q' hkv p hT hq'
  · have e : kvs.length = i := by omega
    refine .inl ⟨⟨q, e⟩, hd H ?_⟩
    rw [e]
    exact p
def spWanting (CE : Addr) : Sp := fun vs H Q _ => ∃ (q dq de dy : Addr) (wr : Int) (lv : V) (pl : Int) (t : Tab), vs = [.ref q] ∧ H q = some (.ins CE dq (eF dy wr lv pl de)) ∧ H de = some (.dT (dct t)) ∧ t.length ≤ 10000 ∧
  ∀ H' p ts, Same H H' → H' p = some (.lst (ts.map V.ref)) → Wants H' ts (wantT t) → Q (.ref p) H'
theorem scWanting : FnScope ["self", "kind", "amount"] ["self"] (defScope sWanting) := ⟨rfl, rfl, rfl, by decide +kernel, rfl, by decide +kernel, by decide +kernel⟩
theorem fn_wanting (D : MDef K CE "wanting" "Entry.wanting" sWanting) (T : TxE K CE) : MFn P w K mg base CE "wanting" ["self"] 1 (spWanting CE) := by
  refine mfn_mk D (fun _ _ _ _ _ _ us hl => match us, hl with | [_], _ => rfl) fun f fd F => ?_
  refine F.ok scWanting (fun vs H Q E h => ?_) (fun cdv A outer s H vs Q E hr h => ?_)
  · obtain ⟨q, dq, de, dy, wr, lv, pl, t, rfl, _⟩ := h
    rfl
  · obtain ⟨q, dq, de, dy, wr, lv, pl, t, rfl, hq, hd, hl, k⟩ := h
    refine ⟨_, pss_one (ps_ret (pe_lock (pe_lc (own := [("kind", 1), ("amount", 2)]) (g := gTup K 2 (gCons (gName 1) (gCons (gName 2) gNil))) rfl scWanting.nd (pi_pairs (pe_fld (pv 0) rfl))
      (blkOk_by (N := ["self", "kind", "amount"]) (sc := defScope sWanting) (by decide +kernel))
      (fun _ _ _ _ _ => pg_tup rfl (pgs_cons (pg_name (i := 1) scWanting.nd rfl (Or.inl rfl)) (pgs_cons (pg_name (i := 2) scWanting.nd rfl (Or.inl rfl)) pgs_nil)))
      (fun _ _ _ _ _ => pts_one (pt_cmpR op_ne (pv 2) pe_int (nomark _)))
      (fun _ _ _ _ _ => pe_tup (pa_cons (pv 1) (pa_cons (pe_un un_neg (pv 2)) pa_nil)))))), ?_⟩
    refine ⟨de, _, hd, trivial, fun od => ?_⟩
    have nqd : q ≠ de := ne_of hq hd (by intro z; cases z)
    refine ⟨_, rfl, q, CE, dq, _, _, rfl, (by rw [upd_ne nqd]; exact hq), T.cl, T.nS, eF_sums _ _ _ _ _, de, od, dct t, rfl, upd_same, fun D hD => ?_⟩
    have nDd : D ≠ de := fun z => by rw [z, upd_same] at hD; cases hD
    have hD0 : H D = none := by rw [upd_ne nDd] at hD; exact hD
    refine lc_pairs (d := de) (o := od) (kvs := dct t) (fun i H' => Same (L2.upd H de (.frz od (.dT (dct t)))) H' ∧ ∃ ts, H' D = some (.lst (ts.map V.ref)) ∧ Wants H' ts (wantT (t.take i)))
      ⟨same_new (Same.refl _) hD, [], upd_same, .nil⟩ (fun i H' _ h => h.1 _ _ upd_same) ?_ ?_
    · rintro i kk v H' T' q' hi ⟨s1, ts, h1, w1⟩ hT hq'
      obtain ⟨p, hp, e⟩ : ∃ p, t[i]? = some p ∧ (keyB p.1, V.int p.2) = (kk, v) := by
        unfold dct at hi
        rw [List.getElem?_map] at hi
        cases e : t[i]? with
        | none => rw [e] at hi; cases hi
        | some p => rw [e] at hi; exact ⟨p, rfl, Option.some.inj hi⟩
      injection e with e1 e2
      subst e1 e2
      rw [keyB_vb] at hq'
      have et := take_more hp
      have hil : i < t.length := (List.getElem?_eq_some_iff.mp hp).1
      refine ⟨T', _, rfl, SqT.of upd_same, rfl, _, _, rfl, _, _, rfl, rfl, rfl, _, rfl, rfl, _, rfl, ?_⟩
      have nT : ∀ a o, H' a = some o → L2.upd H' T' (.tup [.ref q', V.int p.2]) a = some o := fun a o e => by
        rw [upd_ne (ne_of_none e hT)]
        exact e
      have s2 : Same (L2.upd H de (.frz od (.dT (dct t)))) (L2.upd H' T' (.tup [.ref q', V.int p.2])) := fun a o e => nT a o (s1 a o e)
      rw [et, wantT_app]
      by_cases hz : p.2 = 0
      · have e0 : (!decide (V.int p.2 = V.int 0)) = false := by rw [hz]; rfl
        show if (!decide (V.int p.2 = V.int 0)) = true then _ else _
        rw [e0]
        have ew : wantT [p] = [] := by simp [wantT, hz]
        rw [ew, List.append_nil]
        exact iteF ⟨s2, ts, nT _ _ h1, w1.keep fun a xs e => nT a _ e⟩
      · have e0 : (!decide (V.int p.2 = V.int 0)) = true := by
          rw [decide_eq_false (fun z => hz (V.int.inj z))]
          rfl
        show if (!decide (V.int p.2 = V.int 0)) = true then _ else _
        rw [e0]
        have ew : wantT [p] = [(-p.2, p.1)] := by simp [wantT, hz]
        rw [ew]
        refine iteT ⟨_, rfl, _, rfl, _, rfl, (by show 2 ≤ sizeLine; decide), fun y hy => ?_⟩
        have nyD : y ≠ D := fun z => by rw [z, nT _ _ h1] at hy; cases hy
        have hl1 : ts.length ≤ t.length := by
          rw [w1.len]
          unfold wantT
          rw [List.length_map]
          exact Nat.le_trans (List.length_filter_le _ _) (by rw [List.length_take]; omega)
        refine ⟨_, (by rw [upd_ne nyD.symm]; exact nT _ _ h1), line_of (by rw [List.length_map]; omega), ?_, ts ++ [y], ?_, ?_⟩
        · exact same_new (same_upd s2 hy) hD
        · rw [upd_same, List.map_append]
          rfl
        · have keepT : ∀ a xs, H' a = some (.tup xs) → L2.upd (L2.upd (L2.upd H' T' (.tup [.ref q', V.int p.2])) y (.tup [.ref q', V.int (-p.2)])) D (.lst (ts.map V.ref ++ [V.ref y])) a = some (.tup xs) := fun a xs e => by
            rw [upd_ne (ne_of e h1 (by intro z; cases z)), upd_ne (ne_of_none (nT _ _ e) hy)]
            exact nT _ _ e
          refine Wants.snoc (w1.keep keepT) (q := q') ?_ (keepT _ _ hq')
          rw [upd_ne nyD, upd_same]
    · rintro H' ⟨s1, ts, h1, w1⟩
      rw [dct_len, List.take_length] at w1
      refine ⟨s1 _ _ upd_same, k _ D ts (fun b o e => ?_) ?_ (w1.keep fun a xs e => ?_)⟩
      · by_cases hb : b = de
        · subst hb
          rw [hd] at e
          rw [upd_same]
          exact e
        · rw [upd_ne hb]
          exact s1 b o (by rw [upd_ne hb]; exact e)
      · rw [upd_ne nDd]
        exact h1
      · rw [upd_ne (ne_of e (s1 _ _ upd_same) (by intro z; cases z))]
        exact e
end
end Ev

set_option Elab.async false
set_option linter.all false
set_option maxRecDepth 100000
set_option maxHeartbeats 2000000
namespace Ev
open PySem PySem.Spec PyProof.Rows L2
open Sf42 (Bytes)

/-! ### what stays: all but instances and dicts -/
def stays : HO → Bool
  | .ins _ _ _ => false
  | .dT _ => false
  | .ext _ => false
  | _ => true
def Keeps (H H' : Hp) : Prop := ∀ b o, H b = some o → stays o = true → H' b = some o
theorem Keeps.refl (H : Hp) : Keeps H H := fun _ _ e _ => e
theorem Keeps.trans {H H1 H2 : Hp} (a : Keeps H H1) (b : Keeps H1 H2) : Keeps H H2 := fun c o e s => b c o (a c o e s) s
theorem Keeps.of_same {H H' : Hp} (s : Same H H') : Keeps H H' := fun b o e _ => s b o e
theorem Keeps.upd {H H' : Hp} {p : Addr} {o o' : HO} (k : Keeps H H') (hp : H' p = some o') (hs : stays o' = false) : Keeps H (L2.upd H' p o) := fun b u e s => by
  rw [upd_ne (fun z => by rw [← z, k b u e s] at hp; cases hp; rw [s] at hs; cases hs)]
  exact k b u e s
theorem Keeps.new {H H' : Hp} {p : Addr} {o : HO} (k : Keeps H H') (hp : H' p = none) : Keeps H (L2.upd H' p o) := fun b u e s => by
  rw [upd_ne (ne_of_none (k b u e s) hp)]
  exact k b u e s
theorem Keeps.seq {K : PySem.W.Frag} {H H' : Hp} {a : Addr} {xs : List V} (e : Keeps H H') (h : SqL K H a xs) : SqL K H' a xs := by
  rcases h with (h | ⟨o, h⟩) | h
  · exact .inl (.inl (e _ _ h rfl))
  · exact .inl (.inr ⟨o, e _ _ h rfl⟩)
  · exact .inr h

/-! ### Book -/
abbrev sBookInit : Stmt := inClass (top 60) 0
abbrev sTakeLine : Stmt := inClass (top 60) 1
abbrev sBeginEntry : Stmt := inClass (top 60) 2
abbrev sTakeMovement : Stmt := inClass (top 60) 3
abbrev sTakeLacking : Stmt := inClass (top 60) 4
abbrev sTakeAmount : Stmt := inClass (top 60) 5
abbrev sCount : Stmt := inClass (top 60) 6
abbrev sEndEntry : Stmt := inClass (top 60) 7
abbrev sAddWanting : Stmt := inClass (top 60) 8
def bF (ev : V) (ml da ds : Addr) : List (Str × V) := [("entry", ev), ("movements", .ref ml), ("accounts", .ref da), ("sizes", .ref ds)]
section
variable (ev : V) (ml da ds : Addr)
theorem bF_entry : (bF ev ml da ds).lookup ("entry" : Str) = some ev := lk_here
theorem bF_moves : (bF ev ml da ds).lookup ("movements" : Str) = some (.ref ml) := (lk_past (by decide +kernel)).trans lk_here
theorem bF_acc : (bF ev ml da ds).lookup ("accounts" : Str) = some (.ref da) := (lk_past (by decide +kernel)).trans ((lk_past (by decide +kernel)).trans lk_here)
theorem bF_sizes : (bF ev ml da ds).lookup ("sizes" : Str) = some (.ref ds) := (lk_past (by decide +kernel)).trans ((lk_past (by decide +kernel)).trans ((lk_past (by decide +kernel)).trans lk_here))
theorem bF_no {m : Str} (h1 : (m == "entry") = false) (h2 : (m == "movements") = false) (h3 : (m == "accounts") = false) (h4 : (m == "sizes") = false) : (bF ev ml da ds).lookup m = none :=
  (lk_past h1).trans ((lk_past h2).trans ((lk_past h3).trans ((lk_past h4).trans rfl)))
theorem bF_putE (y : V) : putF "entry" y (bF ev ml da ds) = bF y ml da ds := put_here
theorem bF_len : (bF ev ml da ds).length < 1000 := by show 4 < 1000; decide
end
theorem bF_new2 (ml : Addr) : putF "movements" (.ref ml) (putF "entry" .non []) = ([("entry", .non), ("movements", .ref ml)] : List (Str × V)) := (put_past (by decide +kernel)).trans rfl
theorem bF_new3 (ml da : Addr) : putF "accounts" (.ref da) (putF "movements" (.ref ml) (putF "entry" .non [])) = ([("entry", .non), ("movements", .ref ml), ("accounts", .ref da)] : List (Str × V)) := by
  rw [bF_new2]
  exact (put_past (by decide +kernel)).trans (congrArg _ ((put_past (by decide +kernel)).trans rfl))
theorem bF_new (ml da ds : Addr) : putF "sizes" (.ref ds) (putF "accounts" (.ref da) (putF "movements" (.ref ml) (putF "entry" .non []))) = bF .non ml da ds := by
  rw [bF_new3]
  exact (put_past (by decide +kernel)).trans (congrArg _ ((put_past (by decide +kernel)).trans (congrArg _ ((put_past (by decide +kernel)).trans rfl))))
def dctA (acc : List Bytes) : List (List Key × V) := acc.map fun w => (keyB w, V.bl true)
theorem dctA_len (acc : List Bytes) : (dctA acc).length = acc.length := by simp [dctA]
theorem dctA_put (acc : List Bytes) (w : Bytes) : putK (dctA acc) (keyB w) (V.bl true) = dctA (if w ∈ acc then acc else acc ++ [w]) := by
  unfold putK
  have e1 : ((dctA acc).any fun kv => decide (kv.1 = keyB w)) = true ↔ w ∈ acc := by
    unfold dctA
    rw [List.any_eq_true]
    constructor
    · rintro ⟨q, hq, e⟩
      obtain ⟨v, hv, rfl⟩ := List.mem_map.mp hq
      have := keyB_inj (of_decide_eq_true e)
      rw [← this]
      exact hv
    · intro h
      exact ⟨_, List.mem_map.mpr ⟨w, h, rfl⟩, decide_eq_true rfl⟩
  by_cases h : w ∈ acc
  · rw [if_pos (e1.mpr h), if_pos h]
    unfold dctA
    rw [List.map_map]
    refine List.map_congr_left fun q _ => ?_
    simp only [Function.comp]
    split <;> rfl
  · rw [if_neg (fun z => h (e1.mp z)), if_neg h]
    unfold dctA
    rw [List.map_append]
    rfl
/-- movements, each a tracked tuple of day, account, kind and amount -/
def MovAt (H : Hp) (t : Addr) (m : Mv) : Prop := ∃ d a k, H t = some (.tup [.ref d, .ref a, .ref k, .int m.2.2.2]) ∧ H d = some (.tup (vb m.1)) ∧ H a = some (.tup (vb m.2.1)) ∧ H k = some (.tup (vb m.2.2.1))
theorem MovAt.keep {H H' : Hp} {t : Addr} {m : Mv} (h : MovAt H t m) (e : ∀ a xs, H a = some (.tup xs) → H' a = some (.tup xs)) : MovAt H' t m := by
  obtain ⟨d, a, k, h1, h2, h3, h4⟩ := h
  exact ⟨d, a, k, e _ _ h1, e _ _ h2, e _ _ h3, e _ _ h4⟩
def Movs (H : Hp) : List Addr → List Mv → Prop := Paired (MovAt H)
theorem Movs.keep {H H' : Hp} {ts : List Addr} {ms : List Mv} (h : Movs H ts ms) (e : ∀ a xs, H a = some (.tup xs) → H' a = some (.tup xs)) : Movs H' ts ms := Paired.mapP h fun _ _ z => z.keep e
theorem Movs.snoc {H : Hp} {ts : List Addr} {ms : List Mv} {t : Addr} {m : Mv} (h : Movs H ts ms) (e : MovAt H t m) : Movs H (ts ++ [t]) (ms ++ [m]) := Paired.snoc h e
theorem Movs.putIn {H : Hp} : ∀ {ts : List Addr} {ms : List Mv}, Movs H ts ms → ∀ (n : Nat) {t : Addr} {m : Mv}, MovAt H t m → Movs H (ins ts n t) (ins ms n m) := by
  intro ts ms h
  unfold Movs at h ⊢
  induction h with
  | nil =>
    intro n t m e
    unfold ins
    rw [List.take_nil, List.take_nil, List.drop_nil, List.drop_nil]
    exact .cons e .nil
  | @cons a b l k r q ih =>
    intro n t m e
    cases n with
    | zero => exact .cons e (.cons r q)
    | succ n => exact .cons r (ih n e)
theorem Movs.len {H : Hp} {ts : List Addr} {ms : List Mv} (h : Movs H ts ms) : ts.length = ms.length := Paired.length h
structure BookRaw (CB : Addr) (H : Hp) (p dx ml da ds : Addr) (ev : V) (ms : List Mv) (acc : List Bytes) (t : Tab) : Prop where
  ob : H p = some (.ins CB dx (bF ev ml da ds))
  mv : ∃ ts : List Addr, H ml = some (box ml (ts.map V.ref)) ∧ Movs H ts ms
  ad : H da = some (.dT (dctA acc))
  sd : H ds = some (.dT (dct t))
  ne : da ≠ ds
  sz : Sizes (prs ms) t
theorem keeps_tup {H H' : Hp} (k : Keeps H H') : ∀ a xs, H a = some (.tup xs) → H' a = some (.tup xs) := fun a xs e => k a _ e rfl
/-- what the top has of the class Book -/
structure TxB (K : PySem.W.Frag) (CB : Addr) : Prop where
  cl : Cls K CB
  nE : NoAttr K CB "entry"
  nM : NoAttr K CB "movements"
  nA : NoAttr K CB "accounts"
  nS : NoAttr K CB "sizes"
section
variable {P : Program} {w : World} {K : PySem.W.Frag} {mg : Str → Option Value} {base : Heap} {CB CE : Addr}

def spBookInit (CB : Addr) : Sp := fun vs H Q _ => ∃ (p dx : Addr), vs = [.ref p] ∧ H p = some (.ins CB dx []) ∧
  ∀ (ml da ds : Addr) (H' : Hp), BookRaw CB H' p dx ml da ds .non [] [] [] → (∀ b o, H b = some o → b ≠ p → H' b = some o) → Q .non H'
theorem scBookInit : FnScope ["self"] ["self"] (defScope sBookInit) := ⟨rfl, rfl, rfl, by decide +kernel, rfl, by decide +kernel, by decide +kernel⟩
theorem ok_book_init {f : Addr} {fd : FuncData} (F : Fun K "__init__" "Book.__init__" sBookInit f fd) (T : TxB K CB) : FnOk P w K mg base CX0 1 f fd ["self"] (spBookInit CB) := by
  refine F.ok scBookInit (fun vs H Q E h => ?_) (fun cdv A outer s H vs Q E hr h => ?_)
  · obtain ⟨p, dx, rfl, _⟩ := h
    rfl
  · obtain ⟨p, dx, rfl, hp, k⟩ := h
    refine ⟨_, pss_cons (ps_fld (pv 0) pe_non rfl) (pss_cons (ps_fld (pv 0) (pe_box (pe_lst pa_nil)) rfl) (pss_cons (ps_fld (pv 0) pe_dnewT rfl) (pss_one (ps_fld (pv 0) pe_dnewT rfl)))), ?_⟩
    refine ⟨_, rfl, p, CB, dx, _, rfl, hp, T.cl, T.nE, (by show 0 < 1000; decide), ?_⟩
    refine ⟨Nat.zero_le _, fun ml hml => ?_⟩
    have npm : ml ≠ p := fun z => by rw [z, upd_same] at hml; cases hml
    have hml0 : H ml = none := by rw [upd_ne npm] at hml; exact hml
    refine ⟨ml, [], upd_same, _, rfl, p, CB, dx, _, rfl, (by rw [upd_ne npm.symm, upd_ne npm.symm, upd_same]), T.cl, T.nM, (by show 1 < 1000; decide), ?_⟩
    intro da hda
    have npa : da ≠ p := fun z => by rw [z, upd_same] at hda; cases hda
    have nma : da ≠ ml := fun z => by rw [z, upd_ne npm, upd_same] at hda; cases hda
    have hda0 : H da = none := by rw [upd_ne npa, upd_ne nma, upd_ne nma, upd_ne npa] at hda; exact hda
    refine ⟨_, rfl, p, CB, dx, _, rfl, (by rw [upd_ne npa.symm, upd_same]), T.cl, T.nA, (by rw [bF_new2]; show 2 < 1000; decide), ?_⟩
    intro ds hds
    have nps : ds ≠ p := fun z => by rw [z, upd_same] at hds; cases hds
    have nas : ds ≠ da := fun z => by rw [z, upd_ne npa, upd_same] at hds; cases hds
    have nms : ds ≠ ml := fun z => by rw [z, upd_ne npm, upd_ne nma.symm, upd_ne npm, upd_same] at hds; cases hds
    have hds0 : H ds = none := by rw [upd_ne nps, upd_ne nas, upd_ne nps, upd_ne nms, upd_ne nms, upd_ne nps] at hds; exact hds
    refine ⟨_, rfl, p, CB, dx, _, rfl, (by rw [upd_ne nps.symm, upd_same]), T.cl, T.nS, (by rw [bF_new3]; show 3 < 1000; decide), ?_⟩
    refine k ml da ds _ ⟨by rw [upd_same, bF_new], ⟨[], ?_, .nil⟩, ?_, ?_, nas.symm, Sizes.nil⟩ fun b o e hb => ?_
    · rw [upd_ne npm, upd_ne nms.symm, upd_ne npm, upd_ne nma.symm, upd_ne npm, upd_same]
      rfl
    · rw [upd_ne npa, upd_ne nas.symm, upd_ne npa, upd_same]
      rfl
    · rw [upd_ne nps, upd_same]
      rfl
    · rw [upd_ne hb, upd_ne (ne_of_none e hds0), upd_ne hb, upd_ne (ne_of_none e hda0), upd_ne hb, upd_ne (ne_of_none e hml0), upd_ne (ne_of_none e hml0), upd_ne hb]
      exact e

/-! ### add_movement(place, account, kind, amount) -/
def spCount (CB CE : Addr) : Sp := fun vs H Q _ => ∃ (p dx ml da ds q dq dy de aq kq : Addr) (n : Nat) (wr : Int) (lv : V) (pl : Int) (ms : List Mv) (acc : List Bytes) (t : Tab) (day a k : Bytes) (z : Int), vs = [.ref p, .int (n : Int), .ref aq, .ref kq, .int z] ∧
  BookRaw CB H p dx ml da ds (.ref q) ms acc t ∧ H q = some (.ins CE dq (eF dy wr lv pl de)) ∧ H dy = some (.tup (vb day)) ∧ H aq = some (.tup (vb a)) ∧ H kq = some (.tup (vb k)) ∧ n ≤ ms.length ∧ Fair (prs ms) ∧
  ∀ (b : Bool) (H' : Hp) (t' : Tab), (b = true ↔ Fair (prs ms ++ [(z, k)])) → BookRaw CB H' p dx ml da ds (.ref q) (ins ms n (day, a, k, z)) acc t' → (∀ c o, H c = some o → c ≠ ml → c ≠ ds → H' c = some o) → Q (.bl b) H'
theorem scCount : FnScope ["self", "place", "account", "kind", "amount"] ["self", "place", "account", "kind", "amount"] (defScope sCount) := ⟨rfl, rfl, rfl, by decide +kernel, rfl, by decide +kernel, by decide +kernel⟩
theorem fn_count (D : MDef K CB "add_movement" "Book.add_movement" sCount) (T : TxB K CB) (TE : TxE K CE) (n1 : mg "len" = none) (n2 : mg "abs" = none) (c1 : IntAt mg "MOST_MOVEMENTS" 4096) (c2 : IntAt mg "MOST_KINDS" 16) (c3 : IntAt mg "SIZE_BOUND" 1000000000000000000) :
    MFn P w K mg base CB "add_movement" ["self", "place", "account", "kind", "amount"] 1 (spCount CB CE) := by
  refine mfn_mk D (fun _ _ _ _ _ _ us hl => match us, hl with | [_, _, _, _, _], _ => rfl) fun f fd F => ?_
  refine F.ok scCount (fun vs H Q E h => ?_) (fun cdv A outer s H vs Q E hr h => ?_)
  · obtain ⟨p, dx, ml, da, ds, q, dq, dy, de, aq, kq, n, wr, lv, pl, ms, acc, t, day, a, k, z, rfl, _⟩ := h
    rfl
  · obtain ⟨p, dx, ml, da, ds, q, dq, dy, de, aq, kq, n, wr, lv, pl, ms, acc, t, day, a, k, z, rfl, B, hq, hdy, haq, hk, hn, hf, kk⟩ := h
    have hu := hu_of hr
    refine ⟨_, pss_cons (ps_expr (pe_open (pe_bm PySem.F.plainAttrs_list PySem.F.slot_list_insert PySem.F.type_list_insert mt_insert (pe_fld (pv 0) rfl) (pa_cons (pv 1) (pa_cons (pe_tup (pa_cons (pe_fld (pe_fld (pv 0) rfl) rfl) (pa_cons (pv 2) (pa_cons (pv 3) (pa_cons (pv 4) pa_nil))))) pa_nil)))))
      (pss_cons (ps_dput hu (pe_fld (pv 0) rfl) (pv 3) (pe_op op_add (pe_dget2 hu (pe_fld (pv 0) rfl) (pv 3) pe_int ⟨rfl, rfl, rfl, rfl⟩) (pe_callB call_abs (by rfl) n2 boot_abs (pa_cons (pv 4) pa_nil))) rfl)
      (pss_cons (ps_if (PW.pt (pw_or (pt_cmpR op_gt (pe_open (pe_callB call_len_seq (by rfl) n1 PySem.boot_len (pa_cons (pe_fld (pv 0) rfl) pa_nil))) (pe_num c1 rfl) (nomark _)) (pw_or1 (pt_cmpR op_gt (pe_callB call_len_dT (by rfl) n1 PySem.boot_len (pa_cons (pe_fld (pv 0) rfl) pa_nil)) (pe_num c2 rfl) (nomark _))))) (pss_one (ps_ret pe_bl)) pss_nil)
      (pss_one (ps_ret (pe_cmpR op_lt (pe_dget hu (pe_fld (pv 0) rfl) (pv 3) (fun _ _ => rfl)) (pe_num c3 rfl) (nomark _)))))), ?_⟩
    have npd : p ≠ ds := ne_of B.ob B.sd (by intro z; cases z)
    have npa : p ≠ da := ne_of B.ob B.ad (by intro z; cases z)
    obtain ⟨ts, hml, hmv⟩ := B.mv
    have npm : p ≠ ml := ne_of B.ob hml (by intro z; cases z)
    have nam : da ≠ ml := ne_of B.ad hml (by intro z; cases z)
    have nsm : ds ≠ ml := ne_of B.sd hml (by intro z; cases z)
    have nqm : q ≠ ml := ne_of hq hml (by intro z; cases z)
    have nkm : kq ≠ ml := ne_of hk hml (by intro z; cases z)
    have ndk : kq ≠ ds := ne_of hk B.sd (by intro z; cases z)
    have hlen : ms.length ≤ 4096 := by have := hf.len; rw [prs_len] at this; exact this
    have hts := hmv.len
    -- self.movements.insert(place, (self.entry.day, account, kind, amount))
    refine ⟨ml, ts.map V.ref, hml, _, rfl, p, CB, dx, _, _, rfl, (by rw [upd_ne npm]; exact B.ob), T.cl, T.nM, bF_moves _ _ _ _, .inl ⟨rfl, _, SqL.of upd_same⟩,
      _, rfl, _, rfl, p, CB, dx, _, _, rfl, (by rw [upd_ne npm]; exact B.ob), T.cl, T.nE, bF_entry _ _ _ _, q, CE, dq, _, _, rfl, (by rw [upd_ne nqm]; exact hq), TE.cl, TE.nD, eF_day _ _ _ _ _, _, rfl, _, rfl, _, rfl, (by show 4 ≤ sizeLine; decide), fun T' hT => ?_⟩
    have nTm : T' ≠ ml := fun z => by rw [z, upd_same] at hT; cases hT
    have hT0 : H T' = none := by rw [upd_ne nTm] at hT; exact hT
    refine ⟨ml, _, (n : Int), _, rfl, rfl, (by rw [upd_ne nTm.symm, upd_same]), line_of (by rw [List.length_map]; omega), by omega, by omega, _, upd_same, ?_⟩
    have eI : (ts.map V.ref).take ((n : Int).toNat) ++ [V.ref T'] ++ (ts.map V.ref).drop ((n : Int).toNat) = (ins ts n T').map V.ref := by
      rw [ins_map]
      rfl
    have eH : L2.upd (L2.upd (L2.upd (L2.upd H ml (.lst (ts.map V.ref))) T' (.tup [.ref dy, .ref aq, .ref kq, .int z])) ml (.lst ((ts.map V.ref).take ((n : Int).toNat) ++ [V.ref T'] ++ (ts.map V.ref).drop ((n : Int).toNat)))) ml (box ml ((ts.map V.ref).take ((n : Int).toNat) ++ [V.ref T'] ++ (ts.map V.ref).drop ((n : Int).toNat))) = L2.upd (L2.upd H T' (.tup [.ref dy, .ref aq, .ref kq, .int z])) ml (box ml ((ins ts n T').map V.ref)) := by
      funext b
      rw [eI]
      by_cases e1 : b = ml
      · subst e1; rw [upd_same, upd_same]
      · rw [upd_ne e1, upd_ne e1, upd_ne e1]
        by_cases e2 : b = T'
        · subst e2; rw [upd_same, upd_same]
        · rw [upd_ne e2, upd_ne e2, upd_ne e1]
    show tSeq _ _ _ _ (L2.upd (L2.upd (L2.upd (L2.upd H ml (.lst (ts.map V.ref))) T' (.tup [.ref dy, .ref aq, .ref kq, .int z])) ml (.lst ((ts.map V.ref).take ((n : Int).toNat) ++ [V.ref T'] ++ (ts.map V.ref).drop ((n : Int).toNat)))) ml (box ml ((ts.map V.ref).take ((n : Int).toNat) ++ [V.ref T'] ++ (ts.map V.ref).drop ((n : Int).toNat))))
    rw [eH]
    generalize hH1 : L2.upd (L2.upd H T' (.tup [.ref dy, .ref aq, .ref kq, .int z])) ml (box ml ((ins ts n T').map V.ref)) = H1
    have o1 : ∀ b o, H b = some o → b ≠ ml → H1 b = some o := fun b o e hb => by rw [← hH1, upd_ne hb, upd_ne (ne_of_none e hT0)]; exact e
    have m1 : H1 ml = some (box ml ((ins ts n T').map V.ref)) := by rw [← hH1]; exact upd_same
    have t1 : H1 T' = some (.tup [.ref dy, .ref aq, .ref kq, .int z]) := by rw [← hH1, upd_ne nTm, upd_same]
    have tupH : ∀ b xs, H b = some (.tup xs) → H1 b = some (.tup xs) := fun b xs e => o1 b _ e (ne_of e hml (by intro z; cases z))
    have mv1 : Movs H1 (ins ts n T') (ins ms n (day, a, k, z)) := (hmv.keep tupH).putIn n ⟨dy, aq, kq, t1, tupH _ _ hdy, tupH _ _ haq, tupH _ _ hk⟩
    have p1 : H1 p = some (.ins CB dx (bF (.ref q) ml da ds)) := o1 _ _ B.ob npm
    have d1 : H1 ds = some (.dT (dct t)) := o1 _ _ B.sd nsm
    have k1 : H1 kq = some (.tup ((keyB k).map kV)) := by rw [keyB_vb]; exact o1 _ _ hk nkm
    refine ⟨_, rfl, p, CB, dx, _, _, rfl, p1, T.cl, T.nS, bF_sizes _ _ _ _, ds, rfl, .inr ⟨_, .inl d1⟩, _, rfl, _, DGet.t d1 k1, _, rfl, z, rfl, (tget t k).getD 0, _, dct_getD t k, rfl, ?_⟩
    have hlt : t.length ≤ 16 := by rw [B.sz.len]; exact hf.kin
    refine ⟨_, rfl, p, CB, dx, _, _, rfl, p1, T.cl, T.nS, bF_sizes _ _ _ _, _, rfl, ds, _, rfl, DPut.t d1 k1 (line_of (by rw [dct_len]; omega)), ?_⟩
    rw [dct_put, absI, B.sz.get]
    have S2 := B.sz.put z k
    generalize ht' : tput t k ((size (prs ms) k : Int) + (z.natAbs : Int)) = t' at S2 ⊢
    have g2 : (tget t' k).getD 0 = (size (prs ms) k : Int) + (z.natAbs : Int) := by
      rw [S2.get, size_app, size_one, if_pos rfl]
      omega
    have some2 : ∃ v, tget t' k = some v := by
      cases e : tget t' k with
      | some v => exact ⟨v, rfl⟩
      | none =>
        have := tget_none e
        rw [S2.has] at this
        exact absurd (by rw [kinds_app]; exact List.mem_append_right _ (List.mem_singleton.mpr rfl)) this
    obtain ⟨v, hv⟩ := some2
    rw [hv] at g2
    have g2 : v = (size (prs ms) k : Int) + (z.natAbs : Int) := g2
    generalize hH2 : L2.upd H1 ds (.dT (dct t')) = H2
    have p2 : H2 p = some (.ins CB dx (bF (.ref q) ml da ds)) := by rw [← hH2, upd_ne npd]; exact p1
    have d2 : H2 ds = some (.dT (dct t')) := by rw [← hH2]; exact upd_same
    have o2 : ∀ b o, H1 b = some o → b ≠ ds → H2 b = some o := fun b o e hb => by rw [← hH2, upd_ne hb]; exact e
    have k2 : H2 kq = some (.tup ((keyB k).map kV)) := o2 _ _ k1 ndk
    have m2 := o2 _ _ m1 nsm.symm
    have B2 : BookRaw CB H2 p dx ml da ds (.ref q) (ins ms n (day, a, k, z)) acc t' := by
      refine ⟨p2, ⟨_, m2, mv1.keep fun b xs e => o2 b _ e (ne_of e d1 (by intro z; cases z))⟩, o2 _ _ (o1 _ _ B.ad nam) B.ne, d2, B.ne, ?_⟩
      have hp := prs_perm (ins_perm ms n (day, a, k, z))
      rw [prs_app] at hp
      exact S2.perm hp.symm
    have fr : ∀ c o, H c = some o → c ≠ ml → c ≠ ds → H2 c = some o := fun c o e h1 h2 => o2 _ _ (o1 _ _ e h1) h2
    have no : ¬ Fair (prs ms ++ [(z, k)]) → Q (.bl false) H2 := fun h => kk false H2 t' ⟨fun e => absurd e (by decide), fun e => absurd e h⟩ B2 fr
    refine ⟨ml, _, m2, _, rfl, p, CB, dx, _, _, rfl, (by rw [upd_ne npm]; exact p2), T.cl, T.nM, bF_moves _ _ _ _, ml, _, rfl, .inl (SqL.of upd_same), _, upd_same, ?_⟩
    rw [upd_upd, upd_self m2]
    have el : (((ins ts n T').map V.ref).length : Int) = (ms.length : Int) + 1 := by rw [List.length_map, ins_len, hts]; rfl
    refine ⟨_, _, rfl, rfl, _, rfl, if_bool (fun h1 => ?_) (fun h1 => ?_)⟩
    · have h1 : (4096 : Int) < (((ins ts n T').map V.ref).length : Int) := of_decide_eq_true h1
      rw [el] at h1
      exact iteT (no fun h => by have := h.of_snoc.2.1; rw [prs_len] at this; omega)
    have h1 : ¬ (4096 : Int) < (((ins ts n T').map V.ref).length : Int) := of_decide_eq_false h1
    rw [el] at h1
    refine ⟨_, rfl, p, CB, dx, _, _, rfl, p2, T.cl, T.nS, bF_sizes _ _ _ _, ds, _, rfl, d2, _, _, rfl, rfl, _, rfl, if_bool (fun h2 => ?_) (fun h2 => ?_)⟩
    · have h2 : (16 : Int) < (((dct t').length : Nat) : Int) := of_decide_eq_true h2
      rw [dct_len, S2.len] at h2
      exact no fun h => by have := h.kin; omega
    have h2 : ¬ (16 : Int) < (((dct t').length : Nat) : Int) := of_decide_eq_false h2
    rw [dct_len, S2.len] at h2
    refine ⟨_, rfl, p, CB, dx, _, _, rfl, p2, T.cl, T.nS, bF_sizes _ _ _ _, _, rfl, ds, .int v, rfl, ?_, v, _, rfl, rfl, ?_⟩
    · have e : valV (dct t') (keyB k) = some (V.int v) := by rw [dct_get, hv]; rfl
      rw [← e]
      exact DGet.t d2 k2
    · refine kk _ H2 t' ?_ B2 fr
      rw [decide_eq_true_eq, g2]
      constructor
      · intro h3
        exact hf.snoc (by rw [prs_len]; omega) (by omega) (by omega)
      · intro h
        have := h.of_snoc.2.2
        omega
end
end Ev

set_option Elab.async false
set_option linter.all false
set_option maxRecDepth 100000
set_option maxHeartbeats 2000000
namespace Ev
open PySem PySem.Spec PyProof.Rows L2
open Sf42 (Bytes)
theorem no_bl {p : Prop} (h : ¬ p) : (false = true ↔ p) := ⟨fun e => absurd e (by decide), fun e => absurd e h⟩
section
variable {P : Program} {w : World} {K : PySem.W.Frag} {mg : Str → Option Value} {base : Heap} {CB CE : Addr}

/-! ### take_amount(account, amount_word, kind_word) -/
/-- the account of the movement without an amount, as it is written -/
def LackAt (H : Hp) (lv : V) : Option Bytes → Prop
  | none => lv = .non
  | some b => ∃ aq, lv = .ref aq ∧ H aq = some (.tup (vb b))
theorem LackAt.keep {H H' : Hp} {lv : V} {la : Option Bytes} (h : LackAt H lv la) (e : ∀ a xs, H a = some (.tup xs) → H' a = some (.tup xs)) : LackAt H' lv la := by
  cases la with
  | none => exact h
  | some b =>
    obtain ⟨aq, h1, h2⟩ := h
    exact ⟨aq, h1, e _ _ h2⟩
/-- the open entry, raw -/
structure EntryRaw (CE : Addr) (H : Hp) (q dq de dy : Addr) (wr : Int) (lv : V) (pl : Int) (am : Pairs) (day : Bytes) (la : Option Bytes) : Prop where
  ob : H q = some (.ins CE dq (eF dy wr lv pl de))
  sd : H de = some (.dT (dct (sumsT am)))
  dd : H dy = some (.tup (vb day))
  ll : LackAt H lv la
def spTakeAmount (K : PySem.W.Frag) (CB CE : Addr) : Sp := fun vs H Q _ => ∃ (p dx ml da ds q dq de dy aq za zk : Addr) (wr : Int) (lv : V) (pl : Int) (ms : List Mv) (am : Pairs) (acc : List Bytes) (t : Tab) (day a wa wk : Bytes) (la : Option Bytes), vs = [.ref p, .ref aq, .ref za, .ref zk] ∧
  BookRaw CB H p dx ml da ds (.ref q) ms acc t ∧ EntryRaw CE H q dq de dy wr lv pl am day la ∧ H aq = some (.tup (vb a)) ∧ de ≠ da ∧ de ≠ ds ∧ H za = some (.lst (vb wa)) ∧ H zk = some (.lst (vb wk)) ∧ wa.length ≤ 100000 ∧ wk.length ≤ 100000 ∧ Fair (prs ms) ∧ am.length ≤ 10000 ∧
  (isAmount wa = false ∨ Sf42.isKind wk = false → ∀ H', Keeps H H' → Q (.bl false) H') ∧
  (isAmount wa = true → Sf42.isKind wk = true → ∀ (b : Bool) (H' : Hp) (t' : Tab), (b = true ↔ Fair (prs ms ++ [(amountOf wa, wk)])) → BookRaw CB H' p dx ml da ds (.ref q) (ms ++ [(day, a, wk, amountOf wa)]) acc t' →
    EntryRaw CE H' q dq de dy wr lv pl (am ++ [(amountOf wa, wk)]) day la → Keeps H H' → Q (.bl b) H')
theorem scTakeAmount : FnScope ["self", "account", "amount_word", "kind_word", "kind", "amount"] ["self", "account", "amount_word", "kind_word"] (defScope sTakeAmount) := ⟨rfl, rfl, rfl, by decide +kernel, rfl, by decide +kernel, by decide +kernel⟩
theorem sumsT_len (am : Pairs) : (sumsT am).length ≤ am.length := by
  have h1 : (sumsT am).length = (kinds am).eraseDups.length := by rw [← sumsT_keys, List.length_map]
  rw [h1]
  have : (kinds am).length = am.length := by simp [kinds]
  rw [← this]
  generalize kinds am = l
  have aux : ∀ (n : Nat) (l : List Bytes), l.length ≤ n → l.eraseDups.length ≤ l.length := by
    intro n
    induction n with
    | zero => intro l h; have : l = [] := List.length_eq_zero_iff.mp (by omega); subst this; simp
    | succ n ih =>
      intro l h
      cases l with
      | nil => simp
      | cons a l =>
        rw [List.eraseDups_cons, List.length_cons, List.length_cons]
        have h1 := List.length_filter_le (fun b => !b == a) l
        simp only [List.length_cons] at h
        have := ih (l.filter fun b => !b == a) (by omega)
        omega
  exact aux l.length l (Nat.le_refl _)
theorem fn_take_amount (D : MDef K CB "take_amount" "Book.take_amount" sTakeAmount) (T : TxB K CB) (TE : TxE K CE) (n1 : mg "tuple" = none) (n2 : mg "len" = none) (G1 : Fn P w K mg base "is_amount" ["row"] 4 (spRow K isAmount)) (G2 : Fn P w K mg base "is_kind" ["row"] 2 (spRow K Sf42.isKind))
    (G3 : Fn P w K mg base "amount_of" ["row"] 3 (spAmountOf K)) (G4 : MFn P w K mg base CE "add_amount" ["self", "kind", "amount"] 1 (spAddAmount CE)) (G5 : MFn P w K mg base CB "add_movement" ["self", "place", "account", "kind", "amount"] 1 (spCount CB CE)) :
    MFn P w K mg base CB "take_amount" ["self", "account", "amount_word", "kind_word"] 5 (spTakeAmount K CB CE) := by
  refine mfn_mk D (fun _ _ _ _ _ _ us hl => match us, hl with | [_, _, _, _], _ => rfl) fun f fd F => ?_
  refine F.ok scTakeAmount (fun vs H Q E h => ?_) (fun cdv A outer s H vs Q E hr h => ?_)
  · obtain ⟨p, dx, ml, da, ds, q, dq, de, dy, aq, za, zk, wr, lv, pl, ms, am, acc, t, day, a, wa, wk, la, rfl, _⟩ := h
    rfl
  · obtain ⟨p, dx, ml, da, ds, q, dq, de, dy, aq, za, zk, wr, lv, pl, ms, am, acc, t, day, a, wa, wk, lac, rfl, B, EN, haq, nda, nds, ha, hk, la, lk, hf, lam, kn, ky⟩ := h
    have hr1 : Room 1 _ := hr.mono (by decide)
    have hr2 : Room 2 _ := hr.mono (by decide)
    have hr3 : Room 3 _ := hr.mono (by decide)
    refine ⟨_, pss_cons (ps_if (PW.pt (pw_or (pt_not (pt_val (pe_fn G1 hr (by rfl) (pa_cons (pv 2) pa_nil)))) (pw_or1 (pt_not (pt_val (pe_fn G2 hr2 (by rfl) (pa_cons (pv 3) pa_nil))))))) (pss_one (ps_ret pe_bl)) pss_nil)
      (pss_cons (ps_set (i := 4) scTakeAmount.nd rfl (.inl rfl) (pe_callTy call_tuple_of (by rfl) n1 PyProof.Rows.boot_tuple (pa_cons (pv 3) pa_nil)))
      (pss_cons (ps_set (i := 5) scTakeAmount.nd rfl (.inl rfl) (pe_fn G3 hr3 (by rfl) (pa_cons (pv 2) pa_nil)))
      (pss_cons (ps_expr (pe_mfn G4 TE.cl hr1 (pe_fld (pv 0) rfl) (pa_cons (pv 4) (pa_cons (pv 5) pa_nil))))
      (pss_one (ps_ret (pe_mfn G5 T.cl hr1 (pv 0) (pa_cons (pe_open (pe_callB call_len_seq (by rfl) n2 PySem.boot_len (pa_cons (pe_fld (pv 0) rfl) pa_nil))) (pa_cons (pv 1) (pa_cons (pv 4) (pa_cons (pv 5) pa_nil)))))))))), ?_⟩
    refine ⟨_, rfl, za, wa, rfl, SqL.of ha, la, fun H1 s1 => ⟨_, rfl, if_bool (fun h1 => ?_) (fun h1 => ?_)⟩⟩
    · exact iteT (kn (.inl (not_t h1)) H1 (Keeps.of_same s1))
    have h1 := not_f h1
    refine ⟨_, rfl, zk, wk, rfl, SqL.of (s1 _ _ hk), lk, fun H2 s2 => ⟨_, rfl, if_bool (fun h2 => ?_) (fun h2 => ?_)⟩⟩
    · exact kn (.inr (not_t h2)) H2 (Keeps.of_same (s1.trans s2))
    have h2 := not_f h2
    have s2' := s1.trans s2
    refine ⟨_, rfl, zk, _, rfl, .inl ⟨SqL.of (s2' _ _ hk), fun kq hkq => ?_⟩⟩
    have s3 := same_upd (o := .tup (vb wk)) s2' hkq
    have hkt : L2.upd H2 kq (.tup (vb wk)) kq = some (.tup (vb wk)) := upd_same
    generalize L2.upd H2 kq (.tup (vb wk)) = H3 at s3 hkt ⊢
    refine ⟨_, rfl, za, wa, rfl, SqL.of (s3 _ _ ha), la, h1, fun H4 s4 => ?_⟩
    have s4' := s3.trans s4
    have B4 : H4 p = _ := s4' _ _ B.ob
    have E4 : H4 q = _ := s4' _ _ EN.ob
    have S4 : H4 de = _ := s4' _ _ EN.sd
    have kq4 := s4 _ _ hkt
    refine ⟨_, rfl, p, CB, dx, _, _, rfl, B4, T.cl, T.nE, bF_entry _ _ _ _, q, dq, _, rfl, E4, eF_no _ _ _ _ _ (by decide +kernel) (by decide +kernel) (by decide +kernel) (by decide +kernel) (by decide +kernel), _, rfl, _, rfl, ?_⟩
    refine ⟨q, dq, de, dy, kq, wr, lv, pl, amountOf wa, sumsT am, wk, rfl, E4, S4, kq4, Nat.le_trans (sumsT_len am) lam, ?_⟩
    rw [sumsT_get, sumsT_put]
    generalize hH5 : L2.upd H4 de (.dT (dct (sumsT (am ++ [(amountOf wa, wk)])))) = H5
    have d5 : H5 de = some (.dT (dct (sumsT (am ++ [(amountOf wa, wk)])))) := by rw [← hH5]; exact upd_same
    have o5 : ∀ b, b ≠ de → H5 b = H4 b := fun b hb => by rw [← hH5]; exact upd_ne hb
    have npde : p ≠ de := ne_of B4 S4 (by intro z; cases z)
    have nqde : q ≠ de := ne_of E4 S4 (by intro z; cases z)
    have nkde : kq ≠ de := ne_of kq4 S4 (by intro z; cases z)
    have k5 : Keeps H H5 := by
      rw [← hH5]
      exact (Keeps.of_same s4').upd S4 rfl
    obtain ⟨ts, hml, hmv⟩ := B.mv
    have nmde : ml ≠ de := ne_of (s4' _ _ hml) S4 (by intro z; cases z)
    have B5 : BookRaw CB H5 p dx ml da ds (.ref q) ms acc t := by
      refine ⟨by rw [o5 _ npde]; exact B4, ⟨ts, by rw [o5 _ nmde]; exact s4' _ _ hml, hmv.keep (keeps_tup k5)⟩, ?_, ?_, B.ne, B.sz⟩
      · rw [o5 _ nda.symm]; exact s4' _ _ B.ad
      · rw [o5 _ nds.symm]; exact s4' _ _ B.sd
    have q5 : H5 q = some (.ins CE dq (eF dy wr lv pl de)) := by rw [o5 _ nqde]; exact E4
    obtain ⟨ts5, hml5, hmv5⟩ := B5.mv
    have npm5 : p ≠ ml := ne_of B5.ob hml5 (by intro z; cases z)
    have hlm : (((ts5.map V.ref).length : Nat) : Int) = (ms.length : Int) := by rw [List.length_map, hmv5.len]
    refine ⟨_, rfl, p, dx, _, rfl, B5.ob, bF_no _ _ _ _ (by decide +kernel) (by decide +kernel) (by decide +kernel) (by decide +kernel),
      ml, ts5.map V.ref, hml5, _, rfl, p, CB, dx, _, _, rfl, (by rw [upd_ne npm5]; exact B5.ob), T.cl, T.nM, bF_moves _ _ _ _, ml, _, rfl, .inl (SqL.of upd_same), _, upd_same, ?_⟩
    rw [upd_upd, upd_self hml5, hlm]
    refine ⟨_, rfl, _, rfl, _, rfl, ?_⟩
    refine ⟨p, dx, ml, da, ds, q, dq, dy, de, aq, kq, ms.length, wr, lv, pl, ms, acc, t, day, a, wk, amountOf wa, rfl, B5, q5, keeps_tup k5 _ _ EN.dd, keeps_tup k5 _ _ haq, by rw [o5 _ nkde]; exact kq4, Nat.le_refl _, hf, fun b H6 t' hb B6 fr => ?_⟩
    rw [ins_end] at B6
    have nqm : q ≠ ml := ne_of q5 hml5 (by intro z; cases z)
    have nqds : q ≠ ds := ne_of q5 B5.sd (by intro z; cases z)
    have k6 : Keeps H H6 := fun c o e so => by
      have e5 := k5 c o e so
      refine fr c o e5 ?_ ?_
      · intro z
        rw [z, hml5] at e5
        cases e5
        cases so
      · intro z
        rw [z, B5.sd] at e5
        cases e5
        cases so
    exact ky h1 h2 b H6 t' hb B6 ⟨fr q _ q5 nqm nqds, fr de _ d5 nmde.symm nds, keeps_tup k6 _ _ EN.dd, EN.ll.keep (keeps_tup k6)⟩ k6

/-! ### the book by what is read -/
def NowAt (CE : Addr) (H : Hp) (da ds : Addr) (ev : V) (bs : Nat) : Option Sf42.Entry → Prop
  | none => ev = .non
  | some e => ∃ q dq de dy lv pl, ev = .ref q ∧ EntryRaw CE H q dq de dy (e.moves.length : Int) lv pl e.amounts e.day ((lackOf e).map Sf42.joined) ∧ de ≠ da ∧ de ≠ ds ∧ e.moves.length ≤ 64 ∧ e.open_ ≤ 1 ∧ (lackOf e ≠ none → pl = ((bs + placeOf e : Nat) : Int))
structure BookAt (CB CE : Addr) (H : Hp) (p : Addr) (x : Sf42.Read) : Prop where
  ex : ∃ dx ml da ds t ev ms, BookRaw CB H p dx ml da ds ev ms (x.accounts.map Sf42.joined) t ∧ NowAt CE H da ds ev (allDone x.closed).length x.now ∧ ms = (movesD x).map mvOf
  fair : x.fair = true
  named : Named x
  good : ∀ e ∈ x.all, GoodE e
/-- what is told of the book's movements is fair -/
theorem fair_prs {ms : List Mv} {x : Sf42.Read} (h : x.fair = true) (hp : ms = (movesD x).map mvOf) : Fair (prs ms) := ((fair_iff x).mp h).1.perm (perm_prs (.of_eq hp)).symm
theorem amounts_len (e : Sf42.Entry) : e.amounts.length ≤ e.moves.length := by
  unfold Sf42.Entry.amounts
  exact List.length_filterMap_le _ _

/-! ### take_movement(words) -/
def spTakeMovement (CB CE : Addr) : Sp := fun vs H Q _ => ∃ (p b : Addr) (as : List Addr) (ws : List Bytes) (x : Sf42.Read), vs = [.ref p, .ref b] ∧ BookAt CB CE H p x ∧ H b = some (.lst (as.map V.ref)) ∧ Rows H as ws ∧ ws ≠ [] ∧ (∀ v ∈ ws, v.length ≤ 100000) ∧
  (takeMove x ws = none → ∀ H', Keeps H H' → Q (.bl false) H') ∧ (∀ y, takeMove x ws = some y → ∀ H', BookAt CB CE H' p y → Keeps H H' → Q (.bl true) H')
theorem scTakeMovement : FnScope ["self", "words", "entry", "account"] ["self", "words"] (defScope sTakeMovement) := ⟨rfl, rfl, rfl, by decide +kernel, rfl, by decide +kernel, by decide +kernel⟩
theorem takeMove_some {x : Sf42.Read} {e : Sf42.Entry} (h : x.now = some e) (ws : List Bytes) : takeMove x ws = (moveW ws).bind fun m => if (put e m).moves.length ≤ 64 ∧ (put e m).open_ ≤ 1 ∧ (add x e m).fair = true then some (add x e m) else none := by
  unfold takeMove
  rw [h]
theorem moveW_head {ws : List Bytes} {w : Bytes} {r : List Bytes} (h : ws = w :: r) (ha : isAccount w = false) : moveW ws = none := by
  subst h
  unfold moveW
  split
  · next a e =>
    injection e with e1 e2
    subst e1
    rw [account_none _ ha]
    rfl
  · next a z k e =>
    injection e with e1 e2
    subst e1
    rw [account_none _ ha]
    rfl
  · rfl
/-- a movement whose account, or whose entry, has no room -/
theorem take_no_room {x : Sf42.Read} {e : Sf42.Entry} (hn : x.now = some e) {w : Bytes} {r : List Bytes} (ha : isAccount w = true) (h : e.moves.length + 1 > 64 ∨ ∀ o, 256 < (add x e ⟨names w, o⟩).accounts.length) : takeMove x (w :: r) = none := by
  rw [takeMove_some hn]
  cases hm : moveW (w :: r) with
  | none => rfl
  | some m =>
    have hacc : m.account = names w := by
      unfold moveW at hm
      split at hm
      · next a e1 =>
        injection e1 with e1 e2
        subst e1
        rw [account_some _ ha] at hm
        cases hm
        rfl
      · next a z k e1 =>
        injection e1 with e1 e2
        subst e1
        rw [account_some _ ha] at hm
        cases hz : Sf42.amount z with
        | none => rw [hz] at hm; cases hm
        | some v =>
          rw [hz] at hm
          simp only [Option.bind_some] at hm
          split at hm
          · cases hm; rfl
          · cases hm
      · cases hm
    show (if _ then _ else _) = none
    rw [if_neg]
    rintro ⟨h1, h2, h3⟩
    rcases h with h | h
    · rw [put_len] at h1; omega
    · have h4 := ((fair_iff _).mp h3).2
      have h5 := h m.amount
      have em : (⟨names w, m.amount⟩ : Sf42.Move) = m := by rw [← hacc]
      rw [em] at h5
      omega
end
end Ev

set_option Elab.async false
set_option linter.all false
set_option maxRecDepth 100000
set_option maxHeartbeats 2000000
namespace Ev
open PySem PySem.Spec PyProof.Rows L2
open Sf42 (Bytes)
section
variable {P : Program} {w : World} {K : PySem.W.Frag} {mg : Str → Option Value} {base : Heap} {CB CE : Addr}
theorem moveW_one (v : Bytes) : moveW [v] = (Sf42.account v).map fun a => ⟨a, none⟩ := rfl
theorem moveW_three (v z k : Bytes) : moveW [v, z, k] = (Sf42.account v).bind fun a => (Sf42.amount z).bind fun z => if Sf42.isKind k = true then some ⟨a, some (z, k)⟩ else none := rfl
theorem take_open {x : Sf42.Read} {e : Sf42.Entry} (hn : x.now = some e) {v : Bytes} (ha : isAccount v = true) :
    takeMove x [v] = if e.moves.length + 1 ≤ 64 ∧ e.open_ + 1 ≤ 1 ∧ (add x e ⟨names v, none⟩).fair = true then some (add x e ⟨names v, none⟩) else none := by
  rw [takeMove_some hn, moveW_one, account_some _ ha]
  show (if (put e ⟨names v, none⟩).moves.length ≤ 64 ∧ (put e ⟨names v, none⟩).open_ ≤ 1 ∧ (add x e ⟨names v, none⟩).fair = true then some (add x e ⟨names v, none⟩) else none) = _
  rw [put_len, open_open]
theorem take_three {x : Sf42.Read} {e : Sf42.Entry} (hn : x.now = some e) {v z k : Bytes} (ha : isAccount v = true) (hz : isAmount z = true) (hk : Sf42.isKind k = true) :
    takeMove x [v, z, k] = if e.moves.length + 1 ≤ 64 ∧ e.open_ ≤ 1 ∧ (add x e ⟨names v, some (amountOf z, k)⟩).fair = true then some (add x e ⟨names v, some (amountOf z, k)⟩) else none := by
  rw [takeMove_some hn, moveW_three, account_some _ ha, amount_some _ hz]
  simp only [Option.bind_some]
  rw [if_pos hk]
  show (if (put e ⟨names v, some (amountOf z, k)⟩).moves.length ≤ 64 ∧ (put e ⟨names v, some (amountOf z, k)⟩).open_ ≤ 1 ∧ (add x e ⟨names v, some (amountOf z, k)⟩).fair = true then some (add x e ⟨names v, some (amountOf z, k)⟩) else none) = _
  rw [put_len, open_some]
theorem take_three_no {x : Sf42.Read} {v z k : Bytes} (h : isAmount z = false ∨ Sf42.isKind k = false) : takeMove x [v, z, k] = none := by
  unfold takeMove
  cases x.now with
  | none => rfl
  | some e =>
    have : moveW [v, z, k] = none := by
      rw [moveW_three]
      cases Sf42.account v with
      | none => rfl
      | some a =>
        simp only [Option.bind_some]
        rcases h with h | h
        · rw [amount_none _ h]; rfl
        · cases Sf42.amount z with
          | none => rfl
          | some y =>
            simp only [Option.bind_some]
            rw [if_neg (by rw [h]; exact Bool.false_ne_true)]
    show (moveW [v, z, k]).bind _ = none
    rw [this]
    rfl
theorem take_other {x : Sf42.Read} {ws : List Bytes} (h1 : ws.length ≠ 1) (h3 : ws.length ≠ 3) : takeMove x ws = none := by
  unfold takeMove
  cases x.now with
  | none => rfl
  | some e =>
    have : moveW ws = none := by
      unfold moveW
      split
      · exact absurd rfl h1
      · exact absurd rfl h3
      · rfl
    show (moveW ws).bind _ = none
    rw [this]
    rfl
/-! ### take_lacking(account) -/
def spTakeLacking (CB CE : Addr) : Sp := fun vs H Q _ => ∃ (p dx ml da ds q dq dy de aq : Addr) (ts : List Addr) (wr : Int) (lv : V) (pl : Int), vs = [.ref p, .ref aq] ∧ H p = some (.ins CB dx (bF (.ref q) ml da ds)) ∧ H ml = some (box ml (ts.map V.ref)) ∧ H q = some (.ins CE dq (eF dy wr lv pl de)) ∧
  (lv ≠ .non → Q (.bl false) H) ∧ (lv = .non → Q (.bl true) (L2.upd H q (.ins CE dq (eF dy wr (.ref aq) (ts.length : Int) de))))
theorem scTakeLacking : FnScope ["self", "account"] ["self", "account"] (defScope sTakeLacking) := ⟨rfl, rfl, rfl, by decide +kernel, rfl, by decide +kernel, by decide +kernel⟩
theorem fn_take_lacking (D : MDef K CB "take_lacking" "Book.take_lacking" sTakeLacking) (T : TxB K CB) (TE : TxE K CE) (n1 : mg "len" = none) : MFn P w K mg base CB "take_lacking" ["self", "account"] 1 (spTakeLacking CB CE) := by
  refine mfn_mk D (fun _ _ _ _ _ _ us hl => match us, hl with | [_, _], _ => rfl) fun f fd F => ?_
  refine F.ok scTakeLacking (fun vs H Q E h => ?_) (fun cdv A outer s H vs Q E hr h => ?_)
  · obtain ⟨p, dx, ml, da, ds, q, dq, dy, de, aq, ts, wr, lv, pl, rfl, _⟩ := h
    rfl
  · obtain ⟨p, dx, ml, da, ds, q, dq, dy, de, aq, ts, wr, lv, pl, rfl, hp, hml, hq, kn, ky⟩ := h
    refine ⟨_, pss_cons (ps_if (pt_cmpR op_notN (pe_fld (pe_fld (pv 0) rfl) rfl) pe_non (nomark _)) (pss_one (ps_ret pe_bl)) pss_nil)
      (pss_cons (ps_fld (pe_fld (pv 0) rfl) (pv 1) rfl)
      (pss_cons (ps_fld (pe_fld (pv 0) rfl) (pe_open (pe_callB call_len_seq (by rfl) n1 PySem.boot_len (pa_cons (pe_fld (pv 0) rfl) pa_nil))) rfl) (pss_one (ps_ret pe_bl)))), ?_⟩
    refine ⟨_, rfl, p, CB, dx, _, _, rfl, hp, T.cl, T.nE, bF_entry _ _ _ _, q, CE, dq, _, _, rfl, hq, TE.cl, TE.nO, eF_lack _ _ _ _ _, rfl, _, rfl, ?_⟩
    by_cases h : lv = .non
    · rw [decide_eq_true h]
      refine iteF ⟨_, rfl, _, rfl, p, CB, dx, _, _, rfl, hp, T.cl, T.nE, bF_entry _ _ _ _, q, CE, dq, _, rfl, hq, TE.cl, TE.nO, eF_len _ _ _ _ _, ?_⟩
      rw [eF_putL]
      have nqp : p ≠ q := by
        intro z
        rw [z, hq] at hp
        cases hp
      have nmq : ml ≠ q := ne_of hml hq (by intro z; cases z)
      have npm : p ≠ ml := ne_of hp hml (by intro z; cases z)
      have p1 : L2.upd H q (.ins CE dq (eF dy wr (.ref aq) pl de)) p = some (.ins CB dx (bF (.ref q) ml da ds)) := by rw [upd_ne nqp]; exact hp
      have m1 : L2.upd H q (.ins CE dq (eF dy wr (.ref aq) pl de)) ml = some (box ml (ts.map V.ref)) := by rw [upd_ne nmq]; exact hml
      refine ⟨ml, _, m1, _, rfl, p, CB, dx, _, _, rfl, (by rw [upd_ne npm]; exact p1), T.cl, T.nM, bF_moves _ _ _ _, ml, _, rfl, .inl (SqL.of upd_same), _, upd_same, ?_⟩
      rw [upd_upd, upd_self m1, List.length_map]
      refine ⟨_, rfl, p, CB, dx, _, _, rfl, p1, T.cl, T.nE, bF_entry _ _ _ _, q, CE, dq, _, rfl, upd_same, TE.cl, TE.nP, eF_len _ _ _ _ _, ?_⟩
      rw [eF_putP, upd_upd]
      exact ky h
    · rw [decide_eq_false h]
      exact iteT (kn h)
theorem all_add {x : Sf42.Read} {e : Sf42.Entry} (hn : x.now = some e) {m : Sf42.Move} (hg : ∀ e ∈ x.all, GoodE e) (ha : AccOk m.account) (hk : ∀ q, m.amount = some q → q.2.length ≤ 8) : ∀ e' ∈ (add x e m).all, GoodE e' := by
  intro e' he
  unfold Sf42.Read.all add at he
  have ge : GoodE e := hg e (by unfold Sf42.Read.all; rw [hn]; exact List.mem_append_right _ (List.mem_singleton.mpr rfl))
  rcases List.mem_append.mp he with he | he
  · exact hg e' (List.mem_append_left _ he)
  · have ee : e' = put e m := List.mem_singleton.mp he
    subst ee
    refine ⟨ge.day, fun m' hm => ?_, fun m' hm => ?_⟩
    · rcases List.mem_append.mp hm with hm | hm
      · exact ge.acc m' hm
      · rw [List.mem_singleton.mp hm]; exact ha
    · rcases List.mem_append.mp hm with hm | hm
      · exact ge.kin m' hm
      · rw [List.mem_singleton.mp hm]; exact hk
theorem acc_ok {v : Bytes} (h : isAccount v = true) : AccOk (names v) := by
  refine ⟨by rw [joined_names], ?_⟩
  rw [joined_names]
  unfold isAccount at h
  rw [Bool.and_eq_true, decide_eq_true_eq] at h
  have hp : ∀ n ∈ names v, n.length ≤ 31 := fun n hn => by
    have := List.all_eq_true.mp h.2 n hn
    unfold isName at this
    rw [Bool.and_eq_true, Bool.and_eq_true, decide_eq_true_eq, decide_eq_true_eq] at this
    exact this.2.1
  have aux : ∀ l : List Bytes, (∀ n ∈ l, n.length ≤ 31) → (Sf42.joined l).length ≤ 32 * l.length ∧ (l ≠ [] → (Sf42.joined l).length + 1 ≤ 32 * l.length) := by
    intro l
    induction l with
    | nil => intro _; exact ⟨Nat.le_refl _, fun h => absurd rfl h⟩
    | cons a l ih =>
      intro hl
      have h1 := hl a (List.mem_cons_self ..)
      have h2 := ih fun n hn => hl n (List.mem_cons_of_mem _ hn)
      cases l with
      | nil =>
        have : (Sf42.joined [a]).length = a.length := rfl
        rw [this, List.length_singleton]
        exact ⟨by omega, fun _ => by omega⟩
      | cons b r =>
        have e : (Sf42.joined (a :: b :: r)).length = a.length + ((Sf42.joined (b :: r)).length + 1) := by
          show (a ++ (58 :: Sf42.joined (b :: r))).length = _
          rw [List.length_append, List.length_cons]
        have h3 := h2.2 (by simp)
        rw [e]
        rw [List.length_cons (a := a)]
        exact ⟨by omega, fun _ => by omega⟩
  have h2 := (aux (names v) hp).2 (names_ne v)
  rw [joined_names] at h2
  omega
theorem kind_len {k : Bytes} (h : Sf42.isKind k = true) : k.length ≤ 8 := by
  rw [isKind_eq, Bool.and_eq_true, Bool.and_eq_true, decide_eq_true_eq, decide_eq_true_eq] at h
  exact h.1.2
theorem fn_take_movement (D : MDef K CB "take_movement" "Book.take_movement" sTakeMovement) (T : TxB K CB) (TE : TxE K CE) (n1 : mg "tuple" = none) (n2 : mg "len" = none) (c1 : IntAt mg "MOST_ACCOUNTS" 256) (c2 : IntAt mg "MOST_IN_ENTRY" 64)
    (G1 : Fn P w K mg base "is_account" ["row"] 4 (spRow K isAccount)) (G2 : MFn P w K mg base CB "take_amount" ["self", "account", "amount_word", "kind_word"] 5 (spTakeAmount K CB CE)) (G3 : MFn P w K mg base CB "take_lacking" ["self", "account"] 1 (spTakeLacking CB CE)) :
    MFn P w K mg base CB "take_movement" ["self", "words"] 6 (spTakeMovement CB CE) := by
  refine mfn_mk D (fun _ _ _ _ _ _ us hl => match us, hl with | [_, _], _ => rfl) fun f fd F => ?_
  refine F.ok scTakeMovement (fun vs H Q E h => ?_) (fun cdv A outer s H vs Q E hr h => ?_)
  · obtain ⟨p, b, as, ws, x, rfl, _⟩ := h
    rfl
  · obtain ⟨p, b, as, ws, x, rfl, BA, hb, hw, hne, hlw, kn, ky⟩ := h
    have hr4 : Room 4 _ := hr.mono (by decide)
    have hr1 : Room 1 _ := hr.mono (by decide)
    have hu := hu_of hr
    refine ⟨_, pss_cons (ps_set (i := 2) scTakeMovement.nd rfl (.inl rfl) (pe_fld (pv 0) rfl))
      (pss_cons (ps_if (PW.pt (pw_or (pt_cmpR op_isN (pv 2) pe_non (nomark _)) (pw_or1 (pt_not (pt_val (pe_fn G1 hr4 (by rfl) (pa_cons (pe_ix ix_list (pv 1) pe_int (fun _ _ => rfl)) pa_nil))))))) (pss_one (ps_ret pe_bl)) pss_nil)
      (pss_cons (ps_set (i := 3) scTakeMovement.nd rfl (.inl rfl) (pe_callTy call_tuple_of (by rfl) n1 PyProof.Rows.boot_tuple (pa_cons (pe_ix ix_list (pv 1) pe_int (fun _ _ => rfl)) pa_nil)))
      (pss_cons (ps_dput hu (pe_fld (pv 0) rfl) (pv 3) pe_bl rfl)
      (pss_cons (ps_fldaug (pv 2) pe_int in_add)
      (pss_cons (ps_if (PW.pt (pw_or (pt_cmpR op_gt (pe_callB call_len_dT (by rfl) n2 PySem.boot_len (pa_cons (pe_fld (pv 0) rfl) pa_nil)) (pe_num c1 rfl) (nomark _)) (pw_or1 (pt_cmpR op_gt (pe_fld (pv 2) rfl) (pe_num c2 rfl) (nomark _))))) (pss_one (ps_ret pe_bl)) pss_nil)
      (pss_cons (ps_if (pt_cmpR op_eq (pe_callB call_len_seq (by rfl) n2 PySem.boot_len (pa_cons (pv 1) pa_nil)) pe_int (nomark _)) (pss_one (ps_ret (pe_mfn G3 T.cl hr1 (pv 0) (pa_cons (pv 3) pa_nil)))) pss_nil)
      (pss_one (ps_ret (pe_and (pe_cmpR op_eq (pe_callB call_len_seq (by rfl) n2 PySem.boot_len (pa_cons (pv 1) pa_nil)) pe_int (nomark _))
        (pe_one (pe_mfn G2 T.cl hr (pv 0) (pa_cons (pv 3) (pa_cons (pe_ix ix_list (pv 1) pe_int (fun _ _ => rfl)) (pa_cons (pe_ix ix_list (pv 1) pe_int (fun _ _ => rfl)) pa_nil)))))))))))))), ?_⟩
    obtain ⟨⟨dx, ml, da, ds, t, ev, ms, B, hN, hpm⟩, hfair, hnamed, hgood⟩ := id BA
    have hfp := fair_prs hfair hpm
    refine ⟨_, rfl, p, CB, dx, _, _, rfl, B.ob, T.cl, T.nE, bF_entry _ _ _ _, ?_⟩
    cases hnow : x.now with
    | none =>
      rw [hnow] at hN
      have hN : ev = .non := hN
      subst hN
      refine ⟨_, rfl, rfl, _, rfl, iteT ?_⟩
      refine kn ?_ H (Keeps.refl H)
      unfold takeMove
      rw [hnow]
    | some e =>
      rw [hnow] at hN
      obtain ⟨q, dq, de, dy, lv, pl, rfl, EN, nda, nds, h64, hop, hpl⟩ := hN
      refine ⟨_, rfl, rfl, _, rfl, ?_⟩
      have e0 : decide (V.ref q = V.non) = false := rfl
      rw [e0]
      refine iteF ?_
      obtain ⟨v, r, rfl⟩ : ∃ v r, ws = v :: r := by
        cases ws with
        | nil => exact absurd rfl hne
        | cons v r => exact ⟨v, r, rfl⟩
      obtain ⟨z0, hz0, hzv⟩ := hw.get' (i := 0) (b := v) rfl
      have lv' : v.length ≤ 100000 := hlw v (by simp)
      refine ⟨_, rfl, b, _, _, _, rfl, rfl, SqL.of hb, refs_atI (j := 0) rfl hz0, z0, v, rfl, SqL.of hzv, lv', fun H1 s1 => ⟨_, rfl, if_bool (fun h1 => ?_) (fun h1 => ?_)⟩⟩
      · refine kn ?_ H1 (Keeps.of_same s1)
        rw [takeMove_some hnow, moveW_head rfl (not_t h1)]
        rfl
      have hacc := not_f h1
      -- account = tuple(words[0]); self.accounts[account] = True
      refine ⟨_, rfl, b, _, _, _, rfl, rfl, SqL.of (s1 _ _ hb), refs_atI (j := 0) rfl hz0, z0, _, rfl, .inl ⟨SqL.of (s1 _ _ hzv), fun kq hkq => ?_⟩⟩
      have s2 := same_upd (o := .tup (vb v)) s1 hkq
      have hkt : L2.upd H1 kq (.tup (vb v)) kq = some (.tup ((keyB v).map kV)) := by rw [upd_same, keyB_vb]
      generalize L2.upd H1 kq (.tup (vb v)) = H2 at s2 hkt ⊢
      have hal : (x.accounts.map Sf42.joined).length ≤ 256 := by
        rw [List.length_map]
        exact ((fair_iff x).mp hfair).2
      refine ⟨_, rfl, p, CB, dx, _, _, rfl, s2 _ _ B.ob, T.cl, T.nA, bF_acc _ _ _ _, _, rfl, da, _, rfl, DPut.t (s2 _ _ B.ad) hkt (line_of (by rw [dctA_len]; omega)), ?_⟩
      rw [dctA_put]
      have eacc : ∀ o, (add x e ⟨names v, o⟩).accounts.map Sf42.joined = if v ∈ x.accounts.map Sf42.joined then x.accounts.map Sf42.joined else x.accounts.map Sf42.joined ++ [v] := accounts_words hnamed hnow v
      generalize hacc' : (if v ∈ x.accounts.map Sf42.joined then x.accounts.map Sf42.joined else x.accounts.map Sf42.joined ++ [v]) = acc' at eacc ⊢
      obtain ⟨ts, hml, hmv⟩ := B.mv
      have npda : p ≠ da := ne_of (s2 _ _ B.ob) (s2 _ _ B.ad) (by intro z; cases z)
      have nqda : q ≠ da := ne_of (s2 _ _ EN.ob) (s2 _ _ B.ad) (by intro z; cases z)
      have nmda : ml ≠ da := ne_of hml B.ad (by intro z; cases z)
      have nqm : q ≠ ml := ne_of EN.ob hml (by intro z; cases z)
      have nqp : q ≠ p := by
        intro z
        have h1 := EN.ob
        rw [z, B.ob] at h1
        cases h1
      have nqde : q ≠ de := ne_of EN.ob EN.sd (by intro z; cases z)
      have nqds : q ≠ ds := ne_of EN.ob B.sd (by intro z; cases z)
      have npds : p ≠ ds := ne_of B.ob B.sd (by intro z; cases z)
      -- entry.written += 1
      have q3 : L2.upd H2 da (.dT (dctA acc')) q = some (.ins CE dq (eF dy (e.moves.length : Int) lv pl de)) := by
        rw [upd_ne nqda]
        exact s2 _ _ EN.ob
      refine ⟨_, rfl, q, CE, dq, _, _, rfl, q3, TE.cl, TE.nW, eF_written _ _ _ _ _, _, _, rfl, rfl, dq, _, q3, eF_len _ _ _ _ _, ?_⟩
      rw [eF_putW]
      have k4 : Keeps H (L2.upd (L2.upd H2 da (.dT (dctA acc'))) q (.ins CE dq (eF dy ((e.moves.length : Int) + 1) lv pl de))) :=
        ((Keeps.of_same s2).upd (s2 _ _ B.ad) rfl).upd q3 rfl
      have q4 : L2.upd (L2.upd H2 da (.dT (dctA acc'))) q (.ins CE dq (eF dy ((e.moves.length : Int) + 1) lv pl de)) q = some (.ins CE dq (eF dy ((e.moves.length : Int) + 1) lv pl de)) := upd_same
      have a4 : L2.upd (L2.upd H2 da (.dT (dctA acc'))) q (.ins CE dq (eF dy ((e.moves.length : Int) + 1) lv pl de)) da = some (.dT (dctA acc')) := by rw [upd_ne nqda.symm, upd_same]
      have o4 : ∀ c, c ≠ q → c ≠ da → L2.upd (L2.upd H2 da (.dT (dctA acc'))) q (.ins CE dq (eF dy ((e.moves.length : Int) + 1) lv pl de)) c = H2 c := fun c h1 h2 => by rw [upd_ne h1, upd_ne h2]
      generalize L2.upd (L2.upd H2 da (.dT (dctA acc'))) q (.ins CE dq (eF dy ((e.moves.length : Int) + 1) lv pl de)) = H4 at k4 q4 a4 o4 ⊢
      have p4 : H4 p = some (.ins CB dx (bF (.ref q) ml da ds)) := by rw [o4 _ nqp.symm npda]; exact s2 _ _ B.ob
      have d4 : H4 ds = some (.dT (dct t)) := by rw [o4 _ nqds.symm B.ne.symm]; exact s2 _ _ B.sd
      have e4 : H4 de = some (.dT (dct (sumsT e.amounts))) := by rw [o4 _ nqde.symm nda]; exact s2 _ _ EN.sd
      have m4 : H4 ml = some (box ml (ts.map V.ref)) := by rw [o4 _ nqm.symm nmda]; exact s2 _ _ hml
      have b4 : H4 b = some (.lst (as.map V.ref)) := k4 _ _ hb rfl
      have nkq : kq ≠ q := ne_of hkt (s2 _ _ EN.ob) (by intro z; cases z)
      have nkda : kq ≠ da := ne_of hkt (s2 _ _ B.ad) (by intro z; cases z)
      have kq4 : H4 kq = some (.tup (vb v)) := by rw [o4 _ nkq nkda, hkt, keyB_vb]
      have B4 : BookRaw CB H4 p dx ml da ds (.ref q) ms acc' t := ⟨p4, ⟨ts, m4, hmv.keep (keeps_tup k4)⟩, a4, d4, B.ne, B.sz⟩
      have lacc : ∀ o, acc'.length = (add x e ⟨names v, o⟩).accounts.length := fun o => by rw [← eacc o, List.length_map]
      refine ⟨_, rfl, p, CB, dx, _, _, rfl, p4, T.cl, T.nA, bF_acc _ _ _ _, da, _, rfl, a4, _, _, rfl, rfl, _, rfl, if_bool (fun h2 => ?_) (fun h2 => ?_)⟩
      · have h2 : (256 : Int) < (((dctA acc').length : Nat) : Int) := of_decide_eq_true h2
        rw [dctA_len] at h2
        refine iteT (kn (take_no_room hnow hacc (.inr fun o => ?_)) H4 k4)
        rw [← lacc o]
        omega
      have h2 : ¬ (256 : Int) < (((dctA acc').length : Nat) : Int) := of_decide_eq_false h2
      rw [dctA_len] at h2
      refine ⟨_, rfl, q, CE, dq, _, _, rfl, q4, TE.cl, TE.nW, eF_written _ _ _ _ _, _, _, rfl, rfl, _, rfl, if_bool (fun h3 => ?_) (fun h3 => ?_)⟩
      · have h3 : (64 : Int) < (e.moves.length : Int) + 1 := of_decide_eq_true h3
        exact kn (take_no_room hnow hacc (.inl (by omega))) H4 k4
      have h3 : ¬ (64 : Int) < (e.moves.length : Int) + 1 := of_decide_eq_false h3
      have hlen : (((as.map V.ref).length : Nat) : Int) = ((v :: r).length : Int) := by rw [List.length_map, hw.len]
      refine ⟨_, rfl, b, _, rfl, .inl (SqL.of b4), rfl, _, rfl, ?_⟩
      have e5 : decide (V.int (((as.map V.ref).length : Nat) : Int) = V.int 1) = decide ((v :: r).length = 1) := by
        rw [hlen]
        exact dec_nat (v :: r).length 1
      rw [e5]
      refine if_bool (fun h5 => ?_) (fun h5 => ?_)
      · -- a movement without an amount
        have h5 := of_decide_eq_true h5
        have hr0 : r = [] := List.length_eq_zero_iff.mp (by simpa using h5)
        subst hr0
        refine ⟨_, rfl, p, dx, _, rfl, p4, bF_no _ _ _ _ (by decide +kernel) (by decide +kernel) (by decide +kernel) (by decide +kernel), _, rfl, ?_⟩
        have hpx := pairs_open hnow (names v)
        have hfy : (add x e ⟨names v, none⟩).fair = true := by
          rw [fair_iff, hpx]
          exact ⟨((fair_iff x).mp hfair).1, by rw [← lacc none]; omega⟩
        have et := take_open hnow hacc
        refine ⟨p, dx, ml, da, ds, q, dq, dy, de, kq, ts, _, lv, pl, rfl, p4, m4, q4, fun hlv => ?_, fun hlv => ?_⟩
        · have ho : e.open_ ≠ 0 := fun z => by
            have hl := EN.ll
            rw [(lack_none e).mpr z] at hl
            exact hlv hl
          rw [if_neg (by omega)] at et
          exact kn et H4 k4
        · have hno : lackOf e = none := by
            have hl := EN.ll
            cases hla : lackOf e with
            | none => rfl
            | some a =>
              rw [hla] at hl
              obtain ⟨aq, h7, _⟩ := hl
              rw [hlv] at h7
              cases h7
          have ho : e.open_ = 0 := (lack_none e).mp hno
          rw [if_pos ⟨by omega, by omega, hfy⟩] at et
          have k6 : Keeps H (L2.upd H4 q (.ins CE dq (eF dy ((e.moves.length : Int) + 1) (.ref kq) (ts.length : Int) de))) := k4.upd q4 rfl
          have o6 : ∀ c, c ≠ q → L2.upd H4 q (.ins CE dq (eF dy ((e.moves.length : Int) + 1) (.ref kq) (ts.length : Int) de)) c = H4 c := fun c h => upd_ne h
          have q6 : L2.upd H4 q (.ins CE dq (eF dy ((e.moves.length : Int) + 1) (.ref kq) (ts.length : Int) de)) q = some (.ins CE dq (eF dy ((e.moves.length : Int) + 1) (.ref kq) (ts.length : Int) de)) := upd_same
          generalize L2.upd H4 q (.ins CE dq (eF dy ((e.moves.length : Int) + 1) (.ref kq) (ts.length : Int) de)) = H6 at k6 o6 q6 ⊢
          have kq6 : H6 kq = some (.tup (vb v)) := by rw [o6 _ nkq]; exact kq4
          refine ky _ et H6 ⟨⟨dx, ml, da, ds, t, .ref q, ms, ⟨?_, ⟨ts, ?_, hmv.keep (keeps_tup k6)⟩, ?_, ?_, B.ne, B.sz⟩, ⟨q, dq, de, dy, .ref kq, (ts.length : Int), rfl, ⟨?_, ?_, keeps_tup k6 _ _ EN.dd, ?_⟩, nda, nds, ?_, ?_, fun _ => ?_⟩, ?_⟩, hfy, named_add hnamed hnow v none, all_add hnow hgood (acc_ok hacc) (fun q h => nomatch h)⟩ k6
          · rw [o6 _ nqp.symm]; exact p4
          · rw [o6 _ nqm.symm]; exact m4
          · rw [o6 _ nqda.symm, eacc none]; exact a4
          · rw [o6 _ nqds.symm]; exact d4
          · rw [put_len]; exact q6
          · rw [amounts_open, o6 _ nqde.symm]; exact e4
          · rw [lack_open, hno]
            exact ⟨kq, rfl, by rw [kq6]; show some (HO.tup (vb v)) = some (HO.tup (vb (Sf42.joined (names v)))); rw [joined_names]⟩
          · rw [put_len]; omega
          · rw [open_open]; omega
          · have hl7 := congrArg List.length hpm
            rw [List.length_map, movesD_len hnow] at hl7
            rw [place_open hno, hmv.len, hl7]
            rfl
          · rw [movesD_open hnow]; exact hpm
      have h5 := of_decide_eq_false h5
      -- three words, or the line is wrong
      refine ⟨_, rfl, b, _, rfl, .inl (SqL.of b4), rfl, _, rfl, ?_⟩
      have e6 : decide (V.int (((as.map V.ref).length : Nat) : Int) = V.int 3) = decide ((v :: r).length = 3) := by
        rw [hlen]
        exact dec_nat (v :: r).length 3
      rw [e6]
      refine if_bool (fun h6 => ?_) (fun h6 => kn (take_other h5 (of_decide_eq_false h6)) H4 k4)
      have h6 := of_decide_eq_true h6
      obtain ⟨z, k, rfl⟩ : ∃ z k, r = [z, k] := by
        match r, h6 with
        | [z, k], _ => exact ⟨z, k, rfl⟩
      obtain ⟨z1, hz1, hzz⟩ := hw.get' (i := 1) (b := z) rfl
      obtain ⟨z2, hz2, hzk⟩ := hw.get' (i := 2) (b := k) rfl
      refine ⟨_, rfl, p, dx, _, rfl, p4, bF_no _ _ _ _ (by decide +kernel) (by decide +kernel) (by decide +kernel) (by decide +kernel), _, rfl, _, rfl, b, _, _, _, rfl, rfl, SqL.of b4, refs_atI (j := 1) rfl hz1, _, rfl, b, _, _, _, rfl, rfl, SqL.of b4, refs_atI (j := 2) rfl hz2, ?_⟩
      refine ⟨p, dx, ml, da, ds, q, dq, de, dy, kq, z1, z2, (e.moves.length : Int) + 1, lv, pl, ms, e.amounts, acc', t, e.day, v, z, k, (lackOf e).map Sf42.joined, rfl, B4, ⟨q4, e4, keeps_tup k4 _ _ EN.dd, EN.ll.keep (keeps_tup k4)⟩, kq4, nda, nds, k4 _ _ hzz rfl, k4 _ _ hzk rfl, hlw z (by simp), hlw k (by simp), hfp,
        Nat.le_trans (amounts_len e) (by omega), fun hbad H' kp => kn (take_three_no hbad) H' (k4.trans kp), fun hz' hk' bb H' t' hbb B' E' kp => ?_⟩
      have et := take_three hnow hacc hz' hk'
      have hpx := pairs_some hnow (names v) (amountOf z) k
      have hpp : (prs ms ++ [(amountOf z, k)]).Perm (pairs x ++ [(amountOf z, k)]) := (perm_prs (.of_eq hpm)).append_right _
      have hfy : (add x e ⟨names v, some (amountOf z, k)⟩).fair = true ↔ Fair (prs ms ++ [(amountOf z, k)]) := by
        rw [fair_iff, hpx]
        exact ⟨fun h => h.1.perm hpp.symm, fun h => ⟨h.perm hpp, by rw [← lacc (some (amountOf z, k))]; omega⟩⟩
      cases bb with
      | true =>
        have hF := hfy.mpr (hbb.mp rfl)
        rw [if_pos ⟨by omega, hop, hF⟩] at et
        refine ky _ et H' ⟨⟨dx, ml, da, ds, t', .ref q, ms ++ [(e.day, v, k, amountOf z)], ?_, ⟨q, dq, de, dy, lv, pl, rfl, ?_, nda, nds, ?_, ?_, fun hl9 => ?_⟩, ?_⟩, hF, named_add hnamed hnow v _, all_add hnow hgood (acc_ok hacc) (fun q h => by cases h; exact kind_len hk')⟩ (k4.trans kp)
        · rw [eacc]; exact B'
        · rw [put_len, amounts_some, lack_some]; exact E'
        · rw [put_len]; omega
        · rw [open_some]; exact hop
        · rw [lack_some] at hl9
          rw [place_some hl9]
          exact hpl hl9
        · rw [movesD_some hnow, List.map_append, hpm]
          show _ ++ [(e.day, v, k, amountOf z)] = _ ++ [(e.day, Sf42.joined (names v), k, amountOf z)]
          rw [joined_names]
      | false =>
        rw [if_neg (fun h => by have := hbb.mpr (hfy.mp h.2.2); cases this)] at et
        exact kn et H' (k4.trans kp)
end
end Ev

set_option Elab.async false
set_option linter.all false
set_option maxRecDepth 100000
set_option maxHeartbeats 2000000
namespace Ev
open PySem PySem.Spec PyProof.Rows L2
open Sf42 (Bytes)
section
variable {P : Program} {w : World} {K : PySem.W.Frag} {mg : Str → Option Value} {base : Heap} {CB CE : Addr}

/-! ### begin_entry(line) -/
/-- the book behind an entry's end: nothing is open, whatever the field entry says -/
structure BookShut (CB : Addr) (H : Hp) (p : Addr) (y : Sf42.Read) : Prop where
  ex : ∃ dx ml da ds t ev ms, BookRaw CB H p dx ml da ds ev ms (y.accounts.map Sf42.joined) t ∧ ms = (movesD y).map mvOf
  fair : y.fair = true
  named : Named y
  good : ∀ e ∈ y.all, GoodE e
  now : y.now = none
def spBeginEntry (K : PySem.W.Frag) (CB CE : Addr) : Sp := fun vs H Q _ => ∃ (p a : Addr) (b : Bytes) (y : Sf42.Read), vs = [.ref p, .ref a] ∧ BookShut CB H p y ∧ RowAt K H a b ∧ b.length ≤ 100000 ∧
  ∀ H', (begins b = true → BookAt CB CE H' p (begun y (b.take 10))) → Keeps H H' → Q (.bl (begins b)) H'
theorem scBeginEntry : FnScope ["self", "line"] ["self", "line"] (defScope sBeginEntry) := ⟨rfl, rfl, rfl, by decide +kernel, rfl, by decide +kernel, by decide +kernel⟩
theorem fn_begin_entry {fI : Addr} {fdI : FuncData} (D : MDef K CB "begin_entry" "Book.begin_entry" sBeginEntry) (T : TxB K CB) (TE : TxE K CE) (n1 : mg "tuple" = none) (c1 : IntAt mg "DAY_BYTES" 10) (gE : mg "Entry" = some (.ref CE)) (M : Mk K CE fI) (GI : FnOk P w K mg base CX0 1 fI fdI ["self", "day"] (spEntryInit CE)) (bI : Binds K fdI ["self", "day"] [])
    (G1 : Fn P w K mg base "begins_entry" ["line"] 4 (spRow K begins)) : MFn P w K mg base CB "begin_entry" ["self", "line"] 5 (spBeginEntry K CB CE) := by
  refine mfn_mk D (fun _ _ _ _ _ _ us hl => match us, hl with | [_, _], _ => rfl) fun f fd F => ?_
  refine F.ok scBeginEntry (fun vs H Q E h => ?_) (fun cdv A outer s H vs Q E hr h => ?_)
  · obtain ⟨p, a, b, y, rfl, _⟩ := h
    rfl
  · obtain ⟨p, a, b, y, rfl, BS, hrow, hlen, k⟩ := h
    have hr2 : Room 2 _ := hr.mono (by decide)
    refine ⟨_, pss_cons (ps_fld (pv 0) (pe_make M GI hr2 rfl gE bI .nil pass0 (pa_cons (pe_callTy call_tuple_of (by rfl) n1 PyProof.Rows.boot_tuple (pa_cons (pe_slice sl_list (pv 1) po_none (po_some (pe_num c1 rfl))) pa_nil)) pa_nil)) rfl) (pss_one (ps_ret (pe_fn G1 hr (by rfl) (pa_cons (pv 1) pa_nil)))), ?_⟩
    obtain ⟨⟨dx, ml, da, ds, t, ev, ms, B, hpm⟩, hfair, hnamed, hgood, hnow⟩ := BS
    -- tuple(line[:DAY_BYTES])
    refine ⟨_, rfl, _, rfl, a, _, rfl, hrow, fun u hu' => ?_⟩
    have s0 := same_upd (o := .lst (cutV (vb b) none (some 10))) (Same.refl H) hu'
    have hu2 : L2.upd H u (.lst (cutV (vb b) none (some 10))) u = some (.lst (vb (b.take 10))) := by rw [upd_same, cut_take b 10 (z := 10) rfl]
    generalize L2.upd H u (.lst (cutV (vb b) none (some 10))) = H0 at s0 hu2 ⊢
    refine ⟨u, _, rfl, .inl ⟨SqL.of hu2, fun dy hdy => ?_⟩⟩
    have s00 := same_upd (o := .tup (vb (b.take 10))) s0 hdy
    have hd0 : L2.upd H0 dy (.tup (vb (b.take 10))) dy = some (.tup (vb (b.take 10))) := upd_same
    generalize L2.upd H0 dy (.tup (vb (b.take 10))) = H00 at s00 hd0 ⊢
    intro q dq nq ndq nqd
    refine ⟨q, dq, dy, rfl, upd_same, fun de H1 nde hq1 hd1 fr => ⟨rfl, ?_⟩⟩
    have st : ∀ c o, H00 c = some o → L2.upd (L2.upd H00 dq (.own q)) q (.ins CE dq []) c = some o := fun c o e => by
      rw [upd_ne (ne_of_none e nq), upd_ne (ne_of_none e ndq)]
      exact e
    have s01 : Same H00 H1 := fun c o e => fr c o (st c o e) (ne_of_none e nq)
    have s1 : Same H H1 := s00.trans s01
    have nde0 : H de = none := by
      cases e : H de with
      | none => rfl
      | some o => rw [st _ _ (s00 _ _ e)] at nde; cases nde
    have nq0 : H q = none := by
      cases e : H q with
      | none => rfl
      | some o => rw [s00 _ _ e] at nq; cases nq
    refine ⟨_, rfl, p, CB, dx, _, rfl, s1 _ _ B.ob, T.cl, T.nE, bF_len _ _ _ _, ?_⟩
    rw [bF_putE]
    have k2 : Keeps H (L2.upd H1 p (.ins CB dx (bF (.ref q) ml da ds))) := (Keeps.of_same s1).upd (s1 _ _ B.ob) rfl
    have o2 : ∀ c, c ≠ p → L2.upd H1 p (.ins CB dx (bF (.ref q) ml da ds)) c = H1 c := fun c hc => upd_ne hc
    have p2 : L2.upd H1 p (.ins CB dx (bF (.ref q) ml da ds)) p = some (.ins CB dx (bF (.ref q) ml da ds)) := upd_same
    generalize L2.upd H1 p (.ins CB dx (bF (.ref q) ml da ds)) = H2 at k2 o2 p2 ⊢
    obtain ⟨ts, hml, hmv⟩ := B.mv
    have nqp : q ≠ p := (ne_of_none B.ob nq0).symm
    have ndp : de ≠ p := (ne_of_none B.ob nde0).symm
    have npa : da ≠ p := ne_of B.ad B.ob (by intro z; cases z)
    have nps : ds ≠ p := ne_of B.sd B.ob (by intro z; cases z)
    have npm : ml ≠ p := ne_of hml B.ob (by intro z; cases z)
    have ndy : dy ≠ p := ne_of (s01 _ _ hd0) (s1 _ _ B.ob) (by intro z; cases z)
    refine ⟨_, rfl, a, b, rfl, k2.seq hrow, hlen, fun H3 s3 => ?_⟩
    have k3 := k2.trans (Keeps.of_same s3)
    refine k H3 (fun hbeg => ⟨⟨dx, ml, da, ds, t, .ref q, ms, ⟨?_, ⟨ts, ?_, hmv.keep (keeps_tup k3)⟩, ?_, ?_, B.ne, B.sz⟩, ⟨q, dq, de, dy, .non, 0, rfl, ⟨?_, ?_, ?_, rfl⟩, (ne_of_none B.ad nde0).symm, (ne_of_none B.sd nde0).symm, Nat.zero_le _, Nat.zero_le _, fun z => absurd rfl z⟩, ?_⟩, ?_, ?_, ?_⟩) k3
    · exact s3 _ _ p2
    · exact s3 _ _ (by rw [o2 _ npm]; exact s1 _ _ hml)
    · rw [accounts_begun hnow]; exact s3 _ _ (by rw [o2 _ npa]; exact s1 _ _ B.ad)
    · exact s3 _ _ (by rw [o2 _ nps]; exact s1 _ _ B.sd)
    · exact s3 _ _ (by rw [o2 _ nqp]; exact hq1)
    · exact s3 _ _ (by rw [o2 _ ndp]; exact hd1)
    · exact s3 _ _ (by rw [o2 _ ndy]; exact s01 _ _ hd0)
    · rw [movesD_begun hnow]; exact hpm
    · rw [fair_iff, pairs_begun hnow, accounts_begun hnow]; exact (fair_iff y).mp hfair
    · intro c hc
      rw [accounts_begun hnow] at hc
      exact hnamed c hc
    · intro e he
      rcases List.mem_append.mp he with he | he
      · exact hgood e (List.mem_append_left _ he)
      · rw [List.mem_singleton.mp he]
        exact ⟨((begins_iff b).mp hbeg).1, (fun m hm => by cases hm), (fun m hm => by cases hm)⟩

/-! ### end_entry() -/
def spEndEntry (CB CE : Addr) : Sp := fun vs H Q _ => ∃ (p : Addr) (x : Sf42.Read), vs = [.ref p] ∧ BookAt CB CE H p x ∧
  (x.close = none → ∀ H', Keeps H H' → Q (.bl false) H') ∧ (∀ y, x.close = some y → ∀ H', BookShut CB H' p y → Keeps H H' → Q (.bl true) H')
theorem scEndEntry : FnScope ["self", "entry"] ["self"] (defScope sEndEntry) := ⟨rfl, rfl, rfl, by decide +kernel, rfl, by decide +kernel, by decide +kernel⟩
theorem named_closed {x : Sf42.Read} {e : Sf42.Entry} (h : Named x) (hn : x.now = some e) : Named (closed x e) := fun a ha => by
  rw [accounts_closed hn] at ha
  exact h a ha
theorem even_two {e : Sf42.Entry} (h : e.moves.length < 2) : e.even = false := by
  unfold Sf42.Entry.even
  rw [decide_eq_false (by omega), Bool.false_and]
theorem even_open {e : Sf42.Entry} (h : 2 ≤ e.moves.length) (h1 : e.open_ = 1) : e.even = true := by
  unfold Sf42.Entry.even
  rw [decide_eq_true h, h1]
  rfl
theorem even_none {e : Sf42.Entry} (h : 2 ≤ e.moves.length) (h1 : e.open_ = 0) : e.even = (e.wanting == []) := by
  unfold Sf42.Entry.even
  rw [decide_eq_true h, h1]
  rfl
theorem good_closed {x : Sf42.Read} {e : Sf42.Entry} (h : ∀ e ∈ x.all, GoodE e) (hn : x.now = some e) : ∀ e' ∈ (closed x e).all, GoodE e' := fun e' he => by
  refine h e' ?_
  unfold Sf42.Read.all at he ⊢
  rw [hn]
  unfold closed at he
  simpa using he
/-- what the entry wants, as movements -/
def wantM (e : Sf42.Entry) (la : Sf42.Account) : List Mv := e.wanting.map fun p => (e.day, Sf42.joined la, p.2, p.1)
theorem wantM_prs (e : Sf42.Entry) (la : Sf42.Account) (i : Nat) : prs ((wantM e la).take i) = e.wanting.take i := by
  unfold wantM
  rw [← List.map_take]
  unfold prs
  rw [List.map_map]
  exact (List.map_congr_left fun p _ => rfl).trans (List.map_id _)
theorem ins_prs (ms : List Mv) (n : Nat) (e : Sf42.Entry) (la : Sf42.Account) (i : Nat) : (prs (insAll ms n ((wantM e la).take i))).Perm (prs ms ++ e.wanting.take i) := by
  have := prs_perm (insAll_perm ms n ((wantM e la).take i))
  rw [prs_app, wantM_prs] at this
  exact this
/-! ### add_wanting(entry) -/
def spAddWanting (CB CE : Addr) : Sp := fun vs H Q _ => ∃ (p q dx ml da ds dq de dy lq : Addr) (pl : Nat) (t : Tab) (ms : List Mv) (acc : List Bytes) (e : Sf42.Entry) (la : Sf42.Account), vs = [.ref p, .ref q] ∧ BookRaw CB H p dx ml da ds (.ref q) ms acc t ∧
  H q = some (.ins CE dq (eF dy (e.moves.length : Int) (.ref lq) (pl : Int) de)) ∧ H de = some (.dT (dct (sumsT e.amounts))) ∧ H dy = some (.tup (vb e.day)) ∧ H lq = some (.tup (vb (Sf42.joined la))) ∧ e.moves.length ≤ 64 ∧ pl ≤ ms.length ∧ Fair (prs ms) ∧
  (¬ Fair (prs ms ++ e.wanting) → ∀ H', Keeps H H' → Q (.bl false) H') ∧
  (∀ (H' : Hp) (t' : Tab), Fair (prs ms ++ e.wanting) → BookRaw CB H' p dx ml da ds (.ref q) (insAll ms pl (wantM e la)) acc t' → Keeps H H' → Q (.bl true) H')
theorem scAddWanting : FnScope ["self", "entry", "place", "kind", "amount"] ["self", "entry"] (defScope sAddWanting) := ⟨rfl, rfl, rfl, by decide +kernel, rfl, by decide +kernel, by decide +kernel⟩
theorem fn_add_wanting (D : MDef K CB "add_wanting" "Book.add_wanting" sAddWanting) (T : TxB K CB) (TE : TxE K CE) (G1 : MFn P w K mg base CE "wanting" ["self"] 1 (spWanting CE)) (G2 : MFn P w K mg base CB "add_movement" ["self", "place", "account", "kind", "amount"] 1 (spCount CB CE)) :
    MFn P w K mg base CB "add_wanting" ["self", "entry"] 2 (spAddWanting CB CE) := by
  refine mfn_mk D (fun _ _ _ _ _ _ us hl => match us, hl with | [_, _], _ => rfl) fun f fd F => ?_
  refine F.ok scAddWanting (fun vs H Q E h => ?_) (fun cdv A outer s H vs Q E hr h => ?_)
  · obtain ⟨p, q, dx, ml, da, ds, dq, de, dy, lq, pl, t, ms, acc, e, la, rfl, _⟩ := h
    rfl
  · obtain ⟨p, q, dx, ml, da, ds, dq, de, dy, lq, pl, t, ms, acc, e, la, rfl, B, hq, hde, hdy, hlq, h64, hpl, fx, kn, ky⟩ := h
    refine ⟨_, pss_cons (ps_set (i := 2) scAddWanting.nd rfl (.inl rfl) (pe_fld (pv 1) rfl))
      (pss_cons (ps_for PassesOwn.never rfl (pi_list (pe_mfn0 G1 TE.cl hr (pv 1))) (pg_tup rfl (pgs_cons (pg_name (i := 3) scAddWanting.nd rfl (.inl rfl)) (pgs_cons (pg_name (i := 4) scAddWanting.nd rfl (.inl rfl)) pgs_nil)))
        (pss_cons (ps_if (pt_not (pt_val (pe_mfn G2 T.cl hr (pv 0) (pa_cons (pv 2) (pa_cons (pe_fld (pv 1) rfl) (pa_cons (pv 3) (pa_cons (pv 4) pa_nil))))))) (pss_one (ps_ret pe_bl)) pss_nil)
          (pss_one (ps_aug (i := 2) scAddWanting.nd rfl (.inl rfl) pe_int ip_add))))
      (pss_one (ps_ret pe_bl))), ?_⟩
    refine ⟨_, rfl, q, CE, dq, _, _, rfl, hq, TE.cl, TE.nP, eF_place _ _ _ _ _, ?_⟩
    have hlt : (sumsT e.amounts).length ≤ 10000 := by
      have := sumsT_len e.amounts
      have := amounts_len e
      omega
    refine ⟨_, rfl, q, dq, _, rfl, hq, eF_no _ _ _ _ _ (by decide +kernel) (by decide +kernel) (by decide +kernel) (by decide +kernel) (by decide +kernel), q, dq, de, dy, _, _, _, sumsT e.amounts, rfl, hq, hde, hlt, fun H1 z ts s1 h2 w2 => ?_⟩
    rw [← wanting_eq] at w2
    obtain ⟨ts0, hml, hmv⟩ := B.mv
    refine ⟨z, rfl, ⟨_, SqL.of h2⟩, for_list (K := K) (a := z) (xs := ts.map V.ref) (fun i σ H' => ∃ (t' : Tab) (v1 v2 : Option V), σ = [some (.ref p), some (.ref q), some (.int ((pl + i : Nat) : Int)), v1, v2] ∧ Keeps H1 H' ∧ i ≤ e.wanting.length ∧
      BookRaw CB H' p dx ml da ds (.ref q) (insAll ms pl ((wantM e la).take i)) acc t' ∧ Fair (prs (insAll ms pl ((wantM e la).take i))) ∧ H' q = some (.ins CE dq (eF dy (e.moves.length : Int) (.ref lq) (pl : Int) de)))
      ⟨t, none, none, rfl, Keeps.refl _, Nat.zero_le _, ?_, ?_, s1 _ _ hq⟩ (fun i σ H' _ ⟨_, _, _, _, k1, _⟩ => k1.seq (SqL.of h2)) ?_ ?_⟩
    · rw [List.take_zero, insAll_nil]
      exact ⟨s1 _ _ B.ob, ⟨ts0, s1 _ _ hml, hmv.keep fun a xs e => s1 _ _ e⟩, s1 _ _ B.ad, s1 _ _ B.sd, B.ne, B.sz⟩
    · rw [List.take_zero, insAll_nil]
      exact fx
    · rintro i y σ H' hi ⟨t', v1, v2, rfl, k1, hil, B1, f1, q1⟩
      obtain ⟨c, hc, rfl⟩ := refs_get hi
      obtain ⟨pr, hpr, kq, hcq, hkq⟩ := w2.get hc
      have et := take_more hpr
      have hil2 : i + 1 ≤ e.wanting.length := (List.getElem?_eq_some_iff.mp hpr).1
      have hwl : ((wantM e la).take i).length = i := by
        rw [List.length_take]
        unfold wantM
        rw [List.length_map]
        omega
      have ewm : (wantM e la).take (i + 1) = (wantM e la).take i ++ [(e.day, Sf42.joined la, pr.2, pr.1)] := by
        refine take_more ?_
        unfold wantM
        rw [List.getElem?_map, hpr]
        rfl
      have kk1 := (Keeps.of_same s1).trans k1
      refine ⟨c, _, rfl, SqT.of (k1 _ _ hcq rfl), rfl, _, _, rfl, _, _, rfl, rfl, ?_⟩
      refine ⟨_, rfl, p, dx, _, rfl, B1.ob, bF_no _ _ _ _ (by decide +kernel) (by decide +kernel) (by decide +kernel) (by decide +kernel), _, rfl, _, rfl, q, CE, dq, _, _, rfl, q1, TE.cl, TE.nO, eF_lack _ _ _ _ _, _, rfl, _, rfl, ?_⟩
      refine ⟨p, dx, ml, da, ds, q, dq, dy, de, lq, kq, pl + i, _, .ref lq, _, _, _, t', e.day, Sf42.joined la, pr.2, pr.1, rfl, B1, q1, keeps_tup kk1 _ _ hdy, keeps_tup kk1 _ _ hlq, k1 _ _ hkq rfl, (by rw [insAll_len, hwl]; omega), f1, fun b H2 t2 hb B2 fr => ⟨_, rfl, ?_⟩⟩
      rw [insAll_more hpl hwl, ← ewm] at B2
      obtain ⟨tsb, hmlb, _⟩ := B1.mv
      have k2 : Keeps H' H2 := fun cc o ee so => fr cc o ee
        (fun zz => by rw [zz, hmlb] at ee; cases ee; cases so) (fun zz => by rw [zz, B1.sd] at ee; cases ee; cases so)
      have hpp : (prs (insAll ms pl ((wantM e la).take i)) ++ [(pr.1, pr.2)]).Perm (prs ms ++ e.wanting.take (i + 1)) := by
        rw [et, ← List.append_assoc]
        exact (ins_prs ms pl e la i).append_right _
      cases b with
      | true =>
        refine iteF ⟨_, rfl, _, _, rfl, rfl, t2, some (.ref kq), some (.int pr.1), ?_, k1.trans k2, hil2, B2, ?_, ?_⟩
        · have e7 : ((pl + i : Nat) : Int) + 1 = ((pl + (i + 1) : Nat) : Int) := by omega
          show [some (V.ref p), some (V.ref q), some (V.int (((pl + i : Nat) : Int) + 1)), some (V.ref kq), some (V.int pr.1)] = _
          rw [e7]
        · exact ((hb.mp rfl).perm hpp).perm (ins_prs ms pl e la (i + 1)).symm
        · exact fr q _ q1 (ne_of q1 hmlb (by intro z; cases z)) (ne_of q1 B1.sd (by intro z; cases z))
      | false =>
        refine iteT ?_
        refine kn ?_ H2 (kk1.trans k2)
        intro h5
        have e6 : e.wanting = e.wanting.take (i + 1) ++ e.wanting.drop (i + 1) := (List.take_append_drop _ _).symm
        rw [e6, ← List.append_assoc] at h5
        have := hb.mpr (h5.of_app.perm hpp.symm)
        cases this
    · rintro σ H' ⟨t', v1, v2, rfl, k1, hil, B1, f1, q1⟩
      have el : (ts.map V.ref).length = e.wanting.length := by rw [List.length_map, w2.len]
      rw [el] at B1 f1
      have hf := f1.perm (ins_prs ms pl e la e.wanting.length)
      rw [List.take_length] at hf
      have ew : (wantM e la).take e.wanting.length = wantM e la := List.take_of_length_le (by unfold wantM; rw [List.length_map]; exact Nat.le_refl _)
      rw [ew] at B1
      exact ky H' t' hf B1 ((Keeps.of_same s1).trans k1)
theorem fn_end_entry (D : MDef K CB "end_entry" "Book.end_entry" sEndEntry) (T : TxB K CB) (TE : TxE K CE) (n1 : mg "len" = none) (c1 : IntAt mg "LEAST_IN_ENTRY" 2) (G1 : MFn P w K mg base CE "wanting" ["self"] 1 (spWanting CE)) (G2 : MFn P w K mg base CB "add_wanting" ["self", "entry"] 2 (spAddWanting CB CE)) :
    MFn P w K mg base CB "end_entry" ["self"] 3 (spEndEntry CB CE) := by
  refine mfn_mk D (fun _ _ _ _ _ _ us hl => match us, hl with | [_], _ => rfl) fun f fd F => ?_
  refine F.ok scEndEntry (fun vs H Q E h => ?_) (fun cdv A outer s H vs Q E hr h => ?_)
  · obtain ⟨p, x, rfl, _⟩ := h
    rfl
  · obtain ⟨p, x, rfl, BA, kn, ky⟩ := h
    have hr1 : Room 1 _ := hr.mono (by decide)
    refine ⟨_, pss_cons (ps_set (i := 1) scEndEntry.nd rfl (.inl rfl) (pe_fld (pv 0) rfl))
      (pss_cons (ps_if (pt_cmpR op_isN (pv 1) pe_non (nomark _)) (pss_one (ps_ret pe_bl)) pss_nil)
      (pss_cons (ps_if (pt_cmpR op_lt (pe_fld (pv 1) rfl) (pe_num c1 rfl) (nomark _)) (pss_one (ps_ret pe_bl)) pss_nil)
      (pss_cons (ps_if (pt_cmpR op_isN (pe_fld (pv 1) rfl) pe_non (nomark _)) (pss_one (ps_ret (pe_cmpR op_eq (pe_callB call_len_seq (by rfl) n1 PySem.boot_len (pa_cons (pe_mfn0 G1 TE.cl hr1 (pv 1)) pa_nil)) pe_int (nomark _)))) pss_nil)
      (pss_one (ps_ret (pe_mfn G2 T.cl hr (pv 0) (pa_cons (pv 1) pa_nil))))))), ?_⟩
    obtain ⟨⟨dx, ml, da, ds, t, ev, ms, B, hN, hpm⟩, hfair, hnamed, hgood⟩ := id BA
    refine ⟨_, rfl, p, CB, dx, _, _, rfl, B.ob, T.cl, T.nE, bF_entry _ _ _ _, ?_⟩
    cases hnow : x.now with
    | none =>
      rw [hnow] at hN
      have hN : ev = .non := hN
      subst hN
      refine ⟨_, rfl, rfl, _, rfl, iteT ?_⟩
      exact ky x (close_none hnow) H ⟨⟨dx, ml, da, ds, t, _, ms, B, hpm⟩, hfair, hnamed, hgood, hnow⟩ (Keeps.refl H)
    | some e =>
      rw [hnow] at hN
      obtain ⟨q, dq, de, dy, lv, pl, rfl, EN, nda, nds, h64, hop, hpl⟩ := hN
      refine ⟨_, rfl, rfl, _, rfl, ?_⟩
      have e0 : decide (V.ref q = V.non) = false := rfl
      rw [e0]
      refine iteF ?_
      have ec := close_some hnow
      refine ⟨_, rfl, q, CE, dq, _, _, rfl, EN.ob, TE.cl, TE.nW, eF_written _ _ _ _ _, _, _, rfl, rfl, _, rfl, if_bool (fun h1 => ?_) (fun h1 => ?_)⟩
      · have h1 : (e.moves.length : Int) < 2 := of_decide_eq_true h1
        rw [even_two (by omega), if_neg Bool.false_ne_true] at ec
        exact kn ec H (Keeps.refl H)
      have h1 : ¬ (e.moves.length : Int) < 2 := of_decide_eq_false h1
      have hlt : (sumsT e.amounts).length ≤ 10000 := by
        have := sumsT_len e.amounts
        have := amounts_len e
        omega
      refine ⟨_, rfl, q, CE, dq, _, _, rfl, EN.ob, TE.cl, TE.nO, eF_lack _ _ _ _ _, rfl, _, rfl, ?_⟩
      obtain ⟨ts0, hml, hmv⟩ := B.mv
      cases hlack : lackOf e with
      | none =>
        -- no movement without an amount
        have hll := EN.ll
        rw [hlack] at hll
        have hlv : lv = .non := hll
        subst hlv
        have h3 : e.open_ = 0 := (lack_none e).mp hlack
        refine iteT ?_
        rw [even_none (by omega) h3] at ec
        refine ⟨_, rfl, q, dq, _, rfl, EN.ob, eF_no _ _ _ _ _ (by decide +kernel) (by decide +kernel) (by decide +kernel) (by decide +kernel) (by decide +kernel), q, dq, de, dy, _, .non, pl, sumsT e.amounts, rfl, EN.ob, EN.sd, hlt, fun H1 z ts s1 h2 w2 => ?_⟩
        rw [← wanting_eq] at w2
        refine ⟨z, _, rfl, .inl (SqL.of h2), rfl, ?_⟩
        have el : decide (V.int (((ts.map V.ref).length : Nat) : Int) = V.int 0) = (e.wanting == []) := by
          have e2 : decide (V.int (((ts.map V.ref).length : Nat) : Int) = V.int ((0 : Nat) : Int)) = decide (e.wanting.length = 0) := by
            rw [List.length_map, w2.len]
            exact dec_nat _ _
          refine (show decide (V.int (((ts.map V.ref).length : Nat) : Int) = V.int 0) = decide (e.wanting.length = 0) from e2).trans ?_
          cases e.wanting <;> simp
        have hpp := pairs_closed0 hnow h3
        have hcf : (closed x e).fair = true := by
          rw [fair_iff, accounts_closed hnow]
          exact ⟨((fair_iff x).mp hfair).1.perm hpp.symm, ((fair_iff x).mp hfair).2⟩
        have hpm2 : ms = (movesD (closed x e)).map mvOf := by rw [movesD_shut0 hnow h3]; exact hpm
        have fin : Q (.bl (e.wanting == [])) H1 := by
          cases hw : (e.wanting == []) with
          | true =>
            rw [hw, if_pos rfl, if_pos hcf] at ec
            refine ky _ ec H1 ⟨⟨dx, ml, da, ds, t, .ref q, ms, ⟨s1 _ _ B.ob, ⟨ts0, s1 _ _ hml, hmv.keep fun a xs e => s1 _ _ e⟩, ?_, s1 _ _ B.sd, B.ne, B.sz⟩, hpm2⟩, hcf, named_closed hnamed hnow, good_closed hgood hnow, rfl⟩ (Keeps.of_same s1)
            rw [accounts_closed hnow]
            exact s1 _ _ B.ad
          | false =>
            rw [hw, if_neg Bool.false_ne_true] at ec
            exact kn ec H1 (Keeps.of_same s1)
        have kt : Q (.bl (e.wanting == [])) H1 → Q (.bl (decide (V.int (((ts.map V.ref).length : Nat) : Int) = V.int 0))) H1 := by rw [el]; exact id
        exact kt fin
      | some la =>
        -- one without: it moves what is wanting
        have hll := EN.ll
        rw [hlack] at hll
        obtain ⟨lq, hlv, hlq⟩ := hll
        subst hlv
        have h3 : e.open_ ≠ 0 := fun z9 => by rw [(lack_none e).mpr z9] at hlack; cases hlack
        have ho : e.open_ = 1 := by omega
        have e8 : decide (V.ref lq = V.non) = false := rfl
        rw [e8]
        refine iteF ?_
        have hpp := pairs_closed1 hnow ho
        rw [even_open (by omega) ho, if_pos rfl] at ec
        have fx := fair_prs hfair hpm
        have hpx := perm_prs (.of_eq hpm)
        obtain ⟨hple, hins⟩ := movesD_shut1 hnow ho hlack
        have hpl := hpl (by rw [hlack]; intro z; cases z)
        subst hpl
        have hlm : ms.length = (movesD x).length := by rw [hpm, List.length_map]
        have hff : (closed x e).fair = true ↔ Fair (prs ms ++ e.wanting) := by
          have hq9 : (pairs (closed x e)).Perm (prs ms ++ e.wanting) := hpp.trans (List.Perm.append_right e.wanting hpx).symm
          rw [fair_iff, accounts_closed hnow]
          exact ⟨fun h => h.1.perm hq9, fun h => ⟨h.perm hq9.symm, ((fair_iff x).mp hfair).2⟩⟩
        refine ⟨_, rfl, p, dx, _, rfl, B.ob, bF_no _ _ _ _ (by decide +kernel) (by decide +kernel) (by decide +kernel) (by decide +kernel), _, rfl, ?_⟩
        refine ⟨p, q, dx, ml, da, ds, dq, de, dy, lq, _, t, ms, _, e, la, rfl, B, EN.ob, EN.sd, EN.dd, hlq, h64, (by rw [hlm]; exact hple), fx, fun hn H' k1 => ?_, fun H' t' hf B1 k1 => ?_⟩
        · rw [if_neg (fun z => hn (hff.mp z))] at ec
          exact kn ec H' k1
        · have hcf := hff.mpr hf
          rw [if_pos hcf] at ec
          have hpm2 : insAll ms ((allDone x.closed).length + placeOf e) (wantM e la) = (movesD (closed x e)).map mvOf := by
            rw [hins, insAll_map, ← hpm]
            congr 1
            unfold dayed wantM
            rw [List.map_map, List.map_map]
            rfl
          refine ky _ ec H' ⟨⟨dx, ml, da, ds, t', .ref q, _, ?_, hpm2⟩, hcf, named_closed hnamed hnow, good_closed hgood hnow, rfl⟩ k1
          rw [accounts_closed hnow]
          exact B1

/-! ### take_line(line) -/
def spTakeLine (K : PySem.W.Frag) (CB CE : Addr) : Sp := fun vs H Q _ => ∃ (p a : Addr) (l : Bytes) (x : Sf42.Read), vs = [.ref p, .ref a] ∧ BookAt CB CE H p x ∧ RowAt K H a l ∧ l.length ≤ 100000 ∧
  (x.line l = none → ∀ H', Keeps H H' → Q (.bl false) H') ∧ (∀ y, x.line l = some y → ∀ H', BookAt CB CE H' p y → Keeps H H' → Q (.bl true) H')
theorem scTakeLine : FnScope ["self", "line", "said", "words"] ["self", "line"] (defScope sTakeLine) := ⟨rfl, rfl, rfl, by decide +kernel, rfl, by decide +kernel, by decide +kernel⟩
theorem BookAt.same {H H' : Hp} {p : Addr} {x : Sf42.Read} (h : BookAt CB CE H p x) (s : Same H H') : BookAt CB CE H' p x := by
  obtain ⟨⟨dx, ml, da, ds, t, ev, ms, B, hN, hpm⟩, hf, hn, hg⟩ := h
  obtain ⟨ts, hml, hmv⟩ := B.mv
  have st : ∀ a xs, H a = some (.tup xs) → H' a = some (.tup xs) := fun a xs e => s _ _ e
  refine ⟨⟨dx, ml, da, ds, t, ev, ms, ⟨s _ _ B.ob, ⟨ts, s _ _ hml, hmv.keep st⟩, s _ _ B.ad, s _ _ B.sd, B.ne, B.sz⟩, ?_, hpm⟩, hf, hn, hg⟩
  cases hnow : x.now with
  | none => rw [hnow] at hN; exact hN
  | some e =>
    rw [hnow] at hN
    obtain ⟨q, dq, de, dy, lv, pl, rfl, EN, r⟩ := hN
    exact ⟨q, dq, de, dy, lv, pl, rfl, ⟨s _ _ EN.ob, s _ _ EN.sd, s _ _ EN.dd, EN.ll.keep st⟩, r⟩
theorem said_len (l : Bytes) : (said l).length ≤ l.length := by
  unfold said
  have := List.takeWhile_append_dropWhile (p := fun c => c != 35) (l := l)
  have h := congrArg List.length this
  rw [List.length_append] at h
  omega
theorem fn_take_line (D : MDef K CB "take_line" "Book.take_line" sTakeLine) (T : TxB K CB) (n1 : mg "len" = none) (G1 : Fn P w K mg base "without_remark" ["line"] 2 (spRemark K)) (G2 : Fn P w K mg base "words_of" ["line"] 2 (spRows K Sf42.words)) (G3 : Fn P w K mg base "is_blank" ["byte"] 1 (spByte Sf42.blank))
    (G4 : MFn P w K mg base CB "take_movement" ["self", "words"] 6 (spTakeMovement CB CE)) (G5 : MFn P w K mg base CB "end_entry" ["self"] 3 (spEndEntry CB CE)) (G6 : MFn P w K mg base CB "begin_entry" ["self", "line"] 5 (spBeginEntry K CB CE)) :
    MFn P w K mg base CB "take_line" ["self", "line"] 7 (spTakeLine K CB CE) := by
  refine mfn_mk D (fun _ _ _ _ _ _ us hl => match us, hl with | [_, _], _ => rfl) fun f fd F => ?_
  refine F.ok scTakeLine (fun vs H Q E h => ?_) (fun cdv A outer s H vs Q E hr h => ?_)
  · obtain ⟨p, a, l, x, rfl, _⟩ := h
    rfl
  · obtain ⟨p, a, l, x, rfl, BA, hrow, hlen, kn, ky⟩ := h
    have hr1 : Room 1 _ := hr.mono (by decide)
    have hr2 : Room 2 _ := hr.mono (by decide)
    have hr5 : Room 5 _ := hr.mono (by decide)
    have hr3 : Room 3 _ := hr.mono (by decide)
    refine ⟨_, pss_cons (ps_set (i := 2) scTakeLine.nd rfl (.inl rfl) (pe_fn G1 hr2 (by rfl) (pa_cons (pv 1) pa_nil)))
      (pss_cons (ps_set (i := 3) scTakeLine.nd rfl (.inl rfl) (pe_fn G2 hr2 (by rfl) (pa_cons (pv 2) pa_nil)))
      (pss_cons (ps_if (pt_cmpR op_eq (pe_callB call_len_seq (by rfl) n1 PySem.boot_len (pa_cons (pv 3) pa_nil)) pe_int (nomark _)) (pss_one (ps_ret pe_bl)) pss_nil)
      (pss_cons (ps_if (pt_val (pe_fn G3 hr1 (by rfl) (pa_cons (pe_ix ix_list (pv 2) pe_int (fun _ _ => rfl)) pa_nil))) (pss_one (ps_ret (pe_mfn G4 T.cl hr (pv 0) (pa_cons (pv 3) pa_nil)))) pss_nil)
      (pss_one (ps_ret (pe_and (pe_mfn0 G5 T.cl hr3 (pv 0)) (pe_one (pe_mfn G6 T.cl hr5 (pv 0) (pa_cons (pv 2) pa_nil))))))))), ?_⟩
    have el := line_eq x l
    refine ⟨_, rfl, a, l, rfl, hrow, hlen, fun H1 z s1 hz => ?_⟩
    have hz : H1 z = some (.lst (vb (said l))) := hz
    have hsl := said_len l
    refine ⟨_, rfl, z, said l, rfl, SqL.of hz, by omega, fun H2 b as s2 hb r2 => ?_⟩
    refine ⟨_, rfl, b, _, rfl, .inl (SqL.of hb), rfl, _, rfl, ?_⟩
    have s2' := s1.trans s2
    have BA2 := BA.same s2'
    have e1 : decide (V.int (((as.map V.ref).length : Nat) : Int) = V.int 0) = decide (Sf42.words (said l) = []) := by
      have e2 : decide (V.int (((as.map V.ref).length : Nat) : Int) = V.int ((0 : Nat) : Int)) = decide ((Sf42.words (said l)).length = 0) := by
        rw [List.length_map, r2.len]
        exact dec_nat _ _
      refine (show decide (V.int (((as.map V.ref).length : Nat) : Int) = V.int 0) = decide ((Sf42.words (said l)).length = 0) from e2).trans ?_
      congr 1
      exact propext List.length_eq_zero_iff
    rw [e1]
    refine if_bool (fun h1 => ?_) (fun h1 => ?_)
    · have h1 := of_decide_eq_true h1
      rw [if_pos h1] at el
      exact ky x el H2 BA2 (Keeps.of_same s2')
    have h1 := of_decide_eq_false h1
    rw [if_neg h1] at el
    have hne : said l ≠ [] := fun e => h1 (by rw [e]; rfl)
    have hpos := List.length_pos_iff.mpr hne
    have hb0 := List.getElem?_eq_getElem (l := said l) (i := 0) hpos
    have hh : (said l).head? = some (said l)[0] := by rw [List.head?_eq_getElem?]; exact hb0
    rw [hh] at el
    refine ⟨_, rfl, z, _, _, _, rfl, rfl, SqL.of (s2 _ _ hz), vb_atI (j := 0) rfl hb0, (said l)[0], rfl, fun H3 s3 => ⟨_, rfl, if_bool (fun h2 => ?_) (fun h2 => ?_)⟩⟩
    · have h2' : (Option.map Sf42.blank (some (said l)[0])).getD false = true := h2
      rw [if_pos h2'] at el
      have s3' := s2'.trans s3
      obtain ⟨dx, ml, da, ds, t, ev, ms, B, _⟩ := (BA.same s3').ex
      refine ⟨_, rfl, p, dx, _, rfl, B.ob, bF_no _ _ _ _ (by decide +kernel) (by decide +kernel) (by decide +kernel) (by decide +kernel), _, rfl, ?_⟩
      refine ⟨p, b, as, _, x, rfl, BA.same s3', s3 _ _ hb, r2.same fun c xs e => s3 _ _ e, h1, fun v hv => ?_, fun e H4 k4 => ?_, fun y e H4 B4 k4 => ?_⟩
      · have := (words_mem _ _ hv).2
        omega
      · exact kn (el.trans e) H4 ((Keeps.of_same s3').trans k4)
      · exact ky y (el.trans e) H4 B4 ((Keeps.of_same s3').trans k4)
    · have h2' : ¬ (Option.map Sf42.blank (some (said l)[0])).getD false = true := by
        have : (Option.map Sf42.blank (some (said l)[0])).getD false = false := h2
        rw [this]
        exact Bool.false_ne_true
      rw [if_neg h2'] at el
      have s3' := s2'.trans s3
      obtain ⟨dx, ml, da, ds, t, ev, ms, B, _⟩ := (BA.same s3').ex
      refine ⟨_, rfl, p, dx, _, rfl, B.ob, bF_no _ _ _ _ (by decide +kernel) (by decide +kernel) (by decide +kernel) (by decide +kernel), ?_⟩
      refine ⟨p, x, rfl, BA.same s3', fun ec H4 k4 => ⟨_, rfl, iteF ?_⟩, fun y ec H4 BS k4 => ⟨_, rfl, iteT ?_⟩⟩
      · rw [ec] at el
        exact kn el H4 ((Keeps.of_same s3').trans k4)
      · rw [ec] at el
        have k4' := (Keeps.of_same s3').trans k4
        obtain ⟨⟨dx, ml, da, ds, t, ev, ms, B, _⟩, _⟩ := id BS
        refine ⟨_, rfl, p, dx, _, rfl, B.ob, bF_no _ _ _ _ (by decide +kernel) (by decide +kernel) (by decide +kernel) (by decide +kernel), _, rfl, ?_⟩
        refine ⟨p, z, said l, y, rfl, BS, SqL.of (k4 _ _ (s3 _ _ (s2 _ _ hz)) rfl), by omega, fun H5 B5 k5 => ?_⟩
        have el : x.line l = if Sf42.isDay ((said l).take 10) = true ∧ ((said l).length = 10 ∨ ((said l)[10]?.map Sf42.blank).getD false = true) then some (begun y ((said l).take 10)) else none := el
        cases hbg : begins (said l) with
        | true =>
          rw [if_pos ((begins_iff _).mp hbg)] at el
          exact ky _ el H5 (B5 hbg) (k4'.trans k5)
        | false =>
          rw [if_neg (fun h => by rw [(begins_iff _).mpr h] at hbg; cases hbg)] at el
          exact kn el H5 (k4'.trans k5)
end
end Ev

set_option Elab.async false
set_option linter.all false
set_option maxRecDepth 100000
set_option maxHeartbeats 2000000
namespace Ev
open PySem PySem.Spec PyProof.Rows L2
open Sf42 (Bytes)
abbrev sErrorLine : Stmt := top 61
def read0 : Sf42.Read := ⟨[], none⟩
def errLine (ls : List Bytes) : Nat := match Sf42.read 0 read0 ls with
  | .ok _ => 0
  | .error k => k
theorem read_pos : ∀ (ls : List Bytes) (k : Nat) (x : Sf42.Read) (j : Nat), Sf42.read k x ls = .error j → 0 < j
  | [], k, x, j, h => by
    unfold Sf42.read at h
    cases hc : x.close with
    | none => rw [hc] at h; cases h; exact Nat.succ_pos _
    | some y => rw [hc] at h; cases h
  | l :: r, k, x, j, h => by
    unfold Sf42.read at h
    cases hc : x.line l with
    | none => rw [hc] at h; cases h; exact Nat.succ_pos _
    | some y => rw [hc] at h; exact read_pos r (k + 1) y j h
theorem read_step {k : Nat} {x y : Sf42.Read} {l : Bytes} {r : List Bytes} (h : x.line l = some y) : Sf42.read k x (l :: r) = Sf42.read (k + 1) y r := by
  conv => lhs; unfold Sf42.read
  rw [h]
theorem read_bad {k : Nat} {x : Sf42.Read} {l : Bytes} {r : List Bytes} (h : x.line l = none) : Sf42.read k x (l :: r) = .error (k + 1) := by
  conv => lhs; unfold Sf42.read
  rw [h]
theorem read_end {k : Nat} {x y : Sf42.Read} (h : x.close = some y) : Sf42.read k x [] = .ok y.closed := by
  conv => lhs; unfold Sf42.read
  rw [h]
theorem read_end_bad {k : Nat} {x : Sf42.Read} (h : x.close = none) : Sf42.read k x [] = .error (k + 1) := by
  conv => lhs; unfold Sf42.read
  rw [h]
section
variable {P : Program} {w : World} {K : PySem.W.Frag} {mg : Str → Option Value} {base : Heap} {CB CE : Addr}
def spErrorLine (K : PySem.W.Frag) (CB CE : Addr) : Sp := fun vs H Q _ => ∃ (p a : Addr) (b : Bytes), vs = [.ref p, .ref a] ∧ BookAt CB CE H p read0 ∧ RowAt K H a b ∧ b.length ≤ 65536 ∧
  (∀ k, Sf42.read 0 read0 (Sf42.linesOf b []) = .error k → ∀ H', Keeps H H' → Q (.int (k : Int)) H') ∧
  (∀ y, Sf42.read 0 read0 (Sf42.linesOf b []) = .ok y.closed → ∀ H', BookShut CB H' p y → Keeps H H' → Q (.int 0) H')
theorem scErrorLine : FnScope ["book", "text", "lines", "number", "line"] ["book", "text"] (defScope sErrorLine) := ⟨rfl, rfl, rfl, by decide +kernel, rfl, by decide +kernel, by decide +kernel⟩
theorem lines_mem_len {b l : Bytes} (h : l ∈ Sf42.linesOf b []) : l.length ≤ b.length := by
  rw [linesOf_eq] at h
  unfold cutLast at h
  have : l ∈ Sf42.split (fun c => c == 10) b [] := by
    split at h
    · exact (List.dropLast_sublist _).subset h
    · exact h
  simpa using split_mem_len _ b [] l this
theorem lines_len (b : Bytes) : (Sf42.linesOf b []).length ≤ b.length + 1 := by
  rw [linesOf_eq]
  unfold cutLast
  have := split_len (fun c => c == 10) b []
  split
  · rw [List.length_dropLast]; omega
  · exact this
theorem drop_get {α : Type} {l : List α} {i : Nat} {x : α} (h : l[i]? = some x) : l.drop i = x :: l.drop (i + 1) := by
  obtain ⟨h1, h2⟩ := List.getElem?_eq_some_iff.mp h
  rw [List.drop_eq_getElem_cons h1, h2]
theorem fn_error_line (D : DefAt K mg "error_line" sErrorLine) (T : TxB K CB) (n1 : mg "len" = none) (n2 : mg "enumerate" = none)
    (G1 : Fn P w K mg base "lines_of" ["text"] 2 (spRows K fun b => Sf42.linesOf b [])) (G2 : MFn P w K mg base CB "take_line" ["self", "line"] 7 (spTakeLine K CB CE)) (G3 : MFn P w K mg base CB "end_entry" ["self"] 3 (spEndEntry CB CE)) :
    Fn P w K mg base "error_line" ["book", "text"] 8 (spErrorLine K CB CE) := by
  refine fn_mk D (fun _ _ _ _ _ _ us hl => match us, hl with | [_, _], _ => rfl) fun f fd F => ?_
  refine F.ok scErrorLine (fun vs H Q E h => ?_) (fun cdv A outer s H vs Q E hr h => ?_)
  · obtain ⟨p, a, b, rfl, _⟩ := h
    rfl
  · obtain ⟨p, a, b, rfl, BA, hrow, hlen, kb, ko⟩ := h
    have hr2 : Room 2 _ := hr.mono (by decide)
    have hr3 : Room 3 _ := hr.mono (by decide)
    refine ⟨_, pss_cons (ps_set (i := 2) scErrorLine.nd rfl (.inl rfl) (pe_fn G1 hr2 (by rfl) (pa_cons (pv 1) pa_nil)))
      (pss_cons (ps_for PassesOwn.never rfl (pi_from (by rfl) n2 (pa_cons (pv 2) pa_nil) (pk_cons pe_int pk_nil)) (pg_tup rfl (pgs_cons (pg_name (i := 3) scErrorLine.nd rfl (.inl rfl)) (pgs_cons (pg_name (i := 4) scErrorLine.nd rfl (.inl rfl)) pgs_nil)))
        (pss_one (ps_if (pt_not (pt_val (pe_mfn G2 T.cl hr (pv 0) (pa_cons (pv 4) pa_nil)))) (pss_one (ps_ret (pv 3))) pss_nil)))
      (pss_cons (ps_if (pt_not (pt_val (pe_mfn0 G3 T.cl hr3 (pv 0)))) (pss_one (ps_ret (pe_op op_add (pe_callB call_len_seq (by rfl) n1 PySem.boot_len (pa_cons (pv 2) pa_nil)) pe_int))) pss_nil)
      (pss_one (ps_ret pe_int)))), ?_⟩
    refine ⟨_, rfl, a, b, rfl, hrow, by omega, fun H2 z as s2 hz r2 => ?_⟩
    have r2 : Rows H2 as (Sf42.linesOf b []) := r2
    have B2 : BookAt CB CE H2 p read0 := BA.same s2
    have hll := lines_len b
    refine ⟨_, rfl, z, _, 1, rfl, rfl, by decide, by decide, SqL.of hz, for_from (K := K) (a := z) (k0 := 1) (xs := as.map V.ref) (fun i σ H' => ∃ (x : Sf42.Read) (v1 v2 : Option V), σ = [some (.ref p), some (.ref a), some (.ref z), v1, v2] ∧ BookAt CB CE H' p x ∧ Keeps H2 H' ∧
        Sf42.read 0 read0 (Sf42.linesOf b []) = Sf42.read i x ((Sf42.linesOf b []).drop i))
      ⟨read0, none, none, rfl, B2, Keeps.refl _, rfl⟩ (fun i σ H' _ ⟨_, _, _, _, _, k1, _⟩ => k1.seq (SqL.of hz)) ?_ ?_⟩
    · rintro i y σ H' T' hi ⟨x, v1, v2, rfl, B3, k3, e3⟩ hT
      obtain ⟨c, hc, rfl⟩ := refs_get hi
      obtain ⟨l, hl, hcl⟩ := r2.get hc
      rw [drop_get hl] at e3
      have s4 : Same H' (L2.upd H' T' (.tup [.int (1 + (i : Int)), .ref c])) := same_new (Same.refl _) hT
      have B4 := B3.same s4
      refine ⟨T', _, rfl, SqT.of upd_same, rfl, _, _, rfl, _, _, rfl, rfl, ?_⟩
      obtain ⟨dx', ml', da', ds', t', ev', ms', B4', _⟩ := B4.ex
      refine ⟨_, rfl, p, dx', _, rfl, B4'.ob, bF_no _ _ _ _ (by decide +kernel) (by decide +kernel) (by decide +kernel) (by decide +kernel), _, rfl, ?_⟩
      have hl1 := lines_mem_len (List.mem_of_getElem? hl)
      have k4 : Keeps H2 _ := k3.trans (Keeps.of_same s4)
      refine ⟨p, c, l, x, rfl, B4, SqL.of (k4 _ _ hcl rfl), by omega, fun e5 H5 k5 => ⟨_, rfl, iteT ?_⟩, fun x' e5 H5 B5 k5 => ⟨_, rfl, iteF ?_⟩⟩
      · rw [read_bad e5] at e3
        refine ⟨_, rfl, ?_⟩
        have kk := kb _ e3 H5 ((Keeps.of_same s2).trans (k4.trans k5))
        have ez : (((0 + i + 1 : Nat)) : Int) = 1 + (i : Int) := by omega
        have ez : (((i + 1 : Nat)) : Int) = 1 + (i : Int) := by omega
        have kt : Q (.int ((i + 1 : Nat) : Int)) H5 → Q (.int (1 + (i : Int))) H5 := by rw [ez]; exact id
        exact kt kk
      · rw [read_step e5] at e3
        exact ⟨x', _, _, rfl, B5, k4.trans k5, e3⟩
    · rintro σ H' ⟨x, v1, v2, rfl, B3, k3, e3⟩
      have el : (as.map V.ref).length = (Sf42.linesOf b []).length := by rw [List.length_map, r2.len]
      rw [el, List.drop_of_length_le (Nat.le_refl _)] at e3
      obtain ⟨dx', ml', da', ds', t', ev', ms', B3', _⟩ := B3.ex
      have k3' := (Keeps.of_same s2).trans k3
      refine ⟨_, rfl, p, dx', _, rfl, B3'.ob, bF_no _ _ _ _ (by decide +kernel) (by decide +kernel) (by decide +kernel) (by decide +kernel), p, x, rfl, B3, fun ec H4 k4 => ⟨_, rfl, iteT ?_⟩, fun y ec H4 BS k4 => ⟨_, rfl, iteF ?_⟩⟩
      · rw [read_end_bad ec] at e3
        refine ⟨_, rfl, z, _, rfl, .inl ((k3.trans k4).seq (SqL.of hz)), _, _, rfl, rfl, ?_⟩
        have kk := kb _ e3 H4 (k3'.trans k4)
        have ez : (((Sf42.linesOf b []).length + 1 : Nat) : Int) = (((as.map V.ref).length : Nat) : Int) + 1 := by rw [el]; omega
        have kt : Q (.int (((Sf42.linesOf b []).length + 1 : Nat) : Int)) H4 → Q (.int ((((as.map V.ref).length : Nat) : Int) + 1)) H4 := by rw [ez]; exact id
        exact kt kk
      · rw [read_end ec] at e3
        exact ko y e3 H4 BS (k3'.trans k4)
/-- a new book -/
theorem book_new {H1 : Hp} {p dx ml da ds : Addr} (B1 : BookRaw CB H1 p dx ml da ds .non [] [] []) : BookAt CB CE H1 p read0 :=
  ⟨⟨dx, ml, da, ds, [], .non, [], B1, rfl, rfl⟩, by decide, (fun c hc => by cases hc), (fun e he => by cases he)⟩

end
/-! ### what is due -/
theorem toNat_ofNat {z : Int} (h0 : 0 ≤ z) (h1 : z ≤ 255) : ((UInt8.ofNat z.toNat).toNat : Int) = z := by
  rw [UInt8.toNat_ofNat']
  omega
theorem vb_bytes (ns : List Int) (h : ∀ z ∈ ns, 0 ≤ z ∧ z ≤ 255) : vb (Sf42Neutral.bytesOf ns) = ns.map V.int := by
  unfold vb Sf42Neutral.bytesOf
  rw [List.map_map]
  refine List.map_congr_left fun z hz => ?_
  show V.int ((UInt8.ofNat z.toNat).toNat : Int) = V.int z
  rw [toNat_ofNat (h z hz).1 (h z hz).2]
end Ev

set_option Elab.async false
set_option linter.all false
set_option maxRecDepth 100000
set_option maxHeartbeats 2000000
namespace Ev
open PySem PySem.Spec PyProof.Rows L2
open Sf42 (Bytes)
abbrev sLineOf : Stmt := top 30
abbrev sIsWithin : Stmt := top 43

/-! ### tuples of bytes as data -/
def pyB (b : Bytes) : List PyData := b.map fun c => .int (c.toNat : Int)
theorem dp_all {K : PySem.W.Frag} {H : Hp} : ∀ b : Bytes, DpAll K H (vb b) (pyB b)
  | [] => .nil
  | c :: r => .cons (.int _) (dp_all r)
theorem can_ints : ∀ b : Bytes, PyData.canLayAll0 (pyB b) = true
  | [] => rfl
  | c :: r => by
    show (PyData.canLay0 (.int _) && PyData.canLayAll0 (pyB r)) = true
    rw [can_ints r]
    rfl
theorem depth_ints : ∀ b : Bytes, PyData.depthAll (pyB b) = 0
  | [] => rfl
  | c :: r => by
    show max (PyData.depth (.int _)) (PyData.depthAll (pyB r)) = 0
    rw [depth_ints r]
    rfl
theorem shaped_ints (b : Bytes) : SeqAt.shaped (.tuple (pyB b)) = true := by
  have h1 : PyData.canLay0 (.tuple (pyB b)) = true := can_ints b
  have h2 : PyData.depth (.tuple (pyB b)) ≤ 64 := by
    simp only [PyData.depth, depth_ints]
    omega
  unfold SeqAt.shaped
  rw [h1, decide_eq_true h2]
  rfl
theorem eqv_all : ∀ a b : Bytes, PyData.eqvAll (pyB a) (pyB b) = (a == b)
  | [], [] => rfl
  | [], _ :: _ => rfl
  | _ :: _, [] => rfl
  | c :: r, d :: t => by
    show (PyData.eqv (.int _) (.int _) && PyData.eqvAll (pyB r) (pyB t)) = _
    rw [eqv_all r t]
    have e : PyData.eqv (.int (c.toNat : Int)) (.int (d.toNat : Int)) = (c == d) := by
      show ((c.toNat : Int) == (d.toNat : Int)) = (c == d)
      by_cases h : c = d
      · rw [h]; simp
      · have h1 : ((c.toNat : Int) == (d.toNat : Int)) = false := beq_false_of_ne fun z => h (toNat_eq.mp z)
        rw [h1, beq_false_of_ne h]
    rw [e]
    rfl
theorem eqv_ints (a b : Bytes) : PyData.eqv (.tuple (pyB a)) (.tuple (pyB b)) = (a == b) := eqv_all a b
theorem cut_all {b : Bytes} {z : Int} (h : HT.sIx (vb b).length 0 none = 0 ∧ HT.sIx (vb b).length (vb b).length (some z) = (vb b).length) {n : Nat} (hz : z = (n : Int)) : b.take n = b := by
  subst hz
  have h2 := h.2
  rw [HT.sIx_nat, vb_len] at h2
  exact List.take_of_length_le (by omega)
section
variable {P : Program} {w : World} {K : PySem.W.Frag} {mg : Str → Option Value} {base : Heap}

/-! ### is_within(account, outer) -/
def spWithin : Sp := fun vs H Q _ => ∃ (a o : Addr) (acc out : Bytes), vs = [.ref a, .ref o] ∧ H a = some (.tup (vb acc)) ∧ H o = some (.tup (vb out)) ∧ acc.length ≤ 100000 ∧ out.length ≤ 100000 ∧ ∀ H', Same H H' → Q (.bl (isWithin acc out)) H'
theorem scIsWithin : FnScope ["account", "outer", "names"] ["account", "outer"] (defScope sIsWithin) := ⟨rfl, rfl, rfl, by decide +kernel, rfl, by decide +kernel, by decide +kernel⟩
theorem fn_is_within (D : DefAt K mg "is_within" sIsWithin) (n1 : mg "len" = none) (c1 : IntAt mg "COLON" 58) : Fn P w K mg base "is_within" ["account", "outer"] 1 spWithin := by
  refine fn_mk D (fun _ _ _ _ _ _ us hl => match us, hl with | [_, _], _ => rfl) fun f fd F => ?_
  refine F.ok scIsWithin (fun vs H Q E h => ?_) (fun cdv A outer s H vs Q E hr h => ?_)
  · obtain ⟨a, o, acc, out, rfl, _⟩ := h
    rfl
  · obtain ⟨a, o, acc, out, rfl, ha, ho, la, lo, k⟩ := h
    refine ⟨_, pss_cons (ps_if (pt_cmpR op_eq (pe_callB call_len_seq (by rfl) n1 PySem.boot_len (pa_cons (pv 1) pa_nil)) pe_int (nomark _)) (pss_one (ps_ret pe_bl)) pss_nil)
      (pss_cons (ps_set (i := 2) scIsWithin.nd rfl (.inl rfl) (pe_op op_catA (pv 1) (pe_tup (pa_cons (pe_num c1 rfl) pa_nil))))
      (pss_one (ps_ret (pe_cmpR (op_eqD hr.units) (pe_slice sl_tupA (pe_op op_catA (pv 0) (pe_tup (pa_cons (pe_num c1 rfl) pa_nil))) po_none (po_some (pe_callB call_len_seq (by rfl) n1 PySem.boot_len (pa_cons (pv 2) pa_nil)))) (pv 2) (nomark _))))), ?_⟩
    refine ⟨_, rfl, o, _, rfl, .inr (SqT.of ho), rfl, _, rfl, ?_⟩
    have e1 : decide (V.int (((vb out).length : Nat) : Int) = V.int 0) = decide (out = []) := by
      have e2 : decide (V.int (((vb out).length : Nat) : Int) = V.int ((0 : Nat) : Int)) = decide (out.length = 0) := by
        rw [vb_len]
        exact dec_nat _ _
      refine (show decide (V.int (((vb out).length : Nat) : Int) = V.int 0) = decide (out.length = 0) from e2).trans ?_
      congr 1
      exact propext List.length_eq_zero_iff
    rw [e1]
    refine if_bool (fun h1 => ?_) (fun h1 => ?_)
    · have kk := k H (Same.refl H)
      unfold isWithin at kk
      rw [h1, Bool.true_or] at kk
      exact kk
    have h1' := of_decide_eq_false h1
    have vne : vb out ≠ [] := fun z => h1' (List.length_eq_zero_iff.mp (by rw [← vb_len, z]; rfl))
    -- names
    refine ⟨_, rfl, (by show 1 ≤ sizeLine; decide), fun t ht => ?_⟩
    have s1 := same_upd (o := .tup [V.int 58]) (Same.refl H) ht
    refine ⟨o, t, vb out, [V.int 58], rfl, rfl, SqT.of (s1 _ _ ho), SqT.of upd_same, Nat.le_of_lt (line_of (by rw [vb_len]; simp only [List.length_singleton]; omega)), fun z => absurd z vne, fun _ z => absurd z (by simp), fun _ _ p hp => ?_⟩
    have en : vb out ++ [V.int 58] = vb (out ++ [58]) := by rw [vb_app]; rfl
    have s2 := same_upd (o := .tup (vb out ++ [V.int 58])) s1 hp
    have hp2 : L2.upd (L2.upd H t (.tup [V.int 58])) p (.tup (vb out ++ [V.int 58])) p = some (.tup (vb (out ++ [58]))) := by rw [upd_same, en]
    generalize L2.upd (L2.upd H t (.tup [V.int 58])) p (.tup (vb out ++ [V.int 58])) = H2 at s2 hp2 ⊢
    refine ⟨_, rfl, (by show 1 ≤ sizeLine; decide), fun t2 ht2 => ?_⟩
    have s3 := same_upd (o := .tup [V.int 58]) s2 ht2
    have hp3 : L2.upd H2 t2 (.tup [V.int 58]) p = some (.tup (vb (out ++ [58]))) := by rw [upd_ne (ne_of_none hp2 ht2)]; exact hp2
    have ht3 : L2.upd H2 t2 (.tup [V.int 58]) t2 = some (.tup [V.int 58]) := upd_same
    generalize L2.upd H2 t2 (.tup [V.int 58]) = H3 at s3 hp3 ht3 ⊢
    -- what stands behind the two
    have el : (((vb (out ++ [58])).length : Nat) : Int) = ((out.length + 1 : Nat) : Int) := by rw [vb_len, List.length_append]; rfl
    have fA : ∀ (y : Addr) (H4 : Hp), Same H H4 → H4 y = some (.tup (vb (acc ++ [58]))) → H4 p = some (.tup (vb (out ++ [58]))) → (acc ++ [58]).take (out.length + 1) = acc ++ [58] → rEqD K (V.ref y) (V.ref p) H4 Q := by
      intro y H4 s4 hy hp4 ec
      refine ⟨.tuple (pyB (acc ++ [58])), .tuple (pyB (out ++ [58])), .tup (SqT.of hy) (dp_all _), .tup (SqT.of hp4) (dp_all _), shaped_ints _, shaped_ints _, ?_⟩
      rw [eqv_ints]
      have kk := k H4 s4
      unfold isWithin at kk
      rw [h1, Bool.false_or, ec] at kk
      exact kk
    have fB : ∀ (H4 : Hp) (r : Addr), Same H H4 → H4 r = none → H4 p = some (.tup (vb (out ++ [58]))) → rEqD K (V.ref r) (V.ref p) (L2.upd H4 r (.tup (cutV (vb (acc ++ [58])) none (some (((vb (out ++ [58])).length : Nat) : Int))))) Q := by
      intro H4 r s4 hr' hp4
      have ec : cutV (vb (acc ++ [58])) none (some (((vb (out ++ [58])).length : Nat) : Int)) = vb ((acc ++ [58]).take (out.length + 1)) := cut_take _ _ el
      refine ⟨.tuple (pyB ((acc ++ [58]).take (out.length + 1))), .tuple (pyB (out ++ [58])), .tup (SqT.of (by rw [upd_same, ec])) (dp_all _), .tup (SqT.of (by rw [upd_ne (ne_of_none hp4 hr')]; exact hp4)) (dp_all _), shaped_ints _, shaped_ints _, ?_⟩
      rw [eqv_ints]
      have kk := k _ (same_upd (o := .tup (cutV (vb (acc ++ [58])) none (some (((vb (out ++ [58])).length : Nat) : Int)))) s4 hr')
      unfold isWithin at kk
      rw [h1, Bool.false_or] at kk
      exact kk
    refine ⟨a, t2, vb acc, [V.int 58], rfl, rfl, SqT.of (s3 _ _ ha), SqT.of ht3, Nat.le_of_lt (line_of (by rw [vb_len]; simp only [List.length_singleton]; omega)), fun z => ?_, fun _ z => absurd z (by simp), fun _ _ q hq => ?_⟩
    · have ea : acc = [] := List.length_eq_zero_iff.mp (by rw [← vb_len, z]; rfl)
      have hy : H3 t2 = some (.tup (vb (acc ++ [58]))) := by rw [ea]; exact ht3
      exact ⟨_, rfl, p, _, rfl, .inr (SqT.of hp3), _, rfl, t2, _, rfl, SqT.of hy, fun hw => ⟨_, rfl, fA t2 H3 s3 hy hp3 (cut_all hw el)⟩, fun hw r hr' => ⟨_, rfl, fB H3 r s3 hr' hp3⟩⟩
    · have ea : vb acc ++ [V.int 58] = vb (acc ++ [58]) := by rw [vb_app]; rfl
      have s4 := same_upd (o := .tup (vb acc ++ [V.int 58])) s3 hq
      have hy : L2.upd H3 q (.tup (vb acc ++ [V.int 58])) q = some (.tup (vb (acc ++ [58]))) := by rw [upd_same, ea]
      have hp4 : L2.upd H3 q (.tup (vb acc ++ [V.int 58])) p = some (.tup (vb (out ++ [58]))) := by rw [upd_ne (ne_of_none hp3 hq)]; exact hp3
      exact ⟨_, rfl, p, _, rfl, .inr (SqT.of hp4), _, rfl, q, _, rfl, SqT.of hy, fun hw => ⟨_, rfl, fA q _ s4 hy hp4 (cut_all hw el)⟩, fun hw r hr' => ⟨_, rfl, fB _ r s4 hr' hp4⟩⟩

/-! ### line_of(words) -/
def WordAt (H : Hp) (p : Addr) (b : Bytes) : Prop := H p = some (.lst (vb b)) ∨ H p = some (.tup (vb b))
def Words (H : Hp) : List Addr → List Bytes → Prop := Paired (WordAt H)
def spaced1 (ws : List Bytes) : Bytes := ws.flatMap fun b => b ++ [32]
theorem spaced1_app (a b : List Bytes) : spaced1 (a ++ b) = spaced1 a ++ spaced1 b := by simp [spaced1]
theorem fold_line : ∀ (r : List Bytes) (w : Bytes), (r.foldl (fun b x => b ++ (32 :: x)) w) ++ [32] = w ++ [32] ++ spaced1 r
  | [], w => by simp [spaced1]
  | x :: r, w => by
    rw [List.foldl_cons, fold_line r]
    simp [spaced1]
theorem line_eq' {ws : List Bytes} (h : ws ≠ []) : ∃ b, spaced1 ws = b ++ [32] ∧ Sf42.line ws = b ++ [10] := by
  cases ws with
  | nil => exact absurd rfl h
  | cons w r =>
    refine ⟨r.foldl (fun b x => b ++ (32 :: x)) w, ?_, rfl⟩
    rw [fold_line]
    simp [spaced1]
theorem mt_extendA {X : Cx} : MtM X "list.extend" (fun x vs H Q => rExtend x vs H Q ∨ rExtendT X.K x vs H Q) := by
  intro pins s σ H x vs v us Q I rx rv h
  rcases h with h | h
  · exact mt_extend pins s σ H x vs v us Q I rx rv h
  · exact mt_extendT pins s σ H x vs v us Q I rx rv h
def spLine (K : PySem.W.Frag) : Sp := fun vs H Q _ => ∃ (a : Addr) (as : List Addr) (ws : List Bytes), vs = [.ref a] ∧ SqL K H a (as.map V.ref) ∧ Words H as ws ∧ ws ≠ [] ∧ (spaced1 ws).length ≤ 100000 ∧
  ∀ H' p, Same H H' → H p = none → H' p = some (.lst (vb (Sf42.line ws))) → Q (.ref p) H'
theorem scLineOf : FnScope ["words", "line", "word"] ["words"] (defScope sLineOf) := ⟨rfl, rfl, rfl, by decide +kernel, rfl, by decide +kernel, by decide +kernel⟩
theorem fn_line_of (D : DefAt K mg "line_of" sLineOf) (c1 : IntAt mg "SPACE" 32) (c2 : IntAt mg "LINE_FEED" 10) : Fn P w K mg base "line_of" ["words"] 1 (spLine K) := by
  refine fn_mk D (fun _ _ _ _ _ _ us hl => match us, hl with | [_], _ => rfl) fun f fd F => ?_
  refine F.ok scLineOf (fun vs H Q E h => ?_) (fun cdv A outer s H vs Q E hr h => ?_)
  · obtain ⟨a, as, ws, rfl, _⟩ := h
    rfl
  · obtain ⟨a, as, ws, rfl, ha, hw, hne, hlen, k⟩ := h
    refine ⟨_, pss_cons (ps_set (i := 1) scLineOf.nd rfl (.inl rfl) (pe_lst pa_nil))
      (pss_cons (ps_for PassesOwn.never rfl (pi_list (pv 0)) (pg_name (i := 2) scLineOf.nd rfl (.inl rfl))
        (pss_cons (ps_expr (pe_bm PySem.F.plainAttrs_list PySem.F.slot_list_extend PySem.F.type_list_extend mt_extendA (pv 1) (pa_cons (pv 2) pa_nil)))
          (pss_one (ps_expr (pe_bm PySem.F.plainAttrs_list PySem.F.slot_list_append PySem.F.type_list_append mt_append (pv 1) (pa_cons (pe_num c1 rfl) pa_nil))))))
      (pss_cons (ps_asg (pe_num c2 rfl) (pg_sub (pv 1) (pe_un un_neg pe_int) set_list))
      (pss_one (ps_ret (pv 1))))), ?_⟩
    refine ⟨Nat.zero_le _, fun p hp => ?_⟩
    have s1 : Same H (L2.upd H p (.lst [])) := same_new (Same.refl H) hp
    refine ⟨_, rfl, a, rfl, ⟨_, s1.seq ha⟩, for_list (K := K) (a := a) (xs := as.map V.ref) (fun i σ H' => ∃ (v : Option V), σ = [some (.ref a), some (.ref p), v] ∧ Same H H' ∧ H' p = some (.lst (vb (spaced1 (ws.take i)))))
      ⟨none, rfl, s1, upd_same⟩ (fun i σ H' _ ⟨_, _, s2, _⟩ => s2.seq ha) ?_ ?_⟩
    · rintro i y σ H' hi ⟨v, rfl, s2, h2⟩
      obtain ⟨q, hq, rfl⟩ := refs_get hi
      obtain ⟨b, hb, hqb⟩ := paired_get hw hq
      have eb := take_more hb
      have hsub : (spaced1 (ws.take (i + 1))).length ≤ 100000 := by
        have e0 := (List.take_append_drop (i + 1) ws).symm
        rw [e0, spaced1_app, List.length_append] at hlen
        omega
      rw [eb, spaced1_app, List.length_append] at hsub
      have e3 : spaced1 [b] = b ++ [32] := by simp [spaced1]
      rw [e3, List.length_append, List.length_singleton] at hsub
      have h3 : L2.upd H' p (.lst (vb (spaced1 (ws.take i)) ++ vb b)) p = some (.lst (vb (spaced1 (ws.take i) ++ b))) := by rw [upd_same, vb_app]
      refine ⟨_, rfl, .inl ⟨rfl, _, SqL.of h2⟩, _, rfl, ?_⟩
      have hz : (vb (spaced1 (ws.take i))).length + (vb b).length ≤ sizeLine := Nat.le_of_lt (line_of (by rw [vb_len, vb_len]; omega))
      have go : ∃ z, some (some (V.ref p)) = some (some z) ∧ tyV K "list" z (L2.upd H' p (.lst (vb (spaced1 (ws.take i)) ++ vb b))) ∧ rAppend z [.int 32] (L2.upd H' p (.lst (vb (spaced1 (ws.take i)) ++ vb b))) fun _ H2 =>
          ∃ (v : Option V), [some (V.ref a), some (V.ref p), some (V.ref q)] = [some (.ref a), some (.ref p), v] ∧ Same H H2 ∧ H2 p = some (.lst (vb (spaced1 (ws.take (i + 1))))) := by
        refine ⟨_, rfl, .inl ⟨rfl, _, SqL.of h3⟩, p, _, _, rfl, rfl, h3, line_of (by rw [vb_len, List.length_append]; omega), _, rfl, ?_, ?_⟩
        · exact same_new (same_new s2 hp) hp
        · rw [upd_same, eb, spaced1_app, e3, ← List.append_assoc, vb_app, vb_app, vb_app]
          rfl
      rcases hqb with hqb | hqb
      · exact .inl ⟨p, q, _, _, rfl, rfl, h2, s2 _ _ hqb, hz, go⟩
      · exact .inr ⟨p, q, _, _, rfl, rfl, h2, SqT.of (s2 _ _ hqb), hz, go⟩
    · rintro σ H' ⟨v, rfl, s2, h2⟩
      have el : (as.map V.ref).length = ws.length := by rw [List.length_map]; exact Paired.length hw
      rw [el, List.take_length] at h2
      obtain ⟨b, e1, e2⟩ := line_eq' hne
      rw [e1] at h2
      refine ⟨_, rfl, _, rfl, p, _, -1, b.length, rfl, rfl, h2, ?_, _, rfl, ?_⟩
      · unfold ixN
        rw [vb_len, List.length_append, List.length_singleton, if_neg (by decide), if_pos (by omega)]
        congr 1
        omega
      · refine k _ p (same_new s2 hp) hp ?_
        rw [upd_same, e2, vb_app, vb_app]
        have e3 : (vb b).length = b.length := vb_len b
        rw [← e3, List.set_append_right _ _ (Nat.le_refl _), Nat.sub_self]
        rfl
end
end Ev

set_option Elab.async false
set_option linter.all false
set_option maxRecDepth 100000
set_option maxHeartbeats 2000000
namespace Ev
open PySem PySem.Spec PyProof.Rows L2
open Sf42 (Bytes)
abbrev sTold : Stmt := top 51

/-! ### amounts as they are told: signs and bytes -/
abbrev sOf (l : List Nat) : Str := ⟨l.toArray⟩
theorem sOf_len (l : List Nat) : (sOf l).length = l.length := by simp [Str.length]
def cs (b : Bytes) : List Nat := b.map UInt8.toNat
theorem cs_app (a b : Bytes) : cs (a ++ b) = cs a ++ cs b := by simp [cs]
theorem digit_nat {d : Nat} (h : d < 10) : (UInt8.ofNat (48 + d)).toNat = 48 + d := by
  rw [UInt8.toNat_ofNat']
  omega
theorem cs_digits : ∀ (f n : Nat), 1 ≤ f → n < 10 ^ f → cs (Sf42.digitsOf f n) = TL.numL n
  | 0, _, h, _ => absurd h (by decide)
  | f + 1, n, _, hn => by
    unfold Sf42.digitsOf
    by_cases h : n < 10
    · rw [if_pos h, TL.numL_lt h]
      show [_] = _
      rw [digit_nat h]
    · rw [if_neg h, TL.numL_step (by omega), cs_app]
      have hf : 1 ≤ f := by
        rcases Nat.eq_zero_or_pos f with e | e
        · subst e; omega
        · exact e
      rw [cs_digits f (n / 10) hf (by rw [Nat.pow_succ] at hn; omega)]
      show _ ++ [_] = _
      rw [digit_nat (Nat.mod_lt n (by decide))]
theorem numL_pos (n : Nat) : 1 ≤ (TL.numL n).length := by
  by_cases h : n < 10
  · rw [TL.numL_lt h]; exact Nat.le_refl _
  · rw [TL.numL_step (by omega)]; simp
theorem numL_len : ∀ (k n : Nat), 1 ≤ k → n < 10 ^ k → (TL.numL n).length ≤ k
  | 0, _, h, _ => absurd h (by decide)
  | k + 1, n, _, hn => by
    by_cases h : n < 10
    · rw [TL.numL_lt h]; simp
    · rw [TL.numL_step (by omega), List.length_append, List.length_singleton]
      have hk : 1 ≤ k := by
        rcases Nat.eq_zero_or_pos k with e | e
        · subst e; omega
        · exact e
      have := numL_len k (n / 10) hk (by rw [Nat.pow_succ] at hn; omega)
      omega
theorem fixed_zero : ∀ k : Nat, cs (Sf42.fixed k 0) = List.replicate k 48
  | 0 => rfl
  | k + 1 => by
    unfold Sf42.fixed
    rw [cs_app, fixed_zero k, List.replicate_succ']
    rfl
theorem cs_fixed : ∀ (k n : Nat), 1 ≤ k → n < 10 ^ k → cs (Sf42.fixed k n) = List.replicate (k - (TL.numL n).length) 48 ++ TL.numL n
  | 0, _, h, _ => absurd h (by decide)
  | k + 1, n, _, hn => by
    unfold Sf42.fixed
    rw [cs_app]
    have e1 : cs [UInt8.ofNat (48 + n % 10)] = [48 + n % 10] := by
      show [_] = _
      rw [digit_nat (Nat.mod_lt n (by decide))]
    rw [e1]
    by_cases h : n < 10
    · have e2 : n / 10 = 0 := by omega
      have e3 : n % 10 = n := Nat.mod_eq_of_lt h
      rw [TL.numL_lt h, e2, fixed_zero, e3]
      rfl
    · have hk : 1 ≤ k := by
        rcases Nat.eq_zero_or_pos k with e | e
        · subst e; omega
        · exact e
      rw [cs_fixed k (n / 10) hk (by rw [Nat.pow_succ] at hn; omega), TL.numL_step (n := n) (by omega), List.length_append, List.length_singleton, List.append_assoc]
      congr 2
      omega
theorem numL_digit : ∀ (k n : Nat), n < k → ∀ c ∈ TL.numL n, 48 ≤ c ∧ c ≤ 57
  | 0, _, h, _, _ => absurd h (by omega)
  | k + 1, n, hn, c, hc => by
    by_cases h : n < 10
    · rw [TL.numL_lt h] at hc
      rw [List.mem_singleton.mp hc]
      omega
    · rw [TL.numL_step (by omega)] at hc
      rcases List.mem_append.mp hc with hc | hc
      · exact numL_digit k (n / 10) (by omega) c hc
      · rw [List.mem_singleton.mp hc]
        omega
theorem zfill_num {n : Nat} (h : n < 10000) : Txt.zfill (sOf (TL.numL n)) 4 = sOf (cs (Sf42.fixed 4 n)) := by
  have hl := numL_len 4 n (by decide) h
  have hp := numL_pos n
  have el : (sOf (TL.numL n)).length = (TL.numL n).length := sOf_len _
  rw [cs_fixed 4 n (by decide) h]
  unfold Txt.zfill
  rw [el]
  by_cases h4 : (4 : Int) ≤ ((TL.numL n).length : Int)
  · rw [if_pos h4]
    have : 4 - (TL.numL n).length = 0 := by omega
    rw [this]
    rfl
  · rw [if_neg h4]
    have e4 : (4 : Int).toNat = 4 := rfl
    rw [e4]
    have hpad : Builtin.Str.padded (sOf (TL.numL n)) (4 - (TL.numL n).length) 0 48 = sOf (List.replicate (4 - (TL.numL n).length) 48 ++ TL.numL n) := by
      refine TL.ext_tl ?_
      show (Builtin.Str.padded (sOf (TL.numL n)) (4 - (TL.numL n).length) 0 48).cps.toList = _
      rw [PyProof.Rows.padded_list]
      simp [TL.tl]
    rw [← hpad]
    have h0 : ∃ c r, TL.numL n = c :: r := by
      cases e : TL.numL n with
      | nil => rw [e] at hp; simp at hp
      | cons c r => exact ⟨c, r, rfl⟩
    obtain ⟨c, r, e⟩ := h0
    have hc := numL_digit (n + 1) n (by omega) c (by rw [e]; exact List.mem_cons_self ..)
    unfold PySem.zfilled
    have e0 : (sOf (TL.numL n)).cps[0]? = some c := by rw [e]; rfl
    rw [e0]
    split
    · next h => injection h with h; omega
    · next h => injection h with h; omega
    · rfl
theorem rev_take : ∀ (A B l : List Nat), l = B.reverse ++ A.reverse → B.reverse = l.take (l.length - A.length) := by
  rintro A B l rfl
  simp
theorem drop_rev (p : Nat → Bool) (l : List Nat) : (l.reverse.dropWhile p).reverse = l.take (l.length - (l.reverse.takeWhile p).length) := by
  refine rev_take _ _ l ?_
  rw [← List.reverse_append, List.takeWhile_append_dropWhile, List.reverse_reverse]
theorem rstrip_num (l : List Nat) : Txt.rstripChars (sOf l) (sOf [48]) = sOf ((l.reverse.dropWhile fun c => c == 48).reverse) := by
  unfold Txt.rstripChars
  rw [PyProof.Rows.stripBy_eq]
  refine TL.ext_tl ?_
  have e : (sOf [48]).cps.contains = fun c => c == 48 := by
    funext c
    show (#[48] : Array Nat).contains c = _
    have : (#[48] : Array Nat).contains c = decide (c = 48) := by simp
    rw [this]
    by_cases h : c = 48
    · rw [h]; rfl
    · rw [decide_eq_false h, beq_false_of_ne h]
  rw [e, drop_rev]
  unfold PySem.stripLo PySem.stripHi
  simp [TL.tl, Builtin.Str.strSub, Str.length]
theorem cs_dropWhile : ∀ b : Bytes, cs (b.dropWhile fun c => c == 48) = (cs b).dropWhile fun c => c == 48
  | [] => rfl
  | c :: r => by
    have e : (c == 48) = (c.toNat == 48) := by
      by_cases h : c = 48
      · rw [h]; rfl
      · have : ¬ c.toNat = 48 := fun z => h (UInt8.toNat_inj.mp z)
        rw [beq_false_of_ne h, beq_false_of_ne this]
    rw [List.dropWhile_cons]
    show _ = List.dropWhile (fun c => c == 48) (c.toNat :: cs r)
    rw [List.dropWhile_cons, e]
    by_cases h : (c.toNat == 48) = true
    · rw [if_pos h, if_pos h]
      exact cs_dropWhile r
    · rw [if_neg h, if_neg h]
      rfl
theorem cs_rest (n : Nat) : cs (Sf42.rest n) = ((cs (Sf42.fixed 4 n)).reverse.dropWhile fun c => c == 48).reverse := by
  unfold Sf42.rest
  have e : ∀ b : Bytes, cs b.reverse = (cs b).reverse := fun b => by simp [cs]
  rw [e, cs_dropWhile, e]
theorem rest_nil {n : Nat} (h : n < 10000) : Sf42.rest n = [] ↔ n = 0 := by
  constructor
  · intro e
    have e1 := cs_rest n
    rw [e] at e1
    have e2 : (cs (Sf42.fixed 4 n)).reverse.dropWhile (fun c => c == 48) = [] := List.reverse_eq_nil_iff.mp e1.symm
    have h0 : ∀ c ∈ cs (Sf42.fixed 4 n), c = 48 := fun c hc => by
      have : ∀ l : List Nat, l.dropWhile (fun c => c == 48) = [] → ∀ c ∈ l, c = 48 := by
        intro l
        induction l with
        | nil => intro _ c hc; cases hc
        | cons a l ih =>
          intro hd c hc
          rw [List.dropWhile_cons] at hd
          by_cases ha : (a == 48) = true
          · rw [if_pos ha] at hd
            rcases List.mem_cons.mp hc with rfl | hc
            · simpa using ha
            · exact ih hd c hc
          · rw [if_neg ha] at hd; cases hd
      exact this _ e2 c (List.mem_reverse.mpr hc)
    have m0 : 48 + n % 10 = 48 := h0 _ (by
      unfold Sf42.fixed
      rw [cs_app]
      refine List.mem_append_right _ ?_
      show 48 + n % 10 ∈ [_]
      rw [digit_nat (Nat.mod_lt n (by decide))]
      exact List.mem_singleton.mpr rfl)
    have m1 : 48 + n / 10 % 10 = 48 := h0 _ (by
      unfold Sf42.fixed Sf42.fixed
      rw [cs_app, cs_app]
      refine List.mem_append_left _ (List.mem_append_right _ ?_)
      show 48 + n / 10 % 10 ∈ [_]
      rw [digit_nat (Nat.mod_lt _ (by decide))]
      exact List.mem_singleton.mpr rfl)
    have m2 : 48 + n / 10 / 10 % 10 = 48 := h0 _ (by
      unfold Sf42.fixed Sf42.fixed Sf42.fixed
      rw [cs_app, cs_app, cs_app]
      refine List.mem_append_left _ (List.mem_append_left _ (List.mem_append_right _ ?_))
      show 48 + n / 10 / 10 % 10 ∈ [_]
      rw [digit_nat (Nat.mod_lt _ (by decide))]
      exact List.mem_singleton.mpr rfl)
    have m3 : 48 + n / 10 / 10 / 10 % 10 = 48 := h0 _ (by
      unfold Sf42.fixed Sf42.fixed Sf42.fixed Sf42.fixed
      rw [cs_app, cs_app, cs_app, cs_app]
      refine List.mem_append_left _ (List.mem_append_left _ (List.mem_append_left _ (List.mem_append_right _ ?_)))
      show 48 + n / 10 / 10 / 10 % 10 ∈ [_]
      rw [digit_nat (Nat.mod_lt _ (by decide))]
      exact List.mem_singleton.mpr rfl)
    omega
  · rintro rfl
    decide
theorem rest_len (n : Nat) : (Sf42.rest n).length ≤ 4 := by
  unfold Sf42.rest
  rw [List.length_reverse]
  have h1 : ((Sf42.fixed 4 n).reverse.dropWhile fun c => c == 48).length ≤ (Sf42.fixed 4 n).reverse.length := by
    have := List.takeWhile_append_dropWhile (p := fun c => c == 48) (l := (Sf42.fixed 4 n).reverse)
    have h := congrArg List.length this
    rw [List.length_append] at h
    omega
  have h2 : (Sf42.fixed 4 n).length = 4 := rfl
  rw [List.length_reverse, h2] at h1
  exact h1
theorem cs_len (b : Bytes) : (cs b).length = b.length := by simp [cs]
theorem dec_len {n : Nat} (h : n < 10 ^ 14) : (Sf42.dec n).length ≤ 14 := by
  rw [← cs_len]
  unfold Sf42.dec
  rw [cs_digits 30 n (by decide) (Nat.lt_of_lt_of_le h (by decide))]
  exact numL_len 14 n (by decide) h
theorem told_len {z : Int} (h : z.natAbs < 10 ^ 18) : (Sf42.told z).length ≤ 20 := by
  unfold Sf42.told
  have h1 := dec_len (n := z.natAbs / 10000) (by omega)
  have h2 := rest_len (z.natAbs % 10000)
  rw [List.length_append, List.length_append]
  have h3 : (if z < 0 then [45] else ([] : Bytes)).length ≤ 1 := by split <;> simp
  have h4 : (if z.natAbs % 10000 = 0 then ([] : Bytes) else 46 :: Sf42.rest (z.natAbs % 10000)).length ≤ 5 := by
    split
    · simp
    · rw [List.length_cons]; omega
  omega
section
variable {P : Program} {w : World} {K : PySem.W.Frag} {mg : Str → Option Value} {base : Heap}

/-! ### [e for c in a text] -/
theorem lc_str {z : Str} {g : TG} {tt : TT} {te : TE} {vs : List Nat} {σ : L2.St} {H1 : Hp} {D : Addr} {Qd : Hp → Prop} (Pv : Nat → Hp → Prop) (h0 : Pv 0 (L2.upd H1 D (.lst [])))
    (hs : ∀ (i c : Nat) H, z.cps.toList[i]? = some c → Pv i H → g (.str ⟨#[c]⟩) (wipe σ vs) H fun σ2 H2 => wipe σ2 vs = wipe σ vs ∧ tt σ2 H2 fun b H3 =>
      if b = true then te σ2 H3 fun y H4 => ∃ acc, H4 D = some (.lst acc) ∧ acc.length < sizeLine ∧ Pv (i + 1) (L2.upd H4 D (.lst (acc ++ [y]))) else Pv (i + 1) H3) (hd : ∀ H, Pv z.cps.toList.length H → Qd H) :
    ∃ W : Nat → Nat → Hp → Prop, (∃ m, W 0 m (L2.upd H1 D (.lst []))) ∧ ∀ i m H, W i m H →
      ((Its z).stop i H ∧ Qd H) ∨ ((Its z).go i H ∧ ∃ Nx : Hp → Prop, (∀ H', Nx H' → ∃ m', m' < m ∧ W (i + 1) m' H') ∧ ∀ x H', (Its z).yld i H x H' → g x (wipe σ vs) H' fun σ2 H2 => wipe σ2 vs = wipe σ vs ∧ tt σ2 H2 fun b H3 =>
        if b = true then te σ2 H3 fun y H4 => ∃ acc, H4 D = some (.lst acc) ∧ acc.length < sizeLine ∧ Nx (L2.upd H4 D (.lst (acc ++ [y]))) else Nx H3) := by
  have hl : z.cps.toList.length = z.cps.size := Array.length_toList
  refine ⟨fun i m H => m + i = z.cps.size ∧ Pv i H, ⟨z.cps.size, Nat.add_zero _, h0⟩, ?_⟩
  rintro i m H ⟨hm, p⟩
  by_cases hlt : i < z.cps.size
  · refine .inr ⟨hlt, Pv (i + 1), fun H' p' => ⟨m - 1, by omega, by omega, p'⟩, ?_⟩
    rintro x H' ⟨rfl, c, hc, rfl⟩
    exact hs i c H' (by rw [Array.getElem?_toList]; exact hc) p
  · refine .inl ⟨Nat.not_lt.mp hlt, hd H ?_⟩
    have e : z.cps.toList.length = i := by omega
    rw [e]
    exact p

theorem comp_str {z : Str} {b : Bytes} (hz : z.cps.toList = cs b) (hl : b.length ≤ 100000) {te : TE} {i : Nat} {σ : L2.St} {H : Hp} {Q : Addr → Hp → Prop}
    (he : ∀ (c : UInt8) H' Q', Q' (.int (c.toNat : Int)) H' → te ((wipe σ [i]).set i (some (.str ⟨#[c.toNat]⟩))) H' Q') (k : ∀ H' D, Same H H' → H D = none → H' D = some (.lst (vb b)) → Q D H') :
    ∀ D, H D = none → ∃ W : Nat → Nat → Hp → Prop, (∃ m, W 0 m (L2.upd H D (.lst []))) ∧ ∀ j m H, W j m H →
      ((Its z).stop j H ∧ Q D H) ∨ ((Its z).go j H ∧ ∃ Nx : Hp → Prop, (∀ H', Nx H' → ∃ m', m' < m ∧ W (j + 1) m' H') ∧ ∀ x H', (Its z).yld j H x H' → gName i x (wipe σ [i]) H' fun σ2 H2 => wipe σ2 [i] = wipe σ [i] ∧ tYes σ2 H2 fun b H3 =>
        if b = true then te σ2 H3 fun y H4 => ∃ acc, H4 D = some (.lst acc) ∧ acc.length < sizeLine ∧ Nx (L2.upd H4 D (.lst (acc ++ [y]))) else Nx H3) := by
  intro D hD
  refine lc_str (z := z) (Qd := fun H' => Q D H') (fun j H' => Same H H' ∧ H' D = some (.lst (vb (b.take j)))) ⟨same_new (Same.refl H) hD, upd_same⟩ ?_ ?_
  · rintro j x H' hj ⟨s1, h1⟩
    rw [hz] at hj
    unfold cs at hj
    rw [List.getElem?_map] at hj
    cases e : b[j]? with
    | none => rw [e] at hj; cases hj
    | some c =>
      rw [e] at hj
      have ex : c.toNat = x := Option.some.inj hj
      subst ex
      refine ⟨wipe_set σ i _, ?_⟩
      unfold tYes
      simp only [if_true]
      refine he c H' _ ⟨_, h1, line_of ?_, same_new s1 hD, ?_⟩
      · rw [vb_len, List.length_take]; omega
      · rw [upd_same, take_more e, vb_app]; rfl
  · rintro H' ⟨s1, h1⟩
    rw [hz, cs_len, List.take_length] at h1
    exact k H' D s1 hD h1

/-! ### told_amount(amount) -/
def spTold : Sp := fun vs H Q _ => ∃ z : Int, vs = [.int z] ∧ z.natAbs < 10 ^ 18 ∧ ∀ H' p, Same H H' → H p = none → H' p = some (.lst (vb (Sf42.told z))) → Q (.ref p) H'
theorem scTold : FnScope ["amount", "sign", "whole", "rest", "point", "letter"] ["amount"] (defScope sTold) := ⟨rfl, rfl, rfl, by decide +kernel, rfl, by decide +kernel, by decide +kernel⟩
theorem log_small {i : Int} (h : i.natAbs < 10 ^ 18) : i.natAbs.log2 < 1920 := by
  by_cases h0 : i.natAbs = 0
  · rw [h0]; decide
  · exact Nat.lt_of_lt_of_le ((Nat.log2_lt h0).mpr (Nat.lt_of_lt_of_le h (by decide : 10 ^ 18 ≤ 2 ^ 60))) (by decide)
theorem fn_told_amount (D : DefAt K mg "told_amount" sTold) (n1 : mg "abs" = none) (n2 : mg "str" = none) (n3 : mg "len" = none) (n4 : mg "ord" = none) (c1 : IntAt mg "ONE" 10000) (c2 : IntAt mg "MOST_REST_DIGITS" 4) :
    Fn P w K mg base "told_amount" ["amount"] 1 spTold := by
  refine fn_mk D (fun _ _ _ _ _ _ us hl => match us, hl with | [_], _ => rfl) fun f fd F => ?_
  refine F.ok scTold (fun vs H Q E h => ?_) (fun cdv A outer s H vs Q E hr h => ?_)
  · obtain ⟨z, rfl, _⟩ := h
    rfl
  · obtain ⟨z, rfl, hz, k⟩ := h
    refine ⟨_, pss_cons (ps_set (i := 1) scTold.nd rfl (.inl rfl) (pe_ifExp (pt_cmpR op_lt (pv 0) pe_int (nomark _)) pe_str pe_str))
      (pss_cons (ps_set (i := 2) scTold.nd rfl (.inl rfl) (pe_op op_fdiv (pe_callB call_abs (by rfl) n1 boot_abs (pa_cons (pv 0) pa_nil)) (pe_num c1 rfl)))
      (pss_cons (ps_set (i := 3) scTold.nd rfl (.inl rfl) (pe_bm PySem.F.plainAttrs_str PySem.F.slot_str_rstrip PySem.F.type_str_rstrip mt_rstripChars
        (pe_bm PySem.F.plainAttrs_str PySem.F.slot_str_zfill PySem.F.type_str_zfill mt_zfill (pe_callTy call_str_int (by rfl) n2 PyProof.Rows.boot_str (pa_cons (pe_op op_mod (pe_callB call_abs (by rfl) n1 boot_abs (pa_cons (pv 0) pa_nil)) (pe_num c1 rfl)) pa_nil)) (pa_cons (pe_num c2 rfl) pa_nil))
        (pa_cons pe_str pa_nil)))
      (pss_cons (ps_set (i := 4) scTold.nd rfl (.inl rfl) (pe_ifExp (pt_cmpR op_gt (pe_callB call_len_str (by rfl) n3 PySem.boot_len (pa_cons (pv 3) pa_nil)) pe_int (nomark _)) pe_str pe_str))
      (pss_one (ps_ret (pe_lc (own := [("letter", 5)]) (g := gName 5) (tt := tYes) rfl scTold.nd (pi_str (pe_joined (PJ.cons (pe_fmt (pv 1)) (PJ.cons (pe_fmt (pv 2)) (PJ.cons (pe_fmt (pv 4)) (PJ.cons (pe_fmt (pv 3)) PJ.nil))))))
        (blkOk_by (N := ["amount", "sign", "whole", "rest", "point", "letter"]) (sc := defScope sTold) (by decide +kernel)) (fun _ _ _ _ _ => pg_name (i := 5) scTold.nd rfl (Or.inl rfl)) (fun _ _ _ _ _ => pts_nil)
        (fun _ _ _ _ _ => pe_callB call_ord (by rfl) n4 boot_ord (pa_cons (pv 5) pa_nil)))))))), ?_⟩
    have hm : z.natAbs % 10000 < 10000 := Nat.mod_lt _ (by decide)
    have hrl : (sOf (cs (Sf42.rest (z.natAbs % 10000)))).length = (Sf42.rest (z.natAbs % 10000)).length := by rw [sOf_len, cs_len]
    have hr4 := rest_len (z.natAbs % 10000)
    have sm : ∀ y : Str, y.length ≤ 100 → y.length ≤ sizeLine := fun y h => Nat.le_of_lt (line_of (by omega))
    have ezf : Txt.zfill (Str.ofString (toString ((if z < 0 then -z else z) % 10000))) 4 = sOf (cs (Sf42.fixed 4 (z.natAbs % 10000))) := by
      rw [absI, show ((z.natAbs : Int) % 10000) = ((z.natAbs % 10000 : Nat) : Int) by omega, show Str.ofString (toString ((z.natAbs % 10000 : Nat) : Int)) = sOf (TL.numL (z.natAbs % 10000)) from TL.ext_tl (TL.tl_num _), zfill_num hm]
    have ers : Txt.rstripChars (sOf (cs (Sf42.fixed 4 (z.natAbs % 10000)))) (Str.ofString "0") = sOf (cs (Sf42.rest (z.natAbs % 10000))) := by
      rw [show Str.ofString "0" = sOf [48] from rfl, rstrip_num, ← cs_rest]
    have e5 : decide ((0 : Int) < (((sOf (cs (Sf42.rest (z.natAbs % 10000)))).length : Nat) : Int)) = !decide (z.natAbs % 10000 = 0) := by
      rw [hrl]
      by_cases h0 : z.natAbs % 10000 = 0
      · rw [(rest_nil hm).mpr h0, decide_eq_true h0]; rfl
      · have h1 : Sf42.rest (z.natAbs % 10000) ≠ [] := fun q => h0 ((rest_nil hm).mp q)
        have h2 := List.length_pos_iff.mpr h1
        rw [decide_eq_false h0]
        exact decide_eq_true (by omega)
    have ew : ((z.natAbs : Int) / 10000).natAbs.log2 < 1920 := log_small (by omega)
    have etw : TL.tl (Str.ofString (toString ((z.natAbs : Int) / 10000))) = TL.numL (z.natAbs / 10000) := by
      rw [show ((z.natAbs : Int) / 10000) = ((z.natAbs / 10000 : Nat) : Int) by omega]
      exact TL.tl_num _
    have ewd : cs (Sf42.dec (z.natAbs / 10000)) = TL.numL (z.natAbs / 10000) := cs_digits 30 _ (by decide) (by omega)
    refine ⟨_, rfl, _, _, rfl, rfl, _, rfl, ?_⟩
    by_cases hneg : z < 0
    · rw [decide_eq_true hneg]
      refine iteT ?_
      refine ⟨_, rfl, z, rfl, _, _, rfl, rfl, ⟨by decide, by decide⟩, ?_⟩
      refine ⟨_, rfl, z, rfl, _, _, rfl, rfl, (by show (0 : Int) < 10000; decide), _, rfl, ?_, rfl, _, _, rfl, rfl, rfl, rfl, _, _, rfl, rfl, ?_, ?_⟩
      · show ((if z < 0 then -z else z) % 10000).natAbs.log2 < 1920
        rw [absI]
        exact log_small (by omega)
      · show (Txt.zfill (Str.ofString (toString ((if z < 0 then -z else z) % 10000))) 4).length ≤ sizeLine
        rw [ezf]
        exact Nat.le_of_lt (line_of (by rw [sOf_len, cs_len]; show 4 ≤ 200000; decide))
      show tSeq _ _ _ (List.set (List.set (List.set _ 1 _) 2 (some (.int ((if z < 0 then -z else z) / 10000)))) 3 (some (.str (Txt.rstripChars (Txt.zfill (Str.ofString (toString ((if z < 0 then -z else z) % 10000))) 4) (Str.ofString "0"))))) _
      rw [ezf, ers, absI]
      refine ⟨_, rfl, _, rfl, Nat.le_of_lt (line_of (by rw [hrl]; omega)), _, _, rfl, rfl, _, rfl, ?_⟩
      show if decide ((0 : Int) < (((sOf (cs (Sf42.rest (z.natAbs % 10000)))).length : Nat) : Int)) = true then _ else _
      rw [e5]
      by_cases h0 : z.natAbs % 10000 = 0
      · rw [decide_eq_true h0]
        refine iteF ?_
        refine ⟨_, rfl, .inl ⟨_, rfl, sm _ (by decide), _, rfl, ?_, _, rfl, .inr ⟨_, rfl, ew, _, rfl, ?_, _, rfl, .inl ⟨_, rfl, sm _ (by decide), _, rfl, ?_, _, rfl, .inl ⟨_, rfl, sm _ (by rw [hrl]; omega), _, rfl, ?_, _, rfl, ?_⟩⟩⟩⟩⟩
        rotate_left 4
        · refine comp_str (b := Sf42.told z) ?_ (by have := told_len hz; omega) (fun c H' Q' q => ⟨_, rfl, _, rfl, rfl, q⟩) (fun H' D s1 hD h => k H' D s1 hD h)
          show TL.tl _ = _
          rw [TL.tl_append, TL.tl_append, TL.tl_append, TL.tl_append, etw]
          unfold Sf42.told
          rw [cs_app, cs_app, ewd]
          rw [if_pos hneg, if_pos h0, (rest_nil hm).mpr h0]
          show (([] : List Nat) ++ [45] ++ TL.numL (z.natAbs / 10000) ++ [] ++ cs []) = cs [45] ++ (TL.numL (z.natAbs / 10000) ++ cs [])
          simp [cs]
        all_goals
          refine Nat.le_of_lt (line_of ?_)
          rw [TL.len_tl]
          simp only [TL.tl_append, etw, List.length_append]
          have l0 : (TL.tl Str.empty).length = 0 := rfl
          have l1 : (TL.numL (z.natAbs / 10000)).length ≤ 14 := numL_len 14 _ (by decide) (by omega)
          have l2 : (TL.tl (Str.ofString "-")).length = 1 := rfl
          have l3 : (TL.tl (Str.ofString "")).length = 0 := rfl
          have l4 : (TL.tl (Str.ofString ".")).length = 1 := rfl
          have l5 : (TL.tl (sOf (cs (Sf42.rest (z.natAbs % 10000))))).length ≤ 4 := by rw [← TL.len_tl, hrl]; exact hr4
          omega
      · rw [decide_eq_false h0]
        refine iteT ?_
        refine ⟨_, rfl, .inl ⟨_, rfl, sm _ (by decide), _, rfl, ?_, _, rfl, .inr ⟨_, rfl, ew, _, rfl, ?_, _, rfl, .inl ⟨_, rfl, sm _ (by decide), _, rfl, ?_, _, rfl, .inl ⟨_, rfl, sm _ (by rw [hrl]; omega), _, rfl, ?_, _, rfl, ?_⟩⟩⟩⟩⟩
        rotate_left 4
        · refine comp_str (b := Sf42.told z) ?_ (by have := told_len hz; omega) (fun c H' Q' q => ⟨_, rfl, _, rfl, rfl, q⟩) (fun H' D s1 hD h => k H' D s1 hD h)
          show TL.tl _ = _
          rw [TL.tl_append, TL.tl_append, TL.tl_append, TL.tl_append, etw]
          unfold Sf42.told
          rw [cs_app, cs_app, ewd]
          rw [if_pos hneg, if_neg h0]
          show (([] : List Nat) ++ [45] ++ TL.numL (z.natAbs / 10000) ++ [46] ++ cs (Sf42.rest (z.natAbs % 10000))) = cs [45] ++ (TL.numL (z.natAbs / 10000) ++ cs (46 :: Sf42.rest (z.natAbs % 10000)))
          simp [cs]
        all_goals
          refine Nat.le_of_lt (line_of ?_)
          rw [TL.len_tl]
          simp only [TL.tl_append, etw, List.length_append]
          have l0 : (TL.tl Str.empty).length = 0 := rfl
          have l1 : (TL.numL (z.natAbs / 10000)).length ≤ 14 := numL_len 14 _ (by decide) (by omega)
          have l2 : (TL.tl (Str.ofString "-")).length = 1 := rfl
          have l3 : (TL.tl (Str.ofString "")).length = 0 := rfl
          have l4 : (TL.tl (Str.ofString ".")).length = 1 := rfl
          have l5 : (TL.tl (sOf (cs (Sf42.rest (z.natAbs % 10000))))).length ≤ 4 := by rw [← TL.len_tl, hrl]; exact hr4
          omega
    · rw [decide_eq_false hneg]
      refine iteF ?_
      refine ⟨_, rfl, z, rfl, _, _, rfl, rfl, ⟨by decide, by decide⟩, ?_⟩
      refine ⟨_, rfl, z, rfl, _, _, rfl, rfl, (by show (0 : Int) < 10000; decide), _, rfl, ?_, rfl, _, _, rfl, rfl, rfl, rfl, _, _, rfl, rfl, ?_, ?_⟩
      · show ((if z < 0 then -z else z) % 10000).natAbs.log2 < 1920
        rw [absI]
        exact log_small (by omega)
      · show (Txt.zfill (Str.ofString (toString ((if z < 0 then -z else z) % 10000))) 4).length ≤ sizeLine
        rw [ezf]
        exact Nat.le_of_lt (line_of (by rw [sOf_len, cs_len]; show 4 ≤ 200000; decide))
      show tSeq _ _ _ (List.set (List.set (List.set _ 1 _) 2 (some (.int ((if z < 0 then -z else z) / 10000)))) 3 (some (.str (Txt.rstripChars (Txt.zfill (Str.ofString (toString ((if z < 0 then -z else z) % 10000))) 4) (Str.ofString "0"))))) _
      rw [ezf, ers, absI]
      refine ⟨_, rfl, _, rfl, Nat.le_of_lt (line_of (by rw [hrl]; omega)), _, _, rfl, rfl, _, rfl, ?_⟩
      show if decide ((0 : Int) < (((sOf (cs (Sf42.rest (z.natAbs % 10000)))).length : Nat) : Int)) = true then _ else _
      rw [e5]
      by_cases h0 : z.natAbs % 10000 = 0
      · rw [decide_eq_true h0]
        refine iteF ?_
        refine ⟨_, rfl, .inl ⟨_, rfl, sm _ (by decide), _, rfl, ?_, _, rfl, .inr ⟨_, rfl, ew, _, rfl, ?_, _, rfl, .inl ⟨_, rfl, sm _ (by decide), _, rfl, ?_, _, rfl, .inl ⟨_, rfl, sm _ (by rw [hrl]; omega), _, rfl, ?_, _, rfl, ?_⟩⟩⟩⟩⟩
        rotate_left 4
        · refine comp_str (b := Sf42.told z) ?_ (by have := told_len hz; omega) (fun c H' Q' q => ⟨_, rfl, _, rfl, rfl, q⟩) (fun H' D s1 hD h => k H' D s1 hD h)
          show TL.tl _ = _
          rw [TL.tl_append, TL.tl_append, TL.tl_append, TL.tl_append, etw]
          unfold Sf42.told
          rw [cs_app, cs_app, ewd]
          rw [if_neg hneg, if_pos h0, (rest_nil hm).mpr h0]
          show (([] : List Nat) ++ [] ++ TL.numL (z.natAbs / 10000) ++ [] ++ cs []) = cs [] ++ (TL.numL (z.natAbs / 10000) ++ cs [])
          simp [cs]
        all_goals
          refine Nat.le_of_lt (line_of ?_)
          rw [TL.len_tl]
          simp only [TL.tl_append, etw, List.length_append]
          have l0 : (TL.tl Str.empty).length = 0 := rfl
          have l1 : (TL.numL (z.natAbs / 10000)).length ≤ 14 := numL_len 14 _ (by decide) (by omega)
          have l2 : (TL.tl (Str.ofString "-")).length = 1 := rfl
          have l3 : (TL.tl (Str.ofString "")).length = 0 := rfl
          have l4 : (TL.tl (Str.ofString ".")).length = 1 := rfl
          have l5 : (TL.tl (sOf (cs (Sf42.rest (z.natAbs % 10000))))).length ≤ 4 := by rw [← TL.len_tl, hrl]; exact hr4
          omega
      · rw [decide_eq_false h0]
        refine iteT ?_
        refine ⟨_, rfl, .inl ⟨_, rfl, sm _ (by decide), _, rfl, ?_, _, rfl, .inr ⟨_, rfl, ew, _, rfl, ?_, _, rfl, .inl ⟨_, rfl, sm _ (by decide), _, rfl, ?_, _, rfl, .inl ⟨_, rfl, sm _ (by rw [hrl]; omega), _, rfl, ?_, _, rfl, ?_⟩⟩⟩⟩⟩
        rotate_left 4
        · refine comp_str (b := Sf42.told z) ?_ (by have := told_len hz; omega) (fun c H' Q' q => ⟨_, rfl, _, rfl, rfl, q⟩) (fun H' D s1 hD h => k H' D s1 hD h)
          show TL.tl _ = _
          rw [TL.tl_append, TL.tl_append, TL.tl_append, TL.tl_append, etw]
          unfold Sf42.told
          rw [cs_app, cs_app, ewd]
          rw [if_neg hneg, if_neg h0]
          show (([] : List Nat) ++ [] ++ TL.numL (z.natAbs / 10000) ++ [46] ++ cs (Sf42.rest (z.natAbs % 10000))) = cs [] ++ (TL.numL (z.natAbs / 10000) ++ cs (46 :: Sf42.rest (z.natAbs % 10000)))
          simp [cs]
        all_goals
          refine Nat.le_of_lt (line_of ?_)
          rw [TL.len_tl]
          simp only [TL.tl_append, etw, List.length_append]
          have l0 : (TL.tl Str.empty).length = 0 := rfl
          have l1 : (TL.numL (z.natAbs / 10000)).length ≤ 14 := numL_len 14 _ (by decide) (by omega)
          have l2 : (TL.tl (Str.ofString "-")).length = 1 := rfl
          have l3 : (TL.tl (Str.ofString "")).length = 0 := rfl
          have l4 : (TL.tl (Str.ofString ".")).length = 1 := rfl
          have l5 : (TL.tl (sOf (cs (Sf42.rest (z.natAbs % 10000))))).length ≤ 4 := by rw [← TL.len_tl, hrl]; exact hr4
          omega
end
end Ev

set_option Elab.async false
set_option linter.all false
set_option maxRecDepth 100000
set_option maxHeartbeats 2000000
namespace Ev
open PySem PySem.Spec PyProof.Rows L2
open Sf42 (Bytes)
abbrev sCanAsk : Stmt := top 62
abbrev sWithin : Stmt := top 63

/-! ### order of tuples of bytes -/
theorem lexAt_shift (e r : Nat → Bool) (z : Bool) : ∀ (k i : Nat), Ob.lexAt e r z (i + 1) k = Ob.lexAt (fun j => e (j + 1)) (fun j => r (j + 1)) z i k
  | 0, i => rfl
  | k + 1, i => by
    rw [Ob.lexAt_succ, Ob.lexAt_succ, lexAt_shift e r z k (i + 1)]
def intsB (b : Bytes) : List Int := b.map fun c => (c.toNat : Int)
theorem intsB_vb (b : Bytes) : (intsB b).map V.int = vb b := by
  unfold intsB vb
  rw [List.map_map]
  rfl
theorem lexAt_le : ∀ a b : Bytes, Ob.lexAt (fun j => decide ((intsB a).getD j 0 = (intsB b).getD j 0)) (fun j => decide ((intsB a).getD j 0 ≤ (intsB b).getD j 0)) (decide ((intsB a).length ≤ (intsB b).length)) 0 (min (intsB a).length (intsB b).length) = lexLe a b
  | [], b => by
    show Ob.lexAt _ _ _ 0 (min 0 _) = true
    rw [Nat.zero_min, Ob.lexAt_zero]
    exact decide_eq_true (Nat.zero_le _)
  | _ :: _, [] => by
    show Ob.lexAt _ _ _ 0 (min _ 0) = false
    rw [Nat.min_zero, Ob.lexAt_zero]
    exact decide_eq_false (by simp [intsB])
  | c :: r, d :: t => by
    have ih := lexAt_le r t
    have em : min (intsB (c :: r)).length (intsB (d :: t)).length = min (intsB r).length (intsB t).length + 1 := by
      simp only [intsB, List.length_map, List.length_cons]
      omega
    have el : decide ((intsB (c :: r)).length ≤ (intsB (d :: t)).length) = decide ((intsB r).length ≤ (intsB t).length) := by
      congr 1
      simp [intsB]
    rw [em, el, Ob.lexAt_succ, lexAt_shift, lexLe_cons]
    have e0 : ((intsB (c :: r)).getD 0 0 = (intsB (d :: t)).getD 0 0) ↔ c = d := toNat_eq
    have e1 : (fun j => decide ((intsB (c :: r)).getD (j + 1) 0 = (intsB (d :: t)).getD (j + 1) 0)) = fun j => decide ((intsB r).getD j 0 = (intsB t).getD j 0) := by
      funext j
      simp [intsB]
    have e2 : (fun j => decide ((intsB (c :: r)).getD (j + 1) 0 ≤ (intsB (d :: t)).getD (j + 1) 0)) = fun j => decide ((intsB r).getD j 0 ≤ (intsB t).getD j 0) := by
      funext j
      simp [intsB]
    rw [e1, e2, ih]
    by_cases h : c = d
    · rw [if_pos h, if_pos (decide_eq_true (e0.mpr h))]
    · rw [if_neg h, if_neg (fun z => h (e0.mp (of_decide_eq_true z)))]
      congr 1
      show ((c.toNat : Int) ≤ (d.toNat : Int)) = (c.toNat ≤ d.toNat)
      exact propext ⟨fun h => by omega, fun h => by omega⟩
/-! ### readings that name K alone -/
def rLeS (K : PySem.W.Frag) : R2 := fun x y H Q => ∃ (a b : Addr) (v u : Bytes), x = .ref a ∧ y = .ref b ∧ SqT K H a (vb v) ∧ SqT K H b (vb u) ∧ Q (.bl (lexLe v u)) H
theorem op_leS {X : Cx} {K : PySem.W.Frag} (hK : X.K = K) (hu : X.A.units < cLine) : OpR X (compareOp .LtE) (rLeS K) := by
  subst hK
  intro pins s σ H x y v u Q I rx ry h
  obtain ⟨a, b, p, q, e1, e2, h1, h2, h3⟩ := h
  refine op_leT hu pins s σ H x y v u Q I rx ry ⟨a, b, intsB p, intsB q, e1, e2, by rw [intsB_vb]; exact h1, by rw [intsB_vb]; exact h2, ?_⟩
  rw [lexAt_le]
  exact h3
theorem ix_tupS {X : Cx} {K : PySem.W.Frag} (hK : X.K = K) : IxR X (rIxT K) := by
  subst hK
  exact ix_tup
section
variable {P : Program} {w : World} {K : PySem.W.Frag} {mg : Str → Option Value} {base : Heap} {CB CE : Addr}

/-! ### can_be_asked(account, day) -/
def canAsk (acc day : Bytes) : Bool := (decide (acc = []) || isAccount acc) && Sf42.isDay day
def spAsk (K : PySem.W.Frag) : Sp := fun vs H Q _ => ∃ (a d : Addr) (acc day : Bytes), vs = [.ref a, .ref d] ∧ RowAt K H a acc ∧ RowAt K H d day ∧ acc.length ≤ 100000 ∧ day.length ≤ 100000 ∧ ∀ H', Same H H' → Q (.bl (canAsk acc day)) H'
theorem scCanAsk : FnScope ["account", "day"] ["account", "day"] (defScope sCanAsk) := ⟨rfl, rfl, rfl, by decide +kernel, rfl, by decide +kernel, by decide +kernel⟩
theorem len_zero (b : Bytes) : decide (V.int (((vb b).length : Nat) : Int) = V.int 0) = decide (b = []) := by
  have e2 : decide (V.int (((vb b).length : Nat) : Int) = V.int ((0 : Nat) : Int)) = decide (b.length = 0) := by
    rw [vb_len]
    exact dec_nat _ _
  refine (show decide (V.int (((vb b).length : Nat) : Int) = V.int 0) = decide (b.length = 0) from e2).trans ?_
  congr 1
  exact propext List.length_eq_zero_iff
theorem fn_can_be_asked (D : DefAt K mg "can_be_asked" sCanAsk) (n1 : mg "len" = none) (G1 : Fn P w K mg base "is_account" ["row"] 4 (spRow K isAccount)) (G2 : Fn P w K mg base "is_day" ["row"] 3 (spRow K Sf42.isDay)) :
    Fn P w K mg base "can_be_asked" ["account", "day"] 5 (spAsk K) := by
  refine fn_mk D (fun _ _ _ _ _ _ us hl => match us, hl with | [_, _], _ => rfl) fun f fd F => ?_
  refine F.ok scCanAsk (fun vs H Q E h => ?_) (fun cdv A outer s H vs Q E hr h => ?_)
  · obtain ⟨a, d, acc, day, rfl, _⟩ := h
    rfl
  · obtain ⟨a, d, acc, day, rfl, ha, hd, la, ld, k⟩ := h
    have hr3 : Room 3 _ := hr.mono (by decide)
    refine ⟨_, pss_one (ps_ret (pe_and (pe_or (pe_cmpR op_eq (pe_callB call_len_seq (by rfl) n1 PySem.boot_len (pa_cons (pv 0) pa_nil)) pe_int (nomark _)) (pe_one (pe_fn G1 hr (by rfl) (pa_cons (pv 0) pa_nil)))) (pe_one (pe_fn G2 hr3 (by rfl) (pa_cons (pv 1) pa_nil))))), ?_⟩
    unfold canAsk at k
    refine ⟨_, rfl, a, _, rfl, .inl ha, rfl, _, rfl, ?_⟩
    rw [len_zero]
    refine if_bool (fun h1 => ?_) (fun h1 => ?_)
    · rw [h1, Bool.true_or] at k
      refine ⟨_, rfl, iteT ⟨_, rfl, d, day, rfl, hd, ld, fun H1 s1 => ?_⟩⟩
      have kk := k H1 s1
      rw [Bool.true_and] at kk
      exact kk
    · rw [h1, Bool.false_or] at k
      refine ⟨_, rfl, a, acc, rfl, ha, la, fun H1 s1 => ⟨_, rfl, if_bool (fun h2 => ?_) (fun h2 => ?_)⟩⟩
      · refine ⟨_, rfl, d, day, rfl, s1.seq hd, ld, fun H2 s2 => ?_⟩
        have kk := k H2 (s1.trans s2)
        rw [h2, Bool.true_and] at kk
        exact kk
      · have kk := k H1 s1
        rw [h2, Bool.false_and] at kk
        exact kk

/-! ### movements_within(book, account, day) -/
def spMovs (K : PySem.W.Frag) (CB : Addr) : Sp := fun vs H Q _ => ∃ (p a d dx ml da ds : Addr) (ev : V) (ms : List Mv) (acc : List Bytes) (t : Tab) (v day : Bytes), vs = [.ref p, .ref a, .ref d] ∧ BookRaw CB H p dx ml da ds ev ms acc t ∧ RowAt K H a v ∧ RowAt K H d day ∧
  v.length ≤ 100000 ∧ ms.length ≤ 4096 ∧ (∀ m ∈ ms, m.2.1.length ≤ 255) ∧ ∀ H' r ts, Keeps H H' → H' r = some (.lst (ts.map V.ref)) → Movs H' ts (ms.filter (passM v day)) → Q (.ref r) H'
theorem scWithin : FnScope ["book", "account", "day", "outer", "last", "movement"] ["book", "account", "day"] (defScope sWithin) := ⟨rfl, rfl, rfl, by decide +kernel, rfl, by decide +kernel, by decide +kernel⟩
theorem fn_movements_within (D : DefAt K mg "movements_within" sWithin) (T : TxB K CB) (n1 : mg "tuple" = none) (G1 : Fn P w K mg base "is_within" ["account", "outer"] 1 spWithin) :
    Fn P w K mg base "movements_within" ["book", "account", "day"] 2 (spMovs K CB) := by
  refine fn_mk D (fun _ _ _ _ _ _ us hl => match us, hl with | [_, _, _], _ => rfl) fun f fd F => ?_
  refine F.ok scWithin (fun vs H Q E h => ?_) (fun cdv A outer s H vs Q E hr h => ?_)
  · obtain ⟨p, a, d, dx, ml, da, ds, ev, ms, acc, t, v, day, rfl, _⟩ := h
    rfl
  · obtain ⟨p, a, d, dx, ml, da, ds, ev, ms, acc, t, v, day, rfl, B, ha, hd, lv, lms, lacc, k⟩ := h
    refine ⟨_, pss_cons (ps_set (i := 3) scWithin.nd rfl (.inr rfl) (pe_callTy call_tuple_of (by rfl) n1 PyProof.Rows.boot_tuple (pa_cons (pv 1) pa_nil)))
      (pss_cons (ps_set (i := 4) scWithin.nd rfl (.inr rfl) (pe_callTy call_tuple_of (by rfl) n1 PyProof.Rows.boot_tuple (pa_cons (pv 2) pa_nil)))
      (pss_one (ps_ret (pe_unbox (pe_lc (own := [("movement", 5)]) (g := gName 5) rfl scWithin.nd (pi_list (pe_fld (pv 0) rfl))
        (blkOk_by (N := ["book", "account", "day", "outer", "last", "movement"]) (sc := defScope sWithin) (by decide +kernel)) (fun _ _ _ _ _ => pg_name (i := 5) scWithin.nd rfl (Or.inl rfl))
        (fun _ _ _ _ _ => pts_one (PW.pt (pw_and (pt_cmpR (op_leS (K := K) rfl hr.units0) (pe_ix (ix_tupS (K := K) rfl) (pv 5) pe_int (fun _ _ => rfl)) (pv 4) (nomark _)) (pw_and1 (pt_val (pe_fn G1 hr (by rfl) (pa_cons (pe_ix (ix_tupS (K := K) rfl) (pv 5) pe_int (fun _ _ => rfl)) (pa_cons (pv 3) pa_nil))))))))
        (fun _ _ _ _ _ => pv 5)))))), ?_⟩
    refine ⟨_, rfl, a, _, rfl, .inl ⟨ha, fun o ho => ?_⟩⟩
    have s1 := same_upd (o := .tup (vb v)) (Same.refl H) ho
    have ho1 : L2.upd H o (.tup (vb v)) o = some (.tup (vb v)) := upd_same
    generalize L2.upd H o (.tup (vb v)) = H1 at s1 ho1 ⊢
    refine ⟨_, rfl, d, _, rfl, .inl ⟨s1.seq hd, fun l hl => ?_⟩⟩
    have s2 := same_upd (o := .tup (vb day)) s1 hl
    have hl2 : L2.upd H1 l (.tup (vb day)) l = some (.tup (vb day)) := upd_same
    have ho2 : L2.upd H1 l (.tup (vb day)) o = some (.tup (vb v)) := by rw [upd_ne (ne_of_none ho1 hl)]; exact ho1
    generalize L2.upd H1 l (.tup (vb day)) = H2 at s2 hl2 ho2 ⊢
    obtain ⟨ts, hml, hmv⟩ := B.mv
    have hml2 := s2 _ _ hml
    have npm : p ≠ ml := ne_of B.ob hml (by intro z; cases z)
    have tup3 : ∀ b xs, H2 b = some (.tup xs) → L2.upd H2 ml (.lst (ts.map V.ref)) b = some (.tup xs) := fun b xs e => by
      rw [upd_ne (ne_of e hml2 (by intro z; cases z))]
      exact e
    have mv3 : Movs (L2.upd H2 ml (.lst (ts.map V.ref))) ts ms := (hmv.keep fun b xs e => s2 _ _ e).keep tup3
    have ho3 := tup3 _ _ ho2
    have hl3 := tup3 _ _ hl2
    have hm3 : L2.upd H2 ml (.lst (ts.map V.ref)) ml = some (.lst (ts.map V.ref)) := upd_same
    have hp3 : L2.upd H2 ml (.lst (ts.map V.ref)) p = some (.ins CB dx (bF ev ml da ds)) := by rw [upd_ne npm]; exact s2 _ _ B.ob
    have kp3 : Keeps H (L2.upd H2 ml (.lst (ts.map V.ref))) := (Keeps.of_same s2).upd hml2 rfl
    refine ⟨ml, ts.map V.ref, hml2, ?_⟩
    generalize L2.upd H2 ml (.lst (ts.map V.ref)) = H3 at mv3 ho3 hl3 hm3 hp3 kp3 ⊢
    refine ⟨_, rfl, p, CB, dx, _, _, rfl, hp3, T.cl, T.nM, bF_moves _ _ _ _, ml, rfl, ⟨_, SqL.of hm3⟩, fun D hD => ?_⟩
    have hts := mv3.len
    refine lc_list (K := K) (a := ml) (xs := ts.map V.ref) (fun j H' => Same H3 H' ∧ ∃ ts', H' D = some (.lst (ts'.map V.ref)) ∧ Movs H3 ts' ((ms.take j).filter (passM v day)))
      ⟨same_new (Same.refl _) hD, [], upd_same, .nil⟩ (fun j H' _ h => h.1.seq (SqL.of hm3)) ?_ ?_
    · rintro j x H' hj ⟨s3, ts', h3, r3⟩
      obtain ⟨c, hc, rfl⟩ := refs_get hj
      obtain ⟨m, hm, hcm⟩ := paired_get mv3 hc
      have er := take_more hm
      have hmem := List.mem_of_getElem? hm
      obtain ⟨dq, aq, kq, h4, h5, h6, h7⟩ := id hcm
      have hc4 := s3 _ _ h4
      rw [er, List.filter_append]
      refine ⟨rfl, _, rfl, c, _, _, _, rfl, rfl, SqT.of hc4, atI_nat (j := 0) rfl, _, rfl, dq, l, m.1, day, rfl, rfl, SqT.of (s3 _ _ h5), SqT.of (s3 _ _ hl3), _, rfl, ?_⟩
      have no : passM v day m = false → [m].filter (passM v day) = [] := fun h => by simp [h]
      refine if_bool (fun h1 => ?_) (fun h1 => ?_)
      · refine ⟨_, rfl, c, _, _, _, rfl, rfl, SqT.of hc4, atI_nat (j := 1) rfl, _, rfl, aq, o, m.2.1, v, rfl, s3 _ _ h6, s3 _ _ ho3, Nat.le_trans (lacc m hmem) (by decide), lv, fun H4 s4 => ⟨_, rfl, if_bool (fun h2 => ?_) (fun h2 => ?_)⟩⟩
        · have hp : passM v day m = true := by unfold passM; rw [h1, h2]; rfl
          have e1 : [m].filter (passM v day) = [m] := by simp [hp]
          have hl' : ts'.length ≤ 4096 := by
            rw [r3.len]
            refine Nat.le_trans (List.length_filter_le _ _) ?_
            rw [List.length_take]
            omega
          rw [e1]
          refine ⟨_, rfl, _, s4 _ _ h3, line_of (by rw [List.length_map]; omega), same_new (s3.trans s4) hD, ts' ++ [c], ?_, r3.snoc hcm⟩
          rw [upd_same, List.map_append]
          rfl
        · have hp : passM v day m = false := by unfold passM; rw [h1, h2]; rfl
          rw [no hp, List.append_nil]
          exact ⟨s3.trans s4, ts', s4 _ _ h3, r3⟩
      · have hp : passM v day m = false := by unfold passM; rw [h1]; rfl
        rw [no hp, List.append_nil]
        exact iteF ⟨s3, ts', h3, r3⟩
    · rintro H' ⟨s3, ts', h3, r3⟩
      have el : (ts.map V.ref).length = ms.length := by rw [List.length_map, hts]
      rw [el, List.take_length] at r3
      exact k H' D ts' (kp3.trans (Keeps.of_same s3)) h3 (r3.keep fun b xs e => s3 _ _ e)
end
end Ev

set_option Elab.async false
set_option linter.all false
set_option maxRecDepth 100000
set_option maxHeartbeats 2000000
namespace Ev
open PySem PySem.Spec PyProof.Rows L2
open Sf42 (Bytes)

/-! ### a day as data, and the order of days -/
def dayD (b : Bytes) : PyData := .tuple ((intsB b).map .int)
theorem reads_ints {h : Heap} : ∀ {b : Bytes} {its : List Value}, Vals (vb b) its → ReadsAll h its ((intsB b).map .int) []
  | [], _, r => by cases r; exact .nil
  | c :: b, _, r => by
    unfold vb at r
    rw [List.map_cons] at r
    cases r with
    | cons r1 r2 =>
      obtain ⟨t, rfl⟩ := r1
      exact .cons (as := []) (bs := []) (.int _ _) (reads_ints r2)
theorem reads_day {P : Program} {w : World} {H : Hp} {h : Heap} (ok : HOk P w H h) {q : Addr} {b : Bytes} (e : H q = some (.tup (vb b))) : Reads h (.ref q) (dayD b) [] := by
  obtain ⟨_, its, r, o, h1, h2, n, h3⟩ := (show ObjOk P w H h q (.tup (vb b)) from ok q _ e)
  exact .tuple h1 h2 h3 (by simpa using reads_ints r)
def dayLe (p q : Mv) : Bool := lexLe p.1 q.1
theorem rowLe : ∀ a b : Bytes, (!decide (intsB b < intsB a)) = lexLe a b
  | [], b => by
    have e : ¬ intsB b < intsB [] := by simp [intsB]
    rw [decide_eq_false e]
    rfl
  | c :: r, [] => by
    have e : intsB [] < intsB (c :: r) := List.Lex.nil
    rw [decide_eq_true e]
    rfl
  | c :: r, d :: t => by
    have ih := rowLe r t
    rw [lexLe_cons, ← ih]
    have e1 : intsB (d :: t) < intsB (c :: r) ↔ (d.toNat : Int) < c.toNat ∨ (d.toNat : Int) = c.toNat ∧ intsB t < intsB r := by
      show ((d.toNat : Int) :: intsB t) < ((c.toNat : Int) :: intsB r) ↔ _
      exact List.cons_lt_cons_iff
    by_cases h : c = d
    · subst h
      rw [if_pos rfl]
      congr 1
      by_cases h2 : intsB t < intsB r
      · rw [decide_eq_true h2, decide_eq_true (e1.mpr (.inr ⟨rfl, h2⟩))]
      · rw [decide_eq_false h2, decide_eq_false (fun z => by
          rcases e1.mp z with z | z
          · omega
          · exact h2 z.2)]
    · rw [if_neg h]
      have hne := u8_ne h
      by_cases h2 : c.toNat ≤ d.toNat
      · rw [decide_eq_true h2, decide_eq_false (fun z => by
          rcases e1.mp z with z | z
          · omega
          · omega)]
        rfl
      · rw [decide_eq_false h2, decide_eq_true (e1.mpr (.inl (by omega)))]
        rfl
theorem data_le : PySem.W.dataLe false (fun x : Addr × Mv => dayD x.2.1) = fun p q => dayLe p.2 q.2 := by
  funext p q
  show (!PySem.W.dataLt (dayD q.2.1) (dayD p.2.1)) = lexLe p.2.1 q.2.1
  unfold dayD
  rw [PySem.W.dataLt_tuple]
  show (!PySem.W.rowLt ((intsB q.2.1).map .int) ((intsB p.2.1).map .int)) = _
  rw [PySem.W.dataLt_ints]
  exact rowLe _ _
theorem alike_ints : ∀ xs ys : List Int, PySem.W.alikeAll (xs.map PyData.int) (ys.map PyData.int) = true
  | [], _ => by simp [PySem.W.alikeAll]
  | _ :: _, [] => by simp [PySem.W.alikeAll]
  | x :: xs, y :: ys => by
    rw [List.map_cons, List.map_cons, PySem.W.alikeAll, alike_ints xs ys]
    simp [PySem.W.alike]
theorem alike_days (a b : Bytes) : PySem.W.alike (dayD a) (dayD b) = true := by
  unfold dayD
  rw [PySem.W.alike]
  exact alike_ints _ _
theorem depth_iD : ∀ xs : List Int, PyData.depthAll (xs.map PyData.int) = 0
  | [] => by simp [PyData.depthAll]
  | x :: xs => by
    rw [List.map_cons, PyData.depthAll, depth_iD xs]
    simp [PyData.depth]
theorem depth_day (b : Bytes) : (dayD b).depth ≤ 1 := by
  unfold dayD
  rw [PyData.depth, depth_iD]
  exact Nat.le_refl _

/-! ### lambda movement: movement[0] -/
abbrev dayScope : Scope := { kind := .function, names := [("movement", .local)], isGenerator := false, isCoroutine := false, more := [] }
abbrev dayParams (p0 : Pos) : Arguments := { posonlyargs := [], args := [{ arg := "movement", annotation := none, pos := p0 }], vararg := none, kwonlyargs := [], kw_defaults := [], kwarg := none, defaults := [] }
abbrev dayBody (p1 p2 p3 : Pos) (j : Nat) : Expr := .Subscript (.Name "movement" p1) (.Constant (.int 0) j p2) p3
theorem day_key {X : Cx} {pins : List (Addr × Obj)} {σ : L2.St} {H : Hp} {s : Shared} (I : Inv X pins σ H s) {f c' : Addr} {qual : Str} {pm ctv : Value} {p0 p1 p2 p3 : Pos} {j : Nat}
    (hf : s.heap.get? f = some (PySem.W.kla_obj "<lambda>" qual (dayParams p0) (dayBody p1 p2 p3 j) dayScope [] pm c' ctv)) (hc : H c' = some (LamX.CodeO c' qual)) {A : Around} (hd : A.depth < recursionLimit)
    {t : Addr} {m : Mv} (hm : MovAt H t m) (h : Heap) (tk : Nat) (keep : ∀ b o, s.heap.get? b = some o → h.get? b = some o) :
    wpAny (model X.prog X.w) A (call (.ref f) [.ref t]) (PySem.W.KeyPure (dayD m.1) { s with heap := h, toks := tk }) (fun _ _ => False) { s with heap := h, toks := tk } := by
  obtain ⟨⟨oc, vs, tq, hoc, hdc, hvc⟩, _, _⟩ := (show ObjOk X.prog X.w H s.heap c' (LamX.CodeO c' qual) from I.hok c' _ hc)
  obtain ⟨dq, aq, kq, h4, h5, h6, h7⟩ := hm
  obtain ⟨_, its, rv, htup⟩ := (show ObjOk X.prog X.w H s.heap t (.tup [.ref dq, .ref aq, .ref kq, .int m.2.2.2]) from I.hok t _ h4)
  obtain ⟨v0, vr, ev, r0⟩ : ∃ v0 vr, its = v0 :: vr ∧ v0 = Value.ref dq := by
    cases rv with
    | cons r1 r2 => exact ⟨_, _, rfl, r1⟩
  subst ev r0
  have rd := PyProof.Rows.Reads.keeps keep (reads_day I.hok h5)
  refine wpAny_call (codeAny_mono (R := fun r s' => ∃ v, r = .ok (.ret v) ∧ PySem.W.KeyPure (dayD m.1) { s with heap := h, toks := tk } v s') (PySem.W.kla_callFunE hd (keep _ _ hf) rfl rfl rfl rfl ⟨c', oc, vs, tq, rfl, keep _ _ hoc, hdc, hvc⟩ ?_) fun r s' hq => ?_)
  · refine wpAny_pure (wpAny_newFunctionEnv (binds := [(("movement" : Str), Value.ref t)]) (fun y hy => ?_) (fun y hy => ?_) (fun h₁ hns hsb => ⟨(I.nolimit.keeps keep).fresh _ hsb, ?_⟩) rfl)
    · rw [List.mem_singleton.mp hy]
      intro z
      cases z
    · rw [List.mem_singleton.mp hy]
      rfl
    · have kp : ∀ b o, h.get? b = some o → h₁.get? b = some o := fun b o e => hsb.extBut b o (Nat.ne_of_lt (Heap.lt_size e)) (Heap.get?_push_of_some _ e)
      have htup1 : IsTup h₁ t (Value.ref dq :: vr).toArray := by
        obtain ⟨o, e1, e2, e3⟩ := htup
        exact ⟨o, kp _ _ (keep _ _ e1), e2, e3⟩
      refine PySem.W.kla_codeExpr (Subscript_ (wpAny_Name (wpAny_loadName_local (v := .ref t) rfl rfl hns (by first | rfl | decide | simp) (wpAny_Constant_int ?_))))
      refine subscriptTail_builtinR (x := .ref dq) (htup1.typeIs) slot_tuple_getitem.lookup (getItem_tuple (j := 0) htup1 (by decide) (by decide) ?_ ?_ ⟨rfl, ?_⟩)
      · rw [List.size_toArray, List.length_cons]
        have e0 : (if (0 : Int) < 0 then (0 : Int) + ((vr.length + 1 : Nat) : Int) else 0) = 0 := if_neg (by omega)
        have e1 : (decide ((0 : Int) ≤ 0) && decide ((0 : Int) < ((vr.length + 1 : Nat) : Int))) = true := by
          rw [decide_eq_true (Int.le_refl _), decide_eq_true (by omega)]
          rfl
        show (if (decide ((0 : Int) ≤ if (0 : Int) < 0 then (0 : Int) + ((vr.length + 1 : Nat) : Int) else 0) && decide ((if (0 : Int) < 0 then (0 : Int) + ((vr.length + 1 : Nat) : Int) else 0) < ((vr.length + 1 : Nat) : Int))) = true then some (if (0 : Int) < 0 then (0 : Int) + ((vr.length + 1 : Nat) : Int) else 0).toNat else none) = some 0
        rw [e0, if_pos e1]
        rfl
      · rfl
      · exact ⟨.ref dq, rfl, h₁, _, rfl, kp, PyProof.Rows.Reads.keeps kp rd⟩
  · obtain ⟨v, rfl, q⟩ := hq
    exact q

/-! ### sorted(e, key=lambda movement: movement[0]) -/
theorem movs_zip {H : Hp} : ∀ {ts : List Addr} {ms : List Mv}, Movs H ts ms → ∀ x ∈ ts.zip ms, MovAt H x.1 x.2 := by
  intro ts ms h
  unfold Movs at h
  induction h with
  | nil => intro x hx; cases hx
  | @cons a b l k r q ih =>
    intro x hx
    rw [List.zip_cons_cons] at hx
    rcases List.mem_cons.mp hx with e | e
    · subst e; exact r
    · exact ih x e
theorem movs_of {H : Hp} : ∀ l : List (Addr × Mv), (∀ x ∈ l, MovAt H x.1 x.2) → Movs H (l.map (·.1)) (l.map (·.2))
  | [], _ => .nil
  | x :: l, h => .cons (h x (List.mem_cons_self ..)) (movs_of l fun y hy => h y (List.mem_cons_of_mem _ hy))
theorem zip_fst {α β : Type} : ∀ {xs : List α} {ys : List β}, xs.length = ys.length → (xs.zip ys).map (·.1) = xs ∧ (xs.zip ys).map (·.2) = ys
  | [], [], _ => ⟨rfl, rfl⟩
  | [], _ :: _, h => by cases h
  | _ :: _, [], h => by cases h
  | x :: xs, y :: ys, h => by
    obtain ⟨h1, h2⟩ := zip_fst (xs := xs) (ys := ys) (Nat.succ.inj h)
    exact ⟨by rw [List.zip_cons_cons, List.map_cons, h1], by rw [List.zip_cons_cons, List.map_cons, h2]⟩
theorem refs_vals : ∀ {ts : List Addr} {us : List Value}, Vals (ts.map V.ref) us → us = ts.map Value.ref
  | [], _, r => by cases r; rfl
  | t :: ts, _, r => by
    rw [List.map_cons] at r
    cases r with
    | cons r1 r2 =>
      obtain rfl := r1
      rw [refs_vals r2, List.map_cons]
theorem vals_refs : ∀ ts : List Addr, Vals (ts.map V.ref) (ts.map Value.ref)
  | [] => .nil
  | t :: ts => .cons rfl (vals_refs ts)
theorem each_refs : ∀ l : List (Addr × Mv), PySem.W.EachIs (fun (v : Value) (x : Addr × Mv) => v = Value.ref x.1) ((l.map (·.1)).map Value.ref) l
  | [] => .nil
  | x :: l => .cons rfl (each_refs l)
theorem each_out {l : List (Addr × Mv)} {out : List Value} (h : PySem.W.EachIs (fun (v : Value) (x : Addr × Mv) => v = Value.ref x.1) out l) : out = (l.map (·.1)).map Value.ref := by
  induction h with
  | nil => rfl
  | cons r _ ih => rw [r, ih]; rfl
def tByDay (P : Addr) (te : TE) : TE := fun σ H Q => te σ H fun x H1 => ∃ (a : Addr) (ts : List Addr) (ms : List Mv), x = .ref a ∧ H1 a = some (.lst (ts.map V.ref)) ∧ Movs H1 ts ms ∧ ms.length ≤ 4096 ∧ (∀ m ∈ ms, m.1 ≠ []) ∧ H1 P = some (.tbl #[]) ∧
  ∀ (H2 : Hp) (r : Addr) (ts' : List Addr), H2 r = some (.lst (ts'.map V.ref)) → Movs H2 ts' (ms.mergeSort dayLe) → Q (.ref r) H2
theorem pe_byDay {X : Cx} {k : Nat} {c T : Addr} {e : Expr} {te : TE} {p pos lpos kpos p0 p1 p2 p3 : Pos} {j : Nat} (hg : Gl X "sorted") (hm : X.mg "sorted" = none) (TB : LamX.TabB X.base X.mg c T) (hcode : X.env.code = .ref c) (hr : Room k X.A) (he : PE X e te)
    (hs : backTo pos (starEach [e] X.env) = (false, eval e X.env) :: backTo pos (starEach [] X.env) := by rfl)
    (hpl : (backTo pos (starEach [e] X.env)).any (·.1) = false := by rfl) :
    PE X (.Call (.Name "sorted" p) [e] [⟨some "key", .Lambda (dayParams p0) (dayBody p1 p2 p3 j) dayScope lpos, kpos⟩] pos) (tByDay T te) := by
  refine ⟨fun pins s σ H Q I h => ?_⟩
  refine wpAny_Call_Name_kw (ld_blt I hg hm PyProof.Rows.boot_sorted ?_)
  refine PyProof.Rows.callWith_kw ?_ hs hpl rfl rfl
  rw [hs]
  refine Calls.spliced_cons (thn (he.run pins s σ H _ I h) fun u s1 ⟨x, H1, I1, r1, q1⟩ => ?_)
  refine Calls.spliced_nil ?_
  obtain ⟨a, ts, ms, rfl, ha, hmv, lms, hne, hP, q⟩ := q1
  obtain rfl : u = Value.ref a := r1
  show wpAny _ _ (evalAll ((do let v ← eval (.Lambda (dayParams p0) (dayBody p1 p2 p3 j) dayScope lpos) X.env; standAt pos; pure v) :: [])) _ _ s1
  have hT : LamX.Tabs [(T, X.env.qual ++ "<lambda>")] H1 := fun z hz => by
    rw [List.mem_singleton.mp hz]
    exact LamX.TabS.nil hP
  refine wpAny_evalAll_cons (wpAny_bind (LamX.lam_make2 (T := [(T, X.env.qual ++ "<lambda>")]) I1 TB hcode (List.mem_singleton.mpr rfl) (fun z hz _ => by rw [List.mem_singleton.mp hz]) hT rfl (fun y hy hf => ?_) fun f c' pm ctv H2 s2 I2 eN T2 hf hfn hfr hco => ?_))
  · rw [List.mem_singleton.mp hy] at hf
    cases hf
  refine wpAny_bind (wpAny_standAt (wpAny_pure (wpAny_evalAll_nil ?_)))
  have keepT : ∀ b xs, H1 b = some (.tup xs) → H2 b = some (.tup xs) := fun b xs e => eN b _ e (fun ps z => by cases z)
  have ha2 : H2 a = some (.lst (ts.map V.ref)) := eN a _ ha (fun ps z => by cases z)
  have mv2 := hmv.keep keepT
  obtain ⟨zl, its, n, rv, hob⟩ := (show ObjOk X.prog X.w H2 s2.heap a (.lst (ts.map V.ref)) from I2.hok a _ ha2)
  have eits := refs_vals rv
  subst eits
  obtain ⟨z1, z2⟩ := zip_fst hmv.len
  have hmem := movs_zip mv2
  have hlen : (ts.zip ms).length ≤ 4096 := by
    have e1 := congrArg List.length z2
    rw [List.length_map] at e1
    omega
  have hf2 : s2.heap.get? f = some (PySem.W.kla_obj "<lambda>" (X.env.qual ++ "<lambda>") (dayParams p0) (dayBody p1 p2 p3 j) dayScope [] pm c' ctv) := hf
  have each : PySem.W.EachIs (fun (v : Value) (x : Addr × Mv) => v = Value.ref x.1) (ts.map Value.ref) (ts.zip ms) := by
    have := each_refs (ts.zip ms)
    rw [z1] at this
    exact this
  have hu := hr.units
  show wpAny _ _ (call (.builtin "sorted") [Value.ref a] [(Str.ofString "key", Value.ref f)]) _ _ s2
  refine PySem.W.sorted_key_data (f := .ref f) (b := false) (vs := ts.map Value.ref) (bs := ts.zip ms) (R := fun v x => v = Value.ref x.1) (fun x : Addr × Mv => dayD x.2.1) ⟨_, hob, rfl, n, rfl⟩ each (PySem.W.AllAlike.of fun x y => alike_days _ _) (.inl fun d hd => ?_) (Nat.le_of_lt (line_of (by omega)))
    (fun x hx => ?_) (PyProof.Rows.ksk_s1 _ _) (fun _ => PyProof.Rows.ksk_l1 _ _) (fun _ => PyProof.Rows.ksk_t1 _ _) (fun v x hv hx h' tk keep => ?_) fun out cc h' tk keep fresh hD hol hE => ?_
  · obtain ⟨x, hx, rfl⟩ := List.mem_map.mp hd
    have hx2 : x.2 ∈ ms := by
      rw [← z2]
      exact List.mem_map.mpr ⟨x, hx, rfl⟩
    have h0 := hne _ hx2
    unfold dayD intsB
    cases hd0 : x.2.1 with
    | nil => exact absurd hd0 h0
    | cons b r => exact ⟨_, _, rfl⟩
  · have := depth_day x.2.1
    omega
  · subst hv
    exact day_key I2 hf2 hco (A := X.A.in1.in1) hr.depth (hmem x hx) h' tk keep
  · rw [data_le] at hE
    have eo := each_out hE
    subst eo
    have hsub : ∀ x ∈ (ts.zip ms).mergeSort (fun p q => dayLe p.2 q.2), MovAt H2 x.1 x.2 := fun x hx => hmem x (List.mem_mergeSort.mp hx)
    have hl2 : (((ts.zip ms).mergeSort fun p q => dayLe p.2 q.2).map (·.1)).length ≤ 4096 := by rw [List.length_map, List.length_mergeSort]; exact hlen
    have eS : ((ts.zip ms).mergeSort fun p q => dayLe p.2 q.2).map (·.2) = ms.mergeSort dayLe := by
      have := List.map_mergeSort (r := fun p q : Addr × Mv => dayLe p.2 q.2) (s := dayLe) (f := fun x : Addr × Mv => x.2) (l := ts.zip ms) fun a _ b _ => rfl
      rw [this, z2]
    have nf : H2 (s2.heap.objs.size + 1) = none := I2.hok.fresh (Nat.le_succ _)
    refine ⟨.ref (s2.heap.objs.size + 1), L2.upd H2 (s2.heap.objs.size + 1) (.lst ((((ts.zip ms).mergeSort fun p q => dayLe p.2 q.2).map (·.1)).map V.ref)), I2.laid (t' := tk) keep (Nat.le_succ _) ?_, rfl, q _ _ _ upd_same ?_⟩
    · exact ⟨Nat.le_of_lt (line_of (by rw [List.length_map]; omega)), _, cc, vals_refs _, hD⟩
    · rw [← eS]
      refine (movs_of _ hsub).keep fun b xs e => ?_
      rw [upd_ne (ne_of_none e nf)]
      exact e
end Ev

set_option Elab.async false
set_option linter.all false
set_option maxRecDepth 100000
set_option maxHeartbeats 2000000
namespace Ev
open PySem PySem.Spec PyProof.Rows L2
open Sf42 (Bytes)
abbrev sAnswer : Stmt := top 66
section
variable {P : Program} {w : World} {K : PySem.W.Frag} {mg : Str → Option Value} {base : Heap} {CB CE : Addr}
/-! ### answer_of(told, most) -/
def fitI (most : Int) (b : Bytes) : List Int := if (b.length : Int) ≤ max 0 most then (b.length : Int) :: Sf42Neutral.bytesTold b else [-3]
def spAnswer (K : PySem.W.Frag) : Sp := fun vs H Q _ => ∃ (a : Addr) (b : Bytes) (most : Int), vs = [.ref a, .int most] ∧ H a = some (.lst (vb b)) ∧ b.length ≤ 2000000 ∧ ∀ H' p, H' p = some (.lst ((fitI most b).map V.int)) → Q (.ref p) H'
theorem scAnswer : FnScope ["told", "most"] ["told", "most"] (defScope sAnswer) := ⟨rfl, rfl, rfl, by decide +kernel, rfl, by decide +kernel, by decide +kernel⟩
theorem bytesTold_vb (b : Bytes) : (Sf42Neutral.bytesTold b).map V.int = vb b := by
  unfold Sf42Neutral.bytesTold vb
  rw [List.map_map]
  rfl
theorem fn_answer_of (D : DefAt K mg "answer_of" sAnswer) (n1 : mg "len" = none) (n2 : mg "max" = none) : Fn P w K mg base "answer_of" ["told", "most"] 1 (spAnswer K) := by
  refine fn_mk D (fun _ _ _ _ _ _ us hl => match us, hl with | [_, _], _ => rfl) fun f fd F => ?_
  refine F.ok scAnswer (fun vs H Q E h => ?_) (fun cdv A outer s H vs Q E hr h => ?_)
  · obtain ⟨a, b, most, rfl, _⟩ := h
    rfl
  · obtain ⟨a, b, most, rfl, ha, lb, k⟩ := h
    refine ⟨_, pss_cons (ps_if (pt_cmpR op_gt (pe_callB call_len_seq (by rfl) n1 PySem.boot_len (pa_cons (pv 0) pa_nil)) (pe_callB (call_max2 rfl) (by rfl) n2 PyProof.Rows.boot_max (pa_cons (pv 1) (pa_cons pe_int pa_nil))) (nomark _)) (pss_one (ps_ret (pe_lst (pa_cons (pe_un un_neg pe_int) pa_nil)))) pss_nil)
      (pss_one (ps_ret (pe_op op_cat (pe_lst (pa_cons (pe_callB call_len_seq (by rfl) n1 PySem.boot_len (pa_cons (pv 0) pa_nil)) pa_nil)) (pv 0)))), ?_⟩
    have em : (if (0 : Int) > most then 0 else most) = max 0 most := by
      rw [Int.max_def]
      split <;> split <;> omega
    refine ⟨_, rfl, a, _, rfl, .inl (SqL.of ha), _, rfl, most, 0, rfl, _, _, rfl, rfl, _, rfl, ?_⟩
    refine if_bool (fun h1 => ?_) (fun h1 => ?_)
    · have h1 : (if (0 : Int) > most then 0 else most) < (((vb b).length : Nat) : Int) := of_decide_eq_true h1
      rw [em, vb_len] at h1
      refine ⟨_, rfl, (by show 1 ≤ sizeLine; decide), fun p hp => ?_⟩
      refine k _ p ?_
      unfold fitI
      rw [if_neg (by omega), upd_same]
      rfl
    · have h1 : ¬ (if (0 : Int) > most then 0 else most) < (((vb b).length : Nat) : Int) := of_decide_eq_false h1
      rw [em, vb_len] at h1
      refine ⟨_, rfl, a, _, rfl, .inl (SqL.of ha), (by show 1 ≤ sizeLine; decide), fun u hu' => ?_⟩
      have ha2 : L2.upd H u (.lst [V.int (((vb b).length : Nat) : Int)]) a = some (.lst (vb b)) := by rw [upd_ne (ne_of_none ha hu')]; exact ha
      refine ⟨_, rfl, u, a, _, _, rfl, rfl, upd_same, ha2, ?_, fun p hp => ?_⟩
      · rw [List.length_singleton, vb_len, sizeLine_eq]
        omega
      · refine k _ p ?_
        unfold fitI
        rw [if_pos (by omega), upd_same, List.map_cons, bytesTold_vb, vb_len]
        rfl
end
/-! ### what is due -/
theorem bytes_len (ns : List Int) : (Sf42Neutral.bytesOf ns).length = ns.length := List.length_map _
theorem which_eq (ns : List Int) (h : ns.length ≤ 300) : Sf42.which (ns.length : Int) (Sf42Neutral.bytesOf ns) = if (decide (Sf42Neutral.bytesOf ns = []) || isAccount (Sf42Neutral.bytesOf ns)) = true then some (outerOf (Sf42Neutral.bytesOf ns)) else none := by
  unfold Sf42.which outerOf
  have hl := bytes_len ns
  by_cases h0 : Sf42Neutral.bytesOf ns = []
  · rw [h0] at hl ⊢
    have e : (ns.length : Int) = 0 := by rw [← hl]; rfl
    rw [if_pos e]
    simp
  · have e : ¬ (ns.length : Int) = 0 := fun z => h0 (List.length_eq_zero_iff.mp (by omega))
    rw [if_neg e, if_pos ⟨by omega, by omega⟩, decide_eq_false h0, Bool.false_or, if_neg h0]
    cases hi : isAccount (Sf42Neutral.bytesOf ns) with
    | true => rw [account_some _ hi]; rfl
    | false => rw [account_none _ hi]; rfl
theorem fitting_eq (most : Int) (b : Bytes) : Sf42Neutral.listOf (Sf42.fitting most b) = fitI most b := by
  unfold Sf42.fitting fitI
  split
  · rfl
  · rfl
end Ev

set_option Elab.async false
set_option linter.all false
set_option maxRecDepth 100000
set_option maxHeartbeats 2000000
namespace Ev
open PySem PySem.Spec PyProof.Rows L2

/-! ### the end of a row whose program makes a lambda: the maker's table is tracked from the start -/
theorem rd_more {H H' : Hp} (e : Same H H') {a : Addr} {o : HO} (h : Rd H a o) : Rd H' a o := by
  rcases h with h | ⟨u, h⟩
  · exact .inl (e _ _ h)
  · exact .inr ⟨u, e _ _ h⟩
theorem dwAll_more {K : PySem.W.Frag} {H H' : Hp} (e : Same H H') {xs : List V} {ds : List PySem.W.WData} (h : DwAll K H xs ds) : DwAll K H' xs ds := by
  refine DwAll.rec (motive_1 := fun v d _ => Dw K H' v d) (motive_2 := fun xs ds _ => DwAll K H' xs ds) .non (fun b => .bl b) (fun i => .int i) (fun x => .str x) (fun b => .byt b) (fun {a xs ds} hs _ ih => .lst (e.seq hs) ih) (fun {a xs ds} hs _ ih => ?_) .nil (fun _ _ h1 h2 => .cons h1 h2) h
  rcases hs with hs | hs
  · exact .tup (.inl (rd_more e hs)) ih
  · exact .tup (.inr hs) ih
section
variable {P : Program} {w : World} {K : PySem.W.Frag} {mg mb : Str → Option Value} {k : Nat} {fa c T : Addr} {fd : FuncData} {ps : List Str} {sp : Sp} {s₁ : Shared} {vals : List Value} {ds : List PySem.W.WData} {R : PySem.W.WRecords} {cl : Str → Option Addr} {d0 : PySem.W.WData}
/-- what is known of the heap in which the row's def is called -/
structure Ahead (K : PySem.W.Frag) (mg mb : Str → Option Value) (s : Shared) (c T : Addr) : Prop where
  kin : K.In s.heap
  glob : s.heap.Ns mainGlobals mg
  blt : s.heap.Ns builtinsNs mb
  boot : ∀ x : Str, x ≠ "__name__" → mb x = bootBuiltins x
  lim : s.heap.NoLimit
  gens : s.gens = #[]
  code : PySem.W.CodeHd s.heap c T
  tab : s.heap.get? T = some (PySem.W.tabObj #[])
  out : K.lookup T = none
  mod : ∃ bm ob, mg "__builtins__" = some (.ref bm) ∧ bm ≠ builtinsNs ∧ s.heap.get? bm = some ob ∧ ob.cls = .type "module" ∧ ob.dict = some builtinsNs ∧ ob.data = .plain
theorem call_tab (G : Ahead K mg mb s₁ c T) (hwl : PySem.W.WellAll w.params s₁.heap vals ds) (hpl : plWs ds = true) (hwt : ∀ d ∈ ds, d.weight ≤ 1048576) (hr : Room k callerA)
    (F : ∀ base : Heap, K.In base → base.Ns mainGlobals mg → LamX.TabB base mg c T → FnOk P w K mg base CX0 k fa fd ps sp)
    (hbind : ∀ (s : Shared) (us : List Value), us.length = ps.length → BindsTo s fd ⟨us, []⟩ (ps.zip us)) (hlen : ds.length = ps.length)
    (hsp : ∀ (H : Hp) (xs : List V), H T = some (.tbl #[]) → DwAll K H xs ds → sp xs H (fun v H' => Dw K H' v d0) fun _ _ _ => False) :
    codeAny (model P w) callerA (.call (.ref fa) ⟨vals, []⟩) (fun r s' => ∃ u as, r = .ok (.ret u) ∧ PySem.W.ReadsW R cl s'.heap u d0 as ∧ OldK s₁.heap s'.heap ∧ s'.os = s₁.os ∧ AllBare s'.gens) s₁ := by
  obtain ⟨A, ho, ar⟩ := area_all ds vals hwl hpl hwt
  -- what is tracked of the arguments: no table, no dict, nothing of the written part
  have seqs : ∀ {b : Addr} {u : HO}, argH K s₁.heap A b = some u → K.lookup b = none ∧ (∃ ob hu, u = .frz ob hu) ∧ ∃ ob vs n, s₁.heap.get? b = some ob ∧ ob.data = .seq vs n := fun {b u} q => by
    obtain ⟨h1, vs, _, _, h2 | h2⟩ := argH_is ar q
    · exact ⟨h1, ⟨_, _, h2.2⟩, _, _, _, h2.1, rfl⟩
    · exact ⟨h1, ⟨_, _, h2.2⟩, _, _, _, h2.1, rfl⟩
  have hT0 : argH K s₁.heap A T = none := by
    cases q : argH K s₁.heap A T with
    | none => rfl
    | some u =>
      obtain ⟨_, _, ob, vs, n, e1, e2⟩ := seqs q
      rw [G.tab] at e1
      cases e1
      cases e2
  have hok0 : HOk P w (argH K s₁.heap A) s₁.heap := argH_ok ar
  have hS0 := dw_all G.kin ar ds vals hwl hpl ho
  have hV := vals_toV ho
  generalize argH K s₁.heap A = H0 at seqs hT0 hok0 hS0
  have hTt : L2.upd H0 T (.tbl #[]) T = some (.tbl #[]) := upd_same
  have ext : Same H0 (L2.upd H0 T (.tbl #[])) := fun b o e => by
    rw [upd_ne (ne_of_none e hT0)]
    exact e
  have back : ∀ b, b ≠ T → L2.upd H0 T (.tbl #[]) b = H0 b := fun b h => upd_ne h
  have hok : HOk P w (L2.upd H0 T (.tbl #[])) s₁.heap := fun b u e => by
    by_cases hb : b = T
    · subst hb
      rw [upd_same] at e
      cases e
      exact G.tab
    · rw [upd_ne hb] at e
      exact (hok0 b u e).stay (fun d v _ q => q) (fun d q => ext _ _ q) fun d xs q => ext _ _ q
  generalize hH : L2.upd H0 T (.tbl #[]) = H at hTt ext back hok
  have free : ∀ {b : Addr} {o : Obj}, s₁.heap.get? b = some o → (∀ vs n, o.data ≠ .seq vs n) → o.data ≠ .fields #[] → H b = none := fun {b o} e h1 h2 => by
    have hb : b ≠ T := fun z => by
      rw [z, G.tab] at e
      cases e
      exact h2 rfl
    rw [back b hb]
    cases q : H0 b with
    | none => rfl
    | some u =>
      obtain ⟨_, _, ob, vs, n, e1, e2⟩ := seqs q
      rw [e] at e1
      cases e1
      exact absurd e2 (h1 vs n)
  have still : ∀ {b : Addr} {o : Obj}, s₁.heap.get? b = some o → H b = none → (hidT s₁.heap H).get? b = some o := fun e1 e2 => hidT_get e1 e2
  have spaces : ∀ {b : Addr} {m : Str → Option Value}, s₁.heap.Ns b m → (hidT s₁.heap H).Ns b m := fun {b m} x => by
    obtain ⟨o, es, ep, e, d, r⟩ := x
    exact ⟨o, es, ep, still e (free e (fun vs n z => by rw [d] at z; cases z) fun z => by rw [d] at z; cases z), d, r⟩
  have kin : K.In (hidT s₁.heap H) := fun b o e => still (G.kin b o e) (by
    have hb : b ≠ T := fun z => by
      rw [z, G.out] at e
      cases e
    rw [back b hb]
    cases q : H0 b with
    | none => rfl
    | some u =>
      rw [(seqs q).1] at e
      cases e)
  have TB : LamX.TabB (hidT s₁.heap H) mg c T := by
    refine ⟨?_, ?_, fun z => ?_⟩
    · obtain ⟨o, us, file, tf, flags, tg, inF, text, tt, e1, r1, r2, r3, rest⟩ := G.code
      refine ⟨o, us, file, tf, flags, tg, inF, text, tt, still e1 (free e1 (fun vs n z => by rw [r2] at z; cases z) fun z => ?_), r1, r2, r3, rest⟩
      rw [r2] at z
      cases z
      simp at r3
    · obtain ⟨bm, ob, b1, b2, b3, b4, b5, b6⟩ := G.mod
      refine ⟨bm, ob, b1, b2, fun q => ?_, fun q => ?_, still b3 (free b3 (fun vs n z => by rw [b6] at z; cases z) fun z => by rw [b6] at z; cases z), b4, b5, b6⟩
      · obtain ⟨o, es, ep, e, hd, _⟩ := G.glob
        rw [q, e] at b3
        cases b3
        rw [hd] at b6
        cases b6
      · rw [q, G.tab] at b3
        cases b3
        cases b6
    · obtain ⟨o, es, ep, e, hd, _⟩ := G.glob
      rw [z, G.tab] at e
      cases e
      cases hd
  obtain ⟨mc, m1, m2⟩ := G.lim
  have nil0 : ∀ b : Addr, b ∉ ([] : List Addr) := fun b z => nomatch z
  have e0 : Env0 P w K mg (hidT s₁.heap H) callerA [] s₁ H :=
    { frames := rfl, mod := ⟨kin, spaces G.glob, ⟨mb, spaces G.blt, G.boot⟩, ⟨mc, spaces m1, m2⟩⟩, bs := fun b o e => of_hidT e, bsz := Nat.le_of_eq (hidT_size _ _), funs := trivial, frf := fun b hb => absurd hb (nil0 b), hok := hok, bare := .of_eq G.gens }
  have hl : vals.length = ps.length := (wellAll_len hwl).trans hlen
  have run := (F _ kin (spaces G.glob) TB).run callerA [] s₁ H ⟨vals, []⟩ vals (vals.map toV) _ _ hr e0 (hbind s₁ vals hl) hV (hsp H _ hTt (dwAll_more ext hS0))
  refine codeAny_mono run fun r s' x => ?_
  match r, x with
  | .error e, x => exact (show False from x).elim
  | .ok .next, x => exact (show False from x).elim
  | .ok .brk, x => exact (show False from x).elim
  | .ok .cont, x => exact (show False from x).elim
  | .ok (.ret u), x =>
    obtain ⟨v, H', os, bare, un, hok', r', q⟩ := x
    have kept : ∀ b o, b ≠ T → s₁.heap.get? b = some o → s'.heap.get? b = some o := fun b o hb e => by
      cases q2 : H0 b with
      | none => exact un.keep b o e (by rw [back b hb]; exact q2) (nil0 b) (nil0 b)
      | some u2 =>
        obtain ⟨_, ⟨ob, hu, rfl⟩, _⟩ := seqs q2
        have z1 : H b = some (.frz ob hu) := ext _ _ q2
        obtain ⟨e1, _⟩ := hok b _ z1
        obtain ⟨e2, _⟩ := hok' b _ (un.frzs b ob hu z1)
        rw [e] at e1
        cases e1
        exact e2
    have grown : ∃ more : Array Value, s'.heap.get? T = some { cls := .none, data := .fields more } := by
      obtain ⟨more, z⟩ := un.tbls T #[] hTt
      exact ⟨_, hok' T _ z⟩
    have KX' : K.In s'.heap := fun b o e => kept b o (fun z => by rw [z, G.out] at e; cases e) (G.kin b o e)
    obtain ⟨as, hrd⟩ := Dw.reads (R := R) (cl := cl) hok' KX' d0 v u q r'
    refine ⟨u, as, rfl, hrd, ⟨fun b o e => ?_, fun b o e => ?_⟩, os, bare⟩
    · by_cases hb : b = T
      · subst hb
        obtain ⟨more, hm⟩ := grown
        have ho := G.tab
        rw [e] at ho
        cases ho
        exact .inr (.inl ⟨(G.code.tab G.tab).isCodeTable, rfl, #[], more, rfl, by rw [Array.empty_append]; exact hm⟩)
      · exact .inl (kept b o hb e)
    · by_cases hb : b = T
      · subst hb
        obtain ⟨more, hm⟩ := grown
        exact ⟨_, hm⟩
      · exact ⟨o, kept b o hb e⟩
end
/-- the row's walk, where the def x makes a lambda -/
theorem walk_tab {r : PySem.W.OpenSpec} {k : Nat} {q : Program} {loose : List Str} {XP : (Str → Option Value) → Heap → Prop} {YP : World → Heap → Prop} {d d' : DefRec} {K : Params → PySem.W.Frag} {ps : List Str} {sp : Addr → PySem.W.Frag → Sp} {x : Str} {c T : Addr}
    (hwell : r.wellSaid = true) (hlen : r.args.length = ps.length) (hr : Room k callerA) (hY : ∀ (w : World) (h : Heap), YP w h → (K w.params).In h)
    (hrec : (recsOf q).find? (fun e => e.name == x) = some d') (htab : ∀ w : World, PySem.W.tabIn (K w.params) x = some (c, T)) (hno : ∀ w : World, (K w.params).lookup T = none)
    (F : ∀ (w : World) (mg : Str → Option Value) (fa : Addr) (h : Heap), YP w h → (K w.params).In h → h.Ns mainGlobals mg → mg d.name = some (.ref fa) →
      ∃ fd : FuncData, (∀ (s : Shared) (us : List Value), us.length = ps.length → BindsTo s fd ⟨us, []⟩ (ps.zip us)) ∧
        ∀ base : Heap, (K w.params).In base → base.Ns mainGlobals mg → LamX.TabB base mg c T → FnOk r.prog w (K w.params) mg base CX0 k fa fd ps (sp T (K w.params)))
    (hsp : ∀ (K : PySem.W.Frag) (H : Hp) (xs : List V) (a : PySem.W.Codec.denoteAll r.args), H T = some (.tbl #[]) → PySem.W.Codec.withinAll r.args a = true → PySem.W.Codec.app r.args r.asked a = true → DwAll K H xs (PySem.W.Codec.encAll r.args a) →
      sp T K xs H (fun v H' => Dw K H' v (r.ret.enc (PySem.W.Codec.app r.args r.f a))) fun _ _ _ => False) :
    PySem.W.WalkOS q loose XP YP r d [] (fun f vs => PySem.call f vs) := by
  intro w s₀ s₁ mg mb G Y fa o pm cd doc dV kV ho hd hcd hD hmg hg args vals as hpre hlay hrd hwl hlo
  obtain ⟨a, e1, e2⟩ := PySem.W.os_pre_some hpre
  obtain ⟨e3, hwi⟩ := PySem.W.Codec.encAll_of_decAll r.args args a e1
  subst e3
  have KX := hY w _ Y
  obtain ⟨fd, hb, hF⟩ := F w mg fa _ Y KX G.T.g hmg
  obtain ⟨t1, t2⟩ := PySem.W.tab_of G.T KX hrec (htab w)
  have AH : Ahead (K w.params) mg mb s₁ c T := ⟨KX, G.T.g, G.T.b, G.T.builtins, G.T.nolimit, hg, t1, t2, hno w, G.T.bmain⟩
  refine PySem.W.enter_call (codeAny_mono (call_tab (R := []) (cl := classAt s₀.heap) (d0 := r.ret.enc (PySem.W.Codec.app r.args r.f a)) AH hwl (pl_encAll _ _) (layable_weight hlay) hr hF hb ((encAll_len _ _).trans hlen)
    fun H xs hO hS => hsp _ H xs a hO hwi e2 hS) fun r' s' hq => ?_)
  obtain ⟨u, as', rfl, h1, h2, h3, h4⟩ := hq
  exact ⟨.inl ⟨u, _, as', rfl, fun _ => rfl, h1, (PySem.W.OpenSpec.post_iff hwell hwi _ _).mpr rfl, fun z => nomatch (show false = true from z)⟩, h2, h3, h4⟩
end Ev

set_option Elab.async false
set_option linter.all false
set_option maxRecDepth 100000
set_option maxHeartbeats 2000000
namespace Ev
open PySem PySem.Spec PyProof.Rows L2
open Sf42 (Bytes)
abbrev sInOrder : Stmt := top 64
abbrev sToldMoves : Stmt := top 65

/-! ### a def whose code object is known -/
structure DefC (K : PySem.W.Frag) (mg : Str → Option Value) (x : Str) (st : Stmt) (c : Addr) : Prop where
  ex : ∃ (f : Addr) (oc : Value) (od : Option Addr) (kV doc pm : Value) (an : Option Addr) (ct : Value) (osl : Array (Option Value)), mg x = some (.ref f) ∧
    K.lookup f = some ⟨oc, od, .func (PySem.W.fnOf x x (defArgs st) (defBody st) (defScope st) .none kV doc pm an (.ref c) ct), osl⟩ ∧ PySem.W.codeIn K (.ref c) x = true ∧ PySem.W.keepIn K (.ref f) = true
theorem defC_of {K : PySem.W.Frag} {h : Heap} {mg : Str → Option Value} {x : Str} {st : Stmt} {c T : Addr} (X : K.In h) (G : h.Ns mainGlobals mg) (D : DefAt K mg x st) (ht : PySem.W.tabIn K x = some (c, T)) : DefC K mg x st c := by
  obtain ⟨f, fd, hm, F⟩ := D.ex
  obtain ⟨oc, od, kV, doc, pm, an, cdv, ct, osl, rfl, lk, hcd⟩ := F.ex
  have e : cdv = .ref c := PySem.W.law_code X G ht hm (X _ _ lk) rfl
  subst e
  exact ⟨f, oc, od, kV, doc, pm, an, ct, osl, hm, lk, hcd, F.kp⟩
section
variable {P : Program} {w : World} {K : PySem.W.Frag} {mg : Str → Option Value} {base : Heap} {CB CE c T : Addr}

/-! ### in_order_of_days(movements) -/
def spInOrder (T : Addr) : Sp := fun vs H Q _ => ∃ (a : Addr) (ts : List Addr) (ms : List Mv), vs = [.ref a] ∧ H a = some (.lst (ts.map V.ref)) ∧ Movs H ts ms ∧ ms.length ≤ 4096 ∧ (∀ m ∈ ms, m.1 ≠ []) ∧ H T = some (.tbl #[]) ∧
  ∀ (H2 : Hp) (r : Addr) (ts' : List Addr), H2 r = some (.lst (ts'.map V.ref)) → Movs H2 ts' (ms.mergeSort dayLe) → Q (.ref r) H2
theorem scInOrder : FnScope ["movements"] ["movements"] (defScope sInOrder) := ⟨rfl, rfl, rfl, by decide +kernel, rfl, by decide +kernel, by decide +kernel⟩
theorem fn_in_order (D : DefC K mg "in_order_of_days" sInOrder c) (n1 : mg "sorted" = none) (TB : LamX.TabB base mg c T) : Fn P w K mg base "in_order_of_days" ["movements"] 2 (spInOrder T) := by
  obtain ⟨f, oc, od, kV, doc, pm, an, ct, osl, hm, lk, hcd, kp⟩ := D.ex
  refine ⟨f, _, hm, kp, .all fun us hl => match us, hl with | [_], _ => rfl, fn_of lk hcd scInOrder (fun vs H Q E h => ?_) fun A outer s H vs Q E hr h => ?_⟩
  · obtain ⟨a, ts, ms, rfl, _⟩ := h
    rfl
  · obtain ⟨a, ts, ms, rfl, ha, hmv, lms, hne, hT, k⟩ := h
    have body : PSs (cxOf CX0 P w K mg base ["movements"] "in_order_of_days" (defScope sInOrder) f (.ref c) A outer s H E).nox (defBody sInOrder) _ := pss_one (ps_ret (pe_byDay (k := 1) (T := T) (by rfl) n1 TB rfl hr (pv 0)))
    exact ⟨_, body.nox, _, rfl, a, ts, ms, rfl, ha, hmv, lms, hne, hT, k⟩
end
end Ev

set_option Elab.async false
set_option linter.all false
set_option maxRecDepth 100000
set_option maxHeartbeats 2000000
namespace Ev
open PySem PySem.Spec PyProof.Rows L2
open Sf42 (Bytes)

/-! ### the sizes of what is told -/
theorem sumKd_sumOf (F : List Mv) (k : Bytes) : Sf42.sumOf (prs F) k = sumKd F k := by
  unfold Sf42.sumOf prs sumKd
  rw [List.filter_map, List.map_map]
  rfl
theorem le_sum : ∀ {l : List Nat} {n : Nat}, n ∈ l → n ≤ l.sum
  | [], _, h => by cases h
  | a :: l, n, h => by
    rw [List.sum_cons]
    rcases List.mem_cons.mp h with e | e
    · omega
    · have := le_sum e
      omega
theorem size_mem {F : List Mv} {m : Mv} (h : m ∈ F) : m.2.2.2.natAbs ≤ size (prs F) m.2.2.1 := by
  unfold size prs
  rw [List.filter_map, List.map_map]
  refine le_sum (List.mem_map.mpr ⟨m, List.mem_filter.mpr ⟨h, ?_⟩, rfl⟩)
  show (m.2.2.1 == m.2.2.1) = true
  exact beq_self_eq_true _
structure MvOk (F : List Mv) (m : Mv) : Prop where
  day : m.1.length ≤ 10
  acc : m.2.1.length ≤ 255
  kin : m.2.2.1.length ≤ 8
  siz : size (prs F) m.2.2.1 < 10 ^ 18
theorem line5_len (a b c d e : Bytes) : (Sf42.line [a, b, c, d, e]).length = a.length + b.length + c.length + d.length + e.length + 5 := by
  show ([b, c, d, e].foldl (fun b x => b ++ (32 :: x)) a ++ [10]).length = _
  simp
  omega
theorem amt_ok {F : List Mv} {m : Mv} (h : m ∈ F) (ok : MvOk F m) : m.2.2.2.natAbs < 10 ^ 18 := Nat.lt_of_le_of_lt (size_mem h) ok.siz
theorem sum_ok {F G : List Mv} {m : Mv} (h : G.Sublist F) (ok : MvOk F m) : (sumKd G m.2.2.1).natAbs < 10 ^ 18 := Nat.lt_of_le_of_lt (sumKd_size h _) ok.siz
theorem tellMoves_len {F : List Mv} (hok : ∀ m ∈ F, MvOk F m) : ∀ n, n ≤ F.length → (tellMoves [] (F.take n)).length ≤ 318 * n
  | 0, _ => by simp [tellMoves]
  | n + 1, h => by
    have ih := tellMoves_len hok n (by omega)
    have hn : n < F.length := h
    have e := List.getElem?_eq_getElem hn
    have hm := List.mem_of_getElem? e
    have ok := hok _ hm
    have h1 := told_len (amt_ok hm ok)
    have h2 := told_len (sum_ok (G := F.take n ++ [F[n]]) (by rw [← take_more e]; exact List.take_sublist _ _) ok)
    have := ok.day
    have := ok.acc
    have := ok.kin
    rw [take_more e, tellMoves_app, List.length_append]
    have e5 : (tellMoves ([] ++ F.take n) [F[n]]).length ≤ 318 := by
      show (moveLine ([] ++ F.take n) F[n] ++ []).length ≤ 318
      rw [List.append_nil, List.nil_append]
      unfold moveLine
      rw [line5_len]
      omega
    omega

section
variable {P : Program} {w : World} {K : PySem.W.Frag} {mg : Str → Option Value} {base : Heap} {CB CE c T : Addr}
/-! ### told_movements(movements) -/
def spToldMoves (K : PySem.W.Frag) : Sp := fun vs H Q _ => ∃ (a : Addr) (ts : List Addr) (F : List Mv), vs = [.ref a] ∧ H a = some (.lst (ts.map V.ref)) ∧ Movs H ts F ∧ F.length ≤ 4096 ∧ (∀ m ∈ F, MvOk F m) ∧
  ∀ H' r, H' r = some (.lst (vb (tellMoves [] F))) → Q (.ref r) H'
theorem scToldMoves : FnScope ["movements", "told", "sums", "day", "account", "kind", "amount"] ["movements"] (defScope sToldMoves) := ⟨rfl, rfl, rfl, by decide +kernel, rfl, by decide +kernel, by decide +kernel⟩
theorem fn_told_movements (D : DefAt K mg "told_movements" sToldMoves) (G1 : Fn P w K mg base "line_of" ["words"] 1 (spLine K)) (G2 : Fn P w K mg base "told_amount" ["amount"] 1 spTold) :
    Fn P w K mg base "told_movements" ["movements"] 2 (spToldMoves K) := by
  refine fn_mk D (fun _ _ _ _ _ _ us hl => match us, hl with | [_], _ => rfl) fun f fd F => ?_
  refine F.ok scToldMoves (fun vs H Q E h => ?_) (fun cdv A outer s H vs Q E hr h => ?_)
  · obtain ⟨a, ts, Fm, rfl, _⟩ := h
    rfl
  · obtain ⟨a, ts, Fm, rfl, ha, hmv, lF, hok, k⟩ := h
    have hu := hu_of hr
    refine ⟨_, pss_cons (ps_set (i := 1) scToldMoves.nd rfl (.inl rfl) (pe_lst pa_nil))
      (pss_cons (ps_set (i := 2) scToldMoves.nd rfl (.inl rfl) pe_dnewT)
      (pss_cons (ps_for PassesOwn.never rfl (pi_list (pv 0)) (pg_tup rfl (pgs_cons (pg_name (i := 3) scToldMoves.nd rfl (.inl rfl)) (pgs_cons (pg_name (i := 4) scToldMoves.nd rfl (.inl rfl)) (pgs_cons (pg_name (i := 5) scToldMoves.nd rfl (.inl rfl)) (pgs_cons (pg_name (i := 6) scToldMoves.nd rfl (.inl rfl)) pgs_nil)))))
        (pss_cons (ps_dput hu (pv 2) (pv 5) (pe_op op_add (pe_dget2 hu (pv 2) (pv 5) pe_int ⟨rfl, rfl, rfl, rfl⟩) (pv 6)) rfl)
          (pss_one (ps_expr (pe_bm PySem.F.plainAttrs_list PySem.F.slot_list_extend PySem.F.type_list_extend mt_extend (pv 1) (pa_cons (pe_fn G1 hr (by rfl) (pa_cons (pe_lst (pa_cons (pv 3) (pa_cons (pv 4) (pa_cons (pe_fn G2 hr (by rfl) (pa_cons (pv 6) pa_nil)) (pa_cons (pv 5) (pa_cons (pe_fn G2 hr (by rfl) (pa_cons (pe_dget hu (pv 2) (pv 5) (fun _ _ => rfl)) pa_nil)) pa_nil)))))) pa_nil)) pa_nil))))))
      (pss_one (ps_ret (pv 1))))), ?_⟩
    refine ⟨Nat.zero_le _, fun r hr0 => ?_⟩
    have s1 : Same H (L2.upd H r (.lst [])) := same_new (Same.refl H) hr0
    intro d hd
    have ndr : d ≠ r := fun z => by rw [z, upd_same] at hd; cases hd
    have hd0 : H d = none := s1.free hd
    have s2 := same_upd (o := .dT []) s1 hd
    have hr2 : L2.upd (L2.upd H r (.lst [])) d (.dT []) r = some (.lst []) := by rw [upd_ne ndr.symm, upd_same]
    have hd2 : L2.upd (L2.upd H r (.lst [])) d (.dT []) d = some (.dT []) := upd_same
    generalize L2.upd (L2.upd H r (.lst [])) d (.dT []) = H2 at s2 hr2 hd2 ⊢
    refine ⟨_, rfl, a, rfl, ⟨_, SqL.of (s2 _ _ ha)⟩, for_list (K := K) (a := a) (xs := ts.map V.ref) (fun i σ H' => ∃ (v3 v4 v5 v6 : Option V), σ = [some (.ref a), some (.ref r), some (.ref d), v3, v4, v5, v6] ∧ Same H H' ∧
        H' r = some (.lst (vb (tellMoves [] (Fm.take i)))) ∧ H' d = some (.dT (dct (sumsT (prs (Fm.take i))))))
      ⟨none, none, none, none, rfl, s2, hr2, hd2⟩ (fun i σ H' _ ⟨_, _, _, _, _, s3, _⟩ => SqL.of (s3 _ _ ha)) ?_ ?_⟩
    · rintro i y σ H' hi ⟨v3, v4, v5, v6, rfl, s3, hr3, hd3⟩
      obtain ⟨t, hc, rfl⟩ := refs_get hi
      obtain ⟨m, hm, hcm⟩ := paired_get hmv hc
      have er := take_more hm
      have hmem := List.mem_of_getElem? hm
      have okm := hok m hmem
      have hil : i < Fm.length := (List.getElem?_eq_some_iff.mp hm).1
      obtain ⟨dq, aq, kq, h4, h5, h6, h7⟩ := id hcm
      refine ⟨t, _, rfl, SqT.of (s3 _ _ h4), rfl, _, _, rfl, _, _, rfl, _, _, rfl, _, _, rfl, rfl, ?_⟩
      -- sums[kind] = sums.get(kind, 0) + amount
      have hk3 : H' kq = some (.tup ((keyB m.2.2.1).map kV)) := by rw [keyB_vb]; exact s3 _ _ h7
      have hsl : (sumsT (prs (Fm.take i))).length ≤ 4096 := by
        refine Nat.le_trans (sumsT_len _) ?_
        rw [prs_len, List.length_take]
        omega
      refine ⟨_, rfl, d, rfl, .inr ⟨_, .inl hd3⟩, _, rfl, _, DGet.t hd3 hk3, _, rfl, Sf42.sumOf (prs (Fm.take i)) m.2.2.1, m.2.2.2, (by rw [dct_getD, sumsT_get]), rfl, ?_⟩
      refine ⟨_, rfl, _, rfl, d, _, rfl, DPut.t hd3 hk3 (line_of (by rw [dct_len]; omega)), ?_⟩
      rw [dct_put, sumsT_put]
      have ep : prs (Fm.take i) ++ [(m.2.2.2, m.2.2.1)] = prs (Fm.take (i + 1)) := by rw [er, prs_app]; rfl
      rw [ep]
      have nrd : r ≠ d := ndr.symm
      have s4 : Same H (L2.upd H' d (.dT (dct (sumsT (prs (Fm.take (i + 1))))))) := same_new s3 hd0
      have r4 : L2.upd H' d (.dT (dct (sumsT (prs (Fm.take (i + 1)))))) r = some (.lst (vb (tellMoves [] (Fm.take i)))) := by rw [upd_ne nrd]; exact hr3
      have d4 : L2.upd H' d (.dT (dct (sumsT (prs (Fm.take (i + 1)))))) d = some (.dT (dct (sumsT (prs (Fm.take (i + 1)))))) := upd_same
      generalize L2.upd H' d (.dT (dct (sumsT (prs (Fm.take (i + 1)))))) = H4 at s4 r4 d4 ⊢
      have esum : sumKd (Fm.take i ++ [m]) m.2.2.1 = Sf42.sumOf (prs (Fm.take (i + 1))) m.2.2.1 := by rw [sumKd_sumOf, er]
      have hamt := amt_ok hmem okm
      have hsum : (Sf42.sumOf (prs (Fm.take (i + 1))) m.2.2.1).natAbs < 10 ^ 18 := by
        rw [sumKd_sumOf]
        exact sum_ok (List.take_sublist _ _) okm
      -- told.extend(line_of([day, account, told_amount(amount), kind, told_amount(sums[kind])]))
      refine ⟨_, rfl, .inl ⟨rfl, _, SqL.of r4⟩, _, rfl, _, rfl, _, rfl, m.2.2.2, rfl, hamt, fun H5 u s5 nu hu5 => ?_⟩
      have s5' := s4.trans s5
      have d5 := s5 _ _ d4
      have hk5 : H5 kq = some (.tup ((keyB m.2.2.1).map kV)) := by rw [keyB_vb]; exact s5' _ _ h7
      have hget : valV (dct (sumsT (prs (Fm.take (i + 1))))) (keyB m.2.2.1) = some (V.int (Sf42.sumOf (prs (Fm.take (i + 1))) m.2.2.1)) := by
        rw [dct_get]
        have hg := sumsT_get (prs (Fm.take (i + 1))) m.2.2.1
        cases e : tget (sumsT (prs (Fm.take (i + 1)))) m.2.2.1 with
        | some v => rw [e] at hg; exact congrArg (fun z => some (V.int z)) hg
        | none =>
          have := tget_none e
          rw [sumsT_keys, List.mem_eraseDups] at this
          exact absurd (by rw [er, prs_app, kinds_app]; exact List.mem_append_right _ (List.mem_singleton.mpr rfl)) this
      refine ⟨_, rfl, _, rfl, _, rfl, d, _, rfl, ?_, Sf42.sumOf (prs (Fm.take (i + 1))) m.2.2.1, rfl, hsum, fun H6 u2 s6 nu2 hu6 => ?_⟩
      · rw [← hget]
        exact DGet.t d5 hk5
      have s6' := s5'.trans s6
      refine ⟨(by show 5 ≤ sizeLine; decide), fun L hL => ?_⟩
      have s7 := same_upd (o := .lst [V.ref dq, V.ref aq, V.ref u, V.ref kq, V.ref u2]) (Same.refl H6) hL
      have l7 : L2.upd H6 L (.lst [V.ref dq, V.ref aq, V.ref u, V.ref kq, V.ref u2]) L = some (.lst ([dq, aq, u, kq, u2].map V.ref)) := upd_same
      generalize L2.upd H6 L (.lst [V.ref dq, V.ref aq, V.ref u, V.ref kq, V.ref u2]) = H7 at s7 l7 ⊢
      have s7' := s6'.trans s7
      have lt1 := told_len hamt
      have lt2 := told_len hsum
      have l10 := okm.day
      have l255 := okm.acc
      have l8 := okm.kin
      refine ⟨L, [dq, aq, u, kq, u2], [m.1, m.2.1, Sf42.told m.2.2.2, m.2.2.1, Sf42.told (Sf42.sumOf (prs (Fm.take (i + 1))) m.2.2.1)], rfl, SqL.of l7,
        .cons (.inr (s7' _ _ h5)) (.cons (.inr (s7' _ _ h6)) (.cons (.inl ((s6.trans s7) _ _ hu5)) (.cons (.inr (s7' _ _ h7)) (.cons (.inl (s7 _ _ hu6)) .nil)))), by simp, ?_, fun H8 y s8 ny hy => ?_⟩
      · simp only [spaced1, List.flatMap_cons, List.flatMap_nil, List.length_append, List.length_singleton, List.length_nil]
        omega
      · have s58 := (s5.trans (s6.trans s7)).trans s8
        have htl := tellMoves_len hok i (Nat.le_of_lt hil)
        refine ⟨r, y, _, _, rfl, rfl, s58 _ _ r4, hy, ?_, ?_⟩
        · rw [vb_len, vb_len, line5_len, sizeLine_eq]
          omega
        · have nrd8 : ∀ o, L2.upd H8 r o d = some (.dT (dct (sumsT (prs (Fm.take (i + 1)))))) := fun o => by
            rw [upd_ne ndr]
            exact s58 _ _ d4
          refine ⟨some (.ref dq), some (.ref aq), some (.ref kq), some (.int m.2.2.2), rfl, same_new (s4.trans s58) hr0, ?_, nrd8 _⟩
          rw [upd_same, ← vb_app]
          congr 3
          conv => rhs; rw [er]
          rw [tellMoves_app, List.nil_append]
          congr 1
          show Sf42.line _ = moveLine (Fm.take i) m ++ []
          rw [List.append_nil]
          unfold moveLine
          rw [esum]
    · rintro σ H' ⟨v3, v4, v5, v6, rfl, s3, hr3, hd3⟩
      have el : (ts.map V.ref).length = Fm.length := by rw [List.length_map]; exact hmv.len
      rw [el, List.take_length] at hr3
      exact ⟨_, rfl, k H' r hr3⟩
end
end Ev

set_option Elab.async false
set_option linter.all false
set_option maxRecDepth 100000
set_option maxHeartbeats 2000000
namespace Ev
open PySem PySem.Spec PyProof.Rows L2
open Sf42 (Bytes)
abbrev sMoves : Stmt := top 67

/-! ### the movements in order are those that are asked -/
theorem day_len {b : Bytes} (h : Sf42.isDay b = true) : b.length = 10 := by
  unfold Sf42.isDay at h
  simp only [Bool.and_eq_true] at h
  exact eq_of_beq h.1
theorem sorted_upTo {l : List Sf42.Entry} {v day : Bytes} (hd : Sf42.isDay day = true) (hg : ∀ e ∈ l, GoodE e) : (((allDone l).map mvOf).filter (passM v day)).mergeSort dayLe = (Sf42.upTo l (outerOf v) day).map mvOf := by
  rw [filter_eq hd hg, upTo_eq]
  refine (List.map_mergeSort (r := fun p q : Sv => decide (Sf42.dayNumber p.1 ≤ Sf42.dayNumber q.1)) (s := dayLe) (f := mvOf) fun a ha b hb => ?_).symm
  have g1 := good_all hg a (List.mem_filter.mp ha).1
  have g2 := good_all hg b (List.mem_filter.mp hb).1
  exact (lexLe_day g1.day g2.day).symm
theorem size_sub {F ms : List Mv} (h : F.Sublist ms) (k : Bytes) : size (prs F) k ≤ size (prs ms) k := by
  unfold size
  exact sum_sub (((h.map _).filter _).map _)

/-! ### moves(most, text, account, day) -/
def movesB (most : Int) (text acc day : Bytes) : List Int := match Sf42.read 0 read0 (Sf42.linesOf text []) with
  | .error _ => [-1]
  | .ok l => if canAsk acc day = true then fitI most (Sf42.moves (Sf42.upTo l (outerOf acc) day)) else [-2]
def spMoves (T : Addr) (K : PySem.W.Frag) : Sp := fun vs H Q _ => ∃ (a b c : Addr) (most : Int) (text acc day : Bytes), vs = [.int most, .ref a, .ref b, .ref c] ∧ RowAt K H a text ∧ RowAt K H b acc ∧ RowAt K H c day ∧ text.length ≤ 65536 ∧ acc.length ≤ 300 ∧ day.length = 10 ∧ H T = some (.tbl #[]) ∧
  ∀ H' p, H' p = some (.lst ((movesB most text acc day).map V.int)) → Q (.ref p) H'
section
variable {P : Program} {w : World} {K : PySem.W.Frag} {mg : Str → Option Value} {base : Heap} {CB CE T : Addr}
theorem scMoves : FnScope ["most", "text", "account", "day", "book", "movements"] ["most", "text", "account", "day"] (defScope sMoves) := ⟨rfl, rfl, rfl, by decide +kernel, rfl, by decide +kernel, by decide +kernel⟩
theorem ok_moves {f fI : Addr} {fd fdI : FuncData} (F : Fun K "moves" "moves" sMoves f fd) (gB : mg "Book" = some (.ref CB)) (M : Mk K CB fI) (GI : FnOk P w K mg base CX0 1 fI fdI ["self"] (spBookInit CB)) (bI : Binds K fdI ["self"] [])
    (G1 : Fn P w K mg base "error_line" ["book", "text"] 8 (spErrorLine K CB CE)) (G2 : Fn P w K mg base "can_be_asked" ["account", "day"] 5 (spAsk K)) (G3 : Fn P w K mg base "movements_within" ["book", "account", "day"] 2 (spMovs K CB)) (G4 : Fn P w K mg base "in_order_of_days" ["movements"] 2 (spInOrder T))
    (G5 : Fn P w K mg base "told_movements" ["movements"] 2 (spToldMoves K)) (G6 : Fn P w K mg base "answer_of" ["told", "most"] 1 (spAnswer K)) : FnOk P w K mg base CX0 9 f fd ["most", "text", "account", "day"] (spMoves T K) := by
  refine F.ok scMoves (fun vs H Q E h => ?_) (fun cdv A outer s H vs Q E hr h => ?_)
  · obtain ⟨a, b, c, most, text, acc, day, rfl, _⟩ := h
    rfl
  · obtain ⟨a, b, c, most, text, acc, day, rfl, ha, hb, hc, lt, la, ld, hT, k⟩ := h
    have hr2 : Room 2 _ := hr.mono (by decide)
    have hr5 : Room 5 _ := hr.mono (by decide)
    have hr1 : Room 1 _ := hr.mono (by decide)
    refine ⟨_, pss_cons (ps_set (i := 4) scMoves.nd rfl (.inl rfl) (pe_make0 M GI hr2 rfl gB bI .nil pass0))
      (pss_cons (ps_if (pt_cmpR op_gt (pe_fn G1 hr (by rfl) (pa_cons (pv 4) (pa_cons (pv 1) pa_nil))) pe_int (nomark _)) (pss_one (ps_ret (pe_lst (pa_cons (pe_un un_neg pe_int) pa_nil)))) pss_nil)
      (pss_cons (ps_if (pt_not (pt_val (pe_fn G2 hr5 (by rfl) (pa_cons (pv 2) (pa_cons (pv 3) pa_nil))))) (pss_one (ps_ret (pe_lst (pa_cons (pe_un un_neg pe_int) pa_nil)))) pss_nil)
      (pss_cons (ps_set (i := 5) scMoves.nd rfl (.inl rfl) (pe_fn G4 hr2 (by rfl) (pa_cons (pe_fn G3 hr2 (by rfl) (pa_cons (pv 4) (pa_cons (pv 2) (pa_cons (pv 3) pa_nil)))) pa_nil)))
      (pss_one (ps_ret (pe_fn G6 hr1 (by rfl) (pa_cons (pe_fn G5 hr2 (by rfl) (pa_cons (pv 5) pa_nil)) (pa_cons (pv 0) pa_nil)))))))), ?_⟩
    unfold movesB at k
    intro p dx np ndx npd
    refine ⟨p, dx, rfl, upd_same, fun ml da ds H1 B1 fr => ⟨rfl, ?_⟩⟩
    have s1 : Same H H1 := fun c o e => fr c o (by rw [upd_ne (ne_of_none e np), upd_ne (ne_of_none e ndx)]; exact e) (ne_of_none e np)
    refine ⟨_, rfl, _, rfl, p, a, text, rfl, book_new B1, s1.seq ha, lt, fun j hrd H2 k2 => ?_, fun y hrd H2 BS k2 => ?_⟩
    · refine ⟨_, _, rfl, rfl, _, rfl, ?_⟩
      rw [hrd] at k
      have hj := read_pos _ _ _ _ hrd
      have e0 : decide ((0 : Int) < (j : Int)) = true := decide_eq_true (by omega)
      show if decide ((0 : Int) < (j : Int)) = true then _ else _
      rw [e0]
      refine iteT ⟨_, rfl, (by show 1 ≤ sizeLine; decide), fun p hp => ?_⟩
      exact k _ p upd_same
    refine ⟨_, _, rfl, rfl, _, rfl, iteF ?_⟩
    rw [hrd] at k
    have k2' := (Keeps.of_same s1).trans k2
    refine ⟨_, rfl, _, rfl, b, c, acc, day, rfl, k2'.seq hb, k2'.seq hc, by omega, by omega, fun H3 s3 => ⟨_, rfl, if_bool (fun h3 => ?_) (fun h3 => ?_)⟩⟩
    · have h3 := not_t h3
      refine ⟨_, rfl, (by show 1 ≤ sizeLine; decide), fun p hp => k _ p ?_⟩
      show L2.upd H3 p (.lst [V.int (-2)]) p = some (.lst (List.map V.int (if canAsk acc day = true then _ else [-2])))
      rw [if_neg (by rw [h3]; decide), upd_same]
      rfl
    have h3 := not_f h3
    have hday : Sf42.isDay day = true := by
      unfold canAsk at h3
      rw [Bool.and_eq_true] at h3
      exact h3.2
    have k3 := k2'.trans (Keeps.of_same s3)
    obtain ⟨⟨dx', ml', da', ds', t', ev', ms, B, hpm⟩, hfair, hnamed, hgood, hnow⟩ := BS
    obtain ⟨ts, hml, hmv⟩ := B.mv
    have B3 : BookRaw CB H3 p dx' ml' da' ds' ev' ms (y.accounts.map Sf42.joined) t' := ⟨s3 _ _ B.ob, ⟨ts, s3 _ _ hml, hmv.keep fun b xs e => s3 _ _ e⟩, s3 _ _ B.ad, s3 _ _ B.sd, B.ne, B.sz⟩
    have hfp := fair_prs hfair hpm
    rw [movesD_none hnow] at hpm
    have hgc : ∀ e ∈ y.closed, GoodE e := fun e he => hgood e (List.mem_append_left _ he)
    have hgm : ∀ m ∈ ms, m.1.length = 10 ∧ m.2.1.length ≤ 255 ∧ m.2.2.1.length ≤ 8 := fun m hm => by
      rw [hpm] at hm
      obtain ⟨q, hq, rfl⟩ := List.mem_map.mp hm
      have g := good_all hgc q hq
      exact ⟨day_len g.day, g.acc.2, g.kin⟩
    have lms : ms.length ≤ 4096 := by have := hfp.len; rw [prs_len] at this; exact this
    have hsub : (ms.filter (passM acc day)).Sublist ms := List.filter_sublist
    refine ⟨_, rfl, _, rfl, _, rfl, p, b, c, dx', ml', da', ds', ev', ms, _, t', acc, day, rfl, B3, k3.seq hb, k3.seq hc, by omega, lms, fun m hm => (hgm m hm).2.1, fun H4 r4 ts4 k4 hr4 mv4 => ?_⟩
    refine ⟨r4, ts4, ms.filter (passM acc day), rfl, hr4, mv4, Nat.le_trans hsub.length_le lms, fun m hm => ?_, k4 _ _ (k3 _ _ hT rfl) rfl, fun H5 r5 ts5 hr5 mv5 => ?_⟩
    · have := (hgm m (hsub.subset hm)).1
      intro z
      rw [z] at this
      cases this
    have hperm := List.mergeSort_perm (ms.filter (passM acc day)) dayLe
    have eF : (ms.filter (passM acc day)).mergeSort dayLe = (Sf42.upTo y.closed (outerOf acc) day).map mvOf := by
      rw [hpm]
      exact sorted_upTo hday hgc
    have hok : ∀ m ∈ (ms.filter (passM acc day)).mergeSort dayLe, MvOk ((ms.filter (passM acc day)).mergeSort dayLe) m := fun m hm => by
      have hm2 := hsub.subset (List.mem_mergeSort.mp hm)
      have g := hgm m hm2
      refine ⟨Nat.le_of_eq g.1, g.2.1, g.2.2, ?_⟩
      rw [size_perm (prs_perm hperm)]
      refine Nat.lt_of_le_of_lt (size_sub hsub _) (hfp.siz _ ?_)
      exact List.mem_map.mpr ⟨(m.2.2.2, m.2.2.1), List.mem_map.mpr ⟨m, hm2, rfl⟩, rfl⟩
    have lF : ((ms.filter (passM acc day)).mergeSort dayLe).length ≤ 4096 := by
      rw [List.length_mergeSort]
      exact Nat.le_trans hsub.length_le lms
    refine ⟨_, rfl, r5, ts5, _, rfl, hr5, mv5, lF, hok, fun H6 r6 hr6 => ?_⟩
    have ltell := tellMoves_len hok _ (Nat.le_refl _)
    rw [List.take_length] at ltell
    refine ⟨_, rfl, r6, _, most, rfl, hr6, Nat.le_trans ltell (by omega), fun H7 p7 h7 => k H7 p7 ?_⟩
    show H7 p7 = some (.lst (List.map V.int (if canAsk acc day = true then fitI most (Sf42.moves (Sf42.upTo y.closed (outerOf acc) day)) else [-2])))
    rw [if_pos h3, moves_eq, ← eF]
    exact h7
end
/-! ### what is due -/
theorem moves_due (most : Int) (ts as ds : List Int) (h1 : ts.length ≤ 65536) (h2 : as.length ≤ 300) : PySf42.moves most ts as ds = movesB most (Sf42Neutral.bytesOf ts) (Sf42Neutral.bytesOf as) (Sf42Neutral.bytesOf ds) := by
  show Sf42Neutral.listOf (Sf42.spec (.moves (ts.length : Int) (as.length : Int) most (Sf42Neutral.bytesOf ts) (Sf42Neutral.bytesOf as) (Sf42Neutral.bytesOf ds))) = _
  unfold Sf42.spec Sf42.asked Sf42.journal movesB read0
  simp only
  rw [if_pos ⟨by omega, by omega⟩, which_eq as h2]
  cases Sf42.read 0 ⟨[], none⟩ (Sf42.linesOf (Sf42Neutral.bytesOf ts) []) with
  | error k => rfl
  | ok l =>
    simp only
    unfold canAsk
    cases hw : (decide (Sf42Neutral.bytesOf as = []) || isAccount (Sf42Neutral.bytesOf as)) with
    | false =>
      rw [if_neg (by decide)]
      simp only [Bool.false_and]
      rw [if_neg (by simp)]
      rfl
    | true =>
      rw [if_pos rfl]
      simp only [Bool.true_and]
      by_cases hd : Sf42.isDay (Sf42Neutral.bytesOf ds) = true
      · rw [if_pos ⟨hd, trivial⟩, if_pos hd, fitting_eq]
      · rw [if_neg (fun z => hd z.1), if_neg hd]
        rfl
end Ev

set_option Elab.async false
set_option linter.all false
set_option maxRecDepth 100000
set_option maxHeartbeats 8000000
namespace Ev
open PySem PySem.Spec PyProof.Rows L2
open Sf42 (Bytes)
section
variable {K : PySem.W.Frag} {h : Heap} {mg : Str → Option Value}
theorem def_at {x : Str} {st : Stmt} {f : Addr} {oc : Value} {od an : Option Addr} {sl : Array (Option Value)} {kV dc pm cd ct : Value} (X : K.In h) (G : h.Ns mainGlobals mg) (a : PySem.W.nsIn K mainGlobals x = some (some (.ref f)))
    (l : K.lookup f = some ⟨oc, od, .func (PySem.W.fnOf x x (defArgs st) (defBody st) (defScope st) .none kV dc pm an cd ct), sl⟩) (c : PySem.W.codeIn K cd x = true) (k : PySem.W.keepIn K (.ref f) = true) : DefAt K mg x st :=
  ⟨f, _, PySem.W.mg_of X G a, fun_mk l c k⟩
theorem mdef_at {C : Addr} {m qual : Str} {st : Stmt} {f : Addr} {oc : Value} {od an : Option Addr} {sl : Array (Option Value)} {kV dc pm cd ct : Value} (a : PySem.W.findIn K (.ref C) m = some (some (.ref f))) (i : PySem.W.isFn K (.ref f) = true)
    (l : K.lookup f = some ⟨oc, od, .func (PySem.W.fnOf m qual (defArgs st) (defBody st) (defScope st) .none kV dc pm an cd ct), sl⟩) (c : PySem.W.codeIn K cd qual = true) (k : PySem.W.keepIn K (.ref f) = true) : MDef K C m qual st :=
  ⟨f, _, ⟨a, i, k⟩, fun_mk l c k⟩
theorem int_at {x : Str} {i : Int} {t : Tok} (X : K.In h) (G : h.Ns mainGlobals mg) (a : PySem.W.nsIn K mainGlobals x = some (some (.int i t))) : IntAt mg x i := ⟨t, PySem.W.mg_of X G a⟩
theorem tup_in {x : Str} {t : Addr} {od : Option Addr} {its : Array Value} {n : Nat} {sl : Array (Option Value)} {xs : List V} (X : K.In h) (G : h.Ns mainGlobals mg) (a : PySem.W.nsIn K mainGlobals x = some (some (.ref t)))
    (l : K.lookup t = some ⟨.type "tuple", od, .seq its n, sl⟩) (hz : its.size ≤ sizeLine) (hv : Vals xs its.toList) : TupIn K mg x xs :=
  ⟨t, PySem.W.mg_of X G a, fun H => .inr ⟨_, its, n, l, rfl, rfl, hz, hv⟩⟩
end
/-- what the top has written of ints, tuples, names and defs -/
structure Tops (K : PySem.W.Frag) (mg : Str → Option Value) : Prop where
  c_TAB : IntAt mg "TAB" 9
  c_LINE_FEED : IntAt mg "LINE_FEED" 10
  c_SPACE : IntAt mg "SPACE" 32
  c_HASH : IntAt mg "HASH" 35
  c_DASH : IntAt mg "DASH" 45
  c_POINT : IntAt mg "POINT" 46
  c_ZERO : IntAt mg "ZERO" 48
  c_NINE : IntAt mg "NINE" 57
  c_COLON : IntAt mg "COLON" 58
  c_CAPITAL_A : IntAt mg "CAPITAL_A" 65
  c_CAPITAL_Z : IntAt mg "CAPITAL_Z" 90
  c_UNDERSCORE : IntAt mg "UNDERSCORE" 95
  c_SMALL_A : IntAt mg "SMALL_A" 97
  c_SMALL_Z : IntAt mg "SMALL_Z" 122
  c_DAY_BYTES : IntAt mg "DAY_BYTES" 10
  c_FIRST_YEAR : IntAt mg "FIRST_YEAR" 1583
  c_FEBRUARY : IntAt mg "FEBRUARY" 2
  c_MOST_NAMES : IntAt mg "MOST_NAMES" 8
  c_MOST_NAME_SIGNS : IntAt mg "MOST_NAME_SIGNS" 31
  c_MOST_WHOLE_DIGITS : IntAt mg "MOST_WHOLE_DIGITS" 14
  c_MOST_REST_DIGITS : IntAt mg "MOST_REST_DIGITS" 4
  c_MOST_KIND_SIGNS : IntAt mg "MOST_KIND_SIGNS" 8
  c_LEAST_IN_ENTRY : IntAt mg "LEAST_IN_ENTRY" 2
  c_MOST_IN_ENTRY : IntAt mg "MOST_IN_ENTRY" 64
  c_MOST_MOVEMENTS : IntAt mg "MOST_MOVEMENTS" 4096
  c_MOST_ACCOUNTS : IntAt mg "MOST_ACCOUNTS" 256
  c_MOST_KINDS : IntAt mg "MOST_KINDS" 16
  c_SIZE_BOUND : IntAt mg "SIZE_BOUND" 1000000000000000000
  c_ONE : IntAt mg "ONE" 10000
  c_MONTH_DAYS : TupIn K mg "MONTH_DAYS" vMonths
  n_len : mg "len" = none
  n_all : mg "all" = none
  n_tuple : mg "tuple" = none
  n_abs : mg "abs" = none
  n_enumerate : mg "enumerate" = none
  n_str : mg "str" = none
  n_ord : mg "ord" = none
  n_sorted : mg "sorted" = none
  n_max : mg "max" = none
  d_parts_of : DefAt K mg "parts_of" sParts
  d_lines_of : DefAt K mg "lines_of" sLines
  d_without_remark : DefAt K mg "without_remark" sRemark
  d_is_blank : DefAt K mg "is_blank" sIsBlank
  d_words_of : DefAt K mg "words_of" sWords
  d_is_digit : DefAt K mg "is_digit" sIsDigit
  d_is_capital : DefAt K mg "is_capital" sIsCapital
  d_is_small : DefAt K mg "is_small" sIsSmall
  d_are_digits : DefAt K mg "are_digits" sAreDigits
  d_number_of : DefAt K mg "number_of" sNumber
  d_is_leap : DefAt K mg "is_leap" sIsLeap
  d_days_in : DefAt K mg "days_in" sDaysIn
  d_is_day : DefAt K mg "is_day" sIsDay
  d_begins_entry : DefAt K mg "begins_entry" sBegins
  d_is_name_sign : DefAt K mg "is_name_sign" sIsNameSign
  d_is_name : DefAt K mg "is_name" sIsName
  d_is_account : DefAt K mg "is_account" sIsAccount
  d_is_kind : DefAt K mg "is_kind" sIsKind
  d_is_whole : DefAt K mg "is_whole" sIsWhole
  d_is_rest : DefAt K mg "is_rest" sIsRest
  d_is_minus : DefAt K mg "is_minus" sIsMinus
  d_amount_parts : DefAt K mg "amount_parts" sAmountParts
  d_is_amount : DefAt K mg "is_amount" sIsAmount
  d_amount_of : DefAt K mg "amount_of" sAmountOf
  d_error_line : DefAt K mg "error_line" sErrorLine
  d_line_of : DefAt K mg "line_of" sLineOf
  d_is_within : DefAt K mg "is_within" sIsWithin
  d_told_amount : DefAt K mg "told_amount" sTold
  d_can_be_asked : DefAt K mg "can_be_asked" sCanAsk
  d_movements_within : DefAt K mg "movements_within" sWithin
  d_in_order_of_days : DefAt K mg "in_order_of_days" sInOrder
  d_told_movements : DefAt K mg "told_movements" sToldMoves
  d_answer_of : DefAt K mg "answer_of" sAnswer
  d_moves : DefAt K mg "moves" sMoves
/-- what the top has written of the class Entry -/
structure TopsE (K : PySem.W.Frag) (mg : Str → Option Value) (CE : Addr) : Prop where
  g : mg "Entry" = some (.ref CE)
  t : TxE K CE
  i : ∃ fI fdI, Mk K CE fI ∧ Fun K "__init__" "Entry.__init__" sEntryInit fI fdI
  m_add_amount : MDef K CE "add_amount" "Entry.add_amount" sAddAmount
  m_wanting : MDef K CE "wanting" "Entry.wanting" sWanting
theorem topsE {K : PySem.W.Frag} {h : Heap} {mg : Str → Option Value} {C fI : Addr} {oc : Value} {od an : Option Addr} {sl : Array (Option Value)} {kV dc pm cd ct : Value} (X : K.In h) (G : h.Ns mainGlobals mg)
    (a : PySem.W.nsIn K mainGlobals "Entry" = some (some (.ref C)))
    (pg : PySem.W.plainGet K C Str.empty = true) (hd : PySem.W.hasDictIn K C = true) (po : PySem.W.plainOver K C = true) (sa : PySem.W.findIn K (.ref C) "__setattr__" = some (some (.builtin "object.__setattr__"))) (mk : PySem.W.makesIn K C = true) (kc : PySem.W.keepIn K (.ref C) = true)
    (nD : PySem.W.findIn K (.ref C) "day" = some none)
    (nW : PySem.W.findIn K (.ref C) "written" = some none)
    (nO : PySem.W.findIn K (.ref C) "lacking" = some none)
    (nP : PySem.W.findIn K (.ref C) "lacking_place" = some none)
    (nS : PySem.W.findIn K (.ref C) "sums" = some none)
    (ai : PySem.W.findIn K (.ref C) "__init__" = some (some (.ref fI))) (ii : PySem.W.isFn K (.ref fI) = true) (li : K.lookup fI = some ⟨oc, od, .func (PySem.W.fnOf "__init__" "Entry.__init__" (defArgs sEntryInit) (defBody sEntryInit) (defScope sEntryInit) .none kV dc pm an cd ct), sl⟩) (ci : PySem.W.codeIn K cd "Entry.__init__" = true) (ki : PySem.W.keepIn K (.ref fI) = true)
    (m_add_amount : MDef K C "add_amount" "Entry.add_amount" sAddAmount)
    (m_wanting : MDef K C "wanting" "Entry.wanting" sWanting)
    : TopsE K mg C :=
  ⟨PySem.W.mg_of X G a, ⟨⟨pg, hd, po, sa⟩, nD, nW, nO, nP, nS⟩, ⟨fI, _, ⟨mk, ai, ii, kc⟩, fun_mk li ci ki⟩, m_add_amount, m_wanting⟩
/-- what the top has written of the class Book -/
structure TopsB (K : PySem.W.Frag) (mg : Str → Option Value) (CB : Addr) : Prop where
  g : mg "Book" = some (.ref CB)
  t : TxB K CB
  i : ∃ fI fdI, Mk K CB fI ∧ Fun K "__init__" "Book.__init__" sBookInit fI fdI
  m_take_line : MDef K CB "take_line" "Book.take_line" sTakeLine
  m_begin_entry : MDef K CB "begin_entry" "Book.begin_entry" sBeginEntry
  m_take_movement : MDef K CB "take_movement" "Book.take_movement" sTakeMovement
  m_take_lacking : MDef K CB "take_lacking" "Book.take_lacking" sTakeLacking
  m_take_amount : MDef K CB "take_amount" "Book.take_amount" sTakeAmount
  m_add_movement : MDef K CB "add_movement" "Book.add_movement" sCount
  m_end_entry : MDef K CB "end_entry" "Book.end_entry" sEndEntry
  m_add_wanting : MDef K CB "add_wanting" "Book.add_wanting" sAddWanting
theorem topsB {K : PySem.W.Frag} {h : Heap} {mg : Str → Option Value} {C fI : Addr} {oc : Value} {od an : Option Addr} {sl : Array (Option Value)} {kV dc pm cd ct : Value} (X : K.In h) (G : h.Ns mainGlobals mg)
    (a : PySem.W.nsIn K mainGlobals "Book" = some (some (.ref C)))
    (pg : PySem.W.plainGet K C Str.empty = true) (hd : PySem.W.hasDictIn K C = true) (po : PySem.W.plainOver K C = true) (sa : PySem.W.findIn K (.ref C) "__setattr__" = some (some (.builtin "object.__setattr__"))) (mk : PySem.W.makesIn K C = true) (kc : PySem.W.keepIn K (.ref C) = true)
    (nE : PySem.W.findIn K (.ref C) "entry" = some none)
    (nM : PySem.W.findIn K (.ref C) "movements" = some none)
    (nA : PySem.W.findIn K (.ref C) "accounts" = some none)
    (nS : PySem.W.findIn K (.ref C) "sizes" = some none)
    (ai : PySem.W.findIn K (.ref C) "__init__" = some (some (.ref fI))) (ii : PySem.W.isFn K (.ref fI) = true) (li : K.lookup fI = some ⟨oc, od, .func (PySem.W.fnOf "__init__" "Book.__init__" (defArgs sBookInit) (defBody sBookInit) (defScope sBookInit) .none kV dc pm an cd ct), sl⟩) (ci : PySem.W.codeIn K cd "Book.__init__" = true) (ki : PySem.W.keepIn K (.ref fI) = true)
    (m_take_line : MDef K C "take_line" "Book.take_line" sTakeLine)
    (m_begin_entry : MDef K C "begin_entry" "Book.begin_entry" sBeginEntry)
    (m_take_movement : MDef K C "take_movement" "Book.take_movement" sTakeMovement)
    (m_take_lacking : MDef K C "take_lacking" "Book.take_lacking" sTakeLacking)
    (m_take_amount : MDef K C "take_amount" "Book.take_amount" sTakeAmount)
    (m_add_movement : MDef K C "add_movement" "Book.add_movement" sCount)
    (m_end_entry : MDef K C "end_entry" "Book.end_entry" sEndEntry)
    (m_add_wanting : MDef K C "add_wanting" "Book.add_wanting" sAddWanting)
    : TopsB K mg C :=
  ⟨PySem.W.mg_of X G a, ⟨⟨pg, hd, po, sa⟩, nE, nM, nA, nS⟩, ⟨fI, _, ⟨mk, ai, ii, kc⟩, fun_mk li ci ki⟩, m_take_line, m_begin_entry, m_take_movement, m_take_lacking, m_take_amount, m_add_movement, m_end_entry, m_add_wanting⟩
theorem all_ok {P : Program} {w : World} {K : PySem.W.Frag} {mg : Str → Option Value} {fa CE CB cd tb : Addr} (hfa : mg "moves" = some (.ref fa)) (T : Tops K mg) (DC : DefC K mg "in_order_of_days" sInOrder cd) (TE : TopsE K mg CE) (TB : TopsB K mg CB) :
    ∃ fd : FuncData, (∀ (s : Shared) (us : List Value), us.length = (["most", "text", "account", "day"] : List Str).length → BindsTo s fd ⟨us, []⟩ ((["most", "text", "account", "day"] : List Str).zip us)) ∧ ∀ base : Heap, K.In base → base.Ns mainGlobals mg → LamX.TabB base mg cd tb → FnOk P w K mg base CX0 9 fa fd ["most", "text", "account", "day"] (spMoves tb K) := by
  obtain ⟨f, fd, hf, F⟩ := T.d_moves.ex
  have e := hfa.symm.trans hf
  cases e
  refine ⟨fd, ?_, fun base _ _ hTB => ?_⟩
  · obtain ⟨oc, od, kV, doc, pm, an, cdv, ct, osl, rfl, lk, hcd⟩ := F.ex
    exact fun s us hu => match us, hu with | [_, _, _, _], _ => .of_eq rfl
  obtain ⟨fE, fdE, ME, FE⟩ := TE.i
  obtain ⟨fB, fdB, MB, FB⟩ := TB.i
  have bE := FE.binds (ps := ["self", "day"]) fun _ _ _ _ _ _ us hl => match us, hl with | [_, _], _ => rfl
  have bB := FB.binds (ps := ["self"]) fun _ _ _ _ _ _ us hl => match us, hl with | [_], _ => rfl
  have parts : Fn P w K mg base "parts_of" ["row", "mark"] 1 (spParts K) := fn_parts_of T.d_parts_of
  have lines : Fn P w K mg base "lines_of" ["text"] 2 (spRows K fun b => Sf42.linesOf b []) := fn_lines_of T.d_lines_of T.n_len T.c_LINE_FEED parts
  have remark : Fn P w K mg base "without_remark" ["line"] 2 (spRemark K) := fn_without_remark T.d_without_remark T.c_HASH parts
  have blank : Fn P w K mg base "is_blank" ["byte"] 1 (spByte Sf42.blank) := fn_is_blank T.d_is_blank T.c_SPACE T.c_TAB
  have words : Fn P w K mg base "words_of" ["line"] 2 (spRows K Sf42.words) := fn_words_of T.d_words_of T.n_len T.c_TAB T.c_SPACE parts
  have digit : Fn P w K mg base "is_digit" ["byte"] 1 (spByte Sf42.digit) := fn_is_digit T.d_is_digit T.c_ZERO T.c_NINE
  have capital : Fn P w K mg base "is_capital" ["byte"] 1 (spByte Sf42.capital) := fn_is_capital T.d_is_capital T.c_CAPITAL_A T.c_CAPITAL_Z
  have small : Fn P w K mg base "is_small" ["byte"] 1 (spByte Sf42.small) := fn_is_small T.d_is_small T.c_SMALL_A T.c_SMALL_Z
  have digits : Fn P w K mg base "are_digits" ["row"] 2 (spRow K fun b => b.all Sf42.digit) := fn_are_digits T.d_are_digits T.n_all digit
  have number : Fn P w K mg base "number_of" ["digits"] 1 (spNumber K) := fn_number_of T.d_number_of T.c_ZERO
  have leap : Fn P w K mg base "is_leap" ["year"] 1 spLeap := fn_is_leap T.d_is_leap
  have days : Fn P w K mg base "days_in" ["year", "month"] 2 spDays := fn_days_in T.d_days_in T.c_FEBRUARY T.c_MONTH_DAYS leap
  have isday : Fn P w K mg base "is_day" ["row"] 3 (spRow K Sf42.isDay) := fn_is_day T.d_is_day T.n_len T.c_DAY_BYTES T.c_DASH T.c_FIRST_YEAR digits number days
  have beg : Fn P w K mg base "begins_entry" ["line"] 4 (spRow K begins) := fn_begins_entry T.d_begins_entry T.n_len T.c_DAY_BYTES isday blank
  have sign : Fn P w K mg base "is_name_sign" ["byte"] 2 (spByte nameSign) := fn_is_name_sign T.d_is_name_sign T.c_UNDERSCORE T.c_DASH small digit
  have name : Fn P w K mg base "is_name" ["row"] 3 (spRow K isName) := fn_is_name T.d_is_name T.n_len T.n_all T.c_MOST_NAME_SIGNS small sign
  have account : Fn P w K mg base "is_account" ["row"] 4 (spRow K isAccount) := fn_is_account T.d_is_account T.n_len T.n_all T.c_COLON T.c_MOST_NAMES parts name
  have kind : Fn P w K mg base "is_kind" ["row"] 2 (spRow K Sf42.isKind) := fn_is_kind T.d_is_kind T.n_len T.n_all T.c_MOST_KIND_SIGNS capital
  have whole : Fn P w K mg base "is_whole" ["digits"] 3 (spRow K isWhole) := fn_is_whole T.d_is_whole T.n_len T.c_MOST_WHOLE_DIGITS T.c_ZERO digits
  have rest : Fn P w K mg base "is_rest" ["digits"] 3 (spRow K isRest) := fn_is_rest T.d_is_rest T.n_len T.c_MOST_REST_DIGITS digits
  have minus : Fn P w K mg base "is_minus" ["row"] 1 (spRow K isMinus) := fn_is_minus T.d_is_minus T.c_DASH
  have aparts : Fn P w K mg base "amount_parts" ["row"] 2 (spRows K amountParts) := fn_amount_parts T.d_amount_parts T.c_POINT parts minus
  have isam : Fn P w K mg base "is_amount" ["row"] 4 (spRow K isAmount) := fn_is_amount T.d_is_amount T.n_len aparts whole rest
  have amof : Fn P w K mg base "amount_of" ["row"] 3 (spAmountOf K) := fn_amount_of T.d_amount_of T.n_len T.c_ZERO T.c_MOST_REST_DIGITS aparts number minus
  have addam : MFn P w K mg base CE "add_amount" ["self", "kind", "amount"] 1 (spAddAmount CE) := fn_add_amount TE.m_add_amount TE.t
  have want : MFn P w K mg base CE "wanting" ["self"] 1 (spWanting CE) := fn_wanting TE.m_wanting TE.t
  have count : MFn P w K mg base CB "add_movement" ["self", "place", "account", "kind", "amount"] 1 (spCount CB CE) := fn_count TB.m_add_movement TB.t TE.t T.n_len T.n_abs T.c_MOST_MOVEMENTS T.c_MOST_KINDS T.c_SIZE_BOUND
  have tamount : MFn P w K mg base CB "take_amount" ["self", "account", "amount_word", "kind_word"] 5 (spTakeAmount K CB CE) := fn_take_amount TB.m_take_amount TB.t TE.t T.n_tuple T.n_len isam kind amof addam count
  have tlack : MFn P w K mg base CB "take_lacking" ["self", "account"] 1 (spTakeLacking CB CE) := fn_take_lacking TB.m_take_lacking TB.t TE.t T.n_len
  have tmove : MFn P w K mg base CB "take_movement" ["self", "words"] 6 (spTakeMovement CB CE) := fn_take_movement TB.m_take_movement TB.t TE.t T.n_tuple T.n_len T.c_MOST_ACCOUNTS T.c_MOST_IN_ENTRY account tamount tlack
  have bentry : MFn P w K mg base CB "begin_entry" ["self", "line"] 5 (spBeginEntry K CB CE) := fn_begin_entry TB.m_begin_entry TB.t TE.t T.n_tuple T.c_DAY_BYTES TE.g ME (ok_entry_init FE TE.t) bE beg
  have awant : MFn P w K mg base CB "add_wanting" ["self", "entry"] 2 (spAddWanting CB CE) := fn_add_wanting TB.m_add_wanting TB.t TE.t want count
  have eentry : MFn P w K mg base CB "end_entry" ["self"] 3 (spEndEntry CB CE) := fn_end_entry TB.m_end_entry TB.t TE.t T.n_len T.c_LEAST_IN_ENTRY want awant
  have tline : MFn P w K mg base CB "take_line" ["self", "line"] 7 (spTakeLine K CB CE) := fn_take_line TB.m_take_line TB.t T.n_len remark words blank tmove eentry bentry
  have eline : Fn P w K mg base "error_line" ["book", "text"] 8 (spErrorLine K CB CE) := fn_error_line T.d_error_line TB.t T.n_len T.n_enumerate lines tline eentry
  have lineof : Fn P w K mg base "line_of" ["words"] 1 (spLine K) := fn_line_of T.d_line_of T.c_SPACE T.c_LINE_FEED
  have within : Fn P w K mg base "is_within" ["account", "outer"] 1 spWithin := fn_is_within T.d_is_within T.n_len T.c_COLON
  have told : Fn P w K mg base "told_amount" ["amount"] 1 spTold := fn_told_amount T.d_told_amount T.n_abs T.n_str T.n_len T.n_ord T.c_ONE T.c_MOST_REST_DIGITS
  have ask : Fn P w K mg base "can_be_asked" ["account", "day"] 5 (spAsk K) := fn_can_be_asked T.d_can_be_asked T.n_len account isday
  have mvs : Fn P w K mg base "movements_within" ["book", "account", "day"] 2 (spMovs K CB) := fn_movements_within T.d_movements_within TB.t T.n_tuple within
  have order : Fn P w K mg base "in_order_of_days" ["movements"] 2 (spInOrder tb) := fn_in_order DC T.n_sorted hTB
  have tmoves : Fn P w K mg base "told_movements" ["movements"] 2 (spToldMoves K) := fn_told_movements T.d_told_movements lineof told
  have ans : Fn P w K mg base "answer_of" ["told", "most"] 1 (spAnswer K) := fn_answer_of T.d_answer_of T.n_len T.n_max
  exact ok_moves F TB.g MB (ok_book_init FB TB.t) bB eline ask mvs order tmoves ans
end Ev
open PySem PySem.W PyProof.Rows
set_option maxRecDepth 100000 in
set_option maxHeartbeats 0 in
theorem PySem.Challenge.cw_evenbook_s03_moves_holds : PySem.Challenge.rw_evenbook_s03_moves.Holds := by
  w_on; k_headS; (case hw => exact ⟨[.int 0, .list [], .list [], .list [.int 0, .int 0, .int 0, .int 0, .int 0, .int 0, .int 0, .int 0, .int 0, .int 0]], by decide +kernel, by decide +kernel⟩)
  k_fillS
  refine Ev.walk_tab (r := PySem.Challenge.rw_evenbook_s03_moves) (k := 9) (ps := ["most", "text", "account", "day"]) (sp := Ev.spMoves) (x := PySem.Str.ofString "in_order_of_days") (c := 327) (T := 323) (by decide +kernel) rfl ⟨rfl, by decide, by decide⟩ (fun w h Y => PySem.W.kIn_of Y) rfl ?za ?zn ?F ?S
  case za => intro w; kernel_rfl
  case zn => intro w; kernel_rfl
  case F =>
    intro w mg fa h Y KX G hmg
    refine' Ev.all_ok hmg (Ev.Tops.mk
      (Ev.int_at KX G ?c0)
      (Ev.int_at KX G ?c1)
      (Ev.int_at KX G ?c2)
      (Ev.int_at KX G ?c3)
      (Ev.int_at KX G ?c4)
      (Ev.int_at KX G ?c5)
      (Ev.int_at KX G ?c6)
      (Ev.int_at KX G ?c7)
      (Ev.int_at KX G ?c8)
      (Ev.int_at KX G ?c9)
      (Ev.int_at KX G ?c10)
      (Ev.int_at KX G ?c11)
      (Ev.int_at KX G ?c12)
      (Ev.int_at KX G ?c13)
      (Ev.int_at KX G ?c14)
      (Ev.int_at KX G ?c15)
      (Ev.int_at KX G ?c16)
      (Ev.int_at KX G ?c17)
      (Ev.int_at KX G ?c18)
      (Ev.int_at KX G ?c19)
      (Ev.int_at KX G ?c20)
      (Ev.int_at KX G ?c21)
      (Ev.int_at KX G ?c22)
      (Ev.int_at KX G ?c23)
      (Ev.int_at KX G ?c24)
      (Ev.int_at KX G ?c25)
      (Ev.int_at KX G ?c26)
      (Ev.int_at KX G ?c27)
      (Ev.int_at KX G ?c28)
      (Ev.tup_in KX G ?ta ?tl ?tz ?tv)
      (PySem.W.mg_none_of KX G ?n0)
      (PySem.W.mg_none_of KX G ?n1)
      (PySem.W.mg_none_of KX G ?n2)
      (PySem.W.mg_none_of KX G ?n3)
      (PySem.W.mg_none_of KX G ?n4)
      (PySem.W.mg_none_of KX G ?n5)
      (PySem.W.mg_none_of KX G ?n6)
      (PySem.W.mg_none_of KX G ?n7)
      (PySem.W.mg_none_of KX G ?n8)
      (Ev.def_at KX G ?a0 ?l0 ?e0 ?k0)
      (Ev.def_at KX G ?a1 ?l1 ?e1 ?k1)
      (Ev.def_at KX G ?a2 ?l2 ?e2 ?k2)
      (Ev.def_at KX G ?a3 ?l3 ?e3 ?k3)
      (Ev.def_at KX G ?a4 ?l4 ?e4 ?k4)
      (Ev.def_at KX G ?a5 ?l5 ?e5 ?k5)
      (Ev.def_at KX G ?a6 ?l6 ?e6 ?k6)
      (Ev.def_at KX G ?a7 ?l7 ?e7 ?k7)
      (Ev.def_at KX G ?a8 ?l8 ?e8 ?k8)
      (Ev.def_at KX G ?a9 ?l9 ?e9 ?k9)
      (Ev.def_at KX G ?a10 ?l10 ?e10 ?k10)
      (Ev.def_at KX G ?a11 ?l11 ?e11 ?k11)
      (Ev.def_at KX G ?a12 ?l12 ?e12 ?k12)
      (Ev.def_at KX G ?a13 ?l13 ?e13 ?k13)
      (Ev.def_at KX G ?a14 ?l14 ?e14 ?k14)
      (Ev.def_at KX G ?a15 ?l15 ?e15 ?k15)
      (Ev.def_at KX G ?a16 ?l16 ?e16 ?k16)
      (Ev.def_at KX G ?a17 ?l17 ?e17 ?k17)
      (Ev.def_at KX G ?a18 ?l18 ?e18 ?k18)
      (Ev.def_at KX G ?a19 ?l19 ?e19 ?k19)
      (Ev.def_at KX G ?a20 ?l20 ?e20 ?k20)
      (Ev.def_at KX G ?a21 ?l21 ?e21 ?k21)
      (Ev.def_at KX G ?a22 ?l22 ?e22 ?k22)
      (Ev.def_at KX G ?a23 ?l23 ?e23 ?k23)
      (Ev.def_at KX G ?a24 ?l24 ?e24 ?k24)
      (Ev.def_at KX G ?a25 ?l25 ?e25 ?k25)
      (Ev.def_at KX G ?a26 ?l26 ?e26 ?k26)
      (Ev.def_at KX G ?a27 ?l27 ?e27 ?k27)
      (Ev.def_at KX G ?a28 ?l28 ?e28 ?k28)
      (Ev.def_at KX G ?a29 ?l29 ?e29 ?k29)
      (Ev.def_at KX G ?a30 ?l30 ?e30 ?k30)
      (Ev.def_at KX G ?a31 ?l31 ?e31 ?k31)
      (Ev.def_at KX G ?a32 ?l32 ?e32 ?k32)
      (Ev.def_at KX G ?a33 ?l33 ?e33 ?k33)) ?DC ?TE ?TB
    (case c0 => k_is)
    (case c1 => k_is)
    (case c2 => k_is)
    (case c3 => k_is)
    (case c4 => k_is)
    (case c5 => k_is)
    (case c6 => k_is)
    (case c7 => k_is)
    (case c8 => k_is)
    (case c9 => k_is)
    (case c10 => k_is)
    (case c11 => k_is)
    (case c12 => k_is)
    (case c13 => k_is)
    (case c14 => k_is)
    (case c15 => k_is)
    (case c16 => k_is)
    (case c17 => k_is)
    (case c18 => k_is)
    (case c19 => k_is)
    (case c20 => k_is)
    (case c21 => k_is)
    (case c22 => k_is)
    (case c23 => k_is)
    (case c24 => k_is)
    (case c25 => k_is)
    (case c26 => k_is)
    (case c27 => k_is)
    (case c28 => k_is)
    (case ta => k_is); (case tl => k_is)
    (case tz => decide +kernel)
    (case tv => exact .cons ⟨_, rfl⟩ (.cons ⟨_, rfl⟩ (.cons ⟨_, rfl⟩ (.cons ⟨_, rfl⟩ (.cons ⟨_, rfl⟩ (.cons ⟨_, rfl⟩ (.cons ⟨_, rfl⟩ (.cons ⟨_, rfl⟩ (.cons ⟨_, rfl⟩ (.cons ⟨_, rfl⟩ (.cons ⟨_, rfl⟩ (.cons ⟨_, rfl⟩ .nil))))))))))))
    (case n0 => k_is)
    (case n1 => k_is)
    (case n2 => k_is)
    (case n3 => k_is)
    (case n4 => k_is)
    (case n5 => k_is)
    (case n6 => k_is)
    (case n7 => k_is)
    (case n8 => k_is)
    (case a0 => k_is); (case l0 => k_is); (case e0 => k_is); (case k0 => k_is)
    (case a1 => k_is); (case l1 => k_is); (case e1 => k_is); (case k1 => k_is)
    (case a2 => k_is); (case l2 => k_is); (case e2 => k_is); (case k2 => k_is)
    (case a3 => k_is); (case l3 => k_is); (case e3 => k_is); (case k3 => k_is)
    (case a4 => k_is); (case l4 => k_is); (case e4 => k_is); (case k4 => k_is)
    (case a5 => k_is); (case l5 => k_is); (case e5 => k_is); (case k5 => k_is)
    (case a6 => k_is); (case l6 => k_is); (case e6 => k_is); (case k6 => k_is)
    (case a7 => k_is); (case l7 => k_is); (case e7 => k_is); (case k7 => k_is)
    (case a8 => k_is); (case l8 => k_is); (case e8 => k_is); (case k8 => k_is)
    (case a9 => k_is); (case l9 => k_is); (case e9 => k_is); (case k9 => k_is)
    (case a10 => k_is); (case l10 => k_is); (case e10 => k_is); (case k10 => k_is)
    (case a11 => k_is); (case l11 => k_is); (case e11 => k_is); (case k11 => k_is)
    (case a12 => k_is); (case l12 => k_is); (case e12 => k_is); (case k12 => k_is)
    (case a13 => k_is); (case l13 => k_is); (case e13 => k_is); (case k13 => k_is)
    (case a14 => k_is); (case l14 => k_is); (case e14 => k_is); (case k14 => k_is)
    (case a15 => k_is); (case l15 => k_is); (case e15 => k_is); (case k15 => k_is)
    (case a16 => k_is); (case l16 => k_is); (case e16 => k_is); (case k16 => k_is)
    (case a17 => k_is); (case l17 => k_is); (case e17 => k_is); (case k17 => k_is)
    (case a18 => k_is); (case l18 => k_is); (case e18 => k_is); (case k18 => k_is)
    (case a19 => k_is); (case l19 => k_is); (case e19 => k_is); (case k19 => k_is)
    (case a20 => k_is); (case l20 => k_is); (case e20 => k_is); (case k20 => k_is)
    (case a21 => k_is); (case l21 => k_is); (case e21 => k_is); (case k21 => k_is)
    (case a22 => k_is); (case l22 => k_is); (case e22 => k_is); (case k22 => k_is)
    (case a23 => k_is); (case l23 => k_is); (case e23 => k_is); (case k23 => k_is)
    (case a24 => k_is); (case l24 => k_is); (case e24 => k_is); (case k24 => k_is)
    (case a25 => k_is); (case l25 => k_is); (case e25 => k_is); (case k25 => k_is)
    (case a26 => k_is); (case l26 => k_is); (case e26 => k_is); (case k26 => k_is)
    (case a27 => k_is); (case l27 => k_is); (case e27 => k_is); (case k27 => k_is)
    (case a28 => k_is); (case l28 => k_is); (case e28 => k_is); (case k28 => k_is)
    (case a29 => k_is); (case l29 => k_is); (case e29 => k_is); (case k29 => k_is)
    (case a30 => k_is); (case l30 => k_is); (case e30 => k_is); (case k30 => k_is)
    (case a31 => k_is); (case l31 => k_is); (case e31 => k_is); (case k31 => k_is)
    (case a32 => k_is); (case l32 => k_is); (case e32 => k_is); (case k32 => k_is)
    (case a33 => k_is); (case l33 => k_is); (case e33 => k_is); (case k33 => k_is)
    (case DC =>
      refine' Ev.defC_of (T := 323) KX G (Ev.def_at KX G ?a ?l ?e ?k) ?t
      (case a => k_is); (case l => k_is); (case e => k_is); (case k => k_is); (case t => kernel_rfl))
    case TE =>
      refine' Ev.topsE KX G ?a ?pg ?hd ?po ?sa ?mk ?kc ?nD ?nW ?nO ?nP ?nS ?ai ?ii ?li ?ci ?ki (Ev.mdef_at ?a0 ?i0 ?l0 ?c0 ?k0) (Ev.mdef_at ?a1 ?i1 ?l1 ?c1 ?k1)
      (case a => k_is); (case pg => k_is); (case hd => k_is); (case po => k_is); (case sa => k_is); (case mk => k_is); (case kc => k_is); (case nD => k_is); (case nW => k_is); (case nO => k_is); (case nP => k_is); (case nS => k_is); (case ai => k_is); (case ii => k_is); (case li => k_is); (case ci => k_is); (case ki => k_is)
      (case a0 => k_is); (case i0 => k_is); (case l0 => k_is); (case c0 => k_is); (case k0 => k_is)
      (case a1 => k_is); (case i1 => k_is); (case l1 => k_is); (case c1 => k_is); (case k1 => k_is)
    case TB =>
      refine' Ev.topsB KX G ?a ?pg ?hd ?po ?sa ?mk ?kc ?nE ?nM ?nA ?nS ?ai ?ii ?li ?ci ?ki (Ev.mdef_at ?a0 ?i0 ?l0 ?c0 ?k0) (Ev.mdef_at ?a1 ?i1 ?l1 ?c1 ?k1) (Ev.mdef_at ?a2 ?i2 ?l2 ?c2 ?k2) (Ev.mdef_at ?a3 ?i3 ?l3 ?c3 ?k3) (Ev.mdef_at ?a4 ?i4 ?l4 ?c4 ?k4) (Ev.mdef_at ?a5 ?i5 ?l5 ?c5 ?k5) (Ev.mdef_at ?a6 ?i6 ?l6 ?c6 ?k6) (Ev.mdef_at ?a7 ?i7 ?l7 ?c7 ?k7)
      (case a => k_is); (case pg => k_is); (case hd => k_is); (case po => k_is); (case sa => k_is); (case mk => k_is); (case kc => k_is); (case nE => k_is); (case nM => k_is); (case nA => k_is); (case nS => k_is); (case ai => k_is); (case ii => k_is); (case li => k_is); (case ci => k_is); (case ki => k_is)
      (case a0 => k_is); (case i0 => k_is); (case l0 => k_is); (case c0 => k_is); (case k0 => k_is)
      (case a1 => k_is); (case i1 => k_is); (case l1 => k_is); (case c1 => k_is); (case k1 => k_is)
      (case a2 => k_is); (case i2 => k_is); (case l2 => k_is); (case c2 => k_is); (case k2 => k_is)
      (case a3 => k_is); (case i3 => k_is); (case l3 => k_is); (case c3 => k_is); (case k3 => k_is)
      (case a4 => k_is); (case i4 => k_is); (case l4 => k_is); (case c4 => k_is); (case k4 => k_is)
      (case a5 => k_is); (case i5 => k_is); (case l5 => k_is); (case c5 => k_is); (case k5 => k_is)
      (case a6 => k_is); (case i6 => k_is); (case l6 => k_is); (case c6 => k_is); (case k6 => k_is)
      (case a7 => k_is); (case i7 => k_is); (case l7 => k_is); (case c7 => k_is); (case k7 => k_is)
  case S =>
    intro K H xs a hO hwi hask hx
    obtain ⟨most, ts, as, ds, u⟩ := a
    cases hx with
    | cons h2 hx =>
    cases hx with
    | cons h3 hx =>
    cases hx with
    | cons h4 hx =>
    cases hx with
    | cons h5 hx =>
    cases hx
    cases h2
    cases h3 with
    | lst hs3 ha3 =>
    cases h4 with
    | lst hs4 ha4 =>
    cases h5 with
    | lst hs5 ha5 =>
      have e3 := L2.ints_dw ts _ ha3
      have e4 := L2.ints_dw as _ ha4
      have e5 := L2.ints_dw ds _ ha5
      subst e3 e4 e5
      have q : (Codec.inInt (-2147483648) 2147483647 most && ((Codec.inLen 0 65536 ts && ts.all (Codec.inInt 0 255)) && ((Codec.inLen 0 300 as && as.all (Codec.inInt 0 255)) && ((Codec.inLen 10 10 ds && ds.all (Codec.inInt 0 255)) && true)))) = true := hwi
      simp only [Bool.and_eq_true] at q
      obtain ⟨_, ⟨q1, q2⟩, ⟨q3, q4⟩, ⟨q5, q6⟩, _⟩ := q
      have l1 : ts.length ≤ 65536 := (Codec.inNat_iff.mp q1).2
      have l2 : as.length ≤ 300 := (Codec.inNat_iff.mp q3).2
      have l3 : ds.length = 10 := Nat.le_antisymm (Codec.inNat_iff.mp q5).2 (Codec.inNat_iff.mp q5).1
      have v1 := Ev.vb_bytes ts fun z hz => Codec.inInt_iff.mp (List.all_eq_true.mp q2 z hz)
      have v2 := Ev.vb_bytes as fun z hz => Codec.inInt_iff.mp (List.all_eq_true.mp q4 z hz)
      have v3 := Ev.vb_bytes ds fun z hz => Codec.inInt_iff.mp (List.all_eq_true.mp q6 z hz)
      refine ⟨_, _, _, most, Sf42Neutral.bytesOf ts, Sf42Neutral.bytesOf as, Sf42Neutral.bytesOf ds, rfl, ?_, ?_, ?_, ?_, ?_, ?_, hO, fun H' p hp => ?_⟩
      · show L2.SqL K H _ (Ev.vb (Sf42Neutral.bytesOf ts))
        rw [v1]
        exact hs3
      · show L2.SqL K H _ (Ev.vb (Sf42Neutral.bytesOf as))
        rw [v2]
        exact hs4
      · show L2.SqL K H _ (Ev.vb (Sf42Neutral.bytesOf ds))
        rw [v3]
        exact hs5
      · rw [Ev.bytes_len]; exact l1
      · rw [Ev.bytes_len]; exact l2
      · rw [Ev.bytes_len]; exact l3
      · rw [← Ev.moves_due most ts as ds l1 l2] at hp
        exact .lst (L2.SqL.of hp) (L2.dw_ints _)
#print axioms PySem.Challenge.cw_evenbook_s03_moves_holds
