import PyProof.Rows.All
import Wide.All
import OpenK.AllK
import Wide.FinOn
import PyProof.EqAt
import PyProof.EqKinds
import PyProof.TupleCall
import KE.BitLaws
import Open.SpecLaws
import KE.OsHead
import KE.OsGo
import PySem.Challenge.RW_knotloom_s01_answers
set_option Elab.async false
set_option linter.all false
namespace Lm
open Rg
theorem bb_irrefl : ∀ a : Bytes, bytesBefore a a = false
 | [] => rfl
 | x :: r => by
   have h : ¬ x < x := UInt8.lt_irrefl x
   simp [bytesBefore, bb_irrefl r]
theorem bb_trans : ∀ a b c : Bytes, bytesBefore a b = true → bytesBefore b c = true → bytesBefore a c = true
 | [], [], _, h, _ => by simp [bytesBefore] at h
 | [], _ :: _, [], _, h => by simp [bytesBefore] at h
 | [], _ :: _, _ :: _, _, _ => rfl
 | _ :: _, [], _, h, _ => by simp [bytesBefore] at h
 | _ :: _, _ :: _, [], _, h => by simp [bytesBefore] at h
 | x :: a, y :: b, z :: c, h1, h2 => by
   simp only [bytesBefore, Bool.or_eq_true, decide_eq_true_eq, Bool.and_eq_true, beq_iff_eq] at h1 h2 ⊢
   rcases h1 with h1 | ⟨rfl, h1⟩
   · rcases h2 with h2 | ⟨rfl, h2⟩
     · exact .inl (UInt8.lt_trans h1 h2)
     · exact .inl h1
   · rcases h2 with h2 | ⟨rfl, h2⟩
     · exact .inl h2
     · exact .inr ⟨rfl, bb_trans a b c h1 h2⟩
theorem bb_total : ∀ a b : Bytes, bytesBefore a b = true ∨ a = b ∨ bytesBefore b a = true
 | [], [] => .inr (.inl rfl)
 | [], _ :: _ => .inl rfl
 | _ :: _, [] => .inr (.inr rfl)
 | x :: a, y :: b => by
   simp only [bytesBefore, Bool.or_eq_true, decide_eq_true_eq, Bool.and_eq_true, beq_iff_eq]
   by_cases h1 : x < y
   · exact .inl (.inl h1)
   · by_cases h2 : y < x
     · exact .inr (.inr (.inl h2))
     · have e : x = y := UInt8.le_antisymm (UInt8.not_lt.mp h2) (UInt8.not_lt.mp h1)
       subst e
       rcases bb_total a b with h | h | h
       · exact .inl (.inr ⟨rfl, h⟩)
       · exact .inr (.inl (by rw [h]))
       · exact .inr (.inr (.inr ⟨rfl, h⟩))
theorem bb_append_left : ∀ (p a b : Bytes), bytesBefore (p ++ a) (p ++ b) = bytesBefore a b
 | [], _, _ => rfl
 | x :: p, a, b => by
   have h : ¬ x < x := UInt8.lt_irrefl x
   simp [bytesBefore, bb_append_left p a b]
theorem bb_append_right : ∀ (a b r s : Bytes), a.length = b.length → bytesBefore a b = true → bytesBefore (a ++ r) (b ++ s) = true
 | [], [], _, _, _, h => by simp [bytesBefore] at h
 | [], _ :: _, _, _, h, _ => by simp at h
 | _ :: _, [], _, _, h, _ => by simp at h
 | x :: a, y :: b, r, s, hl, h => by
   simp only [List.cons_append, bytesBefore, Bool.or_eq_true, decide_eq_true_eq, Bool.and_eq_true, beq_iff_eq] at h ⊢
   rcases h with h | ⟨e, h⟩
   · exact .inl h
   · exact .inr ⟨e, bb_append_right a b r s (by simpa using hl) h⟩
abbrev Key := Nat × Nat × Bytes
def before (a b : Key) : Prop := a.1 < b.1 ∨ (a.1 = b.1 ∧ (a.2.1 < b.2.1 ∨ (a.2.1 = b.2.1 ∧ bytesBefore a.2.2 b.2.2 = true)))
def le (a b : Key) : Prop := before a b ∨ a = b
def key (c : Cand) : Key := (c.words, c.size, c.text)
def keyOf (c : CallOf) : Key := (wordsOf c, (itemsText c).length, itemsText c)
theorem candBefore_iff (a b : Cand) : candBefore a b = true ↔ before (key a) (key b) := by
 simp only [candBefore, before, key, Bool.or_eq_true, decide_eq_true_eq, Bool.and_eq_true, beq_iff_eq]
theorem before_irrefl (a : Key) : ¬ before a a := by
 rintro (h | ⟨_, h | ⟨_, h⟩⟩)
 · exact Nat.lt_irrefl _ h
 · exact Nat.lt_irrefl _ h
 · rw [bb_irrefl] at h
   cases h
theorem before_trans {a b c : Key} (h1 : before a b) (h2 : before b c) : before a c := by
 rcases h1 with h1 | ⟨e1, h1⟩
 · rcases h2 with h2 | ⟨e2, _⟩
   · exact .inl (Nat.lt_trans h1 h2)
   · exact .inl (e2 ▸ h1)
 · rcases h2 with h2 | ⟨e2, h2⟩
   · exact .inl (e1 ▸ h2)
   · refine .inr ⟨e1.trans e2, ?_⟩
     rcases h1 with h1 | ⟨f1, h1⟩
     · rcases h2 with h2 | ⟨f2, _⟩
       · exact .inl (Nat.lt_trans h1 h2)
       · exact .inl (f2 ▸ h1)
     · rcases h2 with h2 | ⟨f2, h2⟩
       · exact .inl (f1 ▸ h2)
       · exact .inr ⟨f1.trans f2, bb_trans _ _ _ h1 h2⟩
theorem le_refl (a : Key) : le a a := .inr rfl
theorem le_trans {a b c : Key} (h1 : le a b) (h2 : le b c) : le a c := by
 rcases h1 with h1 | rfl
 · rcases h2 with h2 | rfl
   · exact .inl (before_trans h1 h2)
   · exact .inl h1
 · exact h2
theorem total (a b : Key) : before a b ∨ a = b ∨ before b a := by
 obtain ⟨w, n, t⟩ := a
 obtain ⟨w', n', t'⟩ := b
 rcases Nat.lt_trichotomy w w' with h | rfl | h
 · exact .inl (.inl h)
 · rcases Nat.lt_trichotomy n n' with h | rfl | h
   · exact .inl (.inr ⟨rfl, .inl h⟩)
   · rcases bb_total t t' with h | rfl | h
     · exact .inl (.inr ⟨rfl, .inr ⟨rfl, h⟩⟩)
     · exact .inr (.inl rfl)
     · exact .inr (.inr (.inr ⟨rfl, .inr ⟨rfl, h⟩⟩))
   · exact .inr (.inr (.inr ⟨rfl, .inl h⟩))
 · exact .inr (.inr (.inl h))
theorem le_of_not {a b : Key} (h : ¬ before b a) : le a b := by
 rcases total a b with z | z | z
 · exact .inl z
 · exact .inr z
 · exact absurd z h
theorem not_of_le {a b : Key} (h : le a b) : ¬ before b a := fun z => by
 rcases h with h | rfl
 · exact before_irrefl _ (before_trans h z)
 · exact before_irrefl _ z
theorem le_antisymm {a b : Key} (h1 : le a b) (h2 : le b a) : a = b := by
 rcases h1 with h1 | h1
 · exact absurd h1 (not_of_le h2)
 · exact h1
theorem le_words {a b : Key} (h : le a b) : a.1 ≤ b.1 := by
 rcases h with (h | ⟨h, _⟩) | rfl
 · exact Nat.le_of_lt h
 · exact Nat.le_of_eq h
 · exact Nat.le_refl _
theorem le_of_words {a b : Key} (h : a.1 < b.1) : le a b := .inl (.inl h)
def okK (a : Key) : Prop := a.2.1 = a.2.2.length
def joinK (a b : Key) : Key := (a.1 + b.1, a.2.1 + 1 + b.2.1, a.2.2 ++ 32 :: b.2.2)
theorem join_left {a a' b : Key} (o1 : okK a) (o2 : okK a') (h : le a a') : le (joinK a b) (joinK a' b) := by
 rcases h with (h | ⟨e, h | ⟨f, h⟩⟩) | rfl
 · exact .inl (.inl (Nat.add_lt_add_right h _))
 · exact .inl (.inr ⟨by unfold joinK; simp only; omega, .inl (by unfold joinK; simp only; omega)⟩)
 · refine .inl (.inr ⟨by unfold joinK; simp only; omega, .inr ⟨by unfold joinK; simp only; omega, ?_⟩⟩)
   exact bb_append_right _ _ _ _ (by unfold okK at o1 o2; omega) h
 · exact le_refl _
theorem join_right {a b b' : Key} (h : le b b') : le (joinK a b) (joinK a b') := by
 rcases h with (h | ⟨e, h | ⟨f, h⟩⟩) | rfl
 · exact .inl (.inl (Nat.add_lt_add_left h _))
 · exact .inl (.inr ⟨by unfold joinK; simp only; omega, .inl (by unfold joinK; simp only; omega)⟩)
 · refine .inl (.inr ⟨by unfold joinK; simp only; omega, .inr ⟨by unfold joinK; simp only; omega, ?_⟩⟩)
   show bytesBefore (a.2.2 ++ (32 :: b.2.2)) (a.2.2 ++ (32 :: b'.2.2)) = true
   rw [bb_append_left]
   show bytesBefore ([32] ++ b.2.2) ([32] ++ b'.2.2) = true
   rw [bb_append_left]
   exact h
 · exact le_refl _
theorem join_le {a a' b b' : Key} (o1 : okK a) (o2 : okK a') (h : le a a') (h' : le b b') : le (joinK a b) (joinK a' b') := le_trans (join_left o1 o2 h) (join_right h')
def groupK (n : Nat) (u : Key) : Key := (2 + u.1, (decimal n ++ (42 :: 40 :: (u.2.2 ++ [41]))).length, decimal n ++ (42 :: 40 :: (u.2.2 ++ [41])))
theorem group_le {n : Nat} {u u' : Key} (o1 : okK u) (o2 : okK u') (h : le u u') : le (groupK n u) (groupK n u') := by
 unfold okK at o1 o2
 rcases h with (h | ⟨e, h | ⟨f, h⟩⟩) | rfl
 · exact .inl (.inl (Nat.add_lt_add_left h _))
 · refine .inl (.inr ⟨by unfold groupK; simp only; omega, .inl ?_⟩)
   unfold groupK
   simp only [List.length_append, List.length_cons, List.length_nil]
   omega
 · refine .inl (.inr ⟨by unfold groupK; simp only; omega, .inr ⟨?_, ?_⟩⟩)
   · unfold groupK
     simp only [List.length_append, List.length_cons, List.length_nil]
     omega
   · show bytesBefore (decimal n ++ (42 :: 40 :: (u.2.2 ++ [41]))) (decimal n ++ (42 :: 40 :: (u'.2.2 ++ [41]))) = true
     rw [bb_append_left]
     show bytesBefore ([42, 40] ++ (u.2.2 ++ [41])) ([42, 40] ++ (u'.2.2 ++ [41])) = true
     rw [bb_append_left]
     exact bb_append_right _ _ _ _ (by omega) h
 · exact le_refl _
theorem rep_len {α : Type} (u : List α) : ∀ n : Nat, (List.replicate n u).flatten.length = n * u.length
 | 0 => by simp
 | n + 1 => by
   rw [List.replicate_succ, List.flatten_cons, List.length_append, rep_len u n, Nat.succ_mul, Nat.add_comm]
mutual
def heardI : Item → List Nat
 | .one n c => List.replicate n c
 | .group n l => (List.replicate n (heard l)).flatten
def heard : List Item → List Nat
 | [] => []
 | x :: r => heardI x ++ heard r
end
mutual
def okI : Item → Prop
 | .one n _ => 1 ≤ n
 | .group n l => 2 ≤ n ∧ 2 ≤ l.length ∧ okL l
def okL : List Item → Prop
 | [] => True
 | x :: r => okI x ∧ okL r
end
theorem heard_append : ∀ a b : List Item, heard (a ++ b) = heard a ++ heard b
 | [], b => rfl
 | x :: a, b => by
   show heardI x ++ heard (a ++ b) = (heardI x ++ heard a) ++ heard b
   rw [heard_append a b, List.append_assoc]
theorem okL_append : ∀ {a b : List Item}, okL a → okL b → okL (a ++ b)
 | [], _, _, h => h
 | _ :: _, _, h1, h2 => ⟨h1.1, okL_append h1.2 h2⟩
theorem words_append : ∀ a b : List Item, wordsOf (a ++ b) = wordsOf a + wordsOf b
 | [], b => by
   show wordsOf b = 0 + wordsOf b
   omega
 | x :: a, b => by
   show x.words + wordsOf (a ++ b) = (x.words + wordsOf a) + wordsOf b
   rw [words_append a b]
   omega
theorem text_append : ∀ {a b : List Item}, a ≠ [] → b ≠ [] → itemsText (a ++ b) = itemsText a ++ 32 :: itemsText b
 | [], _, h, _ => absurd rfl h
 | [x], y :: b, _, _ => by
   show x.text ++ (32 :: itemsText (y :: b)) = (x.text ++ []) ++ 32 :: itemsText (y :: b)
   rw [List.append_nil]
 | x :: y :: a, b, _, hb => by
   show x.text ++ (32 :: itemsText ((y :: a) ++ b)) = (x.text ++ (32 :: itemsText (y :: a))) ++ 32 :: itemsText b
   rw [text_append (List.cons_ne_nil y a) hb]
   simp
theorem keyOf_append {a b : List Item} (ha : a ≠ []) (hb : b ≠ []) : keyOf (a ++ b) = joinK (keyOf a) (keyOf b) := by
 unfold keyOf joinK
 rw [words_append, text_append ha hb]
 simp only [List.length_append, List.length_cons]
 congr 2
 omega
theorem okK_keyOf (c : CallOf) : okK (keyOf c) := rfl
theorem keyOf_group (n : Nat) (l : List Item) : keyOf [Item.group n l] = groupK n (keyOf l) := by
 have e : itemsText [Item.group n l] = decimal n ++ (42 :: 40 :: (itemsText l ++ [41])) := by
   show (decimal n ++ (42 :: 40 :: (itemsText l ++ [41]))) ++ [] = _
   rw [List.append_nil]
 unfold keyOf groupK
 rw [e]
 rfl
mutual
theorem heardI_pos : ∀ x : Item, okI x → 1 ≤ (heardI x).length
 | .one n c, h => by
   have h : 1 ≤ n := h
   show 1 ≤ (List.replicate n c).length
   rw [List.length_replicate]
   exact h
 | .group n l, h => by
   obtain ⟨h1, h2, h3⟩ := h
   have q := heard_pos l h3
   show 1 ≤ ((List.replicate n (heard l)).flatten).length
   rw [rep_len]
   have : 1 * 1 ≤ n * (heard l).length := Nat.mul_le_mul (by omega) (by omega)
   omega
theorem heard_pos : ∀ l : List Item, okL l → l.length ≤ (heard l).length
 | [], _ => Nat.zero_le _
 | x :: r, h => by
   have h1 := heardI_pos x h.1
   have h2 := heard_pos r h.2
   show r.length + 1 ≤ (heardI x ++ heard r).length
   rw [List.length_append]
   omega
end
theorem words_posI : ∀ x : Item, 1 ≤ x.words
 | .one n c => by
   show 1 ≤ if n = 1 then 1 else 2
   split <;> omega
 | .group n l => by
   show 1 ≤ 2 + wordsOf l
   omega
theorem words_pos : ∀ l : List Item, l.length ≤ wordsOf l
 | [] => Nat.zero_le _
 | x :: r => by
   have h1 := words_posI x
   have h2 := words_pos r
   show r.length + 1 ≤ x.words + wordsOf r
   omega
end Lm
namespace Lm
open Rg
theorem rep_snoc {α : Type} (u : List α) : ∀ m : Nat, (List.replicate (m + 1) u).flatten = (List.replicate m u).flatten ++ u
 | 0 => by simp
 | m + 1 => by
   have ih := rep_snoc u m
   rw [List.replicate_succ (n := m + 1), List.flatten_cons, ih, ← List.append_assoc, ← List.flatten_cons, ← List.replicate_succ]
   rw [ih]
theorem rep_mul {α : Type} (u : List α) (q : Nat) : ∀ m : Nat, (List.replicate (m * q) u).flatten = (List.replicate m (List.replicate q u).flatten).flatten
 | 0 => by simp
 | m + 1 => by
   rw [List.replicate_succ, List.flatten_cons, ← rep_mul u q m, Nat.succ_mul, Nat.add_comm, ← List.replicate_append_replicate, List.flatten_append]
theorem rep_one {α : Type} (c : α) (q : Nat) : ∀ m : Nat, (List.replicate m (List.replicate q c)).flatten = List.replicate (m * q) c
 | 0 => by simp
 | m + 1 => by
   rw [List.replicate_succ, List.flatten_cons, rep_one c q m, Nat.succ_mul, Nat.add_comm, ← List.replicate_append_replicate]
theorem rep_of {α : Type} (u : List α) : ∀ (m : Nat) (s : List α), s.length = m * u.length → 1 ≤ m → s.take u.length = u → s.drop u.length = s.take (s.length - u.length) → s = (List.replicate m u).flatten
 | 0, _, _, h, _, _ => by omega
 | 1, s, hl, _, ht, _ => by
   have e : s.take u.length = s := List.take_of_length_le (by omega)
   rw [e] at ht
   simp [ht]
 | m + 2, s, hl, _, ht, hd => by
   have hl2 : s.length = (m + 1) * u.length + u.length := by rw [hl, Nat.succ_mul]
   have hl3 : (m + 1) * u.length = m * u.length + u.length := Nat.succ_mul _ _
   have ih := rep_of u (m + 1) (s.drop u.length) (by rw [List.length_drop]; omega) (by omega) (by
     rw [hd, List.take_take, Nat.min_eq_left (by omega)]; exact ht) (by
     rw [List.length_drop]
     have e1 : (s.drop u.length).drop u.length = ((s.take (s.length - u.length))).drop u.length := by rw [← hd]
     rw [e1, List.drop_take])
   rw [List.replicate_succ, List.flatten_cons, ← ih]
   conv => lhs; rw [← List.take_append_drop u.length s]
   rw [ht]
theorem rep_take {α : Type} (u : List α) (m : Nat) (h : 1 ≤ m) : ((List.replicate m u).flatten).take u.length = u := by
 obtain ⟨k, rfl⟩ : ∃ k, m = k + 1 := ⟨m - 1, by omega⟩
 rw [List.replicate_succ, List.flatten_cons, List.take_left]
theorem rep_per {α : Type} (u : List α) (m : Nat) (h : 1 ≤ m) : ((List.replicate m u).flatten).drop u.length = ((List.replicate m u).flatten).take (((List.replicate m u).flatten).length - u.length) := by
 obtain ⟨k, rfl⟩ : ∃ k, m = k + 1 := ⟨m - 1, by omega⟩
 have e1 : ((List.replicate (k + 1) u).flatten).drop u.length = (List.replicate k u).flatten := by
   rw [List.replicate_succ, List.flatten_cons, List.drop_left]
 have e2 : ((List.replicate (k + 1) u).flatten).length - u.length = ((List.replicate k u).flatten).length := by
   rw [rep_len, rep_len, Nat.succ_mul]
   omega
 rw [e1, e2, rep_snoc, List.take_left]
def str (row : List Nat) (i n : Nat) : List Nat := (row.drop i).take n
theorem str_len {row : List Nat} {i n : Nat} (h : i + n ≤ row.length) : (str row i n).length = n := by
 unfold str
 rw [List.length_take, List.length_drop]
 omega
theorem str_take {row : List Nat} {i n m : Nat} (h : m ≤ n) : (str row i n).take m = str row i m := by
 unfold str
 rw [List.take_take, Nat.min_eq_left h]
theorem str_drop {row : List Nat} {i n m : Nat} : (str row i n).drop m = str row (i + m) (n - m) := by
 unfold str
 rw [List.drop_take, List.drop_drop]
theorem str_split {row : List Nat} {i n m : Nat} (h : m ≤ n) : str row i n = str row i m ++ str row (i + m) (n - m) := by
 rw [← str_take h, ← str_drop, List.take_append_drop]
theorem str_get {row : List Nat} {i n j : Nat} (h : j < n) : (str row i n)[j]? = row[i + j]? := by
 unfold str
 rw [List.getElem?_take_of_lt h, List.getElem?_drop]
theorem getD_arr (row : List Nat) (j : Nat) : row.toArray.getD j 0 = row.getD j 0 := by
 rw [List.getD_eq_getElem?_getD, Array.getD_eq_getD_getElem?]
 simp
theorem repeats_iff {row : List Nat} {i n m : Nat} (h : i + n ≤ row.length) (hm : m ≤ n) : repeats row.toArray i n m = true ↔ (str row i n).drop m = (str row i n).take (n - m) := by
 unfold repeats
 rw [List.all_eq_true]
 constructor
 · intro q
   refine List.ext_getElem? fun j => ?_
   by_cases hj : j < n - m
   · have z := q j (List.mem_range.mpr hj)
     rw [getD_arr, getD_arr, beq_iff_eq] at z
     rw [List.getElem?_drop, List.getElem?_take_of_lt hj, str_get (by omega), str_get (by omega)]
     rw [List.getD_eq_getElem?_getD, List.getD_eq_getElem?_getD] at z
     rw [List.getElem?_eq_getElem (show i + j < row.length by omega)] at z ⊢
     rw [List.getElem?_eq_getElem (show i + j + m < row.length by omega)] at z
     rw [List.getElem?_eq_getElem (show i + (m + j) < row.length by omega)]
     have e : row[i + (m + j)]'(by omega) = row[i + j + m]'(by omega) := by congr 1; omega
     rw [e]
     simp only [Option.getD_some] at z
     rw [z]
   · rw [List.getElem?_eq_none (by rw [List.length_drop, str_len h]; omega), List.getElem?_eq_none (by rw [List.length_take, str_len h]; omega)]
 · intro q j hj
   have hj : j < n - m := List.mem_range.mp hj
   have z : ((str row i n).drop m)[j]? = ((str row i n).take (n - m))[j]? := by rw [q]
   rw [List.getElem?_drop, List.getElem?_take_of_lt hj, str_get (by omega), str_get (by omega)] at z
   rw [getD_arr, getD_arr, beq_iff_eq, List.getD_eq_getElem?_getD, List.getD_eq_getElem?_getD, ← z]
   congr 2
   omega
theorem alike_iff {row : List Nat} {i n : Nat} (h : i + n ≤ row.length) : allAlike row.toArray i n = true ↔ str row i n = List.replicate n (row.getD i 0) := by
 unfold allAlike
 rw [List.all_eq_true]
 constructor
 · intro q
   refine List.ext_getElem? fun j => ?_
   by_cases hj : j < n
   · have z := q j (List.mem_range.mpr hj)
     rw [getD_arr, getD_arr, beq_iff_eq] at z
     rw [str_get hj, List.getElem?_replicate, if_pos hj, ← z, List.getD_eq_getElem?_getD, List.getElem?_eq_getElem (show i + j < row.length by omega)]
     rfl
   · rw [List.getElem?_eq_none (by rw [str_len h]; omega), List.getElem?_eq_none (by rw [List.length_replicate]; omega)]
 · intro q j hj
   have hj : j < n := List.mem_range.mp hj
   have z : (str row i n)[j]? = (List.replicate n (row.getD i 0))[j]? := by rw [q]
   rw [str_get hj, List.getElem?_replicate, if_pos hj] at z
   rw [getD_arr, getD_arr, beq_iff_eq, List.getD_eq_getElem?_getD, z]
   rfl
structure Good (s : List Nat) (c : Cand) : Prop where
 key : key c = keyOf c.items
 ok : okL c.items
 heard : heard c.items = s
 ne : c.items ≠ []
 least : ∀ l, okL l → Lm.heard l = s → le (Lm.key c) (keyOf l)
structure Fair (s : List Nat) (c : Cand) : Prop where
 key : key c = keyOf c.items
 ok : okL c.items
 heard : heard c.items = s
 ne : c.items ≠ []
def Le (b : Option Cand) (x : Key) : Prop := ∃ z, b = some z ∧ le (key z) x
theorem better_le (b : Option Cand) (c : Cand) : Le (better b c) (key c) := by
 cases b with
 | none => exact ⟨c, rfl, le_refl _⟩
 | some x =>
   unfold better
   by_cases h : candBefore c x = true
   · exact ⟨c, by simp [h], le_refl _⟩
   · exact ⟨x, by simp [h], le_of_not fun z => h ((candBefore_iff c x).mpr z)⟩
theorem better_keeps {b : Option Cand} {x : Key} (c : Cand) (h : Le b x) : Le (better b c) x := by
 obtain ⟨z, rfl, hz⟩ := h
 unfold better
 by_cases h : candBefore c z = true
 · exact ⟨c, by simp [h], le_trans (.inl ((candBefore_iff c z).mp h)) hz⟩
 · exact ⟨z, by simp [h], hz⟩
theorem better_or (b : Option Cand) (c : Cand) : better b c = some c ∨ better b c = b := by
 cases b with
 | none => exact .inl rfl
 | some x =>
   unfold better
   by_cases h : candBefore c x = true
   · exact .inl (by simp [h])
   · exact .inr (by simp [h])
theorem fold_all {P : Cand → Prop} {f : Option Cand → Nat → Option Cand} {C D : Nat → Prop} {g : Nat → Key} (keeps : ∀ b k x, Le b x → Le (f b k) x) (own : ∀ b k, D k → C k → Le (f b k) (g k)) (fair : ∀ b k, D k → (∀ z, b = some z → P z) → ∀ z, f b k = some z → P z) :
   ∀ (l : List Nat) (b : Option Cand), (∀ k ∈ l, D k) → (∀ z, b = some z → P z) → (∀ z, l.foldl f b = some z → P z) ∧ (∀ x, Le b x → Le (l.foldl f b) x) ∧ ∀ k, k ∈ l → C k → Le (l.foldl f b) (g k)
 | [], b, _, h => ⟨h, fun _ q => q, fun _ q => nomatch q⟩
 | a :: l, b, d, h => by
   obtain ⟨h1, h2, h3⟩ := fold_all keeps own fair l (f b a) (fun k hk => d k (List.mem_cons_of_mem _ hk)) (fair b a (d a List.mem_cons_self) h)
   refine ⟨h1, fun x q => h2 x (keeps b a x q), fun k hk hc => ?_⟩
   rcases List.mem_cons.mp hk with rfl | hk
   · exact h2 _ (own b k (d k List.mem_cons_self) hc)
   · exact h3 k hk hc
def oneOf (row : List Nat) (i n : Nat) : Option Cand := if allAlike row.toArray i n = true then some (candOf [Item.one n (row.toArray.getD i 0)]) else none
def partStep (t : Table) (i n : Nat) (b : Option Cand) (k : Nat) : Option Cand :=
 match b with
 | none => some (joinedC (at_ t i (k + 1)) (at_ t (i + k + 1) (n - k - 1)))
 | some z => if (at_ t i (k + 1)).words + (at_ t (i + k + 1) (n - k - 1)).words < z.words ∨ ((at_ t i (k + 1)).words + (at_ t (i + k + 1) (n - k - 1)).words = z.words ∧ (at_ t i (k + 1)).size + 1 + (at_ t (i + k + 1) (n - k - 1)).size ≤ z.size)
   then better b (joinedC (at_ t i (k + 1)) (at_ t (i + k + 1) (n - k - 1))) else b
def groupStep (row : List Nat) (t : Table) (i n : Nat) (b : Option Cand) (m : Nat) : Option Cand :=
 if 2 ≤ m ∧ n % m = 0 ∧ repeats row.toArray i n m = true ∧ 2 ≤ (at_ t i m).items.length then better b (groupC (n / m) (at_ t i m)) else b
theorem leastAt_eq (row : List Nat) (t : Table) (i n : Nat) :
   leastAt row.toArray t i n = ((List.range n).foldl (groupStep row t i n) ((List.range (n - 1)).foldl (partStep t i n) (oneOf row i n))).getD ⟨0, 0, [], []⟩ := by
 have e : partStep t i n = fun (b : Option Cand) (k : Nat) =>
   match b with
     | none => some (joinedC (at_ t i (k + 1)) (at_ t (i + k + 1) (n - k - 1)))
     | some z => if (at_ t i (k + 1)).words + (at_ t (i + k + 1) (n - k - 1)).words < z.words ∨ ((at_ t i (k + 1)).words + (at_ t (i + k + 1) (n - k - 1)).words = z.words ∧ (at_ t i (k + 1)).size + 1 + (at_ t (i + k + 1) (n - k - 1)).size ≤ z.size)
       then better b (joinedC (at_ t i (k + 1)) (at_ t (i + k + 1) (n - k - 1))) else b := by
   funext b k
   rfl
 rw [e]
 rfl
theorem part_keeps (t : Table) (i n : Nat) (b : Option Cand) (k : Nat) (x : Key) (h : Le b x) : Le (partStep t i n b k) x := by
 obtain ⟨z, rfl, hz⟩ := h
 unfold partStep
 simp only
 split
 · exact better_keeps _ ⟨z, rfl, hz⟩
 · exact ⟨z, rfl, hz⟩
theorem part_own (t : Table) (i n : Nat) (b : Option Cand) (k : Nat) : Le (partStep t i n b k) (joinK (key (at_ t i (k + 1))) (key (at_ t (i + k + 1) (n - k - 1)))) := by
 cases b with
 | none => exact ⟨_, rfl, le_refl _⟩
 | some z =>
   unfold partStep
   simp only
   split
   · exact better_le _ _
   · rename_i h
     refine ⟨z, rfl, .inl ?_⟩
     show z.words < _ + _ ∨ (z.words = _ + _ ∧ (z.size < _ + 1 + _ ∨ _))
     simp only [key]
     by_cases h1 : z.words < (at_ t i (k + 1)).words + (at_ t (i + k + 1) (n - k - 1)).words
     · exact .inl h1
     · exact .inr ⟨by omega, .inl (by omega)⟩
def Told (row : List Nat) (t : Table) (n : Nat) : Prop := ∀ i m, 1 ≤ m → m < n → i + m ≤ row.length → Good (str row i m) (at_ t i m)
theorem Good.fair {s : List Nat} {c : Cand} (h : Good s c) : Fair s c := ⟨h.key, h.ok, h.heard, h.ne⟩
theorem fair_join {s r : List Nat} {x y : Cand} (hx : Fair s x) (hy : Fair r y) : Fair (s ++ r) (joinedC x y) := by
 refine ⟨?_, okL_append hx.ok hy.ok, by show heard (x.items ++ y.items) = _; rw [heard_append, hx.heard, hy.heard], fun h => hx.ne (List.append_eq_nil_iff.mp h).1⟩
 show joinK (key x) (key y) = keyOf (x.items ++ y.items)
 rw [keyOf_append hx.ne hy.ne, hx.key, hy.key]
theorem plain_heard : ∀ s : List Nat, heard (s.map (Item.one 1)) = s
 | [] => rfl
 | a :: s => by
   show List.replicate 1 a ++ heard (s.map (Item.one 1)) = a :: s
   rw [plain_heard s]
   rfl
theorem plain_ok : ∀ s : List Nat, okL (s.map (Item.one 1))
 | [] => True.intro
 | _ :: s => ⟨Nat.le_refl 1, plain_ok s⟩
theorem group_own {row : List Nat} {t : Table} {i n : Nat} (b : Option Cand) (m : Nat) (h : 2 ≤ m ∧ n % m = 0 ∧ repeats row.toArray i n m = true ∧ 2 ≤ (at_ t i m).items.length) : Le (groupStep row t i n b m) (groupK (n / m) (keyOf (at_ t i m).items)) := by
 unfold groupStep
 rw [if_pos h, ← keyOf_group]
 exact better_le _ _
theorem group_keeps (row : List Nat) (t : Table) (i n : Nat) (b : Option Cand) (m : Nat) (x : Key) (h : Le b x) : Le (groupStep row t i n b m) x := by
 unfold groupStep
 split
 · exact better_keeps _ h
 · exact h
theorem groups_reached {row : List Nat} {t : Table} {i n : Nat} {W : Option Cand} (h : i + n ≤ row.length) (T : Told row t n) (hone : str row i n = List.replicate n (row.getD i 0) → Le W (keyOf [Item.one n (row.getD i 0)]))
   (hgrp : ∀ m, m < n → 2 ≤ m → n % m = 0 → repeats row.toArray i n m = true → 2 ≤ (at_ t i m).items.length → Le W (groupK (n / m) (keyOf (at_ t i m).items))) :
   ∀ (B p : Nat), p ≤ B → ∀ (m : Nat) (l : List Item), 2 ≤ m → okL l → 2 ≤ l.length → (heard l).length = p → str row i n = (List.replicate m (heard l)).flatten → Le W (groupK m (keyOf l))
 | 0, p, hB, m, l, hm, hl, h2, hp, hs => by
   have := heard_pos l hl
   omega
 | B + 1, p, hB, m, l, hm, hl, h2, hp, hs => by
   have q := heard_pos l hl
   have hn : n = m * p := by
     rw [← hp, ← rep_len, ← hs, str_len h]
   have hpn : p < n := by
     have : 2 * p ≤ m * p := Nat.mul_le_mul_right p hm
     omega
   have hu : str row i p = heard l := by
     rw [← str_take (Nat.le_of_lt hpn), hs, ← hp, rep_take _ _ (by omega)]
   have G := T i p (by omega) hpn (by omega)
   have hd : n % p = 0 := by rw [hn]; exact Nat.mul_mod_left m p
   have hq : n / p = m := by rw [hn]; exact Nat.mul_div_cancel m (by omega)
   have hrep : repeats row.toArray i n p = true := by
     rw [repeats_iff h (Nat.le_of_lt hpn), hs]
     have z := rep_per (heard l) m (by omega)
     rw [hp] at z
     rw [z, rep_len, hp, ← hn]
   by_cases hc : 2 ≤ (at_ t i p).items.length
   · obtain ⟨z, e, hz⟩ := hgrp p hpn (by omega) hd hrep hc
     rw [hq] at hz
     exact ⟨z, e, le_trans hz (group_le (okK_keyOf _) (okK_keyOf _) (by rw [← G.key]; exact G.least l hl hu.symm))⟩
   · obtain ⟨x, ex⟩ : ∃ x, (at_ t i p).items = [x] := by
       cases e : (at_ t i p).items with
       | nil => exact absurd e G.ne
       | cons x r =>
         cases r with
         | nil => exact ⟨x, rfl⟩
         | cons y r =>
           rw [e] at hc
           simp at hc
     have hh := G.heard
     have hok := G.ok
     have hle := G.least l hl hu.symm
     rw [G.key, ex] at hle
     rw [ex] at hh hok
     have hh : heardI x = str row i p := by
       have e : heardI x ++ [] = str row i p := hh
       rwa [List.append_nil] at e
     cases x with
     | one k c =>
       have hh : List.replicate k c = str row i p := hh
       have hk : k = p := by
         have e := congrArg List.length hh
         rw [List.length_replicate, str_len (by omega)] at e
         exact e
       subst hk
       have hs2 : str row i n = List.replicate n c := by rw [hs, ← hu, ← hh, rep_one, ← hn]
       have hc2 : row.getD i 0 = c := by
         have z : (str row i n)[0]? = (List.replicate n c)[0]? := by rw [hs2]
         rw [str_get (by omega), List.getElem?_replicate, if_pos (by omega)] at z
         rw [List.getD_eq_getElem?_getD]
         have z : row[i]? = some c := z
         rw [z]
         rfl
       obtain ⟨z, e, hz⟩ := hone (by rw [hc2]; exact hs2)
       refine ⟨z, e, le_trans hz (le_of_words ?_)⟩
       have w := words_pos l
       show wordsOf [Item.one n (row.getD i 0)] < 2 + wordsOf l
       show (if n = 1 then 1 else 2) + 0 < 2 + wordsOf l
       split <;> omega
     | group k l' =>
       obtain ⟨⟨k2, l2, ok2⟩, _⟩ := hok
       have hh : (List.replicate k (heard l')).flatten = str row i p := hh
       have hp' : p = k * (heard l').length := by
         have e := congrArg List.length hh
         rw [rep_len, str_len (by omega)] at e
         exact e.symm
       have hlt : (heard l').length < p := by
         have a := heard_pos l' ok2
         have : 2 * (heard l').length ≤ k * (heard l').length := Nat.mul_le_mul_right _ k2
         omega
       have ih := groups_reached h T hone hgrp B (heard l').length (by omega) (m * k) l' (by
         have : 2 * 2 ≤ m * k := Nat.mul_le_mul hm k2
         omega) ok2 l2 rfl (by rw [hs, ← hu, ← hh, rep_mul])
       obtain ⟨z, e, hz⟩ := ih
       refine ⟨z, e, le_trans hz (le_of_words ?_)⟩
       have w := le_words hle
       have w : (2 + wordsOf l') + 0 ≤ wordsOf l := w
       show 2 + wordsOf l' < 2 + wordsOf l
       omega
theorem least_good {row : List Nat} {t : Table} {i n : Nat} (hn : 1 ≤ n) (h : i + n ≤ row.length) (T : Told row t n) : Good (str row i n) (leastAt row.toArray t i n) := by
 have hf1 : ∀ z, oneOf row i n = some z → Fair (str row i n) z := by
   intro z e
   unfold oneOf at e
   split at e
   · rename_i ha
     cases e
     have ha := (alike_iff h).mp ha
     refine ⟨rfl, ⟨hn, True.intro⟩, ?_, List.cons_ne_nil _ _⟩
     show List.replicate n (row.toArray.getD i 0) ++ [] = _
     rw [List.append_nil, getD_arr, ha]
   · cases e
 obtain ⟨p1, p2, p3⟩ := fold_all (P := Fair (str row i n)) (f := partStep t i n) (C := fun _ => True) (D := fun k => k + 1 < n) (g := fun k => joinK (key (at_ t i (k + 1))) (key (at_ t (i + k + 1) (n - k - 1)))) (part_keeps t i n) (fun b k _ _ => part_own t i n b k)
   (fun b k hk hb z e => by
     have J : Fair (str row i n) (joinedC (at_ t i (k + 1)) (at_ t (i + k + 1) (n - k - 1))) := by
       rw [str_split (row := row) (i := i) (n := n) (m := k + 1) (by omega)]
       have a := (T i (k + 1) (by omega) hk (by omega)).fair
       have b := (T (i + k + 1) (n - k - 1) (by omega) (by omega) (by omega)).fair
       exact fair_join a (by have e1 : i + (k + 1) = i + k + 1 := by omega
                             have e2 : n - (k + 1) = n - k - 1 := by omega
                             rw [e1, e2]; exact b)
     cases b with
     | none => cases e; exact J
     | some y =>
       unfold partStep at e
       simp only at e
       split at e
       · rcases better_or (some y) (joinedC (at_ t i (k + 1)) (at_ t (i + k + 1) (n - k - 1))) with q | q
         · rw [q] at e; cases e; exact J
         · rw [q] at e; exact hb z e
       · exact hb z e) (List.range (n - 1)) (oneOf row i n) (fun k hk => by have := List.mem_range.mp hk; omega) hf1
 obtain ⟨w1, w2, w3⟩ := fold_all (P := Fair (str row i n)) (f := groupStep row t i n) (C := fun m => 2 ≤ m ∧ n % m = 0 ∧ repeats row.toArray i n m = true ∧ 2 ≤ (at_ t i m).items.length) (D := fun m => m < n) (g := fun m => groupK (n / m) (keyOf (at_ t i m).items)) (group_keeps row t i n) (fun b m _ hc => group_own b m hc)
   (fun b m hm hb z e => by
     unfold groupStep at e
     split at e
     · rename_i hc
       rcases better_or b (groupC (n / m) (at_ t i m)) with q | q
       · rw [q] at e
         cases e
         have G := T i m (by omega) hm (by omega)
         have hmn : n / m * m = n := Nat.div_mul_cancel (Nat.dvd_of_mod_eq_zero hc.2.1)
         have hq : 2 ≤ n / m := by
           rcases Nat.lt_or_ge (n / m) 2 with z | z
           · have : n / m * m ≤ 1 * m := Nat.mul_le_mul_right m (by omega)
             omega
           · exact z
         refine ⟨rfl, ⟨⟨hq, hc.2.2.2, G.ok⟩, True.intro⟩, ?_, List.cons_ne_nil _ _⟩
         show (List.replicate (n / m) (heard (at_ t i m).items)).flatten ++ [] = _
         rw [List.append_nil, G.heard]
         have hl : (str row i m).length = m := str_len (by omega)
         have hl2 : (str row i n).length = n := str_len h
         have hr := (repeats_iff h (Nat.le_of_lt hm)).mp hc.2.2.1
         exact (rep_of (str row i m) (n / m) (str row i n) (by rw [hl, hl2, hmn]) (by omega) (by rw [hl, str_take (Nat.le_of_lt hm)]) (by rw [hl, hl2]; exact hr)).symm
       · rw [q] at e
         exact hb z e
     · exact hb z e) (List.range n) ((List.range (n - 1)).foldl (partStep t i n) (oneOf row i n)) (fun k hk => List.mem_range.mp hk) p1
 rw [leastAt_eq]
 generalize hW : (List.range n).foldl (groupStep row t i n) ((List.range (n - 1)).foldl (partStep t i n) (oneOf row i n)) = W at w1 w2 w3 ⊢
 have hone : str row i n = List.replicate n (row.getD i 0) → Le W (keyOf [Item.one n (row.getD i 0)]) := fun e => by
   refine w2 _ (p2 _ ?_)
   refine ⟨candOf [Item.one n (row.getD i 0)], ?_, le_refl _⟩
   unfold oneOf
   rw [if_pos ((alike_iff h).mpr e), getD_arr]
 have all : ∀ l, okL l → heard l = str row i n → Le W (keyOf l) := fun l hl hs => by
   have hlen : (heard l).length = n := by rw [hs, str_len h]
   cases l with
   | nil => exact absurd hlen (by show ¬ 0 = n; omega)
   | cons x r =>
     cases r with
     | nil =>
       have hs : heardI x = str row i n := by
         have e : heardI x ++ [] = str row i n := hs
         rwa [List.append_nil] at e
       cases x with
       | one k c =>
         have hs : List.replicate k c = str row i n := hs
         have hk : k = n := by
           have e := congrArg List.length hs
           rw [List.length_replicate, str_len h] at e
           exact e
         subst hk
         have hc2 : row.getD i 0 = c := by
           have z : (List.replicate k c)[0]? = (str row i k)[0]? := by rw [hs]
           rw [str_get (by omega), List.getElem?_replicate, if_pos (by omega)] at z
           rw [List.getD_eq_getElem?_getD]
           have z : some c = row[i]? := z
           rw [← z]
           rfl
         have q := hone (by rw [hc2]; exact hs.symm)
         rw [hc2] at q
         exact q
       | group k l' =>
         obtain ⟨⟨k2, l2, ok2⟩, _⟩ := hl
         rw [keyOf_group]
         exact groups_reached h T hone (fun m a b c d e => w3 m (List.mem_range.mpr a) ⟨b, c, d, e⟩) (heard l').length _ (Nat.le_refl _) k l' k2 ok2 l2 rfl hs.symm
     | cons y r =>
       have hx := heardI_pos x hl.1
       have hr := heard_pos (y :: r) hl.2
       have hr : r.length + 1 ≤ (heard (y :: r)).length := hr
       have hs : heardI x ++ heard (y :: r) = str row i n := hs
       have hlen : (heardI x).length + (heard (y :: r)).length = n := by rw [← List.length_append, hs, str_len h]
       have e1 : str row i (heardI x).length = heardI x := by rw [← str_take (n := n) (by omega), ← hs, List.take_left]
       have e2 : str row (i + (heardI x).length) (n - (heardI x).length) = heard (y :: r) := by rw [← str_drop, ← hs, List.drop_left]
       have G1 := T i (heardI x).length hx (by omega) (by omega)
       have G2 := T (i + (heardI x).length) (n - (heardI x).length) (by omega) (by omega) (by omega)
       have q := p3 ((heardI x).length - 1) (List.mem_range.mpr (by omega)) True.intro
       have f1 : (heardI x).length - 1 + 1 = (heardI x).length := by omega
       have f2 : i + ((heardI x).length - 1) + 1 = i + (heardI x).length := by omega
       have f3 : n - ((heardI x).length - 1) - 1 = n - (heardI x).length := by omega
       simp only [f1, f2, f3] at q
       obtain ⟨z, ez, hz⟩ := q
       refine w2 _ ⟨z, ez, le_trans hz ?_⟩
       show le _ (keyOf ([x] ++ (y :: r)))
       rw [keyOf_append (List.cons_ne_nil _ _) (List.cons_ne_nil _ _)]
       refine join_le (by rw [G1.key]; exact okK_keyOf _) (okK_keyOf _) (G1.least [x] ⟨hl.1, True.intro⟩ ?_) (G2.least (y :: r) hl.2 e2.symm)
       show heardI x ++ [] = _
       rw [List.append_nil, e1]
 obtain ⟨z, ez, _⟩ := all _ (plain_ok (str row i n)) (plain_heard _)
 have F := w1 z ez
 rw [ez]
 refine ⟨F.key, F.ok, F.heard, F.ne, fun l hl hs => ?_⟩
 obtain ⟨z', e', h'⟩ := all l hl hs
 rw [ez] at e'
 cases e'
 exact h'
end Lm
namespace Lm
open Rg
def tabStep (row : List Nat) (t : Table) (k : Nat) : Table := t.push ((List.range (row.length - k)).map fun (i : Nat) => leastAt row.toArray t i (k + 1)).toArray
theorem tableOf_eq (row : List Nat) : tableOf row.toArray = (List.range row.length).foldl (tabStep row) #[] := by
 have e : tabStep row = fun (t : Table) (k : Nat) => t.push ((List.range (row.toArray.size - k)).map fun (i : Nat) => leastAt row.toArray t i (k + 1)).toArray := by
   funext t k
   unfold tabStep
   rw [List.size_toArray]
 rw [e]
 unfold tableOf
 rw [List.size_toArray]
theorem at_push_old {t : Table} {a : Array Cand} {i m : Nat} (hm : m - 1 < t.size) : at_ (t.push a) i m = at_ t i m := by
 unfold at_
 congr 1
 rw [Array.getD_eq_getD_getElem?, Array.getD_eq_getD_getElem?, Array.getElem?_push_lt hm, Array.getElem?_eq_getElem hm]
theorem at_push_new {t : Table} {a : Array Cand} {i m : Nat} (hm : m - 1 = t.size) : at_ (t.push a) i m = a.getD i ⟨0, 0, [], []⟩ := by
 unfold at_
 congr 1
 rw [Array.getD_eq_getD_getElem?, hm, Array.getElem?_push_size]
 rfl
theorem table_told (row : List Nat) : ∀ k, k ≤ row.length → ((List.range k).foldl (tabStep row) #[]).size = k ∧ Told row ((List.range k).foldl (tabStep row) #[]) (k + 1)
 | 0, _ => ⟨rfl, fun i m h1 h2 _ => by omega⟩
 | k + 1, hk => by
   obtain ⟨h1, h2⟩ := table_told row k (by omega)
   rw [List.range_succ, List.foldl_append]
   generalize (List.range k).foldl (tabStep row) #[] = t at h1 h2 ⊢
   show (tabStep row t k).size = k + 1 ∧ Told row (tabStep row t k) (k + 1 + 1)
   unfold tabStep
   refine ⟨by rw [Array.size_push, h1], fun i m a b c => ?_⟩
   by_cases hm : m < k + 1
   · rw [at_push_old (by omega)]
     exact h2 i m a hm c
   · have e : m = k + 1 := by omega
     subst e
     rw [at_push_new (by omega)]
     have e : (((List.range (row.length - k)).map fun (i : Nat) => leastAt row.toArray t i (k + 1)).toArray).getD i ⟨0, 0, [], []⟩ = leastAt row.toArray t i (k + 1) := by
       rw [Array.getD_eq_getD_getElem?, List.getElem?_toArray, List.getElem?_map, List.getElem?_range (by omega)]
       rfl
     rw [e]
     exact least_good a c h2
theorem table_good (row : List Nat) {i n : Nat} (h1 : 1 ≤ n) (h2 : i + n ≤ row.length) : Good (str row i n) (at_ (tableOf row.toArray) i n) := by
 rw [tableOf_eq]
 exact (table_told row row.length (Nat.le_refl _)).2 i n h1 (by omega) h2
theorem leastCall_ok {row : List Nat} (h : row ≠ []) : okL (leastCall row) ∧ heard (leastCall row) = row ∧ ∀ l, okL l → heard l = row → le (keyOf (leastCall row)) (keyOf l) := by
 have h1 : 1 ≤ row.length := List.length_pos_iff.mpr h
 have G := table_good row (i := 0) h1 (by omega)
 have e : str row 0 row.length = row := by
   unfold str
   rw [List.drop_zero, List.take_length]
 rw [e] at G
 refine ⟨G.ok, G.heard, fun l a b => ?_⟩
 have z := G.least l a b
 rw [G.key] at z
 exact z
theorem least_unique {row : List Nat} (h : row ≠ []) {l : List Item} (ok : okL l) (hh : heard l = row) (hl : ∀ l', okL l' → heard l' = row → le (keyOf l) (keyOf l')) : keyOf l = keyOf (leastCall row) := by
 obtain ⟨a, b, c⟩ := leastCall_ok h
 exact le_antisymm (hl _ a b) (c l ok hh)
end Lm
namespace Lm
open Rg
def isCol (b : Int) : Bool := (decide (97 ≤ b) && decide (b ≤ 122)) || ((decide (65 ≤ b) && decide (b ≤ 90)) || (decide (48 ≤ b) && decide (b ≤ 57)))
def colN (b : Int) : Nat := if 97 ≤ b then (b - 97).toNat else if 65 ≤ b then (b - 65).toNat + 26 else (b - 48).toNat + 52
def byteZ (k : Nat) : Int := ((byteOf k).toNat : Int)
def isByte (b : Int) : Prop := 0 ≤ b ∧ b < 256
def u8 (b : Int) : UInt8 := UInt8.ofNat b.toNat
theorem text_eq (l : List Int) : RugHNeutral.text l = l.map u8 := by
 unfold RugHNeutral.text RugHNeutral.nats u8
 rw [List.map_map]
 rfl
theorem nat_of {b : Int} (h : isByte b) : ∃ n : Nat, n < 256 ∧ b = (n : Int) := ⟨b.toNat, by unfold isByte at h; omega, by unfold isByte at h; omega⟩
theorem colour_all : ∀ n : Fin 256, colourOf (UInt8.ofNat n.val) = if isCol (n.val : Int) = true then some (colN (n.val : Int)) else none := by decide +kernel
theorem colN_lt_all : ∀ n : Fin 256, isCol (n.val : Int) = true → colN (n.val : Int) < 62 := by decide +kernel
theorem byteZ_colN_all : ∀ n : Fin 256, isCol (n.val : Int) = true → byteZ (colN (n.val : Int)) = (n.val : Int) := by decide +kernel
theorem colour_back_all : ∀ n : Fin 62, colourOf (byteOf n.val) = some n.val ∧ isCol (byteZ n.val) = true ∧ colN (byteZ n.val) = n.val ∧ byteOf n.val ≠ 10 := by decide +kernel
theorem colour_of {b : Int} (h : isByte b) : colourOf (u8 b) = if isCol b = true then some (colN b) else none := by
 obtain ⟨n, hn, rfl⟩ := nat_of h
 exact colour_all ⟨n, hn⟩
theorem colN_lt {b : Int} (h : isByte b) (c : isCol b = true) : colN b < 62 := by
 obtain ⟨n, hn, rfl⟩ := nat_of h
 exact colN_lt_all ⟨n, hn⟩ c
theorem isCol_byte {b : Int} (h : isCol b = true) : isByte b := by
 unfold isCol at h
 simp only [Bool.or_eq_true, Bool.and_eq_true, decide_eq_true_eq] at h
 unfold isByte
 omega
theorem byteZ_colN {b : Int} (c : isCol b = true) : byteZ (colN b) = b := by
 obtain ⟨n, hn, rfl⟩ := nat_of (isCol_byte c)
 exact byteZ_colN_all ⟨n, hn⟩ c
theorem colour_back {k : Nat} (h : k < 62) : colourOf (byteOf k) = some k := (colour_back_all ⟨k, h⟩).1
theorem isCol_byteZ {k : Nat} (h : k < 62) : isCol (byteZ k) = true := (colour_back_all ⟨k, h⟩).2.1
theorem colN_byteZ {k : Nat} (h : k < 62) : colN (byteZ k) = k := (colour_back_all ⟨k, h⟩).2.2.1
theorem byteOf_ne {k : Nat} (h : k < 62) : byteOf k ≠ 10 := (colour_back_all ⟨k, h⟩).2.2.2
theorem u8_byteZ (k : Nat) : u8 (byteZ k) = byteOf k := by
 unfold u8 byteZ
 rw [Int.toNat_natCast, UInt8.ofNat_toNat]
theorem byteZ_byte (k : Nat) : isByte (byteZ k) := by
 have h := (byteOf k).toNat_lt
 unfold isByte byteZ
 omega
theorem u8_ten {b : Int} (h : isByte b) : u8 b = 10 ↔ b = 10 := by
 obtain ⟨n, hn, rfl⟩ := nat_of h
 constructor
 · intro e
   have e2 := congrArg UInt8.toNat e
   unfold u8 at e2
   rw [Int.toNat_natCast, UInt8.toNat_ofNat_of_lt' hn] at e2
   have e3 : n = 10 := e2
   omega
 · intro e
   have : n = 10 := by omega
   subst this
   rfl
theorem toNat_u8 {b : Int} (h : isByte b) : ((u8 b).toNat : Int) = b := by
 obtain ⟨n, hn, rfl⟩ := nat_of h
 unfold u8
 rw [Int.toNat_natCast, UInt8.toNat_ofNat_of_lt' hn]
theorem u8_inj {a b : Int} (ha : isByte a) (hb : isByte b) (e : u8 a = u8 b) : a = b := by
 rw [← toNat_u8 ha, ← toNat_u8 hb, e]
def colsOf (r : List Int) : List Nat := r.map colN
def bytesZ (r : List Nat) : List Int := r.map byteZ
theorem colsOf_bytesZ : ∀ {r : List Nat}, (∀ k ∈ r, k < 62) → colsOf (bytesZ r) = r
 | [], _ => rfl
 | a :: r, h => by
   show colN (byteZ a) :: colsOf (bytesZ r) = a :: r
   rw [colN_byteZ (h a List.mem_cons_self), colsOf_bytesZ fun k hk => h k (List.mem_cons_of_mem _ hk)]
theorem bytesZ_colsOf : ∀ {r : List Int}, (∀ b ∈ r, isCol b = true) → bytesZ (colsOf r) = r
 | [], _ => rfl
 | a :: r, h => by
   show byteZ (colN a) :: bytesZ (colsOf r) = a :: r
   rw [byteZ_colN (h a List.mem_cons_self), bytesZ_colsOf fun k hk => h k (List.mem_cons_of_mem _ hk)]
theorem colsOf_lt {r : List Int} (h : ∀ b ∈ r, isCol b = true) : ∀ k ∈ colsOf r, k < 62 := fun k hk => by
 obtain ⟨b, hb, rfl⟩ := List.mem_map.mp hk
 exact colN_lt (isCol_byte (h b hb)) (h b hb)
theorem bytesZ_col {r : List Nat} (h : ∀ k ∈ r, k < 62) : ∀ b ∈ bytesZ r, isCol b = true := fun b hb => by
 obtain ⟨k, hk, rfl⟩ := List.mem_map.mp hb
 exact isCol_byteZ (h k hk)
theorem colsOf_len (r : List Int) : (colsOf r).length = r.length := List.length_map _
theorem bytesZ_len (r : List Nat) : (bytesZ r).length = r.length := List.length_map _
theorem filterMap_cols : ∀ {r : List Int}, (∀ b ∈ r, isCol b = true) → (r.map u8).filterMap colourOf = colsOf r
 | [], _ => rfl
 | a :: r, h => by
   have ha := h a List.mem_cons_self
   have e : colourOf (u8 a) = some (colN a) := by rw [colour_of (isCol_byte ha), if_pos ha]
   rw [List.map_cons, List.filterMap_cons_some e, filterMap_cols fun k hk => h k (List.mem_cons_of_mem _ hk)]
   rfl
theorem any_none {r : List Int} (hb : ∀ b ∈ r, isByte b) : ((r.map u8).any fun (c : UInt8) => (colourOf c).isNone) = !(r.all isCol) := by
 induction r with
 | nil => rfl
 | cons a r ih =>
   rw [List.map_cons, List.any_cons, List.all_cons, ih fun b h => hb b (List.mem_cons_of_mem _ h), colour_of (hb a List.mem_cons_self)]
   cases isCol a <;> simp
end Lm
namespace Lm
open Rg
def split (w : List Int) : List Int → List (List Int)
 | [] => []
 | b :: r => if b = 10 then w :: split [] r else split (w ++ [b]) r
def splitU (w : Bytes) : Bytes → List Bytes
 | [] => []
 | b :: r => if b = LF then w :: splitU [] r else splitU (w ++ [b]) r
def restU (w : Bytes) : Bytes → Bytes
 | [] => w
 | b :: r => if b = LF then restU [] r else restU (w ++ [b]) r
theorem cut_ne : ∀ (p : Nat) (w b : Bytes), cut LF p w b ≠ []
 | _, _, [] => List.cons_ne_nil _ _
 | p, w, x :: r => by
   unfold cut
   split
   · exact List.cons_ne_nil _ _
   · exact cut_ne p (w ++ [x]) r
theorem cut_split : ∀ (p : Nat) (w b : Bytes), ((cut LF p w b).map fun x => x.2).dropLast = splitU w b
 | _, _, [] => rfl
 | p, w, x :: r => by
   unfold cut splitU
   by_cases h : x = LF
   · rw [if_pos h, if_pos h, List.map_cons, List.dropLast_cons_of_ne_nil (by
       intro e
       exact cut_ne _ _ _ (List.map_eq_nil_iff.mp e)), cut_split]
   · rw [if_neg h, if_neg h, cut_split]
theorem split_back : ∀ (w b : Bytes), w ++ b = (splitU w b).flatMap (fun r => r ++ [LF]) ++ restU w b
 | w, [] => by
   show w ++ [] = [] ++ w
   simp
 | w, x :: r => by
   unfold splitU restU
   by_cases h : x = LF
   · rw [if_pos h, if_pos h, List.flatMap_cons, List.append_assoc, ← split_back [] r, h]
     simp
   · rw [if_neg h, if_neg h, ← split_back (w ++ [x]) r]
     simp
theorem split_map : ∀ (w t : List Int), (∀ b ∈ t, isByte b) → splitU (w.map u8) (t.map u8) = (split w t).map fun r => r.map u8
 | _, [], _ => rfl
 | w, b :: t, h => by
   have hb := h b List.mem_cons_self
   have ht : ∀ b ∈ t, isByte b := fun x hx => h x (List.mem_cons_of_mem _ hx)
   show splitU (w.map u8) (u8 b :: t.map u8) = _
   unfold splitU split
   by_cases e : b = 10
   · rw [if_pos e, if_pos (show u8 b = LF from (u8_ten hb).mpr e), List.map_cons, ← split_map [] t ht]
     rfl
   · rw [if_neg e, if_neg (show ¬ u8 b = LF from fun q => e ((u8_ten hb).mp q)), ← split_map (w ++ [b]) t ht, List.map_append]
     rfl
theorem rest_map : ∀ (w t : List Int), (∀ b ∈ t, isByte b) → t.getLast? = some 10 → restU (w.map u8) (t.map u8) = []
 | _, [], _, h => by simp at h
 | w, [b], hb, h => by
   have e : b = 10 := by simpa using h
   subst e
   rfl
 | w, b :: c :: t, hb, h => by
   have hb' : ∀ x ∈ c :: t, isByte x := fun x hx => hb x (List.mem_cons_of_mem _ hx)
   have h' : (c :: t).getLast? = some 10 := by rw [← h, List.getLast?_cons_cons]
   show restU (w.map u8) (u8 b :: (c :: t).map u8) = []
   unfold restU
   split
   · exact rest_map [] (c :: t) hb' h'
   · have := rest_map (w ++ [b]) (c :: t) hb' h'
     rw [List.map_append] at this
     exact this
theorem split_word : ∀ (w r q : Bytes), (∀ x ∈ r, x ≠ LF) → splitU w (r ++ LF :: q) = (w ++ r) :: splitU [] q
 | w, [], q, _ => by
   show splitU w (LF :: q) = (w ++ []) :: splitU [] q
   unfold splitU
   rw [if_pos rfl, List.append_nil]
   cases q <;> rfl
 | w, x :: r, q, h => by
   show splitU w (x :: (r ++ LF :: q)) = (w ++ x :: r) :: splitU [] q
   rw [splitU, if_neg (h x List.mem_cons_self), split_word (w ++ [x]) r q fun y hy => h y (List.mem_cons_of_mem _ hy)]
   simp
theorem split_rows : ∀ (l : List Bytes), (∀ r ∈ l, ∀ x ∈ r, x ≠ LF) → splitU [] (l.flatMap fun r => r ++ [LF]) = l
 | [], _ => rfl
 | r :: l, h => by
   rw [List.flatMap_cons, List.append_assoc]
   show splitU [] (r ++ LF :: (l.flatMap fun r => r ++ [LF])) = r :: l
   rw [split_word [] r _ (h r List.mem_cons_self), split_rows l fun q hq => h q (List.mem_cons_of_mem _ hq)]
   rfl
def sized (w h : Nat) : Bool := decide (1 ≤ w) && decide (w ≤ 512) && (decide (1 ≤ h) && decide (h ≤ 512)) && decide (w * h ≤ 65536)
def goodRows (rows : List (List Int)) : Bool := sized ((rows.headD []).length) rows.length && rows.all fun r => decide (r.length = (rows.headD []).length) && r.all isCol
def readZ (t : List Int) : Option (List (List Int)) := if t.getLast? = some 10 ∧ goodRows (split [] t) = true then some (split [] t) else none
def chartZ (rows : List (List Int)) : Chart := ⟨(rows.headD []).length, rows.length, rows.map colsOf⟩
theorem filter_id (r : Bytes) : (r.map colourOf).filterMap id = r.filterMap colourOf := by
 rw [List.filterMap_map]
 rfl
def chartU (b : Bytes) : Chart := ⟨((splitU [] b).headD []).length, (splitU [] b).length, (splitU [] b).map fun r => r.filterMap colourOf⟩
theorem chartOf_eq (b : Bytes) : chartOf b = if (chartU b).right = true ∧ (chartU b).text = b then some (chartU b) else none := by
 have e : ((cut LF 0 [] b).map fun (x : Nat × Bytes) => x.2.map colourOf).dropLast = (splitU [] b).map fun r => r.map colourOf := by
   rw [← cut_split 0 [] b, List.map_dropLast, List.map_map]
   rfl
 have e1 : (((splitU [] b).map fun r => r.map colourOf).headD []).length = ((splitU [] b).headD []).length := by
   cases splitU [] b with
   | nil => rfl
   | cons r l => exact List.length_map _
 unfold chartOf
 simp only [e, List.length_map, List.map_map, e1]
 have e2 : ((fun (r : List (Option Nat)) => r.filterMap id) ∘ fun r => List.map colourOf r) = fun r => r.filterMap colourOf := by
   funext r
   exact filter_id r
 rw [e2]
 rfl
theorem right_iff (w h : Nat) (rows : List (List Nat)) : (Chart.mk w h rows).right = true ↔ (1 ≤ w ∧ w ≤ 512 ∧ 1 ≤ h ∧ h ≤ 512) ∧ w * h ≤ 65536 ∧ rows.length = h ∧ ∀ r ∈ rows, r.length = w ∧ ∀ k ∈ r, k < 62 := by
 unfold Chart.right sizeOk SIDE KNOTS COLOURS
 simp only [Bool.and_eq_true, decide_eq_true_eq, List.all_eq_true]
theorem sized_iff (w h : Nat) : sized w h = true ↔ (1 ≤ w ∧ w ≤ 512 ∧ 1 ≤ h ∧ h ≤ 512) ∧ w * h ≤ 65536 := by
 unfold sized
 simp only [Bool.and_eq_true, decide_eq_true_eq]
 constructor
 · rintro ⟨⟨⟨a, b⟩, c, d⟩, e⟩
   exact ⟨⟨a, b, c, d⟩, e⟩
 · rintro ⟨⟨a, b, c, d⟩, e⟩
   exact ⟨⟨⟨a, b⟩, c, d⟩, e⟩
theorem good_iff (rows : List (List Int)) : goodRows rows = true ↔ sized ((rows.headD []).length) rows.length = true ∧ ∀ r ∈ rows, r.length = (rows.headD []).length ∧ ∀ b ∈ r, isCol b = true := by
 unfold goodRows
 simp only [Bool.and_eq_true, decide_eq_true_eq, List.all_eq_true]
theorem cols_u8 {r : List Int} (h : ∀ b ∈ r, isCol b = true) : (colsOf r).map byteOf = r.map u8 := by
 unfold colsOf
 rw [List.map_map]
 refine List.map_congr_left fun b hb => ?_
 show byteOf (colN b) = u8 b
 rw [← u8_byteZ, byteZ_colN (h b hb)]
theorem chart_read {t : List Int} (ht : ∀ b ∈ t, isByte b) : chartOf (t.map u8) = (readZ t).map chartZ := by
 have hs : splitU [] (t.map u8) = (split [] t).map fun r => r.map u8 := split_map [] t ht
 have hh : (((split [] t).map fun r => r.map u8).headD []).length = ((split [] t).headD []).length := by
   cases split [] t with
   | nil => rfl
   | cons r l => exact List.length_map _
 have hc : chartU (t.map u8) = ⟨((split [] t).headD []).length, (split [] t).length, (split [] t).map fun r => (r.map u8).filterMap colourOf⟩ := by
   unfold chartU
   rw [hs, hh, List.length_map, List.map_map]
   rfl
 rw [chartOf_eq]
 unfold readZ
 by_cases hg : t.getLast? = some 10 ∧ goodRows (split [] t) = true
 · rw [if_pos hg]
   obtain ⟨h1, h2⟩ := hg
   obtain ⟨h3, h4⟩ := (good_iff _).mp h2
   have e : chartU (t.map u8) = chartZ (split [] t) := by
     rw [hc]
     unfold chartZ
     congr 1
     exact List.map_congr_left fun r hr => filterMap_cols (h4 r hr).2
   have hr : (chartZ (split [] t)).right = true := by
     obtain ⟨a, b⟩ := (sized_iff _ _).mp h3
     refine (right_iff _ _ _).mpr ⟨a, b, List.length_map _, fun r hr => ?_⟩
     obtain ⟨q, hq, rfl⟩ := List.mem_map.mp hr
     exact ⟨by rw [colsOf_len]; exact (h4 q hq).1, colsOf_lt (h4 q hq).2⟩
   have hx : (chartZ (split [] t)).text = t.map u8 := by
     have z := split_back [] (t.map u8)
     have z2 : restU [] (t.map u8) = [] := rest_map [] t ht h1
     rw [z2, List.append_nil, hs] at z
     have z : t.map u8 = ((split [] t).map fun r => r.map u8).flatMap fun r => r ++ [LF] := z
     rw [z]
     unfold Chart.text chartZ
     simp only [List.flatMap_map]
     have go : ∀ l : List (List Int), (∀ r ∈ l, ∀ b ∈ r, isCol b = true) → (l.flatMap fun r => (colsOf r).map byteOf ++ [LF]) = l.flatMap fun r => r.map u8 ++ [LF] := by
       intro l
       induction l with
       | nil => exact fun _ => rfl
       | cons r l ih => exact fun hl => by rw [List.flatMap_cons, List.flatMap_cons, cols_u8 (hl r List.mem_cons_self), ih fun q hq => hl q (List.mem_cons_of_mem _ hq)]
     exact go _ fun r hr => (h4 r hr).2
   rw [e, if_pos ⟨hr, hx⟩]
   rfl
 · rw [if_neg hg]
   refine if_neg fun hq => hg ?_
   obtain ⟨q1, q2⟩ := hq
   rw [hc] at q1 q2
   obtain ⟨a, b, c, d⟩ := (right_iff _ _ _).mp q1
   have q2 : (((split [] t).map fun r => (r.map u8).filterMap colourOf).flatMap fun r => r.map byteOf ++ [LF]) = t.map u8 := q2
   have hrows : ((split [] t).map fun r => ((r.map u8).filterMap colourOf).map byteOf) = (split [] t).map fun r => r.map u8 := by
     have z := split_rows ((split [] t).map fun r => ((r.map u8).filterMap colourOf).map byteOf) (fun r hr x hx => by
       obtain ⟨q, hq, rfl⟩ := List.mem_map.mp hr
       obtain ⟨k, hk, rfl⟩ := List.mem_map.mp hx
       exact byteOf_ne ((d _ (List.mem_map.mpr ⟨q, hq, rfl⟩)).2 k hk))
     rw [← z, ← hs, ← q2]
     simp only [List.flatMap_map]
   have hrow : ∀ r ∈ split [] t, ((r.map u8).filterMap colourOf).map byteOf = r.map u8 := fun r hr => by
     have := List.map_inj_left.mp hrows r hr
     exact this
   have hsb : ∀ (w t : List Int), (∀ b ∈ w, isByte b) → (∀ b ∈ t, isByte b) → ∀ r ∈ split w t, ∀ b ∈ r, isByte b := by
     intro w t
     induction t generalizing w with
     | nil => exact fun _ _ r hr => nomatch hr
     | cons x t ih =>
       intro hw hx r hr
       unfold split at hr
       split at hr
       · rcases List.mem_cons.mp hr with rfl | hr
         · exact hw
         · exact ih [] (fun _ q => nomatch q) (fun b hb => hx b (List.mem_cons_of_mem _ hb)) r hr
       · refine ih (w ++ [x]) (fun b hb => ?_) (fun b hb => hx b (List.mem_cons_of_mem _ hb)) r hr
         rcases List.mem_append.mp hb with q | q
         · exact hw b q
         · rw [List.mem_singleton.mp q]
           exact hx x List.mem_cons_self
   have hcol : ∀ r ∈ split [] t, ∀ b ∈ r, isCol b = true := fun r hr b hb => by
     have hm : u8 b ∈ ((r.map u8).filterMap colourOf).map byteOf := by
       rw [hrow r hr]
       exact List.mem_map.mpr ⟨b, hb, rfl⟩
     obtain ⟨k, hk, e⟩ := List.mem_map.mp hm
     have hk2 := (d _ (List.mem_map.mpr ⟨r, hr, rfl⟩)).2 k hk
     have bb := hsb [] t (fun _ q => nomatch q) ht r hr b hb
     have e2 : b = byteZ k := u8_inj bb (byteZ_byte k) (by rw [u8_byteZ, e])
     rw [e2]
     exact isCol_byteZ hk2
   refine ⟨?_, (good_iff _).mpr ⟨(sized_iff _ _).mpr ⟨a, b⟩, fun r hr => ⟨?_, hcol r hr⟩⟩⟩
   · -- the text ends with a 10
     have hne : split [] t ≠ [] := fun e => by
       have : (split [] t).length = 0 := by rw [e]; rfl
       omega
     obtain ⟨l, r, e⟩ : ∃ l r, split [] t = l ++ [r] := ⟨_, _, (List.dropLast_concat_getLast hne).symm⟩
     rw [e, List.map_append, List.flatMap_append] at q2
     have q3 : (t.map u8).getLast? = some LF := by
       rw [← q2]
       simp
     rw [List.getLast?_map] at q3
     obtain ⟨b, hb, e2⟩ := Option.map_eq_some_iff.mp q3
     have bb := ht b (List.mem_of_getLast? hb)
     rw [hb, (u8_ten bb).mp e2]
   · have z := (d _ (List.mem_map.mpr ⟨r, hr, rfl⟩)).1
     rw [filterMap_cols (hcol r hr), colsOf_len] at z
     exact z
theorem read_right {t : List Int} {rows : List (List Int)} (h : readZ t = some rows) : (chartZ rows).right = true ∧ rows.map (fun r => bytesZ (colsOf r)) = rows ∧ rows ≠ [] := by
 unfold readZ at h
 split at h
 · rename_i hg
   cases h
   obtain ⟨h3, h4⟩ := (good_iff _).mp hg.2
   obtain ⟨a, b⟩ := (sized_iff _ _).mp h3
   refine ⟨(right_iff _ _ _).mpr ⟨a, b, List.length_map _, fun r hr => ?_⟩, ?_, fun e => ?_⟩
   · obtain ⟨q, hq, rfl⟩ := List.mem_map.mp hr
     exact ⟨by rw [colsOf_len]; exact (h4 q hq).1, colsOf_lt (h4 q hq).2⟩
   · conv => rhs; rw [← List.map_id (split [] t)]
     exact List.map_congr_left fun r hr => bytesZ_colsOf (h4 r hr).2
   · rw [e] at a
     exact absurd a.1 (by show ¬ 1 ≤ 0; omega)
 · cases h
end Lm
namespace Lm
open Rg RugH
def tieP (part : List Int) : Nat → List Int → Nat × Option (List Int × List Int)
 | 0, _ => (0, none)
 | g + 1, b => if (b.take part.length).length < part.length ∨ (b.take part.length).all isCol = false then (1, none)
   else if b.take part.length ≠ part ∧ 0 < g then ((tieP part g (b.drop part.length)).1 + 1, (tieP part g (b.drop part.length)).2)
   else (1, some (b.take part.length, b.drop part.length))
def tieR (tries : Nat) : List Nat → List Int → List Int → Nat × Option (List Int)
 | [], _, _ => (0, some [])
 | s :: r, row, b => match tieP (row.take s) tries b with
   | (n, none) => (n, none)
   | (n, some (t, b')) => (n + (tieR tries r (row.drop s) b').1, (tieR tries r (row.drop s) b').2.map fun q => t ++ q)
theorem tieP_asked (part : List Int) : ∀ (g : Nat) (b : List Int), (tieP part g b).1 ≤ g
 | 0, _ => Nat.le_refl _
 | g + 1, b => by
   unfold tieP
   split
   · exact Nat.succ_le_succ (Nat.zero_le _)
   · split
     · exact Nat.succ_le_succ (tieP_asked part g _)
     · exact Nat.succ_le_succ (Nat.zero_le _)
theorem tieP_some (part : List Int) : ∀ (g : Nat) (b t r : List Int), (tieP part g b).2 = some (t, r) → t.length = part.length ∧ (∀ x ∈ t, isCol x = true) ∧ ∀ x ∈ r, x ∈ b
 | 0, _, _, _, h => by
   unfold tieP at h
   cases h
 | g + 1, b, t, r, h => by
   unfold tieP at h
   split at h
   · cases h
   · rename_i hc
     split at h
     · obtain ⟨h1, h2, h3⟩ := tieP_some part g _ t r h
       exact ⟨h1, h2, fun x hx => List.mem_of_mem_drop (h3 x hx)⟩
     · have h := Option.some.inj h
       cases h
       refine ⟨?_, fun x hx => ?_, fun x hx => List.mem_of_mem_drop hx⟩
       · have := List.length_take_le part.length b
         omega
       · have : (b.take part.length).all isCol = true := by
           cases e : (b.take part.length).all isCol with
           | true => rfl
           | false => exact absurd (.inr e) hc
         exact List.all_eq_true.mp this x hx
theorem tieR_some (tries : Nat) : ∀ (sh : List Nat) (row b t : List Int), sh.sum ≤ row.length → (tieR tries sh row b).2 = some t → t.length = sh.sum ∧ ∀ x ∈ t, isCol x = true
 | [], _, _, t, _, h => by
   cases h
   exact ⟨rfl, fun _ q => nomatch q⟩
 | s :: r, row, b, t, hs, h => by
   rw [List.sum_cons] at hs ⊢
   unfold tieR at h
   split at h
   · cases h
   · rename_i n u b' e
     obtain ⟨q, hq, rfl⟩ := Option.map_eq_some_iff.mp h
     obtain ⟨a1, a2, _⟩ := tieP_some _ _ _ _ _ (congrArg (·.2) e)
     obtain ⟨b1, b2⟩ := tieR_some tries r (row.drop s) b' q (by rw [List.length_drop]; omega) hq
     rw [List.length_take] at a1
     refine ⟨by rw [List.length_append]; omega, fun x hx => ?_⟩
     rcases List.mem_append.mp hx with z | z
     · exact a2 x z
     · exact b2 x z
theorem take_map {b : List Int} (n : Nat) : (b.map u8).take n = (b.take n).map u8 := List.map_take.symm
theorem drop_map {b : List Int} (n : Nat) : (b.map u8).drop n = (b.drop n).map u8 := List.map_drop.symm
theorem ties_part {l : Loom} {tries : Nat} {row : List Nat} {j : Nat} (hj : j < l.shares.length) (hc : ∀ k ∈ l.part j row, k < 62) :
   ∀ (g f fuel : Nat) (b : List Int) (n : Nat) (had : List Nat), f + g = tries → g ≤ fuel → 1 ≤ g → (∀ x ∈ b, isByte x) →
     tiesFrom l tries row fuel j f (b.map u8) n had = match tieP (bytesZ (l.part j row)) g b with
       | (a, none) => (n + a, none)
       | (a, some (t, b')) => tiesFrom l tries row (fuel - a) (j + 1) 0 (b'.map u8) (n + a) (had ++ colsOf t)
 | 0, _, _, _, _, _, _, _, h, _ => by omega
 | g + 1, f, 0, b, n, had, _, h, _, _ => by omega
 | g + 1, f, fuel + 1, b, n, had, hf, hfu, hg, hb => by
   have hbt : ∀ x ∈ b.take (l.part j row).length, isByte x := fun x hx => hb x (List.mem_of_mem_take hx)
   rw [tiesFrom]
   rw [if_neg (by omega)]
   simp only [take_map, drop_map, List.length_map]
   rw [any_none hbt]
   unfold tieP
   rw [bytesZ_len]
   by_cases h1 : (b.take (l.part j row).length).length < (l.part j row).length ∨ (b.take (l.part j row).length).all isCol = false
   · rw [if_pos (by
       rcases h1 with z | z
       · exact .inl z
       · exact .inr (by rw [z]; rfl)), if_pos h1]
   · have hall : (b.take (l.part j row).length).all isCol = true := by
       cases e : (b.take (l.part j row).length).all isCol with
       | true => rfl
       | false => exact absurd (.inr e) h1
     have hcol := List.all_eq_true.mp hall
     rw [if_neg (by
       rintro (z | z)
       · exact h1 (.inl z)
       · rw [hall] at z; cases z), if_neg h1, filterMap_cols hcol]
     have hiff : colsOf (b.take (l.part j row).length) ≠ l.part j row ↔ b.take (l.part j row).length ≠ bytesZ (l.part j row) := by
       constructor
       · intro z e
         exact z (by rw [e, colsOf_bytesZ hc])
       · intro z e
         have e2 := congrArg bytesZ e
         rw [bytesZ_colsOf hcol] at e2
         exact z e2
     by_cases h2 : b.take (l.part j row).length ≠ bytesZ (l.part j row) ∧ 0 < g
     · rw [if_pos ⟨hiff.mpr h2.1, by omega⟩, if_pos h2]
       have ih := ties_part (row := row) hj hc g (f + 1) fuel (b.drop (l.part j row).length) (n + 1) had (show f + 1 + g = tries by omega) (by omega) h2.2 (fun x hx => hb x (List.mem_of_mem_drop hx))
       rw [ih]
       generalize tieP (bytesZ (l.part j row)) g (b.drop (l.part j row).length) = z
       obtain ⟨a, o⟩ := z
       cases o with
       | none =>
         show (n + 1 + a, none) = (n + (a + 1), none)
         rw [show n + 1 + a = n + (a + 1) by omega]
       | some tb =>
         obtain ⟨t, b'⟩ := tb
         show tiesFrom l tries row (fuel - a) (j + 1) 0 (b'.map u8) (n + 1 + a) (had ++ colsOf t) = tiesFrom l tries row (fuel + 1 - (a + 1)) (j + 1) 0 (b'.map u8) (n + (a + 1)) (had ++ colsOf t)
         rw [show n + 1 + a = n + (a + 1) by omega, show fuel + 1 - (a + 1) = fuel - a by omega]
     · rw [if_neg (by
         rintro ⟨z1, z2⟩
         exact h2 ⟨hiff.mp z1, by omega⟩), if_neg h2]
       rfl
theorem ties_row {l : Loom} {tries : Nat} {row : List Nat} (ht : 1 ≤ tries) (hc : ∀ k ∈ row, k < 62) :
   ∀ (sh : List Nat) (j fuel : Nat) (b : List Int) (n : Nat) (had : List Nat), l.shares.drop j = sh → j ≤ l.shares.length → sh.length * tries + 1 ≤ fuel → (∀ x ∈ b, isByte x) →
     tiesFrom l tries row fuel j 0 (b.map u8) n had =
       (n + (tieR tries sh (bytesZ (row.drop (l.shares.take j).sum)) b).1, (tieR tries sh (bytesZ (row.drop (l.shares.take j).sum)) b).2.map fun t => had ++ colsOf t)
 | [], j, 0, b, n, had, _, _, hf, _ => by omega
 | [], j, fuel + 1, b, n, had, hs, hj, hf, hb => by
   have hj2 : l.shares.length ≤ j := List.drop_eq_nil_iff.mp hs
   rw [tiesFrom, if_pos hj2]
   show (n, some had) = (n + 0, some (had ++ colsOf []))
   show (n, some had) = (n, some (had ++ []))
   rw [List.append_nil]
 | s :: r, j, fuel, b, n, had, hs, hj, hf, hb => by
   have hlt : j < l.shares.length := by
     rcases Nat.lt_or_ge j l.shares.length with z | z
     · exact z
     · rw [List.drop_eq_nil_iff.mpr z] at hs
       cases hs
   have hs2 := hs
   rw [List.drop_eq_getElem_cons hlt] at hs2
   obtain ⟨e1, e2⟩ := List.cons.inj hs2
   have hget : l.shares.getD j 0 = s := by
     rw [List.getD_eq_getElem?_getD, List.getElem?_eq_getElem hlt, e1]
     rfl
   have hpart : l.part j row = (row.drop (l.shares.take j).sum).take s := by
     unfold Loom.part
     rw [hget]
   have hpc : ∀ k ∈ l.part j row, k < 62 := fun k hk => by
     rw [hpart] at hk
     exact hc k (List.mem_of_mem_drop (List.mem_of_mem_take hk))
   have hsum : (l.shares.take (j + 1)).sum = (l.shares.take j).sum + s := by
     rw [List.take_succ_eq_append_getElem hlt, List.sum_append, e1]
     simp
   have hfl : (r.length + 1) * tries + 1 ≤ fuel := hf
   rw [Nat.succ_mul] at hfl
   rw [ties_part hlt hpc tries 0 fuel b n had (by omega) (by omega) ht hb]
   have hz : bytesZ (l.part j row) = (bytesZ (row.drop (l.shares.take j).sum)).take s := by
     rw [hpart]
     unfold bytesZ
     rw [List.map_take]
   rw [hz]
   conv => rhs; unfold tieR
   have hask := tieP_asked ((bytesZ (row.drop (l.shares.take j).sum)).take s) tries b
   have hsome := tieP_some ((bytesZ (row.drop (l.shares.take j).sum)).take s) tries b
   generalize tieP ((bytesZ (row.drop (l.shares.take j).sum)).take s) tries b = z at hask hsome ⊢
   obtain ⟨a, o⟩ := z
   cases o with
   | none => rfl
   | some tb =>
     obtain ⟨t, b'⟩ := tb
     have hask : a ≤ tries := hask
     obtain ⟨_, _, hb'⟩ := hsome t b' rfl
     have hd : bytesZ (row.drop (l.shares.take (j + 1)).sum) = (bytesZ (row.drop (l.shares.take j).sum)).drop s := by
       unfold bytesZ
       rw [← List.map_drop, List.drop_drop, hsum]
     have ih := ties_row (l := l) (row := row) ht hc r (j + 1) (fuel - a) b' (n + a) (had ++ colsOf t) e2 hlt (by omega) (fun x hx => hb x (hb' x hx))
     show tiesFrom l tries row (fuel - a) (j + 1) 0 (b'.map u8) (n + a) (had ++ colsOf t) = _
     rw [ih, hd]
     dsimp only
     generalize tieR tries r ((bytesZ (row.drop (l.shares.take j).sum)).drop s) b' = y
     obtain ⟨c, o⟩ := y
     show (n + a + c, o.map fun u => had ++ colsOf t ++ colsOf u) = (n + (a + c), (o.map fun q => t ++ q).map fun u => had ++ colsOf u)
     rw [Nat.add_assoc]
     cases o with
     | none => rfl
     | some q =>
       show (_, some (had ++ colsOf t ++ colsOf q)) = (_, some (had ++ colsOf (t ++ q)))
       unfold colsOf
       rw [List.map_append, List.append_assoc]
theorem ties_all {l : Loom} {tries : Nat} {row : List Nat} (ht : 1 ≤ tries) (hc : ∀ k ∈ row, k < 62) {b : List Int} (hb : ∀ x ∈ b, isByte x) :
   tiesFrom l tries row (l.shares.length * tries + 1) 0 0 (b.map u8) 0 [] = ((tieR tries l.shares (bytesZ row) b).1, (tieR tries l.shares (bytesZ row) b).2.map colsOf) := by
 have h := ties_row (l := l) (row := row) ht hc l.shares 0 (l.shares.length * tries + 1) b 0 [] rfl (Nat.zero_le _) (Nat.le_refl _) hb
 rw [h]
 simp
def wrongZ (knots row : List Int) : Nat := ((knots.zip row).filter fun x => x.1 != x.2).length
theorem wrong_in : ∀ {t row : List Int}, (∀ x ∈ t, isCol x = true) → (∀ x ∈ row, isCol x = true) → wrongIn (colsOf row) (colsOf t) = wrongZ t row
 | [], [], _, _ => rfl
 | [], _ :: _, _, _ => rfl
 | _ :: _, [], _, _ => rfl
 | a :: t, b :: row, h1, h2 => by
   have ih := wrong_in (t := t) (row := row) (fun x hx => h1 x (List.mem_cons_of_mem _ hx)) (fun x hx => h2 x (List.mem_cons_of_mem _ hx))
   have ha := h1 a List.mem_cons_self
   have hb := h2 b List.mem_cons_self
   unfold wrongIn wrongZ at ih ⊢
   show ((((colN b, colN a)) :: (colsOf row).zip (colsOf t)).filter fun x => x.1 != x.2).length = (((a, b) :: t.zip row).filter fun x => x.1 != x.2).length
   rw [List.filter_cons, List.filter_cons]
   have e : (colN b != colN a) = (a != b) := by
     by_cases q : a = b
     · rw [q, bne_self_eq_false, bne_self_eq_false]
     · have q2 : ¬ colN b = colN a := fun z => q (by rw [← byteZ_colN ha, ← byteZ_colN hb, z])
       rw [bne_iff_ne.mpr q2, bne_iff_ne.mpr q]
   show (if (colN b != colN a) = true then (colN b, colN a) :: _ else _).length = (if (a != b) = true then (a, b) :: _ else _).length
   rw [e]
   split
   · rw [List.length_cons, List.length_cons, ih]
   · exact ih
end Lm
namespace Lm
open Rg RugH
def wrongRow (y : Nat) (r q : List Nat) : List (Nat × Nat × Nat) := (r.zip q).zipIdx.filterMap fun (k : (Nat × Nat) × Nat) => if k.1.1 = k.1.2 then none else some (k.2, y, k.1.1)
theorem wrong_row_aux (y : Nat) (f : Nat → Nat) : ∀ (r q : List Nat) (x : Nat), r.length ≤ q.length → (∀ j c, q[j]? = some c → f (x + j) = c) →
   ((r.zipIdx x).filterMap fun (k : Nat × Nat) => if k.1 = f k.2 then none else some (k.2, y, k.1)) = ((r.zip q).zipIdx x).filterMap fun (k : (Nat × Nat) × Nat) => if k.1.1 = k.1.2 then none else some (k.2, y, k.1.1)
 | [], _, _, _, _ => rfl
 | a :: r, [], _, h, _ => by simp at h
 | a :: r, c :: q, x, h, hf => by
   have h0 : f x = c := hf 0 c rfl
   have ih := wrong_row_aux y f r q (x + 1) (by simpa using h) (fun j d e => by
     have := hf (j + 1) d e
     rw [show x + 1 + j = x + (j + 1) by omega]
     exact this)
   rw [List.zip_cons_cons, List.zipIdx_cons, List.zipIdx_cons, List.filterMap_cons, List.filterMap_cons]
   simp only [h0]
   rw [ih]
theorem wrong_aux (F : List Nat → Nat → List (Nat × Nat × Nat)) : ∀ (done rows : List (List Nat)) (y : Nat), done.length ≤ rows.length →
   (∀ j r q, done[j]? = some r → rows[j]? = some q → F r (y + j) = wrongRow (y + j) r q) →
   ((done.zipIdx y).flatMap fun (r : List Nat × Nat) => F r.1 r.2) = ((done.zip rows).zipIdx y).flatMap fun (z : (List Nat × List Nat) × Nat) => wrongRow z.2 z.1.1 z.1.2
 | [], _, _, _, _ => rfl
 | a :: r, [], _, h, _ => by simp at h
 | a :: r, c :: q, y, h, hf => by
   have h0 : F a y = wrongRow y a c := hf 0 a c rfl rfl
   have ih := wrong_aux F r q (y + 1) (by simpa using h) (fun j u v e1 e2 => by
     have := hf (j + 1) u v e1 e2
     rw [show y + 1 + j = y + (j + 1) by omega]
     exact this)
   rw [List.zip_cons_cons, List.zipIdx_cons, List.zipIdx_cons, List.flatMap_cons, List.flatMap_cons, ih]
   simp only [h0]
theorem wrong_eq (l : Loom) (h1 : l.done.length ≤ l.chart.rows.length) (h2 : ∀ (j : Nat) (r q : List Nat), l.done[j]? = some r → l.chart.rows[j]? = some q → r.length ≤ q.length) :
   l.wrong = ((l.done.zip l.chart.rows).zipIdx).flatMap fun (z : (List Nat × List Nat) × Nat) => wrongRow z.2 z.1.1 z.1.2 := by
 unfold Loom.wrong
 refine wrong_aux (fun r y => r.zipIdx.filterMap fun (k : Nat × Nat) => if k.1 = l.chart.at_ k.2 y then none else some (k.2, y, k.1)) l.done l.chart.rows 0 h1 fun j r q e1 e2 => ?_
 unfold wrongRow
 refine wrong_row_aux (0 + j) (fun x => l.chart.at_ x (0 + j)) r q 0 (h2 j r q e1 e2) fun x c e => ?_
 unfold Chart.at_
 rw [Nat.zero_add, Nat.zero_add, List.getD_eq_getElem?_getD, List.getD_eq_getElem?_getD, e2]
 simp only [Option.getD_some]
 rw [e]
 rfl
theorem wrongRow_len (y : Nat) : ∀ (r q : List Nat) (x : Nat), (((r.zip q).zipIdx x).filterMap fun (k : (Nat × Nat) × Nat) => if k.1.1 = k.1.2 then none else some (k.2, y, k.1.1)).length = ((q.zip r).filter fun (x : Nat × Nat) => x.1 != x.2).length
 | [], [], _ => rfl
 | [], _ :: _, _ => rfl
 | _ :: _, [], _ => rfl
 | a :: r, c :: q, x => by
   rw [List.zip_cons_cons, List.zip_cons_cons, List.zipIdx_cons, List.filterMap_cons, List.filter_cons]
   by_cases e : a = c
   · simp only [e, if_true]
     rw [wrongRow_len y r q (x + 1), if_neg (by simp)]
   · simp only [e, if_false]
     rw [if_pos (by simp; exact fun z => e z.symm), List.length_cons, List.length_cons, wrongRow_len y r q (x + 1)]
theorem wrong_len_aux : ∀ (p : List (List Nat × List Nat)) (y : Nat), ((p.zipIdx y).flatMap fun (z : (List Nat × List Nat) × Nat) => wrongRow z.2 z.1.1 z.1.2).length = (p.map fun z => wrongIn z.2 z.1).sum
 | [], _ => rfl
 | (r, q) :: p, y => by
   rw [List.zipIdx_cons, List.flatMap_cons, List.length_append, wrong_len_aux p (y + 1), List.map_cons, List.sum_cons]
   congr 1
   exact wrongRow_len y r q 0
def wrongsZ (done rows : List (List Int)) : Nat := ((done.zip rows).map fun z => wrongZ z.1 z.2).sum
theorem wrongs_aux : ∀ (done rows : List (List Nat)), (∀ r ∈ done, ∀ k ∈ r, k < 62) → (∀ r ∈ rows, ∀ k ∈ r, k < 62) →
   ((done.zip rows).map fun z => wrongIn z.2 z.1).sum = wrongsZ (done.map bytesZ) (rows.map bytesZ)
 | [], [], _, _ => rfl
 | [], _ :: _, _, _ => rfl
 | _ :: _, [], _, _ => rfl
 | r :: done, q :: rows, h1, h2 => by
   have ih := wrongs_aux done rows (fun r hr => h1 r (List.mem_cons_of_mem _ hr)) (fun r hr => h2 r (List.mem_cons_of_mem _ hr))
   have a := h1 r List.mem_cons_self
   have b := h2 q List.mem_cons_self
   have e := wrong_in (t := bytesZ r) (row := bytesZ q) (bytesZ_col a) (bytesZ_col b)
   rw [colsOf_bytesZ a, colsOf_bytesZ b] at e
   unfold wrongsZ at ih ⊢
   rw [List.map_cons, List.map_cons, List.zip_cons_cons, List.zip_cons_cons, List.map_cons, List.map_cons, List.sum_cons, List.sum_cons, ih, e]
structure LoomOk (l : Loom) : Prop where
 right : l.chart.right = true
 shares : sharesOk l.chart l.shares = true
 most : l.shares.length ≤ 8
 some : l.shares ≠ []
 done : l.done.length ≤ l.chart.rows.length
 wide : ∀ r ∈ l.done, r.length = l.chart.wide ∧ ∀ k ∈ r, k < 62
theorem LoomOk.rows {l : Loom} (h : LoomOk l) : (1 ≤ l.chart.wide ∧ l.chart.wide ≤ 512 ∧ 1 ≤ l.chart.high ∧ l.chart.high ≤ 512) ∧ l.chart.wide * l.chart.high ≤ 65536 ∧ l.chart.rows.length = l.chart.high ∧ ∀ r ∈ l.chart.rows, r.length = l.chart.wide ∧ ∀ k ∈ r, k < 62 := by
 have e := h.right
 unfold Chart.right sizeOk SIDE KNOTS COLOURS at e
 simp only [Bool.and_eq_true, decide_eq_true_eq, List.all_eq_true] at e
 exact e
theorem LoomOk.wrongs {l : Loom} (h : LoomOk l) : l.wrong.length = wrongsZ (l.done.map bytesZ) (l.chart.rows.map bytesZ) := by
 obtain ⟨_, _, _, hr⟩ := h.rows
 rw [wrong_eq l h.done (fun j r q e1 e2 => by
   rw [(h.wide r (List.mem_of_getElem? e1)).1, (hr q (List.mem_of_getElem? e2)).1]
   exact Nat.le_refl _), wrong_len_aux]
 exact wrongs_aux _ _ (fun r hr' => (h.wide r hr').2) fun r hr' => (hr r hr').2
theorem shares_iff (c : Chart) (s : List Nat) : sharesOk c s = true ↔ (∀ k ∈ s, 1 ≤ k ∧ k ≤ 128) ∧ s.sum = c.wide := by
 unfold sharesOk SHARE
 simp only [Bool.and_eq_true, List.all_eq_true, decide_eq_true_eq, beq_iff_eq]
end Lm
namespace Lm
open Rg RugH
def sharesZ (sh : List Int) (w : Int) : Bool := sh.all (fun k => decide (1 ≤ k) && decide (k ≤ 128)) && decide (sh.sum = w)
theorem sum_toNat : ∀ {sh : List Int}, (∀ k ∈ sh, 0 ≤ k) → (((sh.map Int.toNat).sum : Nat) : Int) = sh.sum
 | [], _ => rfl
 | a :: sh, h => by
   have ih := sum_toNat (sh := sh) fun k hk => h k (List.mem_cons_of_mem _ hk)
   have ha := h a List.mem_cons_self
   rw [List.map_cons, List.sum_cons, List.sum_cons, ← ih]
   omega
theorem shares_eq {c : Chart} {sh : List Int} (h : ∀ k ∈ sh, 0 ≤ k) : sharesOk c (sh.map Int.toNat) = sharesZ sh (c.wide : Int) := by
 rw [Bool.eq_iff_iff, shares_iff]
 unfold sharesZ
 rw [Bool.and_eq_true, List.all_eq_true, decide_eq_true_eq]
 have hs := sum_toNat h
 constructor
 · rintro ⟨a, b⟩
   refine ⟨fun k hk => ?_, by omega⟩
   have := a k.toNat (List.mem_map.mpr ⟨k, hk, rfl⟩)
   have := h k hk
   rw [Bool.and_eq_true, decide_eq_true_eq, decide_eq_true_eq]
   omega
 · rintro ⟨a, b⟩
   refine ⟨fun k hk => ?_, by omega⟩
   obtain ⟨z, hz, rfl⟩ := List.mem_map.mp hk
   have := a z hz
   rw [Bool.and_eq_true, decide_eq_true_eq, decide_eq_true_eq] at this
   omega
theorem step_begin (st : State) {t sh : List Int} (ht : ∀ b ∈ t, isByte b) (hs : ∀ k ∈ sh, 0 ≤ k) :
   RugH.step st (.begin_ (t.map u8) (sh.map Int.toNat)) = if 66048 < t.length ∨ 8 < sh.length then (st, MUCH) else if sh = [] then (st, BAD) else match readZ t with
     | none => (st, WRONG)
     | some rows => if sharesZ sh (((rows.headD []).length : Nat) : Int) = true then (some ⟨chartZ rows, sh.map Int.toNat, [], 0⟩, says 0) else (st, BAD) := by
 show (if TEXT < (t.map u8).length ∨ KNOTTERS < (sh.map Int.toNat).length then (st, MUCH) else if sh.map Int.toNat = [] then (st, BAD) else begun st (match chartOf (t.map u8) with
   | none => .error WRONG
   | some c => .ok c) (sh.map Int.toNat)) = _
 rw [List.length_map, List.length_map, chart_read ht]
 by_cases h1 : 66048 < t.length ∨ 8 < sh.length
 · rw [if_pos h1]
   exact if_pos h1
 · rw [if_neg h1]
   have h1' : ¬ (TEXT < t.length ∨ KNOTTERS < sh.length) := h1
   rw [if_neg h1']
   by_cases h2 : sh = []
   · rw [if_pos h2, if_pos (by rw [h2]; rfl)]
   · rw [if_neg h2, if_neg (fun z => h2 (List.map_eq_nil_iff.mp z))]
     cases readZ t with
     | none => rfl
     | some rows =>
       show (if sharesOk (chartZ rows) (sh.map Int.toNat) = true then _ else _) = _
       rw [shares_eq hs]
       rfl
theorem begun_ok {t sh : List Int} {rows : List (List Int)} (hs : ∀ k ∈ sh, 0 ≤ k) (h : readZ t = some rows) (h8 : sh.length ≤ 8) (h0 : sh ≠ []) (h1 : sharesZ sh (((rows.headD []).length : Nat) : Int) = true) : LoomOk ⟨chartZ rows, sh.map Int.toNat, [], 0⟩ := by
 obtain ⟨a, _, _⟩ := read_right h
 refine ⟨a, ?_, by rw [List.length_map]; exact h8, fun z => h0 (List.map_eq_nil_iff.mp z), Nat.zero_le _, fun _ z => nomatch z⟩
 rw [shares_eq hs]
 exact h1
theorem row_none {L : Loom} (h : L.done.length = L.chart.rows.length) (tries : Nat) (b : Bytes) : rowOf L tries b = (L, NONE) := by
 have e : L.nextRow = none := by
   unfold Loom.nextRow
   rw [h]
   exact List.getElem?_eq_none (Nat.le_refl _)
 unfold rowOf
 rw [e]
theorem row_some {L : Loom} (O : LoomOk L) {r : List Nat} (hr : L.chart.rows[L.done.length]? = some r) {tries : Nat} (ht : 1 ≤ tries) {b : List Int} (hb : ∀ x ∈ b, isByte x) :
   rowOf L tries (b.map u8) = match (tieR tries L.shares (bytesZ r) b).2 with
     | none => ({ L with asked := L.asked + (tieR tries L.shares (bytesZ r) b).1 }, LEFT)
     | some k => (L.with_ (colsOf k) (tieR tries L.shares (bytesZ r) b).1, tells ((wrongZ k (bytesZ r) : Nat) : Int) [((tieR tries L.shares (bytesZ r) b).1 : Int)]) := by
 have hr2 := (O.rows.2.2.2 r (List.mem_of_getElem? hr))
 have e : L.nextRow = some r := hr
 unfold rowOf
 rw [e]
 simp only
 rw [ties_all ht hr2.2 hb]
 cases hz : (tieR tries L.shares (bytesZ r) b).2 with
 | none => rfl
 | some k =>
   have hsum := ((shares_iff _ _).mp O.shares).2
   obtain ⟨_, hk⟩ := tieR_some tries L.shares (bytesZ r) b k (by rw [bytesZ_len, hr2.1, hsum]; exact Nat.le_refl _) hz
   have hw := wrong_in (t := k) (row := bytesZ r) hk (bytesZ_col hr2.2)
   rw [colsOf_bytesZ hr2.2] at hw
   simp only [Option.map_some]
   rw [hw]
theorem with_ok {L : Loom} (O : LoomOk L) {r : List Nat} (hr : L.chart.rows[L.done.length]? = some r) {tries : Nat} {b k : List Int} (hz : (tieR tries L.shares (bytesZ r) b).2 = some k) (n : Nat) : LoomOk (L.with_ (colsOf k) n) ∧ bytesZ (colsOf k) = k := by
 have hr2 := (O.rows.2.2.2 r (List.mem_of_getElem? hr))
 have hsum := ((shares_iff _ _).mp O.shares).2
 obtain ⟨hl, hk⟩ := tieR_some tries L.shares (bytesZ r) b k (by rw [bytesZ_len, hr2.1, hsum]; exact Nat.le_refl _) hz
 refine ⟨⟨O.right, O.shares, O.most, O.some, ?_, fun q hq => ?_⟩, bytesZ_colsOf hk⟩
 · show (L.done ++ [colsOf k]).length ≤ L.chart.rows.length
   rw [List.length_append]
   exact (List.getElem?_eq_some_iff.mp hr).1
 · have hq : q ∈ L.done ++ [colsOf k] := hq
   rcases List.mem_append.mp hq with z | z
   · exact O.wide q z
   · rw [List.mem_singleton.mp z]
     exact ⟨by rw [colsOf_len, hl, hsum]; rfl, colsOf_lt hk⟩
end Lm
namespace Lm
open Rg RugH
theorem split_sum : ∀ (t w : List Int), t.getLast? = some 10 → ((split w t).map fun r => r.length + 1).sum = w.length + t.length
 | [], _, h => by simp at h
 | [b], w, h => by
   have e : b = 10 := by simpa using h
   subst e
   show ([w].map fun r => r.length + 1).sum = w.length + 1
   simp
 | b :: c :: t, w, h => by
   have h' : (c :: t).getLast? = some 10 := by rw [← h, List.getLast?_cons_cons]
   rw [split]
   split
   · have ih := split_sum (c :: t) [] h'
     rw [List.map_cons, List.sum_cons, ih]
     simp only [List.length_nil, List.length_cons]
     omega
   · have ih := split_sum (c :: t) (w ++ [b]) h'
     rw [ih]
     simp only [List.length_append, List.length_nil, List.length_cons]
     omega
theorem sum_const {α : Type} (f : α → Nat) (c : Nat) : ∀ l : List α, (∀ x ∈ l, f x = c) → (l.map f).sum = l.length * c
 | [], _ => by simp
 | a :: l, h => by
   rw [List.map_cons, List.sum_cons, h a List.mem_cons_self, sum_const f c l fun x hx => h x (List.mem_cons_of_mem _ hx), List.length_cons, Nat.succ_mul]
   omega
theorem read_len {t : List Int} {rows : List (List Int)} (h : readZ t = some rows) : ((chartZ rows).wide + 1) * (chartZ rows).high = t.length := by
 unfold readZ at h
 split at h
 · rename_i hg
   cases h
   obtain ⟨h3, h4⟩ := (good_iff _).mp hg.2
   have z := split_sum t [] hg.1
   rw [sum_const (fun r : List Int => r.length + 1) (((split [] t).headD []).length + 1) (split [] t) fun r hr => by rw [(h4 r hr).1]] at z
   rw [Nat.mul_comm] at z
   simp only [List.length_nil, Nat.zero_add] at z
   exact z
 · cases h
theorem text_len {w : Nat} : ∀ (rows : List (List Nat)), (∀ r ∈ rows, r.length = w) → (rows.flatMap fun (r : List Nat) => r.map byteOf ++ [LF]).length = rows.length * (w + 1)
 | [], _ => by simp
 | r :: rows, h => by
   rw [List.flatMap_cons, List.length_append, text_len rows fun q hq => h q (List.mem_cons_of_mem _ hq), List.length_append, List.length_map, h r List.mem_cons_self]
   show w + 1 + rows.length * (w + 1) = (rows.length + 1) * (w + 1)
   rw [Nat.succ_mul]
   omega
theorem tied_len {L : Loom} (O : LoomOk L) (hs : (L.chart.wide + 1) * L.chart.high ≤ 30000) : L.tied.text.length ≤ 30000 := by
 unfold Loom.tied Chart.text
 rw [text_len (w := L.chart.wide) L.done fun r hr => (O.wide r hr).1]
 have h1 := O.done
 have h2 := O.rows.2.2.1
 have h3 : L.done.length * (L.chart.wide + 1) ≤ L.chart.high * (L.chart.wide + 1) := Nat.mul_le_mul_right _ (by omega)
 rw [Nat.mul_comm] at hs
 omega
theorem decimal_all : ∀ n : Fin 1000, (decimal n.val).length ≤ 3 := by decide +kernel
theorem decimal_le {n : Nat} (h : n < 1000) : (decimal n).length ≤ 3 := decimal_all ⟨n, h⟩
mutual
theorem textI_le : ∀ x : Item, okI x → (heardI x).length < 1000 → x.text.length + 1 ≤ 4 * x.words
 | .one n c, h, hl => by
   have hn : n < 1000 := by
     have hl : (List.replicate n c).length < 1000 := hl
     rwa [List.length_replicate] at hl
   have hd := decimal_le hn
   show ((if n = 1 then [] else decimal n ++ [42]) ++ [byteOf c]).length + 1 ≤ 4 * (if n = 1 then 1 else 2)
   by_cases e : n = 1
   · rw [if_pos e, if_pos e]
     simp
   · rw [if_neg e, if_neg e]
     simp only [List.length_append, List.length_cons, List.length_nil]
     omega
 | .group n l, h, hl => by
   obtain ⟨h1, h2, h3⟩ := h
   have hl : (List.replicate n (heard l)).flatten.length < 1000 := hl
   rw [rep_len] at hl
   have hp := heard_pos l h3
   have hn : n < 1000 := by
     have : n * 1 ≤ n * (heard l).length := Nat.mul_le_mul_left n (by omega)
     omega
   have hd := decimal_le hn
   have hll : (heard l).length < 1000 := by
     have : 1 * (heard l).length ≤ n * (heard l).length := Nat.mul_le_mul_right _ (by omega)
     omega
   have ih := textL_le l h3 hll
   show (decimal n ++ (42 :: 40 :: (itemsText l ++ [41]))).length + 1 ≤ 4 * (2 + wordsOf l)
   simp only [List.length_append, List.length_cons, List.length_nil]
   omega
theorem textL_le : ∀ l : List Item, okL l → (heard l).length < 1000 → (itemsText l).length ≤ 4 * wordsOf l
 | [], _, _ => Nat.zero_le _
 | x :: r, h, hl => by
   have hl : (heardI x ++ heard r).length < 1000 := hl
   rw [List.length_append] at hl
   have h1 := textI_le x h.1 (by omega)
   have h2 := textL_le r h.2 (by omega)
   show (x.text ++ (if r.isEmpty = true then [] else 32 :: itemsText r)).length ≤ 4 * (x.words + wordsOf r)
   rw [List.length_append]
   split
   · simp only [List.length_nil]
     omega
   · simp only [List.length_cons]
     omega
end
theorem plain_words : ∀ s : List Nat, wordsOf (s.map (Item.one 1)) = s.length
 | [] => rfl
 | a :: s => by
   show 1 + wordsOf (s.map (Item.one 1)) = s.length + 1
   rw [plain_words s]
   omega
theorem least_len {row : List Nat} (h : row ≠ []) (hl : row.length < 1000) : (itemsText (leastCall row)).length ≤ 4 * row.length := by
 obtain ⟨a, b, c⟩ := leastCall_ok h
 have h1 := textL_le (leastCall row) a (by rw [b]; exact hl)
 have h2 := le_words (c _ (plain_ok row) (plain_heard row))
 have h2 : wordsOf (leastCall row) ≤ wordsOf (row.map (Item.one 1)) := h2
 rw [plain_words] at h2
 omega
theorem part_len {L : Loom} (O : LoomOk L) {r : List Nat} (hr : r.length = L.chart.wide) {j : Nat} (hj : j < L.shares.length) : (L.part j r).length = L.shares.getD j 0 ∧ 1 ≤ L.shares.getD j 0 ∧ L.shares.getD j 0 ≤ 128 := by
 obtain ⟨h1, h2⟩ := (shares_iff _ _).mp O.shares
 have hg : L.shares.getD j 0 = L.shares[j] := by
   rw [List.getD_eq_getElem?_getD, List.getElem?_eq_getElem hj]
   rfl
 obtain ⟨h3, h4⟩ := h1 L.shares[j] (List.getElem_mem hj)
 have hs : (L.shares.take j).sum + L.shares[j] ≤ L.shares.sum := by
   have e : L.shares = L.shares.take (j + 1) ++ L.shares.drop (j + 1) := (List.take_append_drop _ _).symm
   have e2 : L.shares.sum = (L.shares.take (j + 1)).sum + (L.shares.drop (j + 1)).sum := by
     conv => lhs; rw [e]
     rw [List.sum_append]
   rw [List.take_succ_eq_append_getElem hj, List.sum_append] at e2
   simp only [List.sum_cons, List.sum_nil] at e2
   omega
 refine ⟨?_, by omega, by omega⟩
 unfold Loom.part
 rw [List.length_take, List.length_drop, hg, hr, ← h2]
 omega
structure Small (L : Loom) : Prop where
 ok : LoomOk L
 small : (L.chart.wide + 1) * L.chart.high ≤ 30000
theorem shown_len (a : Answer) : (RugHNeutral.shown a).length = 1 + (a.nums.length + a.bytes.length) := by
 unfold RugHNeutral.shown
 rw [List.length_cons, List.length_append, List.length_map]
 omega
theorem step_len {st : State} (h : ∀ L, st = some L → Small L) (x : RugH.Call) : (RugHNeutral.shown (RugH.step st x).2).length ≤ 30001 := by
 have hsays : ∀ z, (RugHNeutral.shown (says z)).length ≤ 30001 := fun z => by
   rw [shown_len]
   show 1 + (0 + 0) ≤ 30001
   omega
 have htells : ∀ z (l : List Int), l.length ≤ 100 → (RugHNeutral.shown (tells z l)).length ≤ 30001 := fun z l hl => by
   rw [shown_len]
   show 1 + (l.length + 0) ≤ 30001
   omega
 have hseen : ∀ f : Loom → Ans, (∀ L, st = some L → (RugHNeutral.shown (f L)).length ≤ 30001) → (RugHNeutral.shown (seen st f).2).length ≤ 30001 := fun f hf => by
   cases st with
   | none => exact hsays _
   | some L => exact hf L rfl
 cases x with
 | begin_ t sh =>
   show (RugHNeutral.shown (if TEXT < t.length ∨ KNOTTERS < sh.length then (st, MUCH) else if sh = [] then (st, BAD) else begun st _ sh).2).length ≤ 30001
   split
   · exact hsays _
   · split
     · exact hsays _
     · unfold begun
       split
       · rename_i a e
         cases hc : chartOf t with
         | none =>
           rw [hc] at e
           cases e
           exact hsays _
         | some c =>
           rw [hc] at e
           cases e
       · split
         · exact hsays _
         · exact hsays _
 | row tries b =>
   show (RugHNeutral.shown (if tries = 0 ∨ TRIES < tries then (st, BAD) else ofLoom st fun l => (some (rowOf l tries b).1, (rowOf l tries b).2)).2).length ≤ 30001
   split
   · exact hsays _
   · cases st with
     | none => exact hsays _
     | some L =>
       show (RugHNeutral.shown (rowOf L tries b).2).length ≤ 30001
       unfold rowOf
       split
       · exact hsays _
       · dsimp only
         split
         · exact hsays _
         · exact htells _ _ (by simp)
 | unpick k =>
   cases st with
   | none => exact hsays _
   | some L =>
     show (RugHNeutral.shown (if L.done.length < k then (some L, NO) else (some (L.unpicked k), says 0)).2).length ≤ 30001
     split
     · exact hsays _
     · exact hsays _
 | now => exact hseen _ fun L _ => htells _ _ (by simp)
 | tied =>
   refine hseen _ fun L e => ?_
   split
   · exact hsays _
   · rw [shown_len]
     have := tied_len (h L e).ok (h L e).small
     show 1 + (0 + L.tied.text.length) ≤ 30001
     omega
 | wrong k =>
   refine hseen _ fun L e => ?_
   split
   · exact hsays _
   · exact htells _ _ (by simp)
 | wool => exact hseen _ fun L e => htells _ _ (by simp [COLOURS])
 | said j =>
   refine hseen _ fun L e => ?_
   split
   · exact hsays _
   · rename_i hj
     split
     · exact hsays _
     · rename_i r hr
       rw [shown_len]
       have O := (h L e).ok
       have hrw := (O.rows.2.2.2 r (List.mem_of_getElem? hr)).1
       obtain ⟨p1, p2, p3⟩ := part_len O hrw (j := j) (by omega)
       have := least_len (row := L.part j r) (fun z => by rw [z] at p1; have p1 : 0 = L.shares.getD j 0 := p1; omega) (by omega)
       show 1 + (0 + (itemsText (leastCall (L.part j r))).length) ≤ 30001
       omega
theorem answer_len {st : State} (h : ∀ L, st = some L → Small L) (c : RugHNeutral.Call) : (RugHNeutral.step st c).2.length ≤ 30001 := by
 unfold RugHNeutral.step
 split
 · exact step_len h _
 · exact Nat.zero_le _
end Lm
namespace Lm
open Rg
def lk (u : List Nat) : Key := keyOf (leastCall u)
theorem lk_le {u : List Nat} (h : u ≠ []) {l : List Item} (ok : okL l) (hh : heard l = u) : le (lk u) (keyOf l) := (leastCall_ok h).2.2 l ok hh
theorem lk_ok (u : List Nat) : okK (lk u) := okK_keyOf _
theorem lk_len {u : List Nat} (h : u ≠ []) (hl : u.length ≤ 128) : (lk u).2.1 ≤ 512 := by
 have := least_len h (by omega)
 show (itemsText (leastCall u)).length ≤ 512
 omega
theorem str_ne {row : List Nat} {s n : Nat} (h : s + n ≤ row.length) (hn : 1 ≤ n) : str row s n ≠ [] := fun z => by
 have := str_len h
 rw [z] at this
 simp at this
 omega
def Rep (row : List Nat) (s p c : Nat) : Prop := s + c * p ≤ row.length ∧ str row s (c * p) = (List.replicate c (str row s p)).flatten
structure Snd (row : List Nat) (s e : Nat) (κ : Key) : Prop where
 it : ∃ x, okI x ∧ heardI x = str row s (e - s) ∧ κ = keyOf [x]
 lo : s < e
 hi : e ≤ row.length
 small : κ.2.1 ≤ 600
structure Fst (row : List Nat) (s E : Nat) (f : Nat → Option Key) : Prop where
 snd : ∀ e κ, f e = some κ → Snd row s e κ
 one : ∀ m, 1 ≤ m → s + m ≤ row.length → str row s m = List.replicate m (row.getD s 0) → ∃ κ, f (s + m) = some κ ∧ le κ (keyOf [Item.one m (row.getD s 0)])
 grp : ∀ p c, 2 ≤ p → s + p < E → 2 ≤ c → Rep row s p c → (∃ κ, f (s + c * p) = some κ ∧ le κ (groupK c (lk (str row s p)))) ∨ ∃ x, okI x ∧ heardI x = str row s p ∧ lk (str row s p) = keyOf [x]
theorem head_of {row : List Nat} {s m c : Nat} (hm : 1 ≤ m) (h : str row s m = List.replicate m c) : row.getD s 0 = c := by
 have z : (str row s m)[0]? = (List.replicate m c)[0]? := by rw [h]
 rw [str_get (by omega), List.getElem?_replicate, if_pos (by omega)] at z
 rw [List.getD_eq_getElem?_getD]
 have z : row[s]? = some c := z
 rw [z]
 rfl
theorem fst_one {row : List Nat} {s E : Nat} {f : Nat → Option Key} (F : Fst row s E f) {m k c : Nat} (hm : 1 ≤ m) (h : s + m ≤ row.length) (e : List.replicate k c = str row s m) : k = m ∧ ∃ κ, f (s + m) = some κ ∧ le κ (keyOf [Item.one m c]) := by
 have hk : k = m := by
   have z := congrArg List.length e
   rw [List.length_replicate, str_len h] at z
   exact z
 subst hk
 have hc := head_of hm e.symm
 have q := F.one k hm h (by rw [hc]; exact e.symm)
 rw [hc] at q
 exact ⟨rfl, q⟩
theorem fst_group {row : List Nat} {s E : Nat} {f : Nat → Option Key} (F : Fst row s E f) : ∀ (B k : Nat) (l : List Item) (m : Nat), (heard l).length ≤ B → 2 ≤ k → 2 ≤ l.length → okL l → s + m ≤ row.length → s + m ≤ E → (List.replicate k (heard l)).flatten = str row s m →
   ∃ κ, f (s + m) = some κ ∧ le κ (keyOf [Item.group k l])
 | 0, k, l, m, hB, hk, hl, ok, h, hE, e => by
   have := heard_pos l ok
   omega
 | B + 1, k, l, m, hB, hk, hl, ok, h, hE, e => by
   have hp := heard_pos l ok
   have hm : k * (heard l).length = m := by
     have z := congrArg List.length e
     rw [rep_len, str_len h] at z
     exact z
   have hlt : (heard l).length < m := by
     have : 2 * (heard l).length ≤ k * (heard l).length := Nat.mul_le_mul_right _ hk
     omega
   have hu : str row s (heard l).length = heard l := by
     rw [← str_take (Nat.le_of_lt hlt), ← e, rep_take _ _ (by omega)]
   have hne : str row s (heard l).length ≠ [] := str_ne (by omega) (by omega)
   have R : Rep row s (heard l).length k := ⟨by rw [hm]; exact h, by rw [hm, hu]; exact e.symm⟩
   have hlk : le (lk (str row s (heard l).length)) (keyOf l) := lk_le hne ok hu.symm
   rcases F.grp (heard l).length k (by omega) (by omega) hk R with ⟨κ, h1, h2⟩ | ⟨x, h1, h2, h3⟩
   · refine ⟨κ, by rw [← hm]; exact h1, ?_⟩
     rw [keyOf_group]
     exact le_trans h2 (group_le (okK_keyOf _) (okK_keyOf _) hlk)
   · have hw := le_words hlk
     rw [h3] at hw
     cases x with
     | one j c =>
       have h2 : List.replicate j c = str row s (heard l).length := h2
       obtain ⟨hj, _⟩ := fst_one F (by omega) (by omega) h2
       have e2 : List.replicate m c = str row s m := by
         rw [← e, ← hu, ← h2, rep_one, hj, hm]
       obtain ⟨_, κ, q1, q2⟩ := fst_one F (by omega) h e2
       refine ⟨κ, q1, le_trans q2 (le_of_words ?_)⟩
       have w := words_pos l
       show (if m = 1 then 1 else 2) + 0 < (2 + wordsOf l) + 0
       split <;> omega
     | group j l' =>
       obtain ⟨j2, l2, ok2⟩ := h1
       have h2 : (List.replicate j (heard l')).flatten = str row s (heard l).length := h2
       have hp' : (heard l).length = j * (heard l').length := by
         have z := congrArg List.length h2
         rw [rep_len, str_len (by omega)] at z
         exact z.symm
       have hlt' : (heard l').length < (heard l).length := by
         have a := heard_pos l' ok2
         have : 2 * (heard l').length ≤ j * (heard l').length := Nat.mul_le_mul_right _ j2
         omega
       obtain ⟨κ, q1, q2⟩ := fst_group F B (k * j) l' m (by omega) (by
         have : 2 * 2 ≤ k * j := Nat.mul_le_mul hk j2
         omega) l2 ok2 h hE (by rw [rep_mul, h2, hu]; exact e)
       refine ⟨κ, q1, le_trans q2 (le_of_words ?_)⟩
       have hw : (2 + wordsOf l') + 0 ≤ wordsOf l := hw
       show (2 + wordsOf l') + 0 < (2 + wordsOf l) + 0
       omega
theorem fst_item {row : List Nat} {s E : Nat} {f : Nat → Option Key} (F : Fst row s E f) {x : Item} (ok : okI x) {m : Nat} (h : s + m ≤ row.length) (hE : s + m ≤ E) (e : heardI x = str row s m) : ∃ κ, f (s + m) = some κ ∧ le κ (keyOf [x]) := by
 have hm : 1 ≤ m := by
   have a := heardI_pos x ok
   rw [e, str_len h] at a
   exact a
 cases x with
 | one k c =>
   have e : List.replicate k c = str row s m := e
   obtain ⟨rfl, q⟩ := fst_one F hm h e
   exact q
 | group k l =>
   obtain ⟨h1, h2, h3⟩ := ok
   exact fst_group F _ k l m (Nat.le_refl _) h1 h2 h3 h hE e
structure Chosen (row : List Nat) (f : Nat → Option Key) (e : Nat) (κ : Key) : Prop where
 own : f e = some κ ∨ ∃ t κ1, t < e ∧ f t = some κ1 ∧ κ = joinK κ1 (lk (str row t (e - t)))
 le1 : ∀ κ0, f e = some κ0 → le κ κ0
 le2 : ∀ t κ1, t < e → f t = some κ1 → le κ (joinK κ1 (lk (str row t (e - t))))
theorem heard_one (x : Item) : heard [x] = heardI x := by
 show heardI x ++ [] = _
 rw [List.append_nil]
theorem chosen_eq {row : List Nat} {s e : Nat} {f : Nat → Option Key} {κ : Key} (F : Fst row s e f) (hs : s < e) (he : e ≤ row.length) (C : Chosen row f e κ) : κ = lk (str row s (e - s)) := by
 have hse : s + (e - s) = e := by omega
 have hne : str row s (e - s) ≠ [] := str_ne (by omega) (by omega)
 obtain ⟨l, ok, hh, hk⟩ : ∃ l, okL l ∧ heard l = str row s (e - s) ∧ κ = keyOf l := by
   rcases C.own with h | ⟨t, κ1, h1, h2, h3⟩
   · obtain ⟨x, a, b, c⟩ := (F.snd _ _ h).it
     exact ⟨[x], ⟨a, True.intro⟩, by rw [heard_one, b], c⟩
   · have S := F.snd _ _ h2
     have lo := S.lo
     obtain ⟨x, a, b, c⟩ := S.it
     have hv : str row t (e - t) ≠ [] := str_ne (by omega) (by omega)
     obtain ⟨o1, o2, _⟩ := leastCall_ok hv
     refine ⟨[x] ++ leastCall (str row t (e - t)), okL_append ⟨a, True.intro⟩ o1, ?_, ?_⟩
     · rw [heard_append, heard_one, b, o2, str_split (row := row) (i := s) (n := e - s) (m := t - s) (by omega)]
       congr 2 <;> omega
     · rw [h3, c, keyOf_append (List.cons_ne_nil _ _) (fun z => hv (by rw [← o2, z]; rfl))]
       rfl
 rw [hk]
 refine least_unique hne ok hh fun l' ok' hh' => ?_
 rw [← hk]
 cases l' with
 | nil => exact absurd hh'.symm hne
 | cons x r =>
   cases r with
   | nil =>
     obtain ⟨κ0, q1, q2⟩ := fst_item F ok'.1 (m := e - s) (by omega) (by omega) (by rw [← heard_one]; exact hh')
     rw [hse] at q1
     exact le_trans (C.le1 κ0 q1) q2
   | cons y r =>
     have hx := heardI_pos x ok'.1
     have hr := heard_pos (y :: r) ok'.2
     have hr : r.length + 1 ≤ (heard (y :: r)).length := hr
     have hs2 : heardI x ++ heard (y :: r) = str row s (e - s) := hh'
     have hlen : (heardI x).length + (heard (y :: r)).length = e - s := by rw [← List.length_append, hs2, str_len (by omega)]
     have e1 : str row s (heardI x).length = heardI x := by rw [← str_take (n := e - s) (by omega), ← hs2, List.take_left]
     have e2 : str row (s + (heardI x).length) (e - (s + (heardI x).length)) = heard (y :: r) := by
       rw [show e - (s + (heardI x).length) = e - s - (heardI x).length by omega, ← str_drop, ← hs2, List.drop_left]
     obtain ⟨κ1, q1, q2⟩ := fst_item F ok'.1 (m := (heardI x).length) (by omega) (by omega) e1.symm
     refine le_trans (C.le2 (s + (heardI x).length) κ1 (by omega) q1) ?_
     show le _ (keyOf ([x] ++ (y :: r)))
     rw [keyOf_append (List.cons_ne_nil _ _) (List.cons_ne_nil _ _)]
     obtain ⟨z, _, _, hz⟩ := (F.snd _ _ q1).it
     refine join_le (by rw [hz]; exact okK_keyOf _) (okK_keyOf _) q2 (lk_le ?_ ok'.2 e2.symm)
     rw [e2]
     intro z
     rw [z] at hr
     simp at hr
theorem two_items {row : List Nat} {s e : Nat} {f : Nat → Option Key} (F : Fst row s e f) (hs : s < e) (he : e ≤ row.length) (h : f e ≠ some (lk (str row s (e - s)))) : 2 ≤ (leastCall (str row s (e - s))).length := by
 have hse : s + (e - s) = e := by omega
 have hne : str row s (e - s) ≠ [] := str_ne (by omega) (by omega)
 obtain ⟨o1, o2, _⟩ := leastCall_ok hne
 cases hl : leastCall (str row s (e - s)) with
 | nil => rw [hl] at o2; exact absurd o2.symm hne
 | cons x r =>
   cases r with
   | nil =>
     refine absurd ?_ h
     rw [hl] at o1 o2
     rw [heard_one] at o2
     obtain ⟨κ0, q1, q2⟩ := fst_item F o1.1 (m := e - s) (by omega) (by omega) o2
     rw [hse] at q1
     obtain ⟨x0, a, b, c⟩ := (F.snd _ _ q1).it
     rw [q1]
     congr 1
     refine le_antisymm ?_ ?_
     · show le κ0 (keyOf (leastCall _))
       rw [hl]
       exact q2
     · rw [c]
       exact lk_le hne ⟨a, True.intro⟩ (by rw [heard_one, b])
   | cons y r =>
     show 2 ≤ r.length + 1 + 1
     omega
structure Added (f f' : Nat → Option Key) (s p : Nat) (g : Nat → Key) (t : Nat) : Prop where
 old : ∀ e κ, f e = some κ → ∃ κ', f' e = some κ' ∧ le κ' κ
 new : ∀ c, 2 ≤ c → c ≤ t → ∃ κ', f' (s + c * p) = some κ' ∧ le κ' (g c)
 src : ∀ e κ', f' e = some κ' → f e = some κ' ∨ ∃ c, 2 ≤ c ∧ c ≤ t ∧ e = s + c * p ∧ κ' = g c
theorem Added.none {f : Nat → Option Key} {s p : Nat} {g : Nat → Key} {t : Nat} (h : t ≤ 1) : Added f f s p g t :=
 ⟨fun e κ h => ⟨κ, h, le_refl _⟩, fun c h1 h2 => by omega, fun e κ h => .inl h⟩
def ltK (a b : Key) : Bool := decide (a.1 < b.1) || (a.1 == b.1 && (decide (a.2.1 < b.2.1) || (a.2.1 == b.2.1 && bytesBefore a.2.2 b.2.2)))
theorem ltK_iff (a b : Key) : ltK a b = true ↔ before a b := by
 simp only [ltK, before, Bool.or_eq_true, decide_eq_true_eq, Bool.and_eq_true, beq_iff_eq]
def minK (a b : Key) : Key := if ltK b a = true then b else a
theorem minK_le (a b : Key) : le (minK a b) a ∧ le (minK a b) b := by
 unfold minK
 by_cases h : ltK b a = true
 · rw [if_pos h]
   exact ⟨.inl ((ltK_iff _ _).mp h), le_refl _⟩
 · rw [if_neg h]
   exact ⟨le_refl _, le_of_not fun z => h ((ltK_iff _ _).mpr z)⟩
theorem minK_or (a b : Key) : minK a b = a ∨ minK a b = b := by
 unfold minK
 split
 · exact .inr rfl
 · exact .inl rfl
theorem minK_self (a : Key) : minK a a = a := by
 rcases minK_or a a with h | h <;> exact h
def minO (a : Key) (o : Option Key) : Key := minK a (o.getD a)
theorem minO_le (a : Key) (o : Option Key) : le (minO a o) a ∧ ∀ b, o = some b → le (minO a o) b :=
 ⟨(minK_le _ _).1, fun b e => by rw [e]; exact (minK_le _ _).2⟩
theorem minO_or (a : Key) (o : Option Key) : minO a o = a ∨ o = some (minO a o) := by
 cases o with
 | none => exact .inl (minK_self a)
 | some b =>
   rcases minK_or a b with h | h
   · exact .inl h
   · refine .inr ?_
     show some b = some (minK a b)
     rw [h]
def putO (f : Nat → Option Key) (e : Nat) (κ : Key) : Nat → Option Key := fun x => if x = e then some κ else f x
theorem Added.step {f f' : Nat → Option Key} {s p : Nat} {g : Nat → Key} {t : Nat} (A : Added f f' s p g t) (ht : 1 ≤ t) : Added f (putO f' (s + (t + 1) * p) (minO (g (t + 1)) (f' (s + (t + 1) * p)))) s p g (t + 1) := by
 obtain ⟨m1, m2⟩ := minO_le (g (t + 1)) (f' (s + (t + 1) * p))
 refine ⟨fun e κ h => ?_, fun c h1 h2 => ?_, fun e κ' h => ?_⟩
 · obtain ⟨κ', a, b⟩ := A.old e κ h
   unfold putO
   by_cases he : e = s + (t + 1) * p
   · rw [if_pos he]
     exact ⟨_, rfl, le_trans (m2 κ' (by rw [← he]; exact a)) b⟩
   · rw [if_neg he]
     exact ⟨κ', a, b⟩
 · unfold putO
   by_cases he : s + c * p = s + (t + 1) * p
   · rw [if_pos he]
     by_cases hc : c = t + 1
     · rw [hc]
       exact ⟨_, rfl, m1⟩
     · obtain ⟨κ', a, b⟩ := A.new c h1 (by omega)
       exact ⟨_, rfl, le_trans (m2 κ' (by rw [← he]; exact a)) b⟩
   · rw [if_neg he]
     by_cases hc : c = t + 1
     · exact absurd (by rw [hc]) he
     · exact A.new c h1 (by omega)
 · unfold putO at h
   by_cases he : e = s + (t + 1) * p
   · rw [if_pos he] at h
     have h := Option.some.inj h
     rcases minO_or (g (t + 1)) (f' (s + (t + 1) * p)) with q | q
     · exact .inr ⟨t + 1, by omega, Nat.le_refl _, he, by rw [← h, q]⟩
     · rw [h] at q
       rcases A.src _ _ q with z | ⟨c, z1, z2, z3, z4⟩
       · exact .inl (by rw [he]; exact z)
       · exact .inr ⟨c, z1, by omega, he.trans z3, z4⟩
   · rw [if_neg he] at h
     rcases A.src _ _ h with z | ⟨c, z1, z2, z3, z4⟩
     · exact .inl z
     · exact .inr ⟨c, z1, by omega, z3, z4⟩
def Tm (row : List Nat) (s p t : Nat) : Prop := ∀ c, 2 ≤ c → (c ≤ t ↔ Rep row s p c)
theorem rep_bound {row : List Nat} {s p c : Nat} (hp : 1 ≤ p) (R : Rep row s p c) : c ≤ row.length := by
 have := R.1
 have : c * 1 ≤ c * p := Nat.mul_le_mul_left c hp
 omega
theorem one_key (m c : Nat) : keyOf [Item.one m c] = ((if m = 1 then 1 else 2), ((if m = 1 then [] else decimal m ++ [42]) ++ [byteOf c]).length, (if m = 1 then [] else decimal m ++ [42]) ++ [byteOf c]) := by
 have e : itemsText [Item.one m c] = (if m = 1 then [] else decimal m ++ [42]) ++ [byteOf c] := by
   show ((if m = 1 then [] else decimal m ++ [42]) ++ [byteOf c]) ++ [] = _
   rw [List.append_nil]
 unfold keyOf
 rw [e]
 rfl
theorem one_small {m c : Nat} (h : m < 1000) : (keyOf [Item.one m c]).2.1 ≤ 600 := by
 rw [one_key]
 have := decimal_le h
 show ((if m = 1 then [] else decimal m ++ [42]) ++ [byteOf c]).length ≤ 600
 split <;> simp only [List.length_append, List.length_cons, List.length_nil] <;> omega
def oneK (c m : Nat) : Key := keyOf [Item.one m c]
theorem str_one {row : List Nat} {s : Nat} (h : s < row.length) : str row s 1 = [row.getD s 0] := by
 unfold str
 rw [List.getD_eq_getElem?_getD, List.getElem?_eq_getElem h, List.drop_eq_getElem_cons h]
 rfl
theorem fst_begin {row : List Nat} {s : Nat} (h : s < row.length) (hl : row.length ≤ 128) {f' : Nat → Option Key} {t : Nat} (T : Tm row s 1 t)
   (A : Added (putO (fun _ => .none) (s + 1) (oneK (row.getD s 0) 1)) f' s 1 (oneK (row.getD s 0)) t) : Fst row s (s + 1) f' := by
 have hs1 := str_one h
 refine ⟨fun e κ q => ?_, fun m h1 h2 h3 => ?_, fun p c h1 h2 => by omega⟩
 · rcases A.src e κ q with z | ⟨c, z1, z2, z3, z4⟩
   · unfold putO at z
     by_cases he : e = s + 1
     · rw [if_pos he] at z
       have z := Option.some.inj z
       subst he
       refine ⟨⟨Item.one 1 (row.getD s 0), Nat.le_refl 1, ?_, z.symm⟩, by omega, by omega, by rw [← z]; exact one_small (by omega)⟩
       rw [Nat.add_sub_cancel_left, hs1]
       rfl
     · rw [if_neg he] at z
       cases z
   · have R := (T c z1).mp z2
     have r1 := R.1
     rw [Nat.mul_one] at z3 r1
     have r2 := R.2
     rw [Nat.mul_one, hs1] at r2
     have e2 : (List.replicate c [row.getD s 0]).flatten = List.replicate c (row.getD s 0) := by
       have := rep_one (row.getD s 0) 1 c
       rw [Nat.mul_one] at this
       exact this
     rw [e2] at r2
     refine ⟨⟨Item.one c (row.getD s 0), by show 1 ≤ c; omega, ?_, z4⟩, by omega, by omega, by rw [z4]; exact one_small (by omega)⟩
     rw [z3, Nat.add_sub_cancel_left, r2]
     rfl
 · by_cases hm : m = 1
   · subst hm
     exact A.old (s + 1) (oneK (row.getD s 0) 1) (by unfold putO; rw [if_pos rfl])
   · have R : Rep row s 1 m := by
       refine ⟨by omega, ?_⟩
       rw [Nat.mul_one, hs1, h3]
       have := rep_one (row.getD s 0) 1 m
       rw [Nat.mul_one] at this
       exact this.symm
     obtain ⟨κ', a, b⟩ := A.new m (by omega) ((T m (by omega)).mpr R)
     rw [Nat.mul_one] at a
     exact ⟨κ', a, b⟩
theorem Fst.more {row : List Nat} {s E : Nat} {f f' : Nat → Option Key} (F : Fst row s E f) (snd : ∀ e κ, f' e = some κ → Snd row s e κ) (old : ∀ e κ, f e = some κ → ∃ κ', f' e = some κ' ∧ le κ' κ)
   (new : ∀ c, 2 ≤ E - s → 2 ≤ c → Rep row s (E - s) c → (∃ κ, f' (s + c * (E - s)) = some κ ∧ le κ (groupK c (lk (str row s (E - s))))) ∨ ∃ x, okI x ∧ heardI x = str row s (E - s) ∧ lk (str row s (E - s)) = keyOf [x]) : Fst row s (E + 1) f' := by
 refine ⟨snd, fun m h1 h2 h3 => ?_, fun p c h1 h2 h3 R => ?_⟩
 · obtain ⟨κ, a, b⟩ := F.one m h1 h2 h3
   obtain ⟨κ', a', b'⟩ := old _ _ a
   exact ⟨κ', a', le_trans b' b⟩
 · by_cases hp : s + p < E
   · rcases F.grp p c h1 hp h3 R with ⟨κ, a, b⟩ | z
     · obtain ⟨κ', a', b'⟩ := old _ _ a
       exact .inl ⟨κ', a', le_trans b' b⟩
     · exact .inr z
   · have e : p = E - s := by omega
     subst e
     exact new c h1 h3 R
theorem fst_skip {row : List Nat} {s e : Nat} {f : Nat → Option Key} (F : Fst row s e f) (h : 2 ≤ e - s → ¬ Rep row s (e - s) 2) : Fst row s (e + 1) f := by
 refine F.more F.snd (fun e κ q => ⟨κ, q, le_refl _⟩) fun c h1 h2 R => absurd ?_ (h h1)
 obtain ⟨r1, r2⟩ := R
 have hle : 2 * (e - s) ≤ c * (e - s) := Nat.mul_le_mul_right _ h2
 refine ⟨by omega, ?_⟩
 rw [← str_take hle, r2]
 obtain ⟨k, rfl⟩ : ∃ k, c = 2 + k := ⟨c - 2, by omega⟩
 rw [← List.replicate_append_replicate, List.flatten_append, List.take_append_of_le_length (by rw [rep_len, str_len (by omega)]; exact Nat.le_refl _)]
 rw [List.take_of_length_le (by rw [rep_len, str_len (by omega)]; exact Nat.le_refl _)]
theorem fst_same {row : List Nat} {s e : Nat} {f : Nat → Option Key} (F : Fst row s e f) (h : f e = some (lk (str row s (e - s)))) : Fst row s (e + 1) f := by
 refine F.more F.snd (fun e κ q => ⟨κ, q, le_refl _⟩) fun c h1 h2 R => ?_
 obtain ⟨x, a, b, d⟩ := (F.snd _ _ h).it
 exact .inr ⟨x, a, b, d⟩
theorem fst_groups {row : List Nat} {s e : Nat} {f f' : Nat → Option Key} (F : Fst row s e f) (hl : row.length ≤ 128) (hs : s < e) (he : e ≤ row.length) (h : f e ≠ some (lk (str row s (e - s)))) {t : Nat} (T : Tm row s (e - s) t)
   (A : Added f f' s (e - s) (fun c => groupK c (lk (str row s (e - s)))) t) : Fst row s (e + 1) f' := by
 have hne : str row s (e - s) ≠ [] := str_ne (by omega) (by omega)
 have h2 := two_items F hs he h
 obtain ⟨o1, o2, _⟩ := leastCall_ok hne
 refine F.more (fun e' κ q => ?_) A.old fun c h1 h2 R => .inl (A.new c h2 ((T c h2).mpr R))
 rcases A.src e' κ q with z | ⟨c, z1, z2, z3, z4⟩
 · exact F.snd _ _ z
 · have R := (T c z1).mp z2
   have hc := rep_bound (by omega) R
   obtain ⟨r1, r2⟩ := R
   have hpos : 2 * (e - s) ≤ c * (e - s) := Nat.mul_le_mul_right _ z1
   refine ⟨⟨Item.group c (leastCall (str row s (e - s))), ⟨z1, h2, o1⟩, ?_, ?_⟩, by omega, by omega, ?_⟩
   · rw [z3, Nat.add_sub_cancel_left, r2]
     show (List.replicate c (heard (leastCall (str row s (e - s))))).flatten = _
     rw [o2]
   · rw [z4, keyOf_group]
     rfl
   · have d := decimal_le (n := c) (by omega)
     have k := lk_len hne (by rw [str_len (by omega)]; omega)
     have k2 := lk_ok (str row s (e - s))
     unfold okK at k2
     rw [z4]
     show (decimal c ++ (42 :: 40 :: ((lk (str row s (e - s))).2.2 ++ [41]))).length ≤ 600
     simp only [List.length_append, List.length_cons, List.length_nil]
     omega
def Run (row : List Nat) (p s k : Nat) : Prop := (∀ j, j < k → s + j + p < row.length ∧ row[s + j]? = row[s + j + p]?) ∧ ¬ (s + k + p < row.length ∧ row[s + k]? = row[s + k + p]?)
theorem run_end {row : List Nat} {p s : Nat} (h : row.length ≤ s + p) : Run row p s 0 := ⟨fun j hj => by omega, fun z => by omega⟩
theorem run_yes {row : List Nat} {p s k : Nat} (R : Run row p (s + 1) k) (h1 : s + p < row.length) (h2 : row[s]? = row[s + p]?) : Run row p s (k + 1) := by
 refine ⟨fun j hj => ?_, fun z => R.2 ?_⟩
 · cases j with
   | zero => exact ⟨h1, h2⟩
   | succ j =>
     have := R.1 j (by omega)
     rw [show s + (j + 1) = s + 1 + j by omega]
     exact this
 · rw [show s + (k + 1) = s + 1 + k by omega] at z
   exact z
theorem run_no {row : List Nat} {p s : Nat} (h : ¬ row[s]? = row[s + p]?) : Run row p s 0 := ⟨fun j hj => by omega, fun z => h z.2⟩
theorem run_rep {row : List Nat} {p s c : Nat} (hp : 1 ≤ p) (hc : 1 ≤ c) : Rep row s p c ↔ ((s + c * p ≤ row.length) ∧ ∀ j, j < (c - 1) * p → s + j + p < row.length ∧ row[s + j]? = row[s + j + p]?) := by
 obtain ⟨k, rfl⟩ : ∃ k, c = k + 1 := ⟨c - 1, by omega⟩
 have hm : (k + 1) * p = k * p + p := Nat.succ_mul k p
 rw [Nat.add_sub_cancel]
 constructor
 · rintro ⟨h1, h2⟩
   refine ⟨h1, fun j hj => ⟨by omega, ?_⟩⟩
   have z := rep_per (str row s p) (k + 1) (by omega)
   have lp : (str row s p).length = p := str_len (by omega)
   rw [← h2, lp, str_len h1] at z
   have y : ((str row s ((k + 1) * p)).drop p)[j]? = ((str row s ((k + 1) * p)).take ((k + 1) * p - p))[j]? := by rw [z]
   rw [List.getElem?_drop, List.getElem?_take_of_lt (by omega), str_get (by omega), str_get (by omega)] at y
   rw [← y]
   congr 1
   omega
 · rintro ⟨h1, h2⟩
   refine ⟨h1, ?_⟩
   have lp : (str row s p).length = p := str_len (by omega)
   refine rep_of (str row s p) (k + 1) (str row s ((k + 1) * p)) (by rw [lp, str_len h1]) (by omega) (by rw [lp, str_take (by omega)]) ?_
   rw [lp, str_len h1]
   refine List.ext_getElem? fun j => ?_
   by_cases hj : j < k * p
   · rw [List.getElem?_drop, List.getElem?_take_of_lt (by omega), str_get (by omega), str_get (by omega)]
     rw [(h2 j hj).2]
     congr 1
     omega
   · rw [List.getElem?_eq_none (by rw [List.length_drop, str_len h1]; omega), List.getElem?_eq_none (by rw [List.length_take, str_len h1]; omega)]
theorem run_tm {row : List Nat} {p s k : Nat} (hp : 1 ≤ p) (R : Run row p s k) : Tm row s p (1 + k / p) := fun c hc => by
 rw [run_rep hp (by omega)]
 obtain ⟨d, rfl⟩ : ∃ d, c = d + 1 := ⟨c - 1, by omega⟩
 rw [Nat.add_sub_cancel]
 have hm : (d + 1) * p = d * p + p := Nat.succ_mul d p
 have hdp : 1 * p ≤ d * p := Nat.mul_le_mul_right _ (by omega)
 have hiff : d + 1 ≤ 1 + k / p ↔ d * p ≤ k := by
   rw [← Nat.le_div_iff_mul_le hp]
   omega
 rw [hiff]
 constructor
 · intro h
   have z := (R.1 (d * p - 1) (by omega)).1
   exact ⟨by omega, fun j hj => R.1 j (by omega)⟩
 · rintro ⟨h1, h2⟩
   by_cases hk : d * p ≤ k
   · exact hk
   · exact absurd (h2 k (by omega)) R.2
end Lm
namespace Lm
open Rg RugH
def wcol {α : Type} [DecidableEq α] (a b : List α) (x0 : Nat) : List Nat := ((a.zip b).zipIdx x0).filterMap fun (z : (α × α) × Nat) => if z.1.1 = z.1.2 then none else some z.2
theorem wcol_cons {α : Type} [DecidableEq α] (x y : α) (a b : List α) (x0 : Nat) : wcol (x :: a) (y :: b) x0 = (if x = y then [] else [x0]) ++ wcol a b (x0 + 1) := by
 unfold wcol
 rw [List.zip_cons_cons, List.zipIdx_cons, List.filterMap_cons]
 by_cases h : x = y
 · simp only [h, if_true]
   rfl
 · simp only [h, if_false]
   rfl
theorem wcol_nil {α : Type} [DecidableEq α] (b : List α) (x0 : Nat) : wcol [] b x0 = [] := rfl
theorem wcol_ge {α : Type} [DecidableEq α] : ∀ (a b : List α) (x0 x : Nat), x ∈ wcol a b x0 → x0 ≤ x ∧ x < x0 + a.length
 | [], _, _, _, h => by cases h
 | _ :: _, [], _, _, h => by
   have h : _ ∈ ([] : List Nat) := h
   cases h
 | p :: a, q :: b, x0, x, h => by
   rw [wcol_cons] at h
   rcases List.mem_append.mp h with z | z
   · split at z
     · cases z
     · rw [List.mem_singleton.mp z]
       exact ⟨Nat.le_refl _, by rw [List.length_cons]; omega⟩
   · have := wcol_ge a b (x0 + 1) x z
     rw [List.length_cons]
     omega
theorem wcol_snoc {α : Type} [DecidableEq α] : ∀ {a b : List α} {i x0 : Nat} {x y : α}, a[i]? = some x → b[i]? = some y → wcol (a.take (i + 1)) b x0 = wcol (a.take i) b x0 ++ (if x = y then [] else [x0 + i])
 | [], _, _, _, _, _, h, _ => by simp at h
 | _ :: _, [], _, _, _, _, _, h => by simp at h
 | p :: a, q :: b, 0, x0, x, y, h1, h2 => by
   have e1 : p = x := Option.some.inj h1
   have e2 : q = y := Option.some.inj h2
   subst e1 e2
   show wcol (p :: a.take 0) (q :: b) x0 = wcol [] (q :: b) x0 ++ _
   rw [wcol_cons, wcol_nil, List.take_zero, wcol_nil, List.append_nil, List.nil_append, Nat.add_zero]
 | p :: a, q :: b, i + 1, x0, x, y, h1, h2 => by
   have ih := wcol_snoc (a := a) (b := b) (i := i) (x0 := x0 + 1) h1 h2
   show wcol (p :: a.take (i + 1)) (q :: b) x0 = wcol (p :: a.take i) (q :: b) x0 ++ _
   rw [wcol_cons, wcol_cons, ih, List.append_assoc, show x0 + 1 + i = x0 + (i + 1) by omega]
theorem wcol_len : ∀ (a b : List Int) (x0 : Nat), (wcol a b x0).length = wrongZ a b
 | [], b, _ => by cases b <;> rfl
 | _ :: _, [], _ => rfl
 | p :: a, q :: b, x0 => by
   have ih := wcol_len a b (x0 + 1)
   unfold wrongZ at ih ⊢
   rw [wcol_cons, List.length_append, ih, List.zip_cons_cons, List.filter_cons]
   by_cases h : p = q
   · rw [if_pos h, if_neg (by simp [h])]
     simp
   · rw [if_neg h, if_pos (by simp [h]), List.length_cons]
     simp only [List.length_cons, List.length_nil]
     omega
theorem wcol_bytes : ∀ {r q : List Nat} (x0 : Nat), (∀ k ∈ r, k < 62) → (∀ k ∈ q, k < 62) → wcol (bytesZ r) (bytesZ q) x0 = wcol r q x0
 | [], q, _, _, _ => by cases q <;> rfl
 | _ :: _, [], _, _, _ => rfl
 | a :: r, b :: q, x0, hr, hq => by
   have ih := wcol_bytes (r := r) (q := q) (x0 + 1) (fun k hk => hr k (List.mem_cons_of_mem _ hk)) (fun k hk => hq k (List.mem_cons_of_mem _ hk))
   show wcol (byteZ a :: bytesZ r) (byteZ b :: bytesZ q) x0 = _
   rw [wcol_cons, wcol_cons, ih]
   congr 1
   have e : (byteZ a = byteZ b) ↔ a = b := ⟨fun z => by rw [← colN_byteZ (hr a List.mem_cons_self), ← colN_byteZ (hq b List.mem_cons_self), z], fun z => by rw [z]⟩
   simp only [e]
theorem wrongRow_aux (y : Nat) : ∀ (r q : List Nat) (x0 : Nat), (((r.zip q).zipIdx x0).filterMap fun (k : (Nat × Nat) × Nat) => if k.1.1 = k.1.2 then none else some (k.2, y, k.1.1)) = (wcol r q x0).map fun x => (x, y, r.getD (x - x0) 0)
 | [], q, _ => by cases q <;> rfl
 | _ :: _, [], _ => rfl
 | a :: r, b :: q, x0 => by
   have ih := wrongRow_aux y r q (x0 + 1)
   rw [List.zip_cons_cons, List.zipIdx_cons, List.filterMap_cons, wcol_cons, List.map_append]
   have e : ((wcol r q (x0 + 1)).map fun x => (x, y, (a :: r).getD (x - x0) 0)) = (wcol r q (x0 + 1)).map fun x => (x, y, r.getD (x - (x0 + 1)) 0) := by
     refine List.map_congr_left fun x hx => ?_
     have := (wcol_ge _ _ _ _ hx).1
     have e2 : x - x0 = (x - (x0 + 1)) + 1 := by omega
     rw [e2]
     rfl
   rw [e, ← ih]
   by_cases h : a = b
   · simp only [h, if_true]
     rfl
   · simp only [h, if_false, List.map_cons, List.map_nil, Nat.sub_self]
     rfl
theorem wrongRow_eq (y : Nat) (r q : List Nat) : wrongRow y r q = (wcol r q 0).map fun x => (x, y, r.getD x 0) := wrongRow_aux y r q 0
def wrongFrom (p : List (List Nat × List Nat)) (y : Nat) : List (Nat × Nat × Nat) := (p.zipIdx y).flatMap fun (z : (List Nat × List Nat) × Nat) => wrongRow z.2 z.1.1 z.1.2
theorem wrongFrom_append : ∀ (p p' : List (List Nat × List Nat)) (y : Nat), wrongFrom (p ++ p') y = wrongFrom p y ++ wrongFrom p' (y + p.length) := fun p p' y => by
 unfold wrongFrom
 rw [List.zipIdx_append, List.flatMap_append]
theorem LoomOk.wrongList {l : Loom} (h : LoomOk l) : l.wrong = wrongFrom (l.done.zip l.chart.rows) 0 := by
 obtain ⟨_, _, _, hr⟩ := h.rows
 exact wrong_eq l h.done (fun j r q e1 e2 => by
   rw [(h.wide r (List.mem_of_getElem? e1)).1, (hr q (List.mem_of_getElem? e2)).1]
   exact Nat.le_refl _)
theorem wrong_at {p : List (List Nat × List Nat)} {i : Nat} {r q : List Nat} (h : p[i]? = some (r, q)) {k : Nat} (h1 : (wrongFrom (p.take i) 0).length ≤ k) (h2 : k < (wrongFrom (p.take i) 0).length + (wcol r q 0).length) :
   ∃ x, (wcol r q 0)[k - (wrongFrom (p.take i) 0).length]? = some x ∧ (wrongFrom p 0)[k]? = some (x, i, r.getD x 0) := by
 obtain ⟨hi, hg⟩ := List.getElem?_eq_some_iff.mp h
 have e : p = p.take i ++ ((r, q) :: p.drop (i + 1)) := by
   rw [← hg, ← List.drop_eq_getElem_cons hi, List.take_append_drop]
 obtain ⟨x, hx⟩ : ∃ x, (wcol r q 0)[k - (wrongFrom (p.take i) 0).length]? = some x := ⟨_, List.getElem?_eq_getElem (by omega)⟩
 refine ⟨x, hx, ?_⟩
 have e2 : wrongFrom p 0 = wrongFrom (p.take i) 0 ++ wrongFrom ((r, q) :: p.drop (i + 1)) (0 + (p.take i).length) := by
   conv => lhs; rw [e]
   rw [wrongFrom_append]
 have hl : 0 + (p.take i).length = i := by rw [List.length_take]; omega
 rw [e2, List.getElem?_append_right h1, hl]
 show (wrongRow i r q ++ wrongFrom (p.drop (i + 1)) (i + 1))[k - (wrongFrom (p.take i) 0).length]? = _
 rw [wrongRow_eq, List.getElem?_append_left (by rw [List.length_map]; omega), List.getElem?_map, hx]
 rfl
theorem wrong_take {p : List (List Nat × List Nat)} {i : Nat} {r q : List Nat} (h : p[i]? = some (r, q)) : (wrongFrom (p.take (i + 1)) 0).length = (wrongFrom (p.take i) 0).length + (wcol r q 0).length := by
 obtain ⟨hi, hg⟩ := List.getElem?_eq_some_iff.mp h
 rw [List.take_succ_eq_append_getElem hi, hg, wrongFrom_append, List.length_append]
 congr 1
 show (wrongRow _ r q ++ []).length = _
 rw [List.append_nil, wrongRow_eq, List.length_map]
def wl (rows : List (List Nat)) (k : Nat) : Nat := (rows.map fun (r : List Nat) => (r.filter fun (c : Nat) => c == k).length).sum
def cn (r : List Nat) (k : Nat) : Nat := (r.filter fun (c : Nat) => c == k).length
theorem cn_snoc (r : List Nat) (c k : Nat) : cn (r ++ [c]) k = cn r k + if c = k then 1 else 0 := by
 unfold cn
 rw [List.filter_append, List.length_append]
 congr 1
 by_cases h : c = k
 · rw [if_pos h]
   simp [h]
 · rw [if_neg h]
   simp [h]
theorem wl_snoc (rows : List (List Nat)) (r : List Nat) (k : Nat) : wl (rows ++ [r]) k = wl rows k + cn r k := by
 unfold wl cn
 rw [List.map_append, List.sum_append]
 simp
theorem tied_shown (L : Loom) : (L.tied.text.map fun (c : UInt8) => (c.toNat : Int)) = (L.done.map bytesZ).flatMap fun r => r ++ [10] := by
 unfold Loom.tied Chart.text
 rw [List.map_flatMap, List.flatMap_map]
 congr 1
 funext r
 rw [List.map_append, List.map_map]
 rfl
end Lm
namespace Lm
open PyWqbbcl
inductive View : List Int → List (List Int) → List Int → Prop
 | begin (t sh rest : List Int) : View (0 :: (t.length : Int) :: (t ++ (sh.length : Int) :: (sh ++ rest))) [[0], t, sh] rest
 | row (x : Int) (t rest : List Int) : View (1 :: x :: (t.length : Int) :: (t ++ rest)) [[1, x], t] rest
 | unpick (x : Int) (rest : List Int) : View (2 :: x :: rest) [[2, x]] rest
 | now (rest : List Int) : View (3 :: rest) [[3]] rest
 | tied (rest : List Int) : View (4 :: rest) [[4]] rest
 | wrong (x : Int) (rest : List Int) : View (5 :: x :: rest) [[5, x]] rest
 | wool (rest : List Int) : View (6 :: rest) [[6]] rest
 | said (x : Int) (rest : List Int) : View (7 :: x :: rest) [[7, x]] rest
theorem View.whole {r : List Int} {c : List (List Int)} {rest : List Int} (h : View r c rest) : PyWqbbcl.whole c = c := by
 cases h <;> rfl
theorem row_of {r x s : List Int} (h : PyFlat.row r = some (x, s)) : r = (x.length : Int) :: (x ++ s) := by
 cases r with
 | nil => cases h
 | cons n r =>
   simp only [PyFlat.row] at h
   by_cases hn : 0 ≤ n ∧ n.toNat ≤ r.length
   · rw [if_pos hn] at h
     have h := Option.some.inj h
     obtain ⟨rfl, rfl⟩ := Prod.mk.inj h
     rw [List.take_append_drop, List.length_take, Nat.min_eq_left hn.2]
     congr 1
     omega
   · rw [if_neg hn] at h
     cases h
theorem shape_cases (p : Int) : p = 0 ∨ p = 1 ∨ p = 2 ∨ p = 3 ∨ p = 4 ∨ p = 5 ∨ p = 6 ∨ p = 7 ∨ shape p = none := by
 unfold shape
 by_cases h0 : p = 0
 · exact .inl h0
 by_cases h1 : p = 1
 · exact .inr (.inl h1)
 by_cases h2 : p = 2
 · exact .inr (.inr (.inl h2))
 by_cases h3 : p = 3
 · exact .inr (.inr (.inr (.inl h3)))
 by_cases h4 : p = 4
 · exact .inr (.inr (.inr (.inr (.inl h4))))
 by_cases h5 : p = 5
 · exact .inr (.inr (.inr (.inr (.inr (.inl h5)))))
 by_cases h6 : p = 6
 · exact .inr (.inr (.inr (.inr (.inr (.inr (.inl h6))))))
 by_cases h7 : p = 7
 · exact .inr (.inr (.inr (.inr (.inr (.inr (.inr (.inl h7)))))))
 rw [if_neg h0, if_neg h1, if_neg h2, if_neg h3, if_neg h4, if_neg h5, if_neg h6, if_neg h7]
 exact .inr (.inr (.inr (.inr (.inr (.inr (.inr (.inr rfl)))))))
theorem call_none {p : Int} {r rest : List Int} {c : List (List Int)} (e : shape p = some (0, 0)) (h : PyFlat.call shape (p :: r) = some (c, rest)) : c = [[p]] ∧ rest = r := by
 simp only [PyFlat.call, e, Nat.not_lt_zero, if_false, PyFlat.rows, List.drop_zero, List.take_zero] at h
 obtain ⟨rfl, rfl⟩ := Prod.mk.inj (Option.some.inj h)
 exact ⟨rfl, rfl⟩
theorem call_one {p : Int} {r rest : List Int} {c : List (List Int)} (e : shape p = some (1, 0)) (h : PyFlat.call shape (p :: r) = some (c, rest)) : ∃ x, r = x :: rest ∧ c = [[p, x]] := by
 cases r with
 | nil => simp [PyFlat.call, e] at h
 | cons x s =>
   simp only [PyFlat.call, e, PyFlat.rows] at h
   rw [if_neg (by simp)] at h
   obtain ⟨rfl, rfl⟩ := Prod.mk.inj (Option.some.inj h)
   exact ⟨x, rfl, rfl⟩
theorem call_of {r rest : List Int} {c : List (List Int)} (h : PyFlat.call shape r = some (c, rest)) : View r c rest := by
 cases r with
 | nil => cases h
 | cons p r =>
   rcases shape_cases p with rfl | rfl | rfl | rfl | rfl | rfl | rfl | rfl | e
   · have e : shape 0 = some (0, 2) := rfl
     simp only [PyFlat.call, e, Nat.not_lt_zero, if_false, PyFlat.rows, List.drop_zero, List.take_zero] at h
     cases e1 : PyFlat.row r with
     | none => rw [e1] at h; cases h
     | some xs =>
       obtain ⟨t, s⟩ := xs
       rw [e1] at h
       simp only at h
       cases e2 : PyFlat.row s with
       | none => rw [e2] at h; cases h
       | some ys =>
         obtain ⟨sh, u⟩ := ys
         rw [e2] at h
         obtain ⟨rfl, rfl⟩ := Prod.mk.inj (Option.some.inj h)
         rw [row_of e1, row_of e2]
         exact .begin t sh _
   · have e : shape 1 = some (1, 1) := rfl
     cases r with
     | nil => simp [PyFlat.call, e] at h
     | cons x r =>
       simp only [PyFlat.call, e, PyFlat.rows] at h
       rw [if_neg (by simp)] at h
       simp only [List.drop_succ_cons, List.drop_zero, List.take_succ_cons, List.take_zero] at h
       cases e1 : PyFlat.row r with
       | none => rw [e1] at h; cases h
       | some xs =>
         obtain ⟨t, s⟩ := xs
         rw [e1] at h
         obtain ⟨rfl, rfl⟩ := Prod.mk.inj (Option.some.inj h)
         rw [row_of e1]
         exact .row x t _
   · obtain ⟨x, rfl, rfl⟩ := call_one rfl h
     exact .unpick x _
   · obtain ⟨rfl, rfl⟩ := call_none rfl h
     exact .now _
   · obtain ⟨rfl, rfl⟩ := call_none rfl h
     exact .tied _
   · obtain ⟨x, rfl, rfl⟩ := call_one rfl h
     exact .wrong x _
   · obtain ⟨rfl, rfl⟩ := call_none rfl h
     exact .wool _
   · obtain ⟨x, rfl, rfl⟩ := call_one rfl h
     exact .said x _
   · simp only [PyFlat.call, e] at h
     cases h
inductive Calls : List Int → List (List (List Int)) → Prop
 | nil : Calls [] []
 | cons {r rest : List Int} {c : List (List Int)} {cs : List (List (List Int))} (v : View r c rest) (h : Calls rest cs) : Calls r (c :: cs)
theorem calls_of : ∀ (f : Nat) (r : List Int) (cs : List (List (List Int))), PyFlat.calls shape f r = some cs → Calls r cs
 | 0, [], cs, h => by
   unfold PyFlat.calls at h
   cases h
   exact .nil
 | 0, _ :: _, _, h => by
   unfold PyFlat.calls at h
   cases h
 | f + 1, [], cs, h => by
   unfold PyFlat.calls at h
   cases h
   exact .nil
 | f + 1, p :: r, cs, h => by
   unfold PyFlat.calls at h
   cases e : PyFlat.call shape (p :: r) with
   | none => rw [e] at h; cases h
   | some z =>
     obtain ⟨c, t⟩ := z
     rw [e] at h
     simp only at h
     cases e2 : PyFlat.calls shape f t with
     | none => rw [e2] at h; cases h
     | some cs' =>
       rw [e2] at h
       cases h
       exact .cons (call_of e) (calls_of f t cs' e2)
theorem Calls.whole {r : List Int} {cs : List (List (List Int))} (h : Calls r cs) : cs.map PyWqbbcl.whole = cs := by
 induction h with
 | nil => rfl
 | cons v _ ih => rw [List.map_cons, v.whole, ih]
theorem asked_calls {l : List Int} (h : answers_asked l = true) : ∃ cs, Calls l cs ∧ cs.length ≤ 300 ∧ (∀ c ∈ cs, RugHNeutral.asked1 c = true) ∧ answers l = PyFlat.told (PyFlat.played RugHNeutral.step RugHNeutral.start cs) := by
 unfold answers_asked at h
 unfold answers
 cases e : PyFlat.calls shape l.length l with
 | none =>
   unfold calls at h
   rw [e] at h
   cases h
 | some cs =>
   have C := calls_of _ _ _ e
   have ec : calls l = some cs := by
     unfold calls
     rw [e]
     simp only [C.whole]
   rw [ec] at h ⊢
   simp only [Bool.and_eq_true] at h
   refine ⟨cs, C, of_decide_eq_true h.1, ?_, rfl⟩
   exact List.all_eq_true.mp h.2
theorem told_cons (a : List Int) (l : List (List Int)) : PyFlat.told (a :: l) = ((a.length : Int) :: a) ++ PyFlat.told l := rfl
end Lm
set_option Elab.async false
set_option linter.all false
set_option maxRecDepth 100000
namespace L2
open PySem PySem.Spec PyProof.Rows
abbrev Key := Sum Int Str
def keyIs : Key → Value → Bool
 | .inl k, v => Value.isInt k v
 | .inr x, v => Value.isStrOf x v
def keyH (w : World) : Key → Int
 | .inl k => hashInt k
 | .inr x => hashStr w x
theorem keyIs_shape : ∀ {k : Key} {v : Value}, keyIs k v = true → (∃ i t, k = Sum.inl i ∧ v = Value.int i t) ∨ (∃ x t, k = Sum.inr x ∧ v = Value.str x t)
 | .inl i, v, h => by
   obtain ⟨t, e⟩ := Value.isInt_shape (k := i) (v := v) h
   exact .inl ⟨i, t, rfl, e⟩
 | .inr x, v, h => by
   obtain ⟨t, e⟩ := Value.isStrOf_shape (x := x) (v := v) h
   exact .inr ⟨x, t, rfl, e⟩
theorem keyIs_int (i : Int) (t : Tok) : keyIs (.inl i) (.int i t) = true := by simp [keyIs, Value.isInt]
theorem keyIs_str (x : Str) (t : Tok) : keyIs (.inr x) (.str x t) = true := by simp [keyIs, Value.isStrOf]
theorem key_ll (a b : Int) : decide ((Sum.inl a : Key) = Sum.inl b) = (a == b) := by
 by_cases e : a = b
 · subst e; simp
 · have h : ¬ (Sum.inl a : Key) = Sum.inl b := fun q => e (Sum.inl.inj q)
   rw [decide_eq_false h]
   exact (beq_eq_false_iff_ne.mpr e).symm
theorem key_rr (a b : Str) : decide ((Sum.inr a : Key) = Sum.inr b) = decide (a = b) := by
 by_cases e : a = b
 · subst e; simp
 · have h : ¬ (Sum.inr a : Key) = Sum.inr b := fun q => e (Sum.inr.inj q)
   rw [decide_eq_false h, decide_eq_false e]
theorem key_lr (a : Int) (b : Str) : decide ((Sum.inl a : Key) = Sum.inr b) = false := decide_eq_false (fun q => nomatch q)
theorem key_rl (a : Str) (b : Int) : decide ((Sum.inr a : Key) = Sum.inl b) = false := decide_eq_false (fun q => nomatch q)
def mixKind (prog : Program) (w : World) : PySem.KeyKind prog w Key where
 is := keyIs
 hash := keyH w
 inj := fun v a b ha hb => by
   rcases keyIs_shape ha with ⟨i, t, rfl, rfl⟩ | ⟨x, t, rfl, rfl⟩
   · rcases keyIs_shape hb with ⟨j, u, rfl, e⟩ | ⟨y, u, rfl, e⟩
     · injection e with e1 _; rw [e1]
     · exact nomatch e
   · rcases keyIs_shape hb with ⟨j, u, rfl, e⟩ | ⟨y, u, rfl, e⟩
     · exact nomatch e
     · injection e with e1 _; rw [e1]
 byValue := fun k v h => by
   rcases keyIs_shape h with ⟨i, t, rfl, rfl⟩ | ⟨x, t, rfl, rfl⟩ <;> rfl
 pyHash := fun hv h => by
   rcases keyIs_shape hv with ⟨i, t, rfl, rfl⟩ | ⟨x, t, rfl, rfl⟩
   · exact wpAny_pyHash_int h
   · exact wpAny_pyHash_str h
 eqBool := fun hu hv h => by
   rcases keyIs_shape hu with ⟨i, t, rfl, rfl⟩ | ⟨x, t, rfl, rfl⟩
   · rcases keyIs_shape hv with ⟨j, u, rfl, rfl⟩ | ⟨y, u, rfl, rfl⟩
     · rw [key_ll] at h; exact wpAny_eqBool_int h
     · rw [key_lr] at h; exact SeqAt.EqAt.int_str i t y u _ _ _ _ h
   · rcases keyIs_shape hv with ⟨j, u, rfl, rfl⟩ | ⟨y, u, rfl, rfl⟩
     · rw [key_rl] at h; exact SeqAt.EqAt.str_int x t j u _ _ _ _ h
     · rw [key_rr] at h; exact wpAny_eqBool_str h
 «strs» := fun k x t v h => by
   rcases keyIs_shape h with ⟨i, u, rfl, e⟩ | ⟨y, u, rfl, e⟩
   · exact nomatch e
   · injection e with e1 _
     subst e1
     cases v <;> rfl
theorem mixKind_int (prog : Program) (w : World) (i : Int) (t : Tok) : (mixKind prog w).is (.inl i) (.int i t) = true := keyIs_int i t
theorem mixKind_str (prog : Program) (w : World) (x : Str) (t : Tok) : (mixKind prog w).is (.inr x) (.str x t) = true := keyIs_str x t
end L2
namespace L2
open PySem PySem.Spec PyProof.Rows
inductive V where
 | non | bl (b : Bool) | int (i : Int) | str (x : Str) | byt (b : Array UInt8) | flt (b : UInt64) | ref (a : Addr) | ty (n : String)
 deriving DecidableEq
def RelV : V → Value → Prop
 | .non, u => u = Value.none
 | .bl b, u => u = Value.bool b
 | .int i, u => ∃ t, u = Value.int i t
 | .str x, u => ∃ t, u = Value.str x t
 | .byt b, u => ∃ t, u = Value.bytes b t
 | .flt b, u => ∃ t, u = Value.float b t
 | .ref a, u => u = Value.ref a
 | .ty n, u => u = Value.type n
abbrev Vals : List V → List Value → Prop := Paired RelV
theorem Vals.length {xs : List V} {us : List Value} (r : Vals xs us) : xs.length = us.length := Paired.length r
theorem Vals.get : ∀ {xs : List V} {us : List Value} {i : Nat} {x : V}, Vals xs us → xs[i]? = some x → ∃ u, us[i]? = some u ∧ RelV x u
 | _, _, _, _, .nil, e => by simp at e
 | _, _, 0, _, .cons r _, e => by simp at e; subst e; exact ⟨_, rfl, r⟩
 | _, _, i + 1, x, .cons _ t, e => by
   obtain ⟨u, h1, h2⟩ := Vals.get (i := i) (x := x) t (by simpa using e)
   exact ⟨u, by simpa using h1, h2⟩
theorem Vals.set {x : V} {u : Value} (r : RelV x u) : ∀ {xs : List V} {us : List Value} (i : Nat), Vals xs us → Vals (xs.set i x) (us.set i u)
 | _, _, _, .nil => .nil
 | _, _, 0, .cons _ t => .cons r t
 | _, _, i + 1, .cons q t => .cons q (Vals.set r i t)
theorem Vals.append : ∀ {xs ys : List V} {us ws : List Value}, Vals xs us → Vals ys ws → Vals (xs ++ ys) (us ++ ws)
 | _, _, _, _, .nil, s => s
 | _, _, _, _, .cons r t, s => .cons r (Vals.append t s)
theorem Vals.take : ∀ {xs : List V} {us : List Value} (n : Nat), Vals xs us → Vals (xs.take n) (us.take n)
 | _, _, 0, _ => .nil
 | _, _, _ + 1, .nil => .nil
 | _, _, n + 1, .cons r t => .cons r (Vals.take n t)
theorem Vals.drop : ∀ {xs : List V} {us : List Value} (n : Nat), Vals xs us → Vals (xs.drop n) (us.drop n)
 | _, _, 0, r => r
 | _, _, _ + 1, .nil => .nil
 | _, _, n + 1, .cons _ t => Vals.drop n t
def RelO : Option V → Option Value → Prop
 | some v, some u => RelV v u
 | none, none => True
 | _, _ => False
def KV {κ : Type} : List (κ × V) → List (κ × Value) → Prop := Paired fun (p : κ × V) (q : κ × Value) => p.1 = q.1 ∧ RelV p.2 q.2
def kV : Key → V
 | .inl i => .int i
 | .inr x => .str x
inductive HO where
 | lst (xs : List V)
 | tup (xs : List V)
 | dK (kvs : List (Key × V)) | dT (kvs : List (List Key × V))
 | set (S : Int → Bool) (n : Nat)
 | ins (C dx : Addr) (fs : List (Str × V))
 | own (x : Addr)
 | xd (fs : List (Str × V))
 | met (f x : Addr)
 | rng (lo hi : Int)
 | frz (o : Obj) (u : HO)
 | tbl (ps : Array Value)
 | ext (φ : Heap → Prop)
abbrev Hp := Addr → Option HO
def upd (H : Hp) (a : Addr) (o : HO) : Hp := fun b => if b = a then some o else H b
theorem upd_same {H : Hp} {a : Addr} {o : HO} : upd H a o a = some o := by unfold upd; rw [if_pos rfl]
theorem upd_ne {H : Hp} {a b : Addr} {o : HO} (h : b ≠ a) : upd H a o b = H b := by unfold upd; rw [if_neg h]
theorem upd_upd {H : Hp} {a : Addr} {o u : HO} : upd (upd H a o) a u = upd H a u := by
 funext b; unfold upd; split <;> rfl
theorem ne_of {H : Hp} {a b : Addr} {o u : HO} (h : H a = some o) (h' : H b = some u) (d : o ≠ u) : a ≠ b := by
 intro e; subst e; rw [h] at h'; exact d (Option.some.inj h')
theorem ne_of_none {H : Hp} {a b : Addr} {o : HO} (h : H a = some o) (h' : H b = none) : a ≠ b := by
 intro e; subst e; rw [h] at h'; cases h'
section
variable (P : Program) (w : World)
def ObjOk (H : Hp) (h : Heap) (a : Addr) : HO → Prop
 | .lst xs => xs.length ≤ sizeLine ∧ ∃ (its : List Value) (n : Nat), Vals xs its ∧ h.get? a = some { cls := .type "list", data := .seq its.toArray n }
 | .tup xs => xs.length ≤ sizeLine ∧ ∃ its : List Value, Vals xs its ∧ IsTup h a its.toArray
 | .dK kvs => kvs.length ≤ sizeLine ∧ (a == sysModules) = false ∧ ∃ vs, KV kvs vs ∧ h.DictOf (mixKind P w) a vs
 | .dT kvs => kvs.length ≤ sizeLine ∧ (a == sysModules) = false ∧ ∃ xs : List (List Key × Addr × Value),
     Paired (fun (p : List Key × V) (q : List Key × Addr × Value) => p.1 = q.1 ∧ H q.2.1 = some (.tup (p.1.map kV)) ∧ RelV p.2 q.2.2) kvs xs ∧
     ∃ o es ep, h.get? a = some o ∧ o.ExactDict ∧ o.data = .dict es ep ∧ es.toList = xs.map (entryOfKey (tupleKind (mixKind P w))) ∧ (xs.map (·.1)).Nodup
 | .set S n => h.SetOf (intKind P w) a S n
 | .ins C dx fs => H dx = some (.own a) ∧ fs.length ≤ 1000 ∧ dx ≠ a ∧ h.get? a = some (PySem.W.instObj C dx) ∧
     ∃ mA, h.Ns1 dx mA ∧ (∀ f, RelO (fs.lookup f) (mA f)) ∧ PySem.Within mA (fs.map (·.1))
 | .own _ => ∃ o, h.get? a = some o
 | .xd fs => ∃ mA, h.Ns1 a mA ∧ ∀ f, RelO (fs.lookup f) (mA f)
 | .rng lo hi => ∃ t u v, h.get? a = some { cls := .type "range", data := .fields #[.int lo t, .int hi u, .int 1 v] }
 | .frz o u => h.get? a = some o ∧ ObjOk H h a u
 | .tbl ps => h.get? a = some { cls := .none, data := .fields ps }
 | .met f x => h.get? a = some (PySem.W.methodObj (.ref f) (.ref x))
 | .ext φ => φ h ∧ (∃ o, h.get? a = some o) ∧ ∀ h1 h2 : Heap, φ h1 → (∀ o, h1.get? a = some o → h2.get? a = some o) → φ h2
def HOk (H : Hp) (h : Heap) : Prop := ∀ a o, H a = some o → ObjOk P w H h a o
end
section
variable {P : Program} {w : World} {H H' : Hp} {h h' : Heap} {a : Addr} {o : HO}
theorem ObjOk.lt (x : ObjOk P w H h a o) : a < h.objs.size := by
 cases o with
 | lst xs => obtain ⟨_, _, _, _, e⟩ := x; exact Heap.lt_size e
 | tup xs => obtain ⟨_, _, _, p⟩ := x; exact p.lt
 | dK kvs => obtain ⟨_, _, _, _, o, _, _, e, _⟩ := x; exact Heap.lt_size e
 | dT kvs => obtain ⟨_, _, _, _, o, _, _, e, _⟩ := x; exact Heap.lt_size e
 | set S n => obtain ⟨o, _, _, _, e, _⟩ := x; exact Heap.lt_size e
 | ins C dx fs => obtain ⟨_, _, _, e, _⟩ := x; exact Heap.lt_size e
 | own y => obtain ⟨_, e⟩ := x; exact Heap.lt_size e
 | xd fs => obtain ⟨_, ⟨_, _, _, e, _⟩, _⟩ := x; exact Heap.lt_size e
 | rng lo hi => obtain ⟨_, _, _, e⟩ := x; exact Heap.lt_size e
 | frz ob u => obtain ⟨e, _⟩ := x; exact Heap.lt_size e
 | tbl ps => exact Heap.lt_size (show h.get? a = some _ from x)
 | met f y => exact Heap.lt_size (show h.get? a = some _ from x)
 | ext φ => obtain ⟨_, ⟨_, e⟩, _⟩ := x; exact Heap.lt_size e
theorem Paired.mapP {α β : Type} {F G : α → β → Prop} : ∀ {l₁ : List α} {l₂ : List β}, Paired F l₁ l₂ → (∀ a b, F a b → G a b) → Paired G l₁ l₂
 | _, _, .nil, _ => .nil
 | _, _, .cons r t, f => .cons (f _ _ r) (Paired.mapP t f)
theorem ObjOk.stay (x : ObjOk P w H h a o) (k : ∀ b u, (b = a ∨ H b = some (.own a)) → h.get? b = some u → h'.get? b = some u)
   (ho : ∀ b, H b = some (.own a) → H' b = some (.own a)) (ht : ∀ b xs, H b = some (.tup xs) → H' b = some (.tup xs)) : ObjOk P w H' h' a o := by
 induction o with
 | lst xs => obtain ⟨z, its, n, r, e⟩ := x; exact ⟨z, its, n, r, k _ _ (.inl rfl) e⟩
 | tup xs => obtain ⟨z, its, r, ob, e, c⟩ := x; exact ⟨z, its, r, ob, k _ _ (.inl rfl) e, c⟩
 | dK kvs => obtain ⟨z, y, vs, r, ob, es, ep, e, c⟩ := x; exact ⟨z, y, vs, r, ob, es, ep, k _ _ (.inl rfl) e, c⟩
 | dT kvs =>
   obtain ⟨z, y, xs, r, ob, es, ep, e, c⟩ := x
   exact ⟨z, y, xs, Paired.mapP r fun p q z => ⟨z.1, ht _ _ z.2.1, z.2.2⟩, ob, es, ep, k _ _ (.inl rfl) e, c⟩
 | set S n => obtain ⟨ob, es, ep, t, e, c⟩ := x; exact ⟨ob, es, ep, t, k _ _ (.inl rfl) e, c⟩
 | ins C dx fs =>
   obtain ⟨d, z, ne, e, mA, ⟨od, es, ep, e2, c⟩, r⟩ := x
   exact ⟨ho _ d, z, ne, k _ _ (.inl rfl) e, mA, ⟨od, es, ep, k _ _ (.inr d) e2, c⟩, r⟩
 | own y => obtain ⟨ob, e⟩ := x; exact ⟨ob, k _ _ (.inl rfl) e⟩
 | xd fs => obtain ⟨mA, ⟨od, es, ep, e, c⟩, r⟩ := x; exact ⟨mA, ⟨od, es, ep, k _ _ (.inl rfl) e, c⟩, r⟩
 | rng lo hi => obtain ⟨t, u, v, e⟩ := x; exact ⟨t, u, v, k _ _ (.inl rfl) e⟩
 | frz ob u ih => obtain ⟨e, q⟩ := x; exact ⟨k _ _ (.inl rfl) e, ih q⟩
 | tbl ps =>
   have e : h.get? a = some { cls := .none, data := .fields ps } := x
   show h'.get? a = some { cls := .none, data := .fields ps }
   exact k a _ (.inl rfl) e
 | met f y =>
   have e : h.get? a = some (PySem.W.methodObj (.ref f) (.ref y)) := x
   show h'.get? a = some (PySem.W.methodObj (.ref f) (.ref y))
   exact k a _ (.inl rfl) e
 | ext φ => obtain ⟨p, ⟨o, e⟩, st⟩ := x; exact ⟨st _ _ p fun o q => k _ _ (.inl rfl) q, ⟨o, k _ _ (.inl rfl) e⟩, st⟩
theorem HOk.lt (x : HOk P w H h) (e : H a = some o) : a < h.objs.size := (x a o e).lt
theorem HOk.fresh (x : HOk P w H h) (e : h.objs.size ≤ a) : H a = none := by
 cases q : H a with
 | none => rfl
 | some u => exact absurd (Nat.lt_of_lt_of_le (x.lt q) e) (Nat.lt_irrefl _)
theorem HOk.kept (x : HOk P w H h) (k : ∀ b u, h.get? b = some u → h'.get? b = some u) : HOk P w H h' := fun a o e =>
 (x a o e).stay (fun b u _ q => k b u q) (fun _ q => q) fun _ _ q => q
theorem HOk.laid (x : HOk P w H h) (k : ∀ b u, h.get? b = some u → h'.get? b = some u) (hp : h.objs.size ≤ a) (new : ObjOk P w (upd H a o) h' a o) : HOk P w (upd H a o) h' := fun b u e => by
 have hn := x.fresh hp
 by_cases hb : b = a
 · subst hb; rw [upd_same] at e; cases e; exact new
 · rw [upd_ne hb] at e
   exact (x b u e).stay (fun c v _ q => k c v q) (fun c q => by rw [upd_ne (ne_of_none q hn)]; exact q) fun c xs q => by rw [upd_ne (ne_of_none q hn)]; exact q
end
def Rd (H : Hp) (a : Addr) (u : HO) : Prop := H a = some u ∨ ∃ o, H a = some (.frz o u)
theorem Rd.ok {P : Program} {w : World} {H : Hp} {h : Heap} {a : Addr} {u : HO} (r : Rd H a u) (x : HOk P w H h) : ObjOk P w H h a u := by
 rcases r with r | ⟨o, r⟩
 · exact x a u r
 · obtain ⟨_, q⟩ := x a _ r
   exact q
def Mut : Option HO → Prop
 | some (.lst _) => True
 | some (.dK _) => True
 | some (.dT _) => True
 | some (.set _ _) => True
 | some (.ins _ _ _) => True
 | some (.ext _) => True
 | _ => False
section
variable {P : Program} {w : World} {H : Hp} {h h' : Heap} {x e : Addr} {o' : HO}
theorem HOk.write (ok : HOk P w H h) (mu : Mut (H x)) (he : e = x ∨ H e = some (.own x)) (k : ∀ b u, b ≠ e → h.get? b = some u → h'.get? b = some u) (heo : ∃ u, h'.get? e = some u)
   (new : ObjOk P w (upd H x o') h' x o') : HOk P w (upd H x o') h' := fun b u q => by
 have nown : ∀ c y, H c = some (.own y) → c ≠ x := fun c y r z => by subst z; rw [r] at mu; exact mu
 have ntup : ∀ c xs, H c = some (.tup xs) → c ≠ x := fun c xs r z => by subst z; rw [r] at mu; exact mu
 by_cases hb : b = x
 · subst hb; rw [upd_same] at q; cases q; exact new
 · rw [upd_ne hb] at q
   by_cases hbe : b = e
   · have q' : H b = some (.own x) := by
       rcases he with z | z
       · exact absurd (hbe.trans z) hb
       · rw [hbe]; exact z
     rw [q] at q'; cases q'
     obtain ⟨v, hv⟩ := heo
     exact ⟨v, by rw [hbe]; exact hv⟩
   · refine (ok b u q).stay (fun c v hc r => k c v ?_ r) (fun c r => by rw [upd_ne (nown c b r)]; exact r) fun c xs r => by rw [upd_ne (ntup c xs r)]; exact r
     rcases hc with rfl | hc
     · exact hbe
     · rintro rfl
       rcases he with z | z
       · exact nown c b hc z
       · rw [hc] at z; cases z; exact hb rfl
end
structure Un (fs ex : List Addr) (H H' : Hp) (h h' : Heap) : Prop where
 keep : ∀ b o, h.get? b = some o → H b = none → b ∉ fs → b ∉ ex → h'.get? b = some o
 slot : ∀ b o, h.get? b = some o → H b = none → b ∈ fs → b ∉ ex → ∃ sl, h'.get? b = some { o with slots := sl }
 free : ∀ b o, h.get? b = some o → H b = none → b ∉ ex → H' b = none
 there : ∀ b o, h.get? b = some o → b ∉ ex → ∃ o', h'.get? b = some o'
 tups : ∀ b xs, H b = some (.tup xs) → H' b = some (.tup xs)
 frzs : ∀ b o u, H b = some (.frz o u) → H' b = some (.frz o u)
 tbls : ∀ b ps, H b = some (.tbl ps) → ∃ more, H' b = some (.tbl (ps ++ more))
section
variable {fs fs' ex ex' : List Addr} {H H1 H2 : Hp} {h h1 h2 h' : Heap} {a x e : Addr} {o : HO}
theorem Un.any (u : Un fs ex H H1 h h1) {b : Addr} {ob : Obj} (q : h.get? b = some ob) (n : H b = none) (hx : b ∉ ex) : ∃ sl, h1.get? b = some { ob with slots := sl } := by
 by_cases hb : b ∈ fs
 · exact u.slot b ob q n hb hx
 · exact ⟨ob.slots, u.keep b ob q n hb hx⟩
theorem Un.kept (k : ∀ b u, h.get? b = some u → h'.get? b = some u) : Un fs ex H H h h' :=
 ⟨fun b ob q _ _ _ => k b ob q, fun b ob q _ _ _ => ⟨ob.slots, k b ob q⟩, fun _ _ _ n _ => n, fun b ob q _ => ⟨ob, k b ob q⟩, fun _ _ q => q, fun _ _ _ q => q, fun _ ps q => ⟨#[], by rw [q]; simp⟩⟩
theorem Un.refl : Un fs ex H H h h := Un.kept fun _ _ q => q
theorem Un.laid (k : ∀ b u, h.get? b = some u → h'.get? b = some u) (hp : h.objs.size ≤ a) (hn : H a = none) : Un fs ex H (upd H a o) h h' where
 keep := fun b u q _ _ _ => k b u q
 slot := fun b u q _ _ _ => ⟨u.slots, k b u q⟩
 free := fun b u q n _ => by rw [upd_ne (Nat.ne_of_lt (Nat.lt_of_lt_of_le (Heap.lt_size q) hp))]; exact n
 there := fun b u q _ => ⟨u, k b u q⟩
 tups := fun b xs q => by rw [upd_ne (ne_of_none q hn)]; exact q
 frzs := fun b u xs q => by rw [upd_ne (ne_of_none q hn)]; exact q
 tbls := fun b ps q => ⟨#[], by rw [upd_ne (ne_of_none q hn), q]; simp⟩
theorem Un.write (mu : Mut (H x)) (he : e = x ∨ H e = some (.own x)) (k : ∀ b u, b ≠ e → h.get? b = some u → h'.get? b = some u) (heo : ∃ u, h'.get? e = some u) : Un fs ex H (upd H x o) h h' := by
 have hx : ∀ b, H b = none → b ≠ x := fun b n z => by subst z; rw [n] at mu; exact mu
 have hb : ∀ b, H b = none → b ≠ e := fun b n z => by
   subst z
   rcases he with r | r
   · exact hx b n r
   · rw [n] at r; cases r
 have hm : ∀ b u, H b = some u → ¬ Mut (some u) → b ≠ x := fun b u q nm z => by subst z; rw [q] at mu; exact nm mu
 refine ⟨fun b u q n _ _ => k b u (hb b n) q, fun b u q n _ _ => ⟨u.slots, k b u (hb b n) q⟩, fun b u q n _ => by rw [upd_ne (hx b n)]; exact n, fun b u q _ => ?_,
   fun b xs q => by rw [upd_ne (hm b _ q fun z => z)]; exact q, fun b u xs q => by rw [upd_ne (hm b _ q fun z => z)]; exact q, fun b ps q => ⟨#[], by rw [upd_ne (hm b _ q fun z => z), q]; simp⟩⟩
 by_cases hbe : b = e
 · subst hbe; exact heo
 · exact ⟨u, k b u hbe q⟩
end
def trk (h : Heap) (H : Hp) : List Addr := (List.range h.objs.size).filter fun a => (H a).isSome
def hidT (h : Heap) (H : Hp) : Heap := PySem.W.hideAll h (trk h H)
theorem hidT_size (h : Heap) (H : Hp) : (hidT h H).objs.size = h.objs.size := PySem.W.hideAll_size _ _
theorem hidT_get {h : Heap} {H : Hp} {b : Addr} {o : Obj} (e : h.get? b = some o) (n : H b = none) : (hidT h H).get? b = some o :=
 PySem.W.hideAll_get _ e fun hm => by
   have q : (H b).isSome = true := (List.mem_filter.mp hm).2
   rw [n] at q; simp at q
theorem of_hidT {h : Heap} {H : Hp} {b : Addr} {o : Obj} (e : (hidT h H).get? b = some o) : h.get? b = some o ∧ H b = none := by
 have e' : h.get? b = some o := PySem.W.of_hideAll (trk h H) e
 refine ⟨e', ?_⟩
 cases q : H b with
 | none => rfl
 | some x =>
   have hm : b ∈ trk h H := List.mem_filter.mpr ⟨List.mem_range.mpr (Heap.lt_size e'), by simp [q]⟩
   have z : (hidT h H).get? b = none := PySem.W.hideAll_none (trk h H) hm
   rw [z] at e; cases e
end L2
namespace L2
open PySem PySem.Spec PyProof.Rows
structure Mod (K : PySem.W.Frag) (mg : Str → Option Value) (base : Heap) : Prop where
 kin : K.In base
 glob : base.Ns mainGlobals mg
 blt : ∃ mb, base.Ns builtinsNs mb ∧ ∀ x : Str, x ≠ "__name__" → mb x = bootBuiltins x
 nolimit : base.NoLimit
structure Cx where
 prog : Program
 w : World
 K : PySem.W.Frag
 mg : Str → Option Value
 base : Heap
 A : Around
 N : List Str
 s_0 : Shared
 H_0 : Hp
 env : Env
 outer : List Env
 stack : List Env
 ex : List Addr
 fn : Str → Bool
 calm : Bool
 pn : List (Addr × Obj)
 xe : Value → Shared → Prop
def frs (l : List Env) : List Addr := l.filterMap (·.frame)
abbrev Cx.fs (X : Cx) : List Addr := frs X.outer
def Vis (sc : Scope) (x : Str) : Prop := sc.names.lookup x = some .local ∨ sc.names.lookup x = some .cell ∨ sc.names.lookup x = some .free
def Loc (sc : Scope) (x : Str) : Prop := sc.names.lookup x = some .local ∨ sc.names.lookup x = some .cell
def Look (env : Env) (h : Heap) (m : Str → Option Value) (x : Str) (u : Value) : Prop :=
 (env.kindOf x = some .local ∧ m x = some u) ∨ ((env.kindOf x = some .cell ∨ env.kindOf x = some .free) ∧ ∃ c, env.cells.lookup x = some c ∧ h.IsCell c (some u))
structure Cx.Ok (X : Cx) : Prop where
 mod : Mod X.K X.mg X.base
 kind : X.env.scope.kind = .function
 glob : X.env.globals = mainGlobals
 blt : X.env.builtins = builtinsNs
 above : X.s_0.heap.objs.size ≤ X.env.locals
 inj : ∀ x y c, X.env.cells.lookup x = some c → X.env.cells.lookup y = some c → x = y
 has : ∀ x, (X.env.kindOf x = some .cell ∨ X.env.kindOf x = some .free) → ∃ c, X.env.cells.lookup x = some c
 cab : ∀ x c, X.fn x = true → X.env.cells.lookup x = some c → X.s_0.heap.objs.size ≤ c
 hd : X.calm = true → X.A.handled = none
 frames : X.A.frames = some X.stack
 stk : X.stack = X.outer ∨ (X.stack = X.env :: X.outer ∧ X.env.frame = some X.env.locals)
 exf : ∀ b ∈ X.ex, b ≠ X.env.locals ∧ ∀ x c, X.env.cells.lookup x = some c → c ≠ b
 bs : ∀ b o, X.base.get? b = some o → X.s_0.heap.get? b = some o ∧ X.H_0 b = none
 bsz : X.base.objs.size ≤ X.s_0.heap.objs.size
 noex : ∀ b o, X.base.get? b = some o → b ∉ X.ex
 exfs : ∀ b ∈ X.ex, b ∉ X.fs
 funs : X.s_0.heap.FunFrames X.base X.outer
 frf : ∀ b ∈ X.fs, X.H_0 b = none
structure Inv (X : Cx) (pins : List (Addr × Obj)) (σ : List (Option V)) (H : Hp) (s : Shared) : Prop where
 ok : X.Ok
 os : s.os = X.s_0.os
 bare : AllBare s.gens
 base : Un X.fs X.ex X.H_0 H X.s_0.heap s.heap
 loc : ∃ m, s.heap.Ns X.env.locals m ∧ ∀ (i : Nat) (x : Str) (v : V), X.N[i]? = some x → σ[i]? = some (some v) → Vis X.env.scope x → ∃ u, RelV v u ∧ Look X.env s.heap m x u
 cell : ∀ x c, X.env.cells.lookup x = some c → ∃ v, s.heap.IsCell c v
 free : H X.env.locals = none
 freeC : ∀ x c, X.env.cells.lookup x = some c → H c = none
 pin : ∀ p ∈ X.pn ++ pins, s.heap.get? p.1 = some p.2 ∧ H p.1 = none ∧ p.1 ≠ X.env.locals ∧ p.1 ∉ X.fs ∧ ∀ v, p.2.data ≠ .cell v
 hok : HOk X.prog X.w H s.heap
 len : σ.length = X.N.length
section
variable {X : Cx} {pins : List (Addr × Obj)} {σ : List (Option V)} {H H' : Hp} {s : Shared} {h' : Heap}
theorem Cx.Ok.nofr (ok : X.Ok) {b : Addr} {o : Obj} (e : X.base.get? b = some o) : b ∉ X.fs := fun hb => by
 have := (ok.funs.mem hb).1
 rw [e] at this; cases this
theorem Inv.bs (I : Inv X pins σ H s) : ∀ b o, X.base.get? b = some o → s.heap.get? b = some o ∧ H b = none := fun b o e =>
 ⟨I.base.keep b o (I.ok.bs b o e).1 (I.ok.bs b o e).2 (I.ok.nofr e) (I.ok.noex b o e), I.base.free b o (I.ok.bs b o e).1 (I.ok.bs b o e).2 (I.ok.noex b o e)⟩
theorem Inv.bk (I : Inv X pins σ H s) : ∀ b o, X.base.get? b = some o → s.heap.get? b = some o := fun b o e => (I.bs b o e).1
theorem Inv.mod (I : Inv X pins σ H s) : Mod X.K X.mg X.base := I.ok.mod
theorem Inv.kIn (I : Inv X pins σ H s) : X.K.In s.heap := I.ok.mod.kin.keeps I.bk
theorem Inv.lt (I : Inv X pins σ H s) : X.env.locals < s.heap.objs.size := let ⟨_, hn, _⟩ := I.loc; hn.lt
theorem Inv.sz (I : Inv X pins σ H s) : X.s_0.heap.objs.size ≤ s.heap.objs.size := Nat.le_trans I.ok.above (Nat.le_of_lt I.lt)
theorem Inv.nofs (I : Inv X pins σ H s) {a : Addr} (h : s.heap.objs.size ≤ a) : a ∉ X.fs := fun hb => by
 obtain ⟨_, o, ho, _⟩ := I.ok.funs.mem hb
 exact absurd (Nat.lt_of_lt_of_le (Heap.lt_size ho) (Nat.le_trans I.sz h)) (Nat.lt_irrefl _)
theorem Inv.cne (I : Inv X pins σ H s) : ∀ x c, X.env.cells.lookup x = some c → c ≠ X.env.locals := fun x c e z => by
 obtain ⟨v, o, ho, hd⟩ := I.cell x c e
 obtain ⟨m, ⟨o', es, ep, ho', hd', _⟩, _⟩ := I.loc
 rw [z, ho'] at ho; cases ho; rw [hd'] at hd; cases hd
theorem Inv.funs (I : Inv X pins σ H s) : s.heap.FunFrames X.base X.outer := by
 have all : ∀ (l : List Env), (∀ b ∈ frs l, b ∈ X.fs) → X.s_0.heap.FunFrames X.base l → s.heap.FunFrames X.base l := by
   intro l
   induction l with
   | nil => intro _ _; trivial
   | cons env r ih =>
     intro hs hl
     obtain ⟨hk, ⟨L, o, hf, hn, ho, hd⟩, hr⟩ := hl
     have hL : L ∈ X.fs := hs L (by unfold frs; rw [List.filterMap_cons, hf]; exact List.mem_cons_self)
     obtain ⟨sl, e⟩ := I.base.slot L o ho (I.ok.frf L hL) hL fun z => I.ok.exfs L z hL
     exact ⟨hk, ⟨L, _, hf, hn, e, hd⟩, ih (fun b hb => hs b (by unfold frs; rw [List.filterMap_cons, hf]; exact List.mem_cons_of_mem _ hb)) hr⟩
 exact all X.outer (fun _ hb => hb) I.ok.funs
theorem Inv.stack (I : Inv X pins σ H s) : s.heap.FunFrames X.base X.stack := by
 rcases I.ok.stk with e | ⟨e, hf⟩
 · rw [e]; exact I.funs
 · rw [e]
   obtain ⟨m, hn, _⟩ := I.loc
   refine .cons (by rw [I.ok.kind]; decide) hf hn ?_ I.funs
   exact Heap.get?_none_of_le (Nat.le_trans I.ok.bsz I.ok.above)
theorem Inv.stkSub (I : Inv X pins σ H s) : ∀ b ∈ frs X.stack, b ∈ X.env.locals :: X.fs := fun b hb => by
 rcases I.ok.stk with e | ⟨e, hf⟩
 · rw [e] at hb; exact List.mem_cons_of_mem _ hb
 · rw [e] at hb
   unfold frs at hb
   rw [List.filterMap_cons, hf] at hb
   exact hb
theorem Inv.stkFree (I : Inv X pins σ H s) : ∀ b ∈ frs X.stack, H b = none := fun b hb => by
 rcases List.mem_cons.mp (I.stkSub b hb) with e | hb
 · rw [e]; exact I.free
 · obtain ⟨_, o, ho, _⟩ := I.ok.funs.mem hb
   exact I.base.free b o ho (I.ok.frf b hb) fun z => I.ok.exfs b z hb
theorem Inv.step {g' : Array GenState} {t' : Nat} {d' : Drawn} {ch : List Addr} (I : Inv X pins σ H s)
   (hch : ∀ b ∈ ch, (b ∈ X.ex ∨ X.s_0.heap.objs.size ≤ b) ∧ b ≠ X.env.locals ∧ (∀ x c, X.env.cells.lookup x = some c → c ≠ b) ∧ ∀ p ∈ X.pn ++ pins, p.1 ≠ b)
   (keep : ∀ b o, b ≠ X.env.locals → b ∉ X.fs → b ∉ ch → s.heap.get? b = some o → H b = none → h'.get? b = some o)
   (slot : ∀ b o, b ≠ X.env.locals → b ∈ X.fs → b ∉ ch → s.heap.get? b = some o → H b = none → ∃ sl, h'.get? b = some { o with slots := sl }) (free : ∀ b o, b ∉ ch → s.heap.get? b = some o → H b = none → H' b = none)
   (there : ∀ b o, b ∉ ch → s.heap.get? b = some o → ∃ o', h'.get? b = some o')
   (tups : ∀ b xs, H b = some (.tup xs) → H' b = some (.tup xs)) (frzs : ∀ b o u, H b = some (.frz o u) → H' b = some (.frz o u)) (tbls : ∀ b ps, H b = some (.tbl ps) → ∃ more, H' b = some (.tbl (ps ++ more)))
   (ns : ∀ m, s.heap.Ns X.env.locals m → h'.Ns X.env.locals m) (hok : HOk X.prog X.w H' h') (hg : AllBare g') :
   Inv X pins σ H' { s with heap := h', gens := g', drawn := d', toks := t' } := by
 have neL : ∀ b o, X.s_0.heap.get? b = some o → b ≠ X.env.locals := fun b o e => Nat.ne_of_lt (Nat.lt_of_lt_of_le (Heap.lt_size e) I.ok.above)
 have neC : ∀ b o, X.s_0.heap.get? b = some o → b ∉ X.ex → b ∉ ch := fun b o e hx hb => by
   rcases (hch b hb).1 with z | z
   · exact hx z
   · exact absurd (Nat.lt_of_lt_of_le (Heap.lt_size e) z) (Nat.lt_irrefl _)
 have cellK : ∀ x c, X.env.cells.lookup x = some c → ∀ v, s.heap.IsCell c v → h'.IsCell c v := fun x c e v ⟨o, ho, hd⟩ => by
   have nch : c ∉ ch := fun z => (hch c z).2.2.1 x c e rfl
   by_cases hc : c ∈ X.fs
   · obtain ⟨sl, q⟩ := slot c o (I.cne x c e) hc nch ho (I.freeC x c e)
     exact ⟨_, q, hd⟩
   · exact ⟨o, keep c o (I.cne x c e) hc nch ho (I.freeC x c e), hd⟩
 refine ⟨I.ok, I.os, hg, ⟨fun b o e n hb hx => ?_, fun b o e n hb hx => ?_, fun b o e n hx => ?_, fun b o e hx => ?_, fun b xs e => tups b xs (I.base.tups b xs e), fun b o xs e => frzs b o xs (I.base.frzs b o xs e), fun b ps e => ?_⟩, ?_, fun x c e => ?_, ?_, fun x c e => ?_, fun p hp => ?_, hok, I.len⟩
 · exact keep b o (neL b o e) hb (neC b o e hx) (I.base.keep b o e n hb hx) (I.base.free b o e n hx)
 · obtain ⟨sl, e1⟩ := I.base.slot b o e n hb hx
   obtain ⟨sl', e2⟩ := slot b _ (neL b o e) hb (neC b o e hx) e1 (I.base.free b o e n hx)
   exact ⟨sl', e2⟩
 · obtain ⟨o', e1⟩ := I.base.there b o e hx
   exact free b o' (neC b o e hx) e1 (I.base.free b o e n hx)
 · obtain ⟨o', e1⟩ := I.base.there b o e hx
   exact there b o' (neC b o e hx) e1
 · obtain ⟨m1, e1⟩ := I.base.tbls b ps e
   obtain ⟨m2, e2⟩ := tbls b _ e1
   exact ⟨m1 ++ m2, by rw [e2, Array.append_assoc]⟩
 · obtain ⟨m, hn, hl⟩ := I.loc
   refine ⟨m, ns m hn, fun i x v e1 e2 e3 => ?_⟩
   obtain ⟨u, r, l⟩ := hl i x v e1 e2 e3
   refine ⟨u, r, ?_⟩
   rcases l with l | ⟨k, c, e, z⟩
   · exact .inl l
   · exact .inr ⟨k, c, e, cellK x c e _ z⟩
 · obtain ⟨v, z⟩ := I.cell x c e
   exact ⟨v, cellK x c e v z⟩
 · obtain ⟨m, ⟨o, _, _, ho, _⟩, _⟩ := I.loc
   exact free _ o (fun z => (hch _ z).2.1 rfl) ho I.free
 · obtain ⟨v, o, ho, hd⟩ := I.cell x c e
   exact free c o (fun z => (hch c z).2.2.1 x c e rfl) ho (I.freeC x c e)
 · obtain ⟨e, n, ne, nf, d⟩ := I.pin p hp
   have nch : p.1 ∉ ch := fun z => (hch p.1 z).2.2.2 p hp rfl
   exact ⟨keep p.1 p.2 ne nf nch e n, free p.1 p.2 nch e n, ne, nf, d⟩
theorem Inv.un {t' : Nat} (I : Inv X pins σ H s) (u : Un X.fs [] H H' s.heap h') (hok : HOk X.prog X.w H' h') : Inv X pins σ H' { s with heap := h', toks := t' } := by
 obtain ⟨m, ⟨o, es, ep, ho, r⟩, _⟩ := id I.loc
 obtain ⟨sl, hL⟩ := u.any ho I.free (by simp)
 exact I.step (g' := s.gens) (d' := s.drawn) (ch := []) (fun _ z => nomatch z) (fun b o _ hb _ e n => u.keep b o e n hb (by simp)) (fun b o _ hb _ e n => u.slot b o e n hb (by simp)) (fun b o _ e n => u.free b o e n (by simp)) (fun b o _ e => u.there b o e (by simp)) u.tups u.frzs u.tbls (fun m' hm => by
   obtain ⟨o', es', ep', ho', r'⟩ := hm
   rw [ho] at ho'; cases ho'
   exact ⟨_, es', ep', hL, r'⟩) hok I.bare
theorem Inv.call {g' : Array GenState} {t' : Nat} {d' : Drawn} {ch : List Addr} (I : Inv X pins σ H s) (u : Un (frs X.stack) ch H H' s.heap h') (hok : HOk X.prog X.w H' h') (hg : AllBare g')
   (hch : ∀ b ∈ ch, (b ∈ X.ex ∨ X.s_0.heap.objs.size ≤ b) ∧ b ≠ X.env.locals ∧ (∀ x c, X.env.cells.lookup x = some c → c ≠ b) ∧ ∀ p ∈ X.pn ++ pins, p.1 ≠ b) :
   Inv X pins σ H' { s with heap := h', gens := g', drawn := d', toks := t' } := by
 obtain ⟨m, ⟨o, es, ep, ho, r⟩, _⟩ := id I.loc
 obtain ⟨sl, hL⟩ := u.any ho I.free fun z => (hch _ z).2.1 rfl
 exact I.step (ch := ch) hch (fun b o hL hb hc e n => u.keep b o e n (fun z => (List.mem_cons.mp (I.stkSub b z)).elim hL hb) hc) (fun b o _ _ hc e n => u.any e n hc) (fun b o hc e n => u.free b o e n hc) (fun b o hc e => u.there b o e hc) u.tups u.frzs u.tbls (fun m' hm => by
   obtain ⟨o', es', ep', ho', r'⟩ := hm
   rw [ho] at ho'; cases ho'
   exact ⟨_, es', ep', hL, r'⟩) hok hg
theorem Inv.turned {t' : Nat} {it : Addr} (I : Inv X pins σ H s) (k : ∀ b o, b ≠ it → s.heap.get? b = some o → h'.get? b = some o) (hn : H it = none) (hL : it ≠ X.env.locals)
   (h1 : it ∈ X.ex ∨ X.s_0.heap.objs.size ≤ it) (h2 : ∀ x c, X.env.cells.lookup x = some c → c ≠ it) (h3 : ∀ p ∈ X.pn ++ pins, p.1 ≠ it) : Inv X pins σ H { s with heap := h', toks := t' } := by
 have nit : ∀ b u, H b = some u → b ≠ it := fun b u e z => by rw [z, hn] at e; cases e
 refine I.step (g' := s.gens) (d' := s.drawn) (ch := [it]) (fun b hb => ?_) (fun b o _ _ hc e _ => k b o (fun z => hc (by simp [z])) e) (fun b o _ _ hc e _ => ⟨o.slots, k b o (fun z => hc (by simp [z])) e⟩) (fun _ _ _ _ n => n)
   (fun b o hc e => ⟨o, k b o (fun z => hc (by simp [z])) e⟩) (fun _ _ e => e) (fun _ _ _ e => e) (fun b ps e => ⟨#[], by rw [e]; simp⟩) (fun m hm => ?_) (fun b u e => ?_) I.bare
 · have e : b = it := by simpa using hb
   subst e
   exact ⟨h1, hL, h2, h3⟩
 · obtain ⟨o, es, ep, ho, r⟩ := hm
   exact ⟨o, es, ep, k _ o (Ne.symm hL) ho, r⟩
 · refine (I.hok b u e).stay (fun c v hc q => k c v ?_ q) (fun _ q => q) fun _ _ q => q
   rcases hc with z | z
   · rw [z]; exact nit b u e
   · exact nit c _ z
theorem Inv.tok (I : Inv X pins σ H s) (t : Nat) : Inv X pins σ H { s with toks := t } := I.un (h' := s.heap) (t' := t) Un.refl I.hok
theorem Inv.kept {t' : Nat} (I : Inv X pins σ H s) (k : ∀ b u, s.heap.get? b = some u → h'.get? b = some u) : Inv X pins σ H { s with heap := h', toks := t' } := I.un (Un.kept k) (I.hok.kept k)
theorem Inv.laid {a : Addr} {o : HO} {t' : Nat} (I : Inv X pins σ H s) (k : ∀ b u, s.heap.get? b = some u → h'.get? b = some u) (hp : s.heap.objs.size ≤ a) (new : ObjOk X.prog X.w (upd H a o) h' a o) :
   Inv X pins σ (upd H a o) { s with heap := h', toks := t' } := I.un (Un.laid k hp (I.hok.fresh hp)) (I.hok.laid k hp new)
theorem Inv.write {x e : Addr} {o : HO} {t' : Nat} (I : Inv X pins σ H s) (mu : Mut (H x)) (he : e = x ∨ H e = some (.own x)) (k : ∀ b u, b ≠ e → s.heap.get? b = some u → h'.get? b = some u) (heo : ∃ u, h'.get? e = some u)
   (new : ObjOk X.prog X.w (upd H x o) h' x o) : Inv X pins σ (upd H x o) { s with heap := h', toks := t' } := I.un (Un.write mu he k heo) (I.hok.write mu he k heo new)
theorem Inv.weak {σ' : List (Option V)} (I : Inv X pins σ H s) (hl : σ'.length = σ.length) (w : ∀ (i : Nat) v, σ'[i]? = some (some v) → σ[i]? = some (some v)) : Inv X pins σ' H s :=
 ⟨I.ok, I.os, I.bare, I.base, let ⟨m, hn, hl'⟩ := I.loc; ⟨m, hn, fun i x v e1 e2 e3 => hl' i x v e1 (w i v e2) e3⟩, I.cell, I.free, I.freeC, I.pin, I.hok, hl.trans I.len⟩
theorem Inv.pins_of {pins' : List (Addr × Obj)} (I : Inv X pins σ H s) (h : ∀ p ∈ pins', s.heap.get? p.1 = some p.2 ∧ H p.1 = none ∧ p.1 ≠ X.env.locals ∧ p.1 ∉ X.fs ∧ ∀ v, p.2.data ≠ .cell v) : Inv X pins' σ H s :=
 ⟨I.ok, I.os, I.bare, I.base, I.loc, I.cell, I.free, I.freeC, fun p hp => (List.mem_append.mp hp).elim (fun z => I.pin p (List.mem_append_left _ z)) (h p), I.hok, I.len⟩
theorem nodup_ix {N : List Str} (hN : N.Nodup) {i j : Nat} {x : Str} (a : N[i]? = some x) (b : N[j]? = some x) : i = j := by
 obtain ⟨h1, e1⟩ := List.getElem?_eq_some_iff.mp a
 obtain ⟨h2, e2⟩ := List.getElem?_eq_some_iff.mp b
 exact (List.getElem_inj hN).mp (e1.trans e2.symm)
theorem store_ok2 {M : Model} {A : Around} {E : Value → Shared → Prop} {i : Nat} {x : Str} {v : V} {u : Value} {Q : Unit → Shared → Prop} (I : Inv X pins σ H s) (hN : X.N.Nodup) (hi : X.N[i]? = some x) (hx : Loc X.env.scope x) (r : RelV v u)
   (h : ∀ s', Inv X pins (σ.set i (some v)) H s' → (∃ a, Heap.SameBut a s.heap s'.heap ∧ (a = X.env.locals ∨ X.env.cells.lookup x = some a)) → Q () s') (hf : X.fn x = true ∨ X.env.scope.names.lookup x = some .local := by first | exact .inl rfl | exact .inr rfl | assumption) : wpAny M A (storeName X.env x u) Q E s := by
 obtain ⟨m, hn, hl⟩ := id I.loc
 have hcls : (X.env.scope.kind == .class || (X.env.scope.kind == .module && X.env.locals != X.env.globals)) = false := by rw [I.ok.kind]; rfl
 have hiσ : i < σ.length := by rw [I.len]; exact (List.getElem?_eq_some_iff.mp hi).1
 have cne := I.cne
 have tracked : ∀ {a : Addr} {h' : Heap}, (∃ o, s.heap.get? a = some o ∧ H a = none) → Heap.SameBut a s.heap h' → HOk X.prog X.w H h' := fun {a h'} ha hs b ob e => by
   obtain ⟨_, _, hfree⟩ := ha
   refine (I.hok b ob e).stay (fun c w' hc q => (hs.2 c ?_).trans q) (fun _ q => q) fun _ _ q => q
   rintro rfl
   rcases hc with rfl | hc
   · rw [hfree] at e; cases e
   · rw [hfree] at hc; cases hc
 rcases hx with hk | hk
 · refine wpAny_storeName_local hk hn (fun h' hn' hs => ?_) hcls
   obtain ⟨oL, _, _, hoL, _⟩ := id hn
   refine h _ ⟨I.ok, I.os, I.bare, ⟨fun b o e n hb hx => ?_, fun b o e n hb hx => ?_, I.base.free, fun b o e hx => ?_, I.base.tups, I.base.frzs, I.base.tbls⟩, ⟨_, hn', fun j y v' e1 e2 e3 => ?_⟩, fun y c e => ?_, I.free, I.freeC, fun p hp => ?_, tracked ⟨oL, hoL, I.free⟩ hs, by simpa using I.len⟩ ⟨_, hs, .inl rfl⟩
   · exact (hs.2 b (Nat.ne_of_lt (Nat.lt_of_lt_of_le (Heap.lt_size e) I.ok.above))).trans (I.base.keep b o e n hb hx)
   · obtain ⟨sl, e1⟩ := I.base.slot b o e n hb hx
     exact ⟨sl, (hs.2 b (Nat.ne_of_lt (Nat.lt_of_lt_of_le (Heap.lt_size e) I.ok.above))).trans e1⟩
   · obtain ⟨o', e1⟩ := I.base.there b o e hx
     exact ⟨o', (hs.2 b (Nat.ne_of_lt (Nat.lt_of_lt_of_le (Heap.lt_size e) I.ok.above))).trans e1⟩
   · by_cases hj : j = i
     · subst hj
       rw [hi] at e1; cases e1
       rw [List.getElem?_set_self hiσ] at e2
       cases e2
       exact ⟨u, r, .inl ⟨hk, by simp⟩⟩
     · rw [List.getElem?_set_ne (Ne.symm hj)] at e2
       obtain ⟨u', r', q⟩ := hl j y v' e1 e2 e3
       refine ⟨u', r', ?_⟩
       rcases q with ⟨k, e⟩ | ⟨k, c, e, z⟩
       · refine .inl ⟨k, ?_⟩
         have : y ≠ x := fun e => hj (nodup_ix hN e1 (e ▸ hi))
         simp [this, e]
       · exact .inr ⟨k, c, e, z.sameBut hs (cne y c e)⟩
   · obtain ⟨w', z⟩ := I.cell y c e
     exact ⟨w', z.sameBut hs (cne y c e)⟩
   · obtain ⟨e, n, ne, nf, d⟩ := I.pin p hp
     exact ⟨(hs.2 p.1 ne).trans e, n, ne, nf, d⟩
 · have hfn : X.fn x = true := by
     rcases hf with z | z
     · exact z
     · rw [z] at hk; cases hk
   obtain ⟨c, hc⟩ := I.ok.has x (.inl hk)
   obtain ⟨w', z⟩ := I.cell x c hc
   refine wpAny_storeName_cell I.ok.kind hk hc z (fun h' hc' hs => ?_)
   obtain ⟨oc, hoc, hocd⟩ := id z
   refine h { s with heap := h' } ⟨I.ok, I.os, I.bare, ⟨fun b o e n hb hx => ?_, fun b o e n hb hx => ?_, I.base.free, fun b o e hx => ?_, I.base.tups, I.base.frzs, I.base.tbls⟩, ⟨m, hn.sameBut hs (Ne.symm (cne x c hc)), fun j y v' e1 e2 e3 => ?_⟩, fun y c' e => ?_, I.free, I.freeC, fun p hp => ?_, tracked ⟨oc, hoc, I.freeC x c hc⟩ hs, by simpa using I.len⟩ ⟨c, hs, .inr hc⟩
   · exact (hs.2 b (Nat.ne_of_lt (Nat.lt_of_lt_of_le (Heap.lt_size e) (I.ok.cab x c hfn hc)))).trans (I.base.keep b o e n hb hx)
   · obtain ⟨sl, e1⟩ := I.base.slot b o e n hb hx
     exact ⟨sl, (hs.2 b (Nat.ne_of_lt (Nat.lt_of_lt_of_le (Heap.lt_size e) (I.ok.cab x c hfn hc)))).trans e1⟩
   · obtain ⟨o', e1⟩ := I.base.there b o e hx
     exact ⟨o', (hs.2 b (Nat.ne_of_lt (Nat.lt_of_lt_of_le (Heap.lt_size e) (I.ok.cab x c hfn hc)))).trans e1⟩
   · by_cases hj : j = i
     · subst hj
       rw [hi] at e1; cases e1
       rw [List.getElem?_set_self hiσ] at e2
       cases e2
       exact ⟨u, r, .inr ⟨.inl hk, c, hc, hc'⟩⟩
     · rw [List.getElem?_set_ne (Ne.symm hj)] at e2
       obtain ⟨u', r', q⟩ := hl j y v' e1 e2 e3
       refine ⟨u', r', ?_⟩
       rcases q with q | ⟨k, c', e, z'⟩
       · exact .inl q
       · refine .inr ⟨k, c', e, z'.sameBut hs ?_⟩
         rintro rfl
         exact hj (nodup_ix hN e1 (I.ok.inj _ _ _ e hc ▸ hi))
   · by_cases hcc : c' = c
     · subst hcc; exact ⟨_, hc'⟩
     · obtain ⟨w2, z2⟩ := I.cell y c' e
       exact ⟨w2, z2.sameBut hs hcc⟩
   · obtain ⟨e, n, ne, nf, d⟩ := I.pin p hp
     refine ⟨(hs.2 p.1 ?_).trans e, n, ne, nf, d⟩
     intro q
     rw [q, hoc] at e
     have q' : oc = p.2 := Option.some.inj e
     exact d w' (by rw [← q']; exact hocd)
theorem store_ok {M : Model} {A : Around} {E : Value → Shared → Prop} {i : Nat} {x : Str} {v : V} {u : Value} {Q : Unit → Shared → Prop} (I : Inv X pins σ H s) (hN : X.N.Nodup) (hi : X.N[i]? = some x) (hx : Loc X.env.scope x) (r : RelV v u)
   (h : ∀ s', Inv X pins (σ.set i (some v)) H s' → Q () s') (hf : X.fn x = true ∨ X.env.scope.names.lookup x = some .local := by first | exact .inl rfl | exact .inr rfl | assumption) : wpAny M A (storeName X.env x u) Q E s :=
 store_ok2 I hN hi hx r (fun s' I' _ => h s' I') hf
theorem Inv.call' {s' : Shared} {ch : List Addr} (I : Inv X pins σ H s) (ho : s'.os = s.os) (u : Un (frs X.stack) ch H H' s.heap s'.heap) (hok : HOk X.prog X.w H' s'.heap) (hg : AllBare s'.gens)
   (hch : ∀ b ∈ ch, (b ∈ X.ex ∨ X.s_0.heap.objs.size ≤ b) ∧ b ≠ X.env.locals ∧ (∀ x c, X.env.cells.lookup x = some c → c ≠ b) ∧ ∀ p ∈ X.pn ++ pins, p.1 ≠ b) : Inv X pins σ H' s' := by
 obtain ⟨h', g', d', t', o'⟩ := s'
 have e : o' = s.os := ho
 subst e
 exact I.call (g' := g') (t' := t') (d' := d') u hok hg hch
end
abbrev XK := Value → Option Addr → Hp → Prop
abbrev St := List (Option V)
abbrev VK := V → Hp → Prop
abbrev TE := St → Hp → VK → Prop
abbrev TT := St → Hp → (Bool → Hp → Prop) → Prop
abbrev TA := St → Hp → (List V → Hp → Prop) → Prop
structure Ends where
 nx : St → Hp → Prop
 rt : VK
 bk : St → Hp → Prop := fun _ _ => False
 ct : St → Hp → Prop := fun _ _ => False
abbrev TS := Ends → St → Hp → Prop
def EP (X : Cx) (pins : List (Addr × Obj)) (σ : St) (Q : VK) (u : Value) (s' : Shared) : Prop := ∃ v H', Inv X pins σ H' s' ∧ RelV v u ∧ Q v H'
def TP (X : Cx) (pins : List (Addr × Obj)) (σ : St) (Q : Bool → Hp → Prop) (b : Bool) (s' : Shared) : Prop := ∃ H', Inv X pins σ H' s' ∧ Q b H'
def AP (X : Cx) (pins : List (Addr × Obj)) (σ : St) (Q : List V → Hp → Prop) (us : List Value) (s' : Shared) : Prop := ∃ vs H', Inv X pins σ H' s' ∧ Vals vs us ∧ Q vs H'
def SP (X : Cx) (pins : List (Addr × Obj)) (D : Ends) (f : Flow) (s' : Shared) : Prop :=
 match f with
 | .next => ∃ σ' H', Inv X pins σ' H' s' ∧ D.nx σ' H'
 | .brk => ∃ σ' H', Inv X pins σ' H' s' ∧ D.bk σ' H'
 | .cont => ∃ σ' H', Inv X pins σ' H' s' ∧ D.ct σ' H'
 | .ret u => ∃ v σ' H', Inv X pins σ' H' s' ∧ RelV v u ∧ D.rt v H'
def PE (X : Cx) (e : Expr) (t : TE) : Prop :=
 ∀ (pins : List (Addr × Obj)) (s : Shared) (σ : St) (H : Hp) (Q : VK), Inv X pins σ H s → t σ H Q → wpAny (model X.prog X.w) X.A (eval e X.env) (EP X pins σ Q) X.xe s
def PT (X : Cx) (e : Expr) (t : TT) : Prop :=
 ∀ (pins : List (Addr × Obj)) (s : Shared) (σ : St) (H : Hp) (Q : Bool → Hp → Prop), Inv X pins σ H s → t σ H Q → wpAny (model X.prog X.w) X.A (isTrue e X.env (eval e X.env)) (TP X pins σ Q) X.xe s
def PW (X : Cx) (e : Expr) (t : TT) : Prop :=
 ∀ (whole : Sem Value) (pins : List (Addr × Obj)) (s : Shared) (σ : St) (H : Hp) (Q : Bool → Hp → Prop), Inv X pins σ H s → t σ H Q → wpAny (model X.prog X.w) X.A (isTrue e X.env whole) (TP X pins σ Q) X.xe s
theorem PW.pt {X : Cx} {e : Expr} {t : TT} (h : PW X e t) : PT X e t := h _
def PA (X : Cx) (es : List Expr) (t : TA) : Prop :=
 ∀ (pos : Pos) (pins : List (Addr × Obj)) (s : Shared) (σ : St) (H : Hp) (Q : List V → Hp → Prop), Inv X pins σ H s → t σ H Q → wpAny (model X.prog X.w) X.A (spliced (backTo pos (starEach es X.env))) (AP X pins σ Q) X.xe s
def PS (X : Cx) (st : Stmt) (t : TS) : Prop :=
 ∀ (pins : List (Addr × Obj)) (s : Shared) (σ : St) (H : Hp) (D : Ends), Inv X pins σ H s → t D σ H → wpAny (model X.prog X.w) X.A (exec st X.env) (SP X pins D) X.xe s
def PSs (X : Cx) (st : List Stmt) (t : TS) : Prop :=
 ∀ (pins : List (Addr × Obj)) (s : Shared) (σ : St) (H : Hp) (D : Ends), Inv X pins σ H s → t D σ H → wpAny (model X.prog X.w) X.A (execs st X.env) (SP X pins D) X.xe s
theorem thn {α : Type} {t : Sem α} {Q Q' : α → Shared → Prop} {M : Model} {A : Around} {E : Value → Shared → Prop} {s : Shared} (h : wpAny M A t Q E s) (hQ : ∀ a s, Q a s → Q' a s) : wpAny M A t Q' E s := wpAny_mono h hQ fun _ _ x => x
end L2
namespace L2
open PySem PySem.Spec PyProof.Rows
section
variable {X : Cx}
def tVar (i : Nat) : TE := fun σ H Q => ∃ v, σ[i]? = some (some v) ∧ Q v H
def tC (v : V) : TE := fun _ H Q => Q v H
theorem pe_var {i : Nat} {x : Str} {pos : Pos} (hN : X.N[i]? = some x) (hv : Vis X.env.scope x) (hd : (x == ("__debug__" : Str)) = false := by decide) (hcd : (x == ("__classdict__" : Str)) = false := by decide) : PE X (.Name x pos) (tVar i) := by
 intro pins s σ H Q I h
 obtain ⟨v, e, h⟩ := h
 obtain ⟨m, hn, hl⟩ := I.loc
 obtain ⟨u, r, l⟩ := hl i x v hN e hv
 have fin : EP X pins σ Q u s := ⟨v, H, I, r, h⟩
 rcases l with ⟨hk, hm⟩ | ⟨hk, c, hc, hcell⟩
 · exact wpAny_Name (wpAny_loadName_local I.ok.kind hk hn hm fin) hd
 · rcases hk with hk | hk
   · exact wpAny_Name (wpAny_loadName_cell I.ok.kind hk hc hcell fin) hd
   · exact wpAny_Name (wpAny_loadName_free I.ok.kind hk hc hcell fin hcd) hd
theorem pe_int {i j pos} : PE X (.Constant (.int i) j pos) (tC (.int i)) := fun _ _ _ H _ I h => wpAny_Constant_int ⟨.int i, H, I.tok _, ⟨_, rfl⟩, h⟩
theorem pe_bl {b j pos} : PE X (.Constant (.bool b) j pos) (tC (.bl b)) := fun _ _ _ H _ I h => Constant_bool ⟨.bl b, H, I, rfl, h⟩
theorem pe_non {j pos} : PE X (.Constant .none j pos) (tC .non) := fun _ _ _ H _ I h => Constant_none ⟨.non, H, I, rfl, h⟩
theorem pe_str {x j pos} : PE X (.Constant (.str x) j pos) (tC (.str x)) := fun _ _ _ H _ I h => Calls.Constant_str ⟨.str x, H, I.tok _, ⟨_, rfl⟩, h⟩
def Gl (X : Cx) (x : Str) : Prop := X.env.kindOf x = some .globalImplicit
theorem ld_glob {E : Value → Shared → Prop} {pins : List (Addr × Obj)} {s : Shared} {σ : St} {H : Hp} {x : Str} {u : Value} {pos : Pos} {Q : Value → Shared → Prop} (I : Inv X pins σ H s) (hg : Gl X x) (hm : X.mg x = some u) (h : Q u s)
   (hd : (x == ("__debug__" : Str)) = false := by decide) : wpAny (model X.prog X.w) X.A (eval (.Name x pos) X.env) Q E s :=
 Calls.Name_function_global I.ok.kind hg (Calls.loadGlobal_global (by rw [I.ok.glob]; exact I.mod.glob.keeps I.bk) hm h) hd
theorem ld_blt {E : Value → Shared → Prop} {pins : List (Addr × Obj)} {s : Shared} {σ : St} {H : Hp} {x : Str} {u : Value} {pos : Pos} {Q : Value → Shared → Prop} (I : Inv X pins σ H s) (hg : Gl X x) (hm : X.mg x = none) (hv : bootBuiltins x = some u) (h : Q u s)
   (hn : x ≠ "__name__" := by decide) (hd : (x == ("__debug__" : Str)) = false := by decide) : wpAny (model X.prog X.w) X.A (eval (.Name x pos) X.env) Q E s := by
 obtain ⟨mb, h1, h2⟩ := I.mod.blt
 exact Calls.Name_function_global I.ok.kind hg (Calls.loadGlobal_builtin (by rw [I.ok.glob]; exact I.mod.glob.keeps I.bk) hm (by rw [I.ok.blt]; exact h1.keeps I.bk) ((h2 x hn).trans hv) h) hd
theorem pe_glob {x : Str} {v : V} {u : Value} {pos : Pos} (hg : Gl X x) (hm : X.mg x = some u) (r : RelV v u) (hd : (x == ("__debug__" : Str)) = false := by decide) : PE X (.Name x pos) (tC v) :=
 fun _ _ _ H _ I h => ld_glob I hg hm ⟨v, H, I, r, h⟩ hd
variable {a b : Expr} {ta tb : TE} {pos : Pos}
def PC (X : Cx) (op : CmpOp) (a b : Expr) (t : TE) : Prop :=
 ∀ (pins : List (Addr × Obj)) (s : Shared) (σ : St) (H : Hp) (Q : VK), Inv X pins σ H s → t σ H Q →
   wpAny (model X.prog X.w) X.A (eval a X.env) (fun v s₁ => wpAny (model X.prog X.w) X.A (eval b X.env) (fun u s₂ => wpAny (model X.prog X.w) X.A (compareOp op v u) (EP X pins σ Q) X.xe s₂) X.xe s₁) X.xe s
def tB (t : TE) : TT := fun σ H Q => t σ H fun x H1 => ∃ c, x = .bl c ∧ Q c H1
theorem pt_cmp {op : CmpOp} {t : TE} (h : PC X op a b t) (h1 : behindInMarks op b = false := by first | exact nobehind _ (by decide) (by decide) | rfl) : PT X (.Compare a [op] [b] pos) (tB t) := by
 intro pins s σ H Q I hw
 refine wpAny_isTrue_Compare1 (thn (h pins s σ H _ I hw) fun v s1 h1 => thn h1 fun u s2 h2 => thn h2 fun c s3 ⟨x, H1, I1, r1, q1⟩ => ?_) h1
 obtain ⟨d, rfl, q⟩ := q1
 cases r1
 exact wpAny_truthy_bool ⟨H1, I1, q⟩
theorem pt_val {e : Expr} {t : TE} (h : PE X e t) (he : ∀ whole, isTrue e X.env whole = (do let v ← whole; standAt e.pos; holding [v] (truthy v)) := by intro _; rfl) : PT X e (tB t) := by
 intro pins s σ H Q I hw
 refine isTrue_plain (thn (h pins s σ H _ I hw) fun v s1 ⟨x, H1, I1, r1, q1⟩ => ?_) (he _)
 obtain ⟨d, rfl, q⟩ := q1
 cases r1
 exact wpAny_truthy_bool ⟨H1, I1, q⟩
variable {tA tB' : TT} {rest : List Expr}
def tAnd (t u : TT) : TT := fun σ H Q => t σ H fun c H1 => if c = true then u σ H1 Q else Q false H1
def tOr (t u : TT) : TT := fun σ H Q => t σ H fun c H1 => if c = true then Q true H1 else u σ H1 Q
def tNot (t : TT) : TT := fun σ H Q => t σ H fun c H1 => Q (!c) H1
theorem pw_and1 (ha : PT X a tA) : PW X (.BoolOp .And [a] pos) tA := by
 intro wh pins s σ H Q I h
 refine isTrue_and (thn (ha pins s σ H Q I h) fun c s1 e => ?_)
 cases c with
 | true => exact isTrue_and_nil e
 | false => exact e
theorem pw_or1 (ha : PT X a tA) : PW X (.BoolOp .Or [a] pos) tA := by
 intro wh pins s σ H Q I h
 refine isTrue_or (thn (ha pins s σ H Q I h) fun c s1 e => ?_)
 cases c with
 | false => exact isTrue_or_nil e
 | true => exact e
theorem pw_and (ha : PT X a tA) (hb : PW X (.BoolOp .And (b :: rest) pos) tB') : PW X (.BoolOp .And (a :: b :: rest) pos) (tAnd tA tB') := by
 intro wh pins s σ H Q I h
 refine isTrue_and (thn (ha pins s σ H _ I h) fun c s1 ⟨H1, I1, q1⟩ => ?_)
 cases c with
 | true => exact hb wh pins s1 σ H1 Q I1 q1
 | false => exact ⟨H1, I1, q1⟩
theorem pw_or (ha : PT X a tA) (hb : PW X (.BoolOp .Or (b :: rest) pos) tB') : PW X (.BoolOp .Or (a :: b :: rest) pos) (tOr tA tB') := by
 intro wh pins s σ H Q I h
 refine isTrue_or (thn (ha pins s σ H _ I h) fun c s1 ⟨H1, I1, q1⟩ => ?_)
 cases c with
 | true => exact ⟨H1, I1, q1⟩
 | false => exact hb wh pins s1 σ H1 Q I1 q1
theorem pt_not (ha : PT X a tA) : PT X (.UnaryOp .Not a pos) (tNot tA) := by
 intro pins s σ H Q I h
 exact isTrue_not (ha pins s σ H (fun c H1 => Q (!c) H1) I h)
def tAndV (ta tb : TE) : TE := fun σ H Q => ta σ H fun x H1 => ∃ c, x = .bl c ∧ if c = true then tb σ H1 Q else Q (.bl false) H1
def tOrV (ta tb : TE) : TE := fun σ H Q => ta σ H fun x H1 => ∃ c, x = .bl c ∧ if c = true then Q (.bl true) H1 else tb σ H1 Q
theorem pe_one {op} {t : TE} (h : PE X a t) : PE X (.BoolOp op [a] pos) t := fun pins s σ H Q I hw => BoolOp_one (h pins s σ H Q I hw)
theorem pe_and (ha : PE X a ta) (hb : PE X (.BoolOp .And (b :: rest) pos) tb) : PE X (.BoolOp .And (a :: b :: rest) pos) (tAndV ta tb) := by
 intro pins s σ H Q I h
 refine BoolOp_and (thn (ha pins s σ H _ I h) fun v s1 ⟨x, H1, I1, r1, q1⟩ => ?_)
 obtain ⟨c, rfl, q1⟩ := q1
 cases r1
 refine wpAny_truthy_bool ?_
 cases c with
 | true => exact hb pins s1 σ H1 Q I1 q1
 | false => exact ⟨.bl false, H1, I1, rfl, q1⟩
theorem pe_or (ha : PE X a ta) (hb : PE X (.BoolOp .Or (b :: rest) pos) tb) : PE X (.BoolOp .Or (a :: b :: rest) pos) (tOrV ta tb) := by
 intro pins s σ H Q I h
 refine BoolOp_or (thn (ha pins s σ H _ I h) fun v s1 ⟨x, H1, I1, r1, q1⟩ => ?_)
 obtain ⟨c, rfl, q1⟩ := q1
 cases r1
 refine wpAny_truthy_bool ?_
 cases c with
 | false => exact hb pins s1 σ H1 Q I1 q1
 | true => exact ⟨.bl true, H1, I1, rfl, q1⟩
def tIf (t : TT) (ta tb : TE) : TE := fun σ H Q => t σ H fun c H1 => if c = true then ta σ H1 Q else tb σ H1 Q
theorem pe_ifExp {c : Expr} (hc : PT X c tA) (ha : PE X a ta) (hb : PE X b tb) : PE X (.IfExp c a b pos) (tIf tA ta tb) := by
 intro pins s σ H Q I h
 refine wpAny_IfExp (thn (hc pins s σ H _ I h) fun d s1 ⟨H1, I1, q1⟩ => ?_)
 cases d with
 | true => exact ha pins s1 σ H1 Q I1 q1
 | false => exact hb pins s1 σ H1 Q I1 q1
end
end L2
namespace L2
open PySem PySem.Spec PyProof.Rows
def SqL (K : PySem.W.Frag) (H : Hp) (a : Addr) (xs : List V) : Prop :=
 Rd H a (.lst xs) ∨
   ∃ (o : Obj) (its : Array Value) (n : Nat), K.lookup a = some o ∧ o.cls = .type "list" ∧ o.dict = none ∧ o.data = .seq its n ∧ its.size ≤ sizeLine ∧ Vals xs its.toList
def SqT (K : PySem.W.Frag) (H : Hp) (a : Addr) (xs : List V) : Prop :=
 Rd H a (.tup xs) ∨
   ∃ (o : Obj) (its : Array Value) (n : Nat), K.lookup a = some o ∧ o.cls = .type "tuple" ∧ o.data = .seq its n ∧ its.size ≤ sizeLine ∧ Vals xs its.toList
def absV : Value → Option V
 | .none => some .non
 | .bool b => some (.bl b)
 | .int i _ => some (.int i)
 | .str x _ => some (.str x)
 | .bytes b _ => some (.byt b)
 | .float b _ => some (.flt b)
 | .ref a => some (.ref a)
 | .type n => some (.ty n)
 | _ => none
theorem RelV.abs {x : V} {u : Value} (r : RelV x u) : absV u = some x := by
 cases x with
 | non => cases r; rfl
 | bl _ => cases r; rfl
 | int _ => obtain ⟨t, rfl⟩ := r; rfl
 | str _ => obtain ⟨t, rfl⟩ := r; rfl
 | byt _ => obtain ⟨t, rfl⟩ := r; rfl
 | flt _ => obtain ⟨t, rfl⟩ := r; rfl
 | ref _ => cases r; rfl
 | ty _ => cases r; rfl
theorem RelV.inj {x y : V} {u : Value} (r : RelV x u) (q : RelV y u) : x = y := Option.some.inj (r.abs.symm.trans q.abs)
theorem Vals.inj : ∀ {xs ys : List V} {us : List Value}, Vals xs us → Vals ys us → xs = ys
 | _, _, _, .nil, .nil => rfl
 | _, _, _, .cons r t, .cons r' t' => by rw [r.inj r', Vals.inj t t']
section
variable {X : Cx} {pins : List (Addr × Obj)} {σ : St} {H : Hp} {s : Shared} {a : Addr} {xs ys : List V}
theorem SqL.of {K : PySem.W.Frag} (h : H a = some (.lst xs)) : SqL K H a xs := .inl (.inl h)
theorem SqT.of {K : PySem.W.Frag} (h : H a = some (.tup xs)) : SqT K H a xs := .inl (.inl h)
theorem Inv.list (I : Inv X pins σ H s) (h : SqL X.K H a xs) : ∃ its : List Value, Vals xs its ∧ PlainL s.heap a its.toArray ∧ xs.length ≤ sizeLine := by
 rcases h with h | ⟨o, its, n, hk, hc, hd, hs, hz, r⟩
 · obtain ⟨z, its, n, r, e⟩ := h.ok I.hok
   exact ⟨its, r, ⟨_, n, e, rfl, rfl, rfl⟩, z⟩
 · refine ⟨its.toList, r, ⟨o, n, I.kIn a o hk, hc, hd, by simpa using hs⟩, ?_⟩
   have e := r.length
   simp only [Array.length_toList] at e
   omega
theorem Inv.tuple (I : Inv X pins σ H s) (h : SqT X.K H a xs) : ∃ its : List Value, Vals xs its ∧ IsTup s.heap a its.toArray ∧ xs.length ≤ sizeLine := by
 rcases h with h | ⟨o, its, n, hk, hc, hs, hz, r⟩
 · obtain ⟨z, its, r, p⟩ := h.ok I.hok
   exact ⟨its, r, p, z⟩
 · refine ⟨its.toList, r, ⟨o, I.kIn a o hk, hc, n, by simpa using hs⟩, ?_⟩
   have e := r.length
   simp only [Array.length_toList] at e
   omega
theorem Inv.list_inj (I : Inv X pins σ H s) (h : SqL X.K H a xs) (h' : SqL X.K H a ys) : xs = ys := by
 obtain ⟨its, r, ⟨o, n, e, _, _, d⟩, _⟩ := I.list h
 obtain ⟨its', r', ⟨o', n', e', _, _, d'⟩, _⟩ := I.list h'
 rw [e] at e'; cases e'
 rw [d] at d'
 injection d' with d1 _
 have : its = its' := by simpa using congrArg Array.toList d1
 subst this
 exact r.inj r'
end
abbrev Cx.wish (X : Cx) (E : Value → Shared → Prop) : Cx := { X with xe := E }
abbrev Cx.nox (X : Cx) : Cx := X.wish fun _ _ => False
theorem Cx.Ok.wish {X : Cx} (ok : X.Ok) (E : Value → Shared → Prop) : (X.wish E).Ok :=
 ⟨ok.mod, ok.kind, ok.glob, ok.blt, ok.above, ok.inj, ok.has, ok.cab, ok.hd, ok.frames, ok.stk, ok.exf, ok.bs, ok.bsz, ok.noex, ok.exfs, ok.funs, ok.frf⟩
theorem Cx.Ok.unwish {X : Cx} {E : Value → Shared → Prop} (ok : (X.wish E).Ok) : X.Ok :=
 ⟨ok.mod, ok.kind, ok.glob, ok.blt, ok.above, ok.inj, ok.has, ok.cab, ok.hd, ok.frames, ok.stk, ok.exf, ok.bs, ok.bsz, ok.noex, ok.exfs, ok.funs, ok.frf⟩
section
variable {X : Cx} {pins : List (Addr × Obj)} {σ : St} {H : Hp} {s : Shared} {E : Value → Shared → Prop}
theorem Inv.wish (I : Inv X pins σ H s) (E : Value → Shared → Prop) : Inv (X.wish E) pins σ H s := ⟨I.ok.wish E, I.os, I.bare, I.base, I.loc, I.cell, I.free, I.freeC, I.pin, I.hok, I.len⟩
theorem Inv.unwish (I : Inv (X.wish E) pins σ H s) : Inv X pins σ H s := ⟨I.ok.unwish, I.os, I.bare, I.base, I.loc, I.cell, I.free, I.freeC, I.pin, I.hok, I.len⟩
theorem SP.unwish {D : Ends} {f : Flow} {s' : Shared} (h : SP (X.wish E) pins D f s') : SP X pins D f s' := by
 cases f with
 | next => obtain ⟨σ', H', I, q⟩ := h; exact ⟨σ', H', I.unwish, q⟩
 | brk => obtain ⟨σ', H', I, q⟩ := h; exact ⟨σ', H', I.unwish, q⟩
 | cont => obtain ⟨σ', H', I, q⟩ := h; exact ⟨σ', H', I.unwish, q⟩
 | ret u => obtain ⟨v, σ', H', I, r, q⟩ := h; exact ⟨v, σ', H', I.unwish, r, q⟩
theorem PSs.nox {st : List Stmt} {t : TS} (h : PSs X.nox st t) : PSs X st t := fun pins s σ H D I hw =>
 wpAny_mono (h pins s σ H D (I.wish _) hw) (fun _ _ q => q.unwish) fun _ _ z => False.elim z
end
section
variable {X : Cx} {st : Stmt} {rest : List Stmt} {t u : TS} {e : Expr} {te : TE} {pos : Pos}
def tNext : TS := fun D σ H => D.nx σ H
def tSeq (t u : TS) : TS := fun D σ H => t { D with nx := u D } σ H
theorem pss_nil : PSs X [] tNext := fun _ _ σ H _ I h => wpAny_execs_nil ⟨σ, H, I, h⟩
theorem pss_cons (h1 : PS X st t) (h2 : PSs X rest u) : PSs X (st :: rest) (tSeq t u) := by
 intro pins s σ H D I h
 refine wpAny_execs_cons (thn (h1 pins s σ H { D with nx := u D } I h) fun f s1 q => ?_)
 cases f with
 | next =>
   obtain ⟨σ', H', I', q⟩ := q
   exact h2 pins s1 σ' H' D I' q
 | ret v => exact q
 | brk => exact q
 | cont => exact q
theorem pss_one (h1 : PS X st t) : PSs X [st] t := by
 intro pins s σ H D I h
 refine wpAny_execs_cons (thn (h1 pins s σ H D I h) fun f s1 q => ?_)
 cases f with
 | next => exact wpAny_execs_nil q
 | ret v => exact q
 | brk => exact q
 | cont => exact q
theorem Inv.quiet {pins : List (Addr × Obj)} {σ : St} {H : Hp} {s : Shared} (I : Inv X pins σ H s) : interactive X.env = false := by simp [interactive, I.ok.kind]
def tDrop (te : TE) : TS := fun D σ H => te σ H fun _ H1 => D.nx σ H1
theorem ps_expr (he : PE X e te) (hs : swapsWith e none pos.line X.env = pure false := by rfl) : PS X (.Expr e pos) (tDrop te) := by
 intro pins s σ H D I h
 exact wpAny_Expr_any (thn (he pins s σ H _ I h) fun v s1 ⟨x, H1, I1, r1, q1⟩ => ⟨σ, H1, I1, q1⟩) I.quiet hs
def tRet (te : TE) : TS := fun D σ H => te σ H D.rt
theorem ps_ret (he : PE X e te) : PS X (.Return (some e) pos) (tRet te) := by
 intro pins s σ H D I h
 exact wpAny_Return_some (thn (he pins s σ H _ I h) fun v s1 ⟨x, H1, I1, r1, q1⟩ => ⟨x, σ, H1, I1, r1, q1⟩)
def tIfS (c : TT) (t u : TS) : TS := fun D σ H => c σ H fun b H1 => if b = true then t D σ H1 else u D σ H1
theorem ps_if {c : Expr} {a b : List Stmt} {tc : TT} (hc : PT X c tc) (ha : PSs X a t) (hb : PSs X b u) : PS X (.If c a b pos) (tIfS tc t u) := by
 intro pins s σ H D I h
 refine wpAny_If (thn (hc pins s σ H _ I h) fun d s1 ⟨H1, I1, q1⟩ => ?_)
 cases d with
 | true => exact ha pins s1 σ H1 D I1 q1
 | false => exact hb pins s1 σ H1 D I1 q1
def tNever : TS := fun _ _ _ => False
theorem ps_never : PS X st tNever := fun _ _ _ _ _ _ h => h.elim
end
abbrev TG := V → St → Hp → (St → Hp → Prop) → Prop
abbrev TGs := List V → St → Hp → (St → Hp → Prop) → Prop
def PG (X : Cx) (target : Expr) (t : TG) : Prop :=
 ∀ (pins : List (Addr × Obj)) (s : Shared) (σ : St) (H : Hp) (v : V) (u : Value) (Q : St → Hp → Prop), Inv X pins σ H s → RelV v u → t v σ H Q →
   wpAny (model X.prog X.w) X.A (assign target X.env u) (fun _ s' => ∃ σ' H', Inv X pins σ' H' s' ∧ Q σ' H') X.xe s
def PGs (X : Cx) (ts : List Expr) (t : TGs) : Prop :=
 ∀ (pins : List (Addr × Obj)) (s : Shared) (σ : St) (H : Hp) (vs : List V) (us : List Value) (Q : St → Hp → Prop), Inv X pins σ H s → Vals vs us → t vs σ H Q →
   wpAny (model X.prog X.w) X.A (assignInOrder ((assignEach ts X.env).map (·.2)) us) (fun _ s' => ∃ σ' H', Inv X pins σ' H' s' ∧ Q σ' H') X.xe s
abbrev TSet := V → V → V → Hp → (Hp → Prop) → Prop
def PSet (X : Cx) (t : TSet) : Prop :=
 ∀ (pins : List (Addr × Obj)) (s : Shared) (σ : St) (H : Hp) (o i v : V) (ov iv u : Value) (Q : Hp → Prop), Inv X pins σ H s → RelV o ov → RelV i iv → RelV v u → t o i v H Q →
   wpAny (model X.prog X.w) X.A (setItem ov iv u) (fun _ s' => ∃ H', Inv X pins σ H' s' ∧ Q H') X.xe s
abbrev TIp := V → V → Hp → VK → Prop
def PIp (X : Cx) (op : Operator) (t : TIp) : Prop :=
 ∀ (pins : List (Addr × Obj)) (s : Shared) (σ : St) (H : Hp) (x y : V) (v u : Value) (Q : VK), Inv X pins σ H s → RelV x v → RelV y u → t x y H Q →
   wpAny (model X.prog X.w) X.A (inplaceOp op v u) (EP X pins σ Q) X.xe s
section
variable {X : Cx} {pos : Pos}
def gName (i : Nat) : TG := fun v σ H Q => Q (σ.set i (some v)) H
theorem pg_name {i : Nat} {x : Str} (hN : X.N.Nodup) (hi : X.N[i]? = some x) (hx : Loc X.env.scope x) (hf : X.fn x = true ∨ X.env.scope.names.lookup x = some .local := by first | exact .inl rfl | exact .inr rfl | assumption) : PG X (.Name x pos) (gName i) := by
 intro pins s σ H v u Q I r h
 exact wpAny_assign_Name (store_ok I hN hi hx r (fun s' I' => ⟨_, H, I', h⟩) hf)
def gNil : TGs := fun vs σ H Q => vs = [] ∧ Q σ H
def gCons (t : TG) (u : TGs) : TGs := fun vs σ H Q => ∃ v r, vs = v :: r ∧ t v σ H fun σ' H' => u r σ' H' Q
theorem pgs_nil : PGs X [] gNil := by
 intro pins s σ H vs us Q I r h
 obtain ⟨e, h⟩ := h
 subst e
 cases r
 exact assignInOrder_nil ⟨σ, H, I, h⟩
theorem pgs_cons {e : Expr} {es : List Expr} {t : TG} {u : TGs} (h1 : PG X e t) (h2 : PGs X es u)
   (hs : (assignEach (e :: es) X.env).map (·.2) = assign e X.env :: (assignEach es X.env).map (·.2) := by rfl) : PGs X (e :: es) (gCons t u) := by
 intro pins s σ H vs us Q I r h
 obtain ⟨v, vr, e1, h⟩ := h
 subst e1
 cases r with
 | cons r rr =>
   rw [hs]
   refine assignInOrder_cons (thn (h1 pins s σ H _ _ _ I r h) fun _ s1 ⟨σ1, H1, I1, q1⟩ => ?_)
   exact h2 pins s1 σ1 H1 _ _ Q I1 rr q1
def gTup (K : PySem.W.Frag) (n : Nat) (t : TGs) : TG := fun v σ H Q => ∃ a xs, v = .ref a ∧ SqT K H a xs ∧ xs.length = n ∧ t xs σ H Q
theorem pg_tup {es : List Expr} {k : Nat} {t : TGs} {n : Nat} (hc : X.calm = true) (h : PGs X es t)
   (hn : (assignEach es X.env).length = n := by rfl) (hst : (assignEach es X.env).findIdx? (·.1) = none := by rfl) : PG X (.Tuple es k pos) (gTup X.K n t) := by
 intro pins s σ H v u Q I r hw
 obtain ⟨a, xs, e1, hq, hl, hw⟩ := hw
 subst e1
 cases r
 obtain ⟨its, rv, ht, hz⟩ := I.tuple hq
 refine assign_Tuple_tuple (I.ok.hd hc) ht (by simp [hn, ← hl, rv.length]) hst fun h' hx => ?_
 have I1 : Inv X pins σ H { s with heap := h' } := I.kept (t' := s.toks) fun b o e => hx b o (Nat.ne_of_lt (Heap.lt_size e)) e
 exact h pins _ σ H xs _ Q I1 (by simpa using rv) hw
def gSub (to ti : TE) (t : TSet) : TG := fun v σ H Q => to σ H fun o H1 => ti σ H1 fun i H2 => t o i v H2 fun H3 => Q σ H3
theorem pg_sub {o i : Expr} {to ti : TE} {t : TSet} (ho : PE X o to) (hi : PE X i ti) (hs : PSet X t)
   (ha : ∀ v, assign (.Subscript o i pos) X.env v = (do
     let ov ← holding [v] (eval o X.env)
     let iv ← holding [v, ov] (eval i X.env)
     standAt pos
     holding [v, ov, iv] (setItem ov iv v)
     release [v, ov, iv] []) := by intro _; rfl) : PG X (.Subscript o i pos) (gSub to ti t) := by
 intro pins s σ H v u Q I r h
 rw [ha]
 refine wpAny_bind (wpAny_holding (thn (ho pins s σ H _ I h) fun ov s1 ⟨x, H1, I1, r1, q1⟩ => ?_))
 refine wpAny_bind (wpAny_holding (thn (hi pins s1 σ H1 _ I1 q1) fun iv s2 ⟨y, H2, I2, r2, q2⟩ => ?_))
 refine wpAny_bind (wpAny_standAt (wpAny_bind (wpAny_holding (thn (hs pins s2 σ H2 x y v ov iv u _ I2 r1 r2 r q2) fun _ s3 ⟨H3, I3, q3⟩ => ?_))))
 exact wpAny_release ⟨σ, H3, I3, q3⟩
def tAsg (te : TE) (g : TG) : TS := fun D σ H => te σ H fun x H1 => g x σ H1 D.nx
theorem ps_asg {tg e : Expr} {te : TE} {g : TG} (he : PE X e te) (hg : PG X tg g) (hs : swapsWithSole [tg] e pos.line X.env = pure false := by rfl) (hw : swappedStores [tg] e X.env = pure none := by rfl)
   (h1 : (assignEach [tg] X.env).map (·.2) = [assign tg X.env] := by rfl) : PS X (.Assign [tg] e pos) (tAsg te g) := by
 intro pins s σ H D I h
 refine wpAny_Assign_stores (thn (he pins s σ H _ I h) fun v s1 ⟨x, H1, I1, r1, q1⟩ => ?_) hs hw
 rw [h1]
 exact thn (hg pins s1 σ H1 x v _ I1 r1 q1) fun _ s2 q => q
theorem ps_set {i : Nat} {x : Str} {e : Expr} {te : TE} {pos' : Pos} (hN : X.N.Nodup) (hi : X.N[i]? = some x) (hx : Loc X.env.scope x) (he : PE X e te) (hs : swapsWith e (some (.Name x pos')) pos.line X.env = pure false := by rfl) (hf : X.fn x = true ∨ X.env.scope.names.lookup x = some .local := by first | exact .inl rfl | exact .inr rfl | assumption) :
   PS X (.Assign [.Name x pos'] e pos) (tAsg te (gName i)) := by
 intro pins s σ H D I h
 refine wpAny_Assign_Name (thn (he pins s σ H _ I h) fun v s1 ⟨y, H1, I1, r1, q1⟩ => ?_) hs
 exact store_ok I1 hN hi hx r1 (fun s2 I2 => ⟨_, H1, I2, q1⟩) hf
def tAug (i : Nat) (te : TE) (ti : TIp) : TS := fun D σ H => ∃ x, σ[i]? = some (some x) ∧ te σ H fun y H1 => ti x y H1 fun z H2 => D.nx (σ.set i (some z)) H2
theorem ps_aug {i : Nat} {x : Str} {e : Expr} {te : TE} {op : Operator} {ti : TIp} {pos' : Pos} (hN : X.N.Nodup) (hi : X.N[i]? = some x) (hx : Loc X.env.scope x) (he : PE X e te) (ho : PIp X op ti) (hf : X.fn x = true ∨ X.env.scope.names.lookup x = some .local := by first | exact .inl rfl | exact .inr rfl | assumption) :
   PS X (.AugAssign (.Name x pos') op e pos) (tAug i te ti) := by
 intro pins s σ H D I h
 obtain ⟨v, e1, h⟩ := h
 obtain ⟨m, hn, hl⟩ := I.loc
 have vis : Vis X.env.scope x := by rcases hx with k | k; exact .inl k; exact .inr (.inl k)
 obtain ⟨u, r, l⟩ := hl i x v hi e1 vis
 refine wpAny_AugAssign_Name ?_
 have go : wpAny (model X.prog X.w) X.A (eval e X.env) (fun w s₂ => wpAny (model X.prog X.w) X.A (inplaceOp op u w) (fun r s₃ => wpAny (model X.prog X.w) X.A (storeName X.env x r) (fun _ => SP X pins D .next) X.xe s₃) X.xe s₂) X.xe s := by
   refine thn (he pins s σ H _ I h) fun w s1 ⟨y, H1, I1, r1, q1⟩ => ?_
   refine thn (ho pins s1 σ H1 v y u w _ I1 r r1 q1) fun z s2 ⟨zv, H2, I2, r2, q2⟩ => ?_
   exact store_ok I2 hN hi hx r2 (fun s3 I3 => ⟨_, H2, I3, q2⟩) hf
 rcases l with ⟨hk, hm⟩ | ⟨hk, c, hc, hcell⟩
 · exact wpAny_loadName_local I.ok.kind hk hn hm go
 · rcases hk with hk | hk
   · exact wpAny_loadName_cell I.ok.kind hk hc hcell go
   · rcases hx with k | k
     · have : X.env.scope.names.lookup x = some .free := hk
       rw [k] at this; cases this
     · have : X.env.scope.names.lookup x = some .free := hk
       rw [k] at this; cases this
def tAugS (to ti te : TE) (tget : V → V → Hp → VK → Prop) (tip : TIp) (tset : TSet) : TS := fun D σ H => to σ H fun o H1 => ti σ H1 fun i H2 => tget o i H2 fun x H3 => te σ H3 fun y H4 => tip x y H4 fun z H5 => tset o i z H5 fun H6 => D.nx σ H6
def PGet (X : Cx) (t : V → V → Hp → VK → Prop) : Prop :=
 ∀ (pins : List (Addr × Obj)) (s : Shared) (σ : St) (H : Hp) (o i : V) (ov iv : Value) (Q : VK), Inv X pins σ H s → RelV o ov → RelV i iv → t o i H Q →
   wpAny (model X.prog X.w) X.A (getItem ov iv) (EP X pins σ Q) X.xe s
theorem ps_augS {o i e : Expr} {to ti te : TE} {tget : V → V → Hp → VK → Prop} {tip : TIp} {tset : TSet} {op : Operator} {tpos : Pos} (ho : PE X o to) (hi : PE X i ti) (hg : PGet X tget) (he : PE X e te) (hp : PIp X op tip) (hs : PSet X tset)
   (ha : ∀ ov iv new, augStore i ov iv new = (do holding [new, ov, iv] (setItem ov iv new); release [new, ov, iv] []; pure .next) := by intros; rfl) : PS X (.AugAssign (.Subscript o i tpos) op e pos) (tAugS to ti te tget tip tset) := by
 intro pins s σ H D I h
 refine wpAny_AugAssign_SubscriptAny (thn (ho pins s σ H _ I h) fun ov s1 ⟨x1, H1, I1, r1, q1⟩ => ?_) ha
 refine thn (hi pins s1 σ H1 _ I1 q1) fun iv s2 ⟨x2, H2, I2, r2, q2⟩ => ?_
 refine thn (hg pins s2 σ H2 x1 x2 ov iv _ I2 r1 r2 q2) fun old s3 ⟨x3, H3, I3, r3, q3⟩ => ?_
 refine thn (he pins s3 σ H3 _ I3 q3) fun v s4 ⟨x4, H4, I4, r4, q4⟩ => ?_
 refine thn (hp pins s4 σ H4 x3 x4 old v _ I4 r3 r4 q4) fun new s5 ⟨x5, H5, I5, r5, q5⟩ => ?_
 exact thn (hs pins s5 σ H5 x1 x2 x5 ov iv new _ I5 r1 r2 r5 q5) fun _ s6 ⟨H6, I6, q6⟩ => ⟨σ, H6, I6, q6⟩
def ipI (f : Int → Int → Int) : TIp := fun x y H Q => ∃ i j, x = .int i ∧ y = .int j ∧ Q (.int (f i j)) H
theorem ip_add : PIp X .Add (ipI fun i j => i + j) := by
 intro pins s σ H x y v u Q I r1 r2 h
 obtain ⟨i, j, e1, e2, q⟩ := h
 subst e1; subst e2
 obtain ⟨t, rfl⟩ := r1
 obtain ⟨t', rfl⟩ := r2
 exact iadd_int ⟨.int _, H, I.tok _, ⟨_, rfl⟩, q⟩
end
section
variable {X : Cx} {pos : Pos}
def tWhile (c : TT) (tb : TS) : TS := fun D σ H => ∃ W : Nat → St → Hp → Prop, (∃ m, W m σ H) ∧ ∀ m σ H, W m σ H →
 c σ H fun b H1 => if b = true then ∃ N : St → Hp → Prop, (∀ σ' H', N σ' H' → ∃ m', m' < m ∧ W m' σ' H') ∧ tb { D with nx := N, ct := N, bk := D.nx } σ H1 else D.nx σ H1
theorem ps_while {c : Expr} {body : List Stmt} {tc : TT} {tb : TS} (hp : PassesOwn (model X.prog X.w) X.A X.env X.xe) (hc : PT X c tc) (hb : PSs X body tb) : PS X (.While c body [] pos) (tWhile tc tb) := by
 intro pins s σ H D I h
 obtain ⟨W, ⟨m0, w0⟩, turn⟩ := h
 refine wpAny_While (codeAny_whileLoop (fun n s' => ∃ σ' H', Inv X pins σ' H' s' ∧ W n σ' H') ?_ m0 ⟨σ, H, I, w0⟩)
 rintro n s1 ⟨σ1, H1, I1, w1⟩
 refine wpAny_passesOwn hp (thn (hc pins s1 σ1 H1 _ I1 (turn n σ1 H1 w1)) fun b s2 ⟨H2, I2, q2⟩ => ?_)
 cases b with
 | true =>
   obtain ⟨N, hN, q2⟩ := q2
   rw [if_pos rfl]
   refine wpAny_passesOwn hp (thn (hb pins s2 σ1 H2 _ I2 q2) fun f s3 q3 => ?_)
   cases f with
   | next =>
     obtain ⟨σ3, H3, I3, n3⟩ := q3
     obtain ⟨m', hm, w3⟩ := hN σ3 H3 n3
     exact ⟨m', hm, σ3, H3, I3, w3⟩
   | cont =>
     obtain ⟨σ3, H3, I3, n3⟩ := q3
     obtain ⟨m', hm, w3⟩ := hN σ3 H3 n3
     exact ⟨m', hm, σ3, H3, I3, w3⟩
   | brk => exact q3
   | ret v => exact q3
 | false =>
   rw [if_neg Bool.false_ne_true]
   exact wpAny_execs_nil ⟨σ1, H2, I2, q2⟩
end
structure It where
 go : Nat → Hp → Prop
 yld : Nat → Hp → V → Hp → Prop
 stop : Nat → Hp → Prop
def FpOk (X : Cx) (pins : List (Addr × Obj)) (H : Hp) (b : Addr) : Prop :=
 H b = none ∧ b ≠ X.env.locals ∧ b ∉ X.fs ∧ (b ∈ X.ex ∨ X.s_0.heap.objs.size ≤ b) ∧ (∀ x c, X.env.cells.lookup x = some c → c ≠ b) ∧ ∀ p ∈ X.pn ++ pins, p.1 ≠ b
theorem Inv.fpOk {X : Cx} {pins : List (Addr × Obj)} {σ : St} {H H' : Hp} {s : Shared} {b : Addr} (I : Inv X pins σ H s) (hb : s.heap.objs.size ≤ b) (hn : H' b = none) : FpOk X pins H' b := by
 refine ⟨hn, Nat.ne_of_gt (Nat.lt_of_lt_of_le I.lt hb), I.nofs hb, .inr (Nat.le_trans I.sz hb), fun x c e z => ?_, fun p hp z => ?_⟩
 · obtain ⟨v, q⟩ := I.cell x c e
   exact absurd (Nat.lt_of_lt_of_le q.lt (by rw [z]; exact hb)) (Nat.lt_irrefl _)
 · exact absurd (Nat.lt_of_lt_of_le (Heap.lt_size (I.pin p hp).1) (by rw [z]; exact hb)) (Nat.lt_irrefl _)
structure Turn (P : Program) (w : World) (K : PySem.W.Frag) (tg : Expr) (J : It) (fp : List Addr) (it : Addr) (tn : Nat → Heap → Prop) : Prop where
 mem : it ∈ fp
 obj : ∀ i h, tn i h → ∀ b ∈ fp, ∃ o, h.get? b = some o ∧ ∀ v, o.data ≠ .cell v
 keep : ∀ i h h', tn i h → (∀ b ∈ fp, ∀ o, h.get? b = some o → h'.get? b = some o) → tn i h'
 item : ∀ (X : Cx), X.prog = P → X.w = w → X.K = K → X.calm = true → ∀ (i : Nat) (pins : List (Addr × Obj)) (s : Shared) (σ : St) (H : Hp) (E : Value → Shared → Prop), Inv X pins σ H s → (∀ b ∈ fp, FpOk X pins H b) → tn i s.heap → J.go i H →
   wpAny (model P w) X.A (pyNext (.ref it)) (fun r s1 => ∃ u, r = some u ∧
     wpAny (model P w) X.A (letOwnedTupleGo tg (.ref it) u) (fun _ s2 => ∃ x H', Inv X pins σ H' s2 ∧ RelV x u ∧ J.yld i H x H' ∧ tn (i + 1) s2.heap ∧ ∀ b ∈ fp, H' b = none) E s1) E s
 done : ∀ (X : Cx), X.prog = P → X.w = w → X.K = K → X.calm = true → ∀ (i : Nat) (pins : List (Addr × Obj)) (s : Shared) (σ : St) (H : Hp) (E : Value → Shared → Prop), Inv X pins σ H s → (∀ b ∈ fp, FpOk X pins H b) → tn i s.heap → J.stop i H →
   wpAny (model P w) X.A (pyNext (.ref it)) (fun r s1 => r = none ∧ Inv X pins σ H s1) E s
 self : ∀ (A : Around) (i : Nat) (s : Shared) (Q : Value → Shared → Prop) (E : Value → Shared → Prop), tn i s.heap → Q (.ref it) s → wpAny (model P w) A (pyIter (.ref it)) Q E s
abbrev TI := St → Hp → (It → Hp → Prop) → Prop
def PIE (X : Cx) (pins : List (Addr × Obj)) (σ : St) (tg : Expr) (R : It → Hp → Prop) (itv : Value) (s2 : Shared) : Prop :=
 ∃ (it : Addr) (fp : List Addr) (tn : Nat → Heap → Prop) (J : It) (H' : Hp), itv = .ref it ∧ Inv X pins σ H' s2 ∧ Turn X.prog X.w X.K tg J fp it tn ∧ tn 0 s2.heap ∧ (∀ b ∈ fp, FpOk X pins H' b) ∧ R J H'
def PI (X : Cx) (tg iter : Expr) (wi : TI) : Prop :=
 ∀ (pins : List (Addr × Obj)) (s : Shared) (σ : St) (H : Hp) (R : It → Hp → Prop), Inv X pins σ H s → wi σ H R →
   wpAny (model X.prog X.w) X.A (eval iter X.env) (fun v s1 => wpAny (model X.prog X.w) X.A (pyIter v) (PIE X pins σ tg R) X.xe s1) X.xe s
theorem go_of {M : Model} {A : Around} {E : Value → Shared → Prop} {s : Shared} {tg : Expr} {it : Addr} {u : Value} {o : Obj} {n : String} {vs : Array Value} {Q : Unit → Shared → Prop} (ho : s.heap.get? it = some o) (hc : o.cls = .type n) (hd : o.data = .fields vs)
   (hn : ["enumerate", "zip", "dict_itemiterator", "dict_reverseitemiterator", "odict_iterator", "itertools.zip_longest", "itertools.pairwise"].contains n = false) (hQ : Q () s) : wpAny M A (letOwnedTupleGo tg (.ref it) u) Q E s := by
 unfold letOwnedTupleGo
 cases tg <;> first
   | exact wpAny_pure hQ
   | (cases u <;> first
       | exact wpAny_pure hQ
       | (refine wpAny_bind (wpAny_load ho ?_)
          rw [hc, hd]
          show wpAny M A (if (["enumerate", "zip", "dict_itemiterator", "dict_reverseitemiterator", "odict_iterator", "itertools.zip_longest", "itertools.pairwise"].contains n && vs[0]? == some (rawInt _)) = true then _ else _) Q E s
          rw [if_neg (by intro h; rw [hn, Bool.false_and] at h; cases h)]
          exact wpAny_pure hQ))
def Itl (K : PySem.W.Frag) (a : Addr) : It :=
 ⟨fun i H => ∃ xs x, SqL K H a xs ∧ xs[i]? = some x, fun i H x H' => H' = H ∧ ∀ xs, SqL K H a xs → xs[i]? = some x, fun i H => ∃ xs, SqL K H a xs ∧ xs.length ≤ i⟩
def Itr (lo : Int) (n : Nat) : It := ⟨fun i _ => i < n, fun i H x H' => H' = H ∧ x = .int (lo + i), fun i _ => n ≤ i⟩
theorem turn_list {P : Program} {w : World} {K : PySem.W.Frag} {tg : Expr} (a it : Addr) : Turn P w K tg (Itl K a) [it] it (fun i h => h.IsListIter it a i) where
 mem := by simp
 obj := fun i h st b hb => by
   have e : b = it := by simpa using hb
   subst e
   obtain ⟨o, e, c, d⟩ := st
   exact ⟨o, e, fun v z => by rw [d] at z; cases z⟩
 keep := fun i h h' st k => st.at fun o e => k it (by simp) o e
 item := by
   intro X hP hw hK hc i pins s σ H E I hf st hg
   subst hP hw hK
   obtain ⟨xs, x, hq, hx⟩ := hg
   obtain ⟨its, rv, p, hz⟩ := I.list hq
   obtain ⟨u, hu, ru⟩ := rv.get hx
   obtain ⟨f0, f1, f2, f3, f4, f5⟩ := hf it (by simp)
   refine wpAny_pyNext_list_item st p.isList (x := u) (by simpa using hu) fun h' st' sb => ?_
   have I1 : Inv X pins σ H { s with heap := h' } := I.turned (t' := s.toks) (fun b o hb e => (sb.2 b hb).trans e) f0 f1 f3 f4 f5
   obtain ⟨o, e, c, d⟩ := id st'
   exact ⟨u, rfl, go_of (s := { s with heap := h' }) e c d (by decide) ⟨x, H, I1, ru, ⟨rfl, fun ys hy => by rw [I.list_inj hy hq]; exact hx⟩, st', fun b hb => (hf b hb).1⟩⟩
 done := by
   intro X hP hw hK hc i pins s σ H E I hf st hg
   subst hP hw hK
   obtain ⟨xs, hq, hx⟩ := hg
   obtain ⟨its, rv, p, hz⟩ := I.list hq
   obtain ⟨f0, f1, f2, f3, f4, f5⟩ := hf it (by simp)
   have hl := rv.length
   exact wpAny_pyNext_list_end (I.ok.hd hc) st p.isList (by simp; omega) fun h' eb => ⟨rfl, I.turned (t' := s.toks) (fun b o hb e => eb b o hb e) f0 f1 f3 f4 f5⟩
 self := fun _ _ _ _ _ st h => wpAny_pyIter_listiter st h
theorem turn_range {P : Program} {w : World} {K : PySem.W.Frag} {tg : Expr} (it : Addr) (lo : Int) (n : Nat) : Turn P w K tg (Itr lo n) [it] it (fun i h => IsRangeIter h it (lo + (i : Nat) * 1) ((n : Int) - (i : Nat)) 1) where
 mem := by simp
 obj := fun i h st b hb => by
   have e : b = it := by simpa using hb
   subst e
   exact ⟨_, st, fun v z => by
     have z' : Data.fields _ = Data.cell v := z
     cases z'⟩
 keep := fun i h h' st k => k it (by simp) _ st
 item := by
   intro X hP hw hK hc i pins s σ H E I hf st hg
   subst hP hw hK
   obtain ⟨f0, f1, f2, f3, f4, f5⟩ := hf it (by simp)
   have W := Walks.range (prog := X.prog) (w := X.w) (I.ok.hd hc) it lo 1 n
   refine W.item i s _ _ hg st fun v h' tk hv st' kk => ?_
   obtain ⟨t, rfl⟩ := hv
   have I1 : Inv X pins σ H { s with heap := h', toks := tk } := I.turned (fun b o hb e => kk b o (by simpa using hb) e) f0 f1 f3 f4 f5
   refine ⟨_, rfl, go_of (s := { s with heap := h', toks := tk }) (n := "range_iterator") st' rfl rfl (by decide) ⟨.int (lo + i), H, I1, ⟨t, ?_⟩, ⟨rfl, rfl⟩, st', fun b hb => (hf b hb).1⟩⟩
   rw [Int.mul_one]
 done := by
   intro X hP hw hK hc i pins s σ H E I hf st hg
   subst hP hw hK
   obtain ⟨f0, f1, f2, f3, f4, f5⟩ := hf it (by simp)
   exact wpAny_pyNext_range_end (I.ok.hd hc) st (by have : n ≤ i := hg; omega) fun h' eb => ⟨rfl, I.turned (t' := s.toks) (fun b o hb e => eb b o hb e) f0 f1 f3 f4 f5⟩
 self := fun _ _ _ _ _ st h => wpAny_pyIter_rangeiter st h
end L2
namespace L2
open PySem PySem.Spec PyProof.Rows
section
variable {X : Cx} {tg : Expr}
def iList (K : PySem.W.Frag) (tl : TE) : TI := fun σ H R => tl σ H fun x H1 => ∃ a, x = .ref a ∧ (∃ xs, SqL K H1 a xs) ∧ R (Itl K a) H1
theorem pi_list {l : Expr} {tl : TE} (hl : PE X l tl) : PI X tg l (iList X.K tl) := by
 intro pins s σ H R I h
 refine thn (hl pins s σ H _ I h) fun v s1 ⟨x, H1, I1, r1, q1⟩ => ?_
 obtain ⟨a, e, ⟨xs, hq⟩, q⟩ := q1
 subst e
 cases r1
 obtain ⟨its, rv, p, hz⟩ := I1.list hq
 refine wpAny_pyIter_list p.isList ?_
 refine ⟨s1.heap.objs.size, [s1.heap.objs.size], _, _, H1, rfl, I1.kept (t' := s1.toks) fun b o e => Heap.get?_push_of_some _ e, turn_list a _, ⟨_, Heap.get?_push_size _ rfl, rfl, rfl⟩, fun b hb => ?_, q⟩
 have e : b = s1.heap.objs.size := by simpa using hb
 subst e
 exact I1.fpOk (Nat.le_refl _) (I1.hok.fresh (Nat.le_refl _))
theorem range_it {pins : List (Addr × Obj)} {σ : St} {H : Hp} {s : Shared} {R : It → Hp → Prop} {E : Value → Shared → Prop} {lo hi : Int} {t u v : Tok} {tk : Nat} (I : Inv X pins σ H s) (h1 : -(2 ^ 62) ≤ lo) (h2 : lo < 2 ^ 62) (h3 : -(2 ^ 62) ≤ hi) (h4 : hi < 2 ^ 62)
   (q : R (Itr lo (hi - lo).toNat) H) : wpAny (model X.prog X.w) X.A (pyIter (.ref s.heap.objs.size)) (PIE X pins σ tg R) E { s with heap := s.heap.push { cls := .type "range", data := .fields #[.int lo t, .int hi u, .int 1 v] }, toks := tk } := by
 refine wpAny_pyIter_range (IsRange.new ..) (small_one h1 h2 h3 h4) ?_
 have I1 : Inv X pins σ H { s with heap := s.heap.push { cls := .type "range", data := .fields #[.int lo t, .int hi u, .int 1 v] }, toks := tk } := I.kept fun b o e => Heap.get?_push_of_some _ e
 refine ⟨(s.heap.push { cls := .type "range", data := .fields #[.int lo t, .int hi u, .int 1 v] }).objs.size, [(s.heap.push { cls := .type "range", data := .fields #[.int lo t, .int hi u, .int 1 v] }).objs.size], _, _, H, rfl,
   I1.kept (t' := tk) fun b o e => Heap.get?_push_of_some _ e, turn_range _ lo (hi - lo).toNat, ?_, fun b hb => ?_, q⟩
 · have e1 : lo + ((0 : Nat) : Int) * 1 = lo := by simp
   have e2 : (((hi - lo).toNat : Nat) : Int) - ((0 : Nat) : Int) = Builtin.Range.rangeSize lo hi 1 := by rw [rangeSize_one]; split <;> omega
   show IsRangeIter _ _ (lo + ((0 : Nat) : Int) * 1) ((((hi - lo).toNat : Nat) : Int) - ((0 : Nat) : Int)) 1
   rw [e1, e2]
   exact Heap.get?_push_size _ rfl
 · have e : b = (s.heap.push { cls := .type "range", data := .fields #[.int lo t, .int hi u, .int 1 v] }).objs.size := by simpa using hb
   subst e
   exact I1.fpOk (Nat.le_refl _) (I1.hok.fresh (Nat.le_refl _))
def iRng2 (ta : TA) : TI := fun σ H R => ta σ H fun vs H1 => ∃ i j : Int, vs = [.int i, .int j] ∧ (-(2 ^ 62) ≤ i ∧ i < 2 ^ 62 ∧ -(2 ^ 62) ≤ j ∧ j < 2 ^ 62) ∧ R (Itr i (j - i).toNat) H1
theorem pi_range2 {a b : Expr} {ta : TA} {p pos : Pos} (hg : Gl X "range") (hm : X.mg "range" = none) (ha : PA X [a, b] ta) (hs : starEach [a, b] X.env = [(false, eval a X.env), (false, eval b X.env)] := by rfl) (hs2 : starEach [b] X.env = [(false, eval b X.env)] := by rfl) :
   PI X tg (.Call (.Name "range" p) [a, b] [] pos) (iRng2 ta) := by
 intro pins s σ H R I h
 refine Call_ (ld_blt I hg hm boot_range (PyProof.Rows.callWith_type1 (thn (ha pos pins s σ H _ I h) fun us s1 ⟨vs, H1, I1, r1, q1⟩ => ?_) (by rw [hs, hs2]) (by rw [hs2]; rfl)))
 obtain ⟨i, j, e, ⟨q1, q2, q3, q4⟩, q⟩ := q1
 subst e
 cases r1 with
 | cons r rr =>
   cases rr with
   | cons r' rr =>
     cases rr
     obtain ⟨t, rfl⟩ := r
     obtain ⟨t', rfl⟩ := r'
     exact call_range_2 (range_it I1 q1 q2 q3 q4 q)
def tFor (wi : TI) (g : TG) (tb : TS) : TS := fun D σ H => wi σ H fun J H1 => ∃ W : Nat → Nat → St → Hp → Prop, (∃ m, W 0 m σ H1) ∧ ∀ i m σ H, W i m σ H →
 (J.stop i H ∧ D.nx σ H) ∨ (J.go i H ∧ ∃ N : St → Hp → Prop, (∀ σ' H', N σ' H' → ∃ m', m' < m ∧ W (i + 1) m' σ' H') ∧ ∀ x H', J.yld i H x H' → g x σ H' fun σ2 H2 => tb { D with nx := N, ct := N, bk := D.nx } σ2 H2)
def pinsAt (fp : List Addr) (h : Heap) : List (Addr × Obj) := fp.filterMap fun b => (h.get? b).map fun o => (b, o)
theorem mem_pinsAt {fp : List Addr} {h : Heap} {b : Addr} {o : Obj} (hb : b ∈ fp) (e : h.get? b = some o) : (b, o) ∈ pinsAt fp h := List.mem_filterMap.mpr ⟨b, hb, by rw [e]; rfl⟩
theorem of_pinsAt {fp : List Addr} {h : Heap} {p : Addr × Obj} (hp : p ∈ pinsAt fp h) : p.1 ∈ fp ∧ h.get? p.1 = some p.2 := by
 obtain ⟨b, hb, e⟩ := List.mem_filterMap.mp hp
 cases q : h.get? b with
 | none => rw [q] at e; cases e
 | some o =>
   rw [q] at e
   have e' : (b, o) = p := Option.some.inj e
   subst e'
   exact ⟨hb, q⟩
theorem Inv.pinned {pins : List (Addr × Obj)} {σ : St} {H : Hp} {s : Shared} {fp : List Addr} (I : Inv X pins σ H s) (hf : ∀ b ∈ fp, FpOk X pins H b) (ho : ∀ b ∈ fp, ∃ o, s.heap.get? b = some o ∧ ∀ v, o.data ≠ .cell v) : Inv X (pins ++ pinsAt fp s.heap) σ H s :=
 I.pins_of fun p hp => (List.mem_append.mp hp).elim (fun z => I.pin p (List.mem_append_right _ z)) fun z => by
   obtain ⟨hb, e⟩ := of_pinsAt z
   obtain ⟨f0, f1, f2, _⟩ := hf p.1 hb
   obtain ⟨o, e', d⟩ := ho p.1 hb
   rw [e] at e'; cases e'
   exact ⟨e, f0, f1, f2, d⟩
theorem Inv.unpinned {pins pl : List (Addr × Obj)} {σ : St} {H : Hp} {s : Shared} (I : Inv X (pins ++ pl) σ H s) : Inv X pins σ H s := I.pins_of fun p hp => I.pin p (List.mem_append_right _ (List.mem_append_left _ hp))
theorem ps_for {iter : Expr} {body : List Stmt} {wi : TI} {g : TG} {tb : TS} {pos : Pos} (hp : PassesOwn (model X.prog X.w) X.A X.env X.xe) (hc : X.calm = true) (hi : PI X tg iter wi) (hg : PG X tg g) (hb : PSs X body tb)
   (hs : ∀ x, foldedSetIterable iter X.env x = pure x := by intro _; rfl) : PS X (.For tg iter body [] pos) (tFor wi g tb) := by
 intro pins s σ H D I h
 refine wpAny_For (thn (hi pins s σ H _ I h) fun v s1 h1 => thn h1 fun itv s2 h2 => ?_) hs
 obtain ⟨it, fp, tn, J, H2, e, I2, T, st2, f2, W, ⟨m0, w0⟩, turn⟩ := h2
 subst e
 have stat : ∀ {H' : Hp}, (∀ b ∈ fp, H' b = none) → ∀ b ∈ fp, FpOk X pins H' b := fun hn b hb => ⟨hn b hb, (f2 b hb).2⟩
 refine codeAny_forLoop_any (fun n s' => ∃ i σ' H', Inv X pins σ' H' s' ∧ tn i s'.heap ∧ (∀ b ∈ fp, H' b = none) ∧ W i n σ' H') ?_ m0 ⟨0, σ, H2, I2, st2, fun b hb => (f2 b hb).1, w0⟩
 rintro n s3 ⟨i, σ3, H3, I3, st3, fr3, w3⟩
 rcases turn i n σ3 H3 w3 with ⟨stop, qn⟩ | ⟨go, N, hN, step⟩
 · refine wpAny_passesOwn hp (thn (T.done X rfl rfl rfl hc i pins s3 σ3 H3 X.xe I3 (stat fr3) st3 stop) fun r s4 ⟨hr, I4⟩ => ?_)
   subst hr
   exact wpAny_execs_nil ⟨σ3, H3, I4, qn⟩
 · refine wpAny_passesOwn hp (thn (T.item X rfl rfl rfl hc i pins s3 σ3 H3 X.xe I3 (stat fr3) st3 go) fun r s4 ⟨u, hr, h4⟩ => ?_)
   subst hr
   refine wpAny_passesOwn hp (thn h4 fun _ s5 ⟨x, H5, I5, r5, y5, st5, fr5⟩ => ?_)
   have I5' := I5.pinned (stat fr5) (T.obj _ _ st5)
   refine wpAny_passesOwn hp (thn (hg _ s5 σ3 H5 x u _ I5' r5 (step x H5 y5)) fun _ s6 ⟨σ6, H6, I6, q6⟩ => ?_)
   refine wpAny_passesOwn hp (thn (hb _ s6 σ6 H6 _ I6 q6) fun f s7 q7 => ?_)
   have again : ∀ {σ7 : St} {H7 : Hp}, Inv X (pins ++ pinsAt fp s5.heap) σ7 H7 s7 → N σ7 H7 → ∃ m, m < n ∧ ∃ i σ' H', Inv X pins σ' H' s7 ∧ tn i s7.heap ∧ (∀ b ∈ fp, H' b = none) ∧ W i m σ' H' := fun {σ7 H7} I7 n7 => by
     obtain ⟨m', hm, w7⟩ := hN σ7 H7 n7
     refine ⟨m', hm, i + 1, σ7, H7, I7.unpinned, T.keep _ _ _ st5 fun b hb o e => (I7.pin (b, o) (List.mem_append_right _ (List.mem_append_right _ (mem_pinsAt hb e)))).1, fun b hb => ?_, w7⟩
     obtain ⟨o, e, d⟩ := T.obj _ _ st5 b hb
     exact (I7.pin (b, o) (List.mem_append_right _ (List.mem_append_right _ (mem_pinsAt hb e)))).2.1
   cases f with
   | next => obtain ⟨σ7, H7, I7, n7⟩ := q7; exact again I7 n7
   | cont => obtain ⟨σ7, H7, I7, n7⟩ := q7; exact again I7 n7
   | brk => obtain ⟨σ7, H7, I7, q7⟩ := q7; exact ⟨σ7, H7, I7.unpinned, q7⟩
   | ret v => obtain ⟨x7, σ7, H7, I7, r7, q7⟩ := q7; exact ⟨x7, σ7, H7, I7.unpinned, r7, q7⟩
end
theorem for_list {K : PySem.W.Frag} {a : Addr} {xs : List V} {g : TG} {tb : TS} {D : Ends} {σ : St} {H : Hp} (Pv : Nat → St → Hp → Prop) (h0 : Pv 0 σ H) (hl : ∀ i σ H, i ≤ xs.length → Pv i σ H → SqL K H a xs)
   (hs : ∀ i x σ H, xs[i]? = some x → Pv i σ H → g x σ H fun σ2 H2 => tb { D with nx := Pv (i + 1), ct := Pv (i + 1), bk := D.nx } σ2 H2) (hd : ∀ σ H, Pv xs.length σ H → D.nx σ H) :
   ∃ W : Nat → Nat → St → Hp → Prop, (∃ m, W 0 m σ H) ∧ ∀ i m σ H, W i m σ H →
     ((Itl K a).stop i H ∧ D.nx σ H) ∨ ((Itl K a).go i H ∧ ∃ N : St → Hp → Prop, (∀ σ' H', N σ' H' → ∃ m', m' < m ∧ W (i + 1) m' σ' H') ∧ ∀ x H', (Itl K a).yld i H x H' → g x σ H' fun σ2 H2 => tb { D with nx := N, ct := N, bk := D.nx } σ2 H2) := by
 refine ⟨fun i m σ H => m = xs.length - i ∧ i ≤ xs.length ∧ Pv i σ H, ⟨xs.length, by simp, Nat.zero_le _, h0⟩, ?_⟩
 rintro i m σ H ⟨rfl, hi, p⟩
 have q := hl i σ H hi p
 by_cases hlt : i < xs.length
 · refine .inr ⟨⟨xs, xs[i], q, by simp [hlt]⟩, Pv (i + 1), fun σ' H' p' => ⟨xs.length - (i + 1), by omega, rfl, hlt, p'⟩, fun x H' y => ?_⟩
   obtain ⟨e, y⟩ := y
   subst e
   exact hs i x σ _ (y xs q) p
 · have e : i = xs.length := by omega
   subst e
   exact .inl ⟨⟨xs, q, Nat.le_refl _⟩, hd σ H p⟩
theorem for_range {lo : Int} {n : Nat} {g : TG} {tb : TS} {D : Ends} {σ : St} {H : Hp} (Pv : Nat → St → Hp → Prop) (h0 : Pv 0 σ H)
   (hs : ∀ i σ H, i < n → Pv i σ H → g (.int (lo + i)) σ H fun σ2 H2 => tb { D with nx := Pv (i + 1), ct := Pv (i + 1), bk := D.nx } σ2 H2) (hd : ∀ σ H, Pv n σ H → D.nx σ H) :
   ∃ W : Nat → Nat → St → Hp → Prop, (∃ m, W 0 m σ H) ∧ ∀ i m σ H, W i m σ H →
     ((Itr lo n).stop i H ∧ D.nx σ H) ∨ ((Itr lo n).go i H ∧ ∃ N : St → Hp → Prop, (∀ σ' H', N σ' H' → ∃ m', m' < m ∧ W (i + 1) m' σ' H') ∧ ∀ x H', (Itr lo n).yld i H x H' → g x σ H' fun σ2 H2 => tb { D with nx := N, ct := N, bk := D.nx } σ2 H2) := by
 refine ⟨fun i m σ H => m = n - i ∧ i ≤ n ∧ Pv i σ H, ⟨n, by simp, Nat.zero_le _, h0⟩, ?_⟩
 rintro i m σ H ⟨rfl, hi, p⟩
 by_cases hlt : i < n
 · refine .inr ⟨hlt, Pv (i + 1), fun σ' H' p' => ⟨n - (i + 1), by omega, rfl, hlt, p'⟩, fun x H' y => ?_⟩
   obtain ⟨e, y⟩ := y
   subst e y
   exact hs i σ _ hlt p
 · have e : i = n := by omega
   subst e
   exact .inl ⟨Nat.le_refl _, hd σ H p⟩
end L2
namespace L2
open PySem PySem.Spec PyProof.Rows
abbrev R2 := V → V → Hp → VK → Prop
def OpR (X : Cx) (f : Value → Value → Sem Value) (r : R2) : Prop :=
 ∀ (pins : List (Addr × Obj)) (s : Shared) (σ : St) (H : Hp) (x y : V) (v u : Value) (Q : VK), Inv X pins σ H s → RelV x v → RelV y u → r x y H Q →
   wpAny (model X.prog X.w) X.A (f v u) (EP X pins σ Q) X.xe s
def UnR (X : Cx) (f : Value → Sem Value) (r : V → Hp → VK → Prop) : Prop :=
 ∀ (pins : List (Addr × Obj)) (s : Shared) (σ : St) (H : Hp) (x : V) (v : Value) (Q : VK), Inv X pins σ H s → RelV x v → r x H Q →
   wpAny (model X.prog X.w) X.A (f v) (EP X pins σ Q) X.xe s
def CallR (X : Cx) (f : Value) (r : List V → Hp → VK → Prop) : Prop :=
 ∀ (pins : List (Addr × Obj)) (s : Shared) (σ : St) (H : Hp) (xs : List V) (us : List Value) (Q : VK), Inv X pins σ H s → Vals xs us → r xs H Q →
   wpAny (model X.prog X.w) X.A (call f us) (EP X pins σ Q) X.xe s
def TruR (X : Cx) (r : V → Hp → (Bool → Hp → Prop) → Prop) : Prop :=
 ∀ (pins : List (Addr × Obj)) (s : Shared) (σ : St) (H : Hp) (x : V) (v : Value) (Q : Bool → Hp → Prop), Inv X pins σ H s → RelV x v → r x H Q →
   wpAny (model X.prog X.w) X.A (truthy v) (TP X pins σ Q) X.xe s
def tOp (r : R2) (ta tb : TE) : TE := fun σ H Q => ta σ H fun x H1 => tb σ H1 fun y H2 => r x y H2 Q
def tUn (r : V → Hp → VK → Prop) (ta : TE) : TE := fun σ H Q => ta σ H fun x H1 => r x H1 Q
def rI (C : Int → Int → Prop) (g : Int → Int → V) : R2 := fun x y H Q => ∃ i j, x = .int i ∧ y = .int j ∧ C i j ∧ Q (g i j) H
def rI0 (g : Int → Int → V) : R2 := fun x y H Q => ∃ i j, x = .int i ∧ y = .int j ∧ Q (g i j) H
def rU (g : Int → V) : V → Hp → VK → Prop := fun x H Q => ∃ i, x = .int i ∧ Q (g i) H
section
variable {X : Cx} {a b c : Expr} {ta tb tc : TE} {pos : Pos}
theorem binT (ha : PE X a ta) (hb : PE X b tb) {pins : List (Addr × Obj)} {s : Shared} {σ : St} {H : Hp} {R : V → V → Hp → Prop} (I : Inv X pins σ H s)
   (h : ta σ H fun x H1 => tb σ H1 fun y H2 => R x y H2) {Q : Value → Shared → Prop} {f : Value → Value → Sem Value}
   (hf : ∀ v u s2 x y H2, Inv X pins σ H2 s2 → RelV x v → RelV y u → R x y H2 → wpAny (model X.prog X.w) X.A (f v u) Q X.xe s2) :
   wpAny (model X.prog X.w) X.A (eval a X.env) (fun v s₁ => wpAny (model X.prog X.w) X.A (eval b X.env) (fun u s₂ => wpAny (model X.prog X.w) X.A (f v u) Q X.xe s₂) X.xe s₁) X.xe s := by
 refine thn (ha pins s σ H _ I h) fun v s1 ⟨x, H1, I1, r1, q1⟩ => ?_
 refine thn (hb pins s1 σ H1 _ I1 q1) fun u s2 ⟨y, H2, I2, r2, q2⟩ => ?_
 exact hf v u s2 x y H2 I2 r1 r2 q2
theorem pe_op {op : Operator} {r : R2} (ho : OpR X (binaryOp op) r) (ha : PE X a ta) (hb : PE X b tb) : PE X (.BinOp a op b pos) (tOp r ta tb) := by
 intro pins s σ H Q I h
 exact wpAny_BinOp (binT ha hb I h fun v u s2 x y H2 I2 rx ry q => ho pins s2 σ H2 x y v u Q I2 rx ry q)
theorem pe_un {op : UnaryOp} {r : V → Hp → VK → Prop} (ho : UnR X (unaryOp op) r) (ha : PE X a ta) : PE X (.UnaryOp op a pos) (tUn r ta) := by
 intro pins s σ H Q I h
 exact UnaryOp_ (thn (ha pins s σ H _ I h) fun v s1 ⟨x, H1, I1, r1, q1⟩ => ho pins s1 σ H1 x v Q I1 r1 q1)
theorem opI {f : Value → Value → Sem Value} {C : Int → Int → Prop} {g : Int → Int → Int}
   (rule : ∀ (i j : Int) (t u : Tok) (s : Shared) (Q : Value → Shared → Prop) (E : Value → Shared → Prop), C i j → Q (.int (g i j) s.toks) { s with toks := s.toks + 1 } → wpAny (model X.prog X.w) X.A (f (.int i t) (.int j u)) Q E s) :
   OpR X f (rI C fun i j => .int (g i j)) := by
 intro pins s σ H x y v u Q I rx ry h
 obtain ⟨i, j, rfl, rfl, hc, q⟩ := h
 obtain ⟨t, rfl⟩ := rx
 obtain ⟨t', rfl⟩ := ry
 exact rule i j t t' s _ _ hc ⟨.int (g i j), H, I.tok _, ⟨_, rfl⟩, q⟩
theorem opI0 {f : Value → Value → Sem Value} {g : Int → Int → Int}
   (rule : ∀ (i j : Int) (t u : Tok) (s : Shared) (Q : Value → Shared → Prop) (E : Value → Shared → Prop), Q (.int (g i j) s.toks) { s with toks := s.toks + 1 } → wpAny (model X.prog X.w) X.A (f (.int i t) (.int j u)) Q E s) :
   OpR X f (rI0 fun i j => .int (g i j)) := by
 intro pins s σ H x y v u Q I rx ry h
 obtain ⟨i, j, rfl, rfl, q⟩ := h
 obtain ⟨t, rfl⟩ := rx
 obtain ⟨t', rfl⟩ := ry
 exact rule i j t t' s _ _ ⟨.int (g i j), H, I.tok _, ⟨_, rfl⟩, q⟩
theorem opB0 {f : Value → Value → Sem Value} {g : Int → Int → Bool}
   (rule : ∀ (i j : Int) (t u : Tok) (s : Shared) (Q : Value → Shared → Prop) (E : Value → Shared → Prop), Q (.bool (g i j)) s → wpAny (model X.prog X.w) X.A (f (.int i t) (.int j u)) Q E s) :
   OpR X f (rI0 fun i j => .bl (g i j)) := by
 intro pins s σ H x y v u Q I rx ry h
 obtain ⟨i, j, rfl, rfl, q⟩ := h
 obtain ⟨t, rfl⟩ := rx
 obtain ⟨t', rfl⟩ := ry
 exact rule i j t t' s _ _ ⟨.bl (g i j), H, I, rfl, q⟩
def CDiv (i j : Int) : Prop := 0 < j ∧ j < 1073741824
def CMul (i j : Int) : Prop := (-(2 ^ 64) < i ∧ i < 2 ^ 64) ∨ (-(2 ^ 64) < j ∧ j < 2 ^ 64)
theorem CMul.ok {i j : Int} (h : CMul i j) : IntMulOk i j := by
 rcases h with ⟨h1, h2⟩ | ⟨h1, h2⟩
 · exact .of_left (intBits_le_64 h1 h2)
 · exact .of_right (intBits_le_64 h1 h2)
theorem op_add : OpR X (binaryOp .Add) (rI0 fun i j => .int (i + j)) := opI0 fun _ _ _ _ _ _ _ q => add_int q
theorem op_sub : OpR X (binaryOp .Sub) (rI0 fun i j => .int (i - j)) := opI0 fun _ _ _ _ _ _ _ q => sub_int q
theorem op_mul : OpR X (binaryOp .Mult) (rI CMul fun i j => .int (i * j)) := opI fun _ _ _ _ _ _ _ hc q => mul_int q hc.ok
theorem op_fdiv : OpR X (binaryOp .FloorDiv) (rI CDiv fun i j => .int (i / j)) := opI fun i j _ _ _ _ _ hc q => by
 have h1 : (0 : Int) < j := hc.1
 have h2 : j < 1073741824 := hc.2
 exact floordiv_int (by omega) (by rw [Int.fdiv_eq_ediv_of_nonneg i (by omega)]; exact q) (.inl (PyProof.noPylong_small (by omega)))
theorem op_mod : OpR X (binaryOp .Mod) (rI (fun _ j => 0 < j) fun i j => .int (i % j)) := opI fun i j _ _ _ _ _ hc q => by
 have h1 : (0 : Int) < j := hc
 exact mod_int' (by omega) (by rw [Int.fmod_eq_emod_of_nonneg i (by omega)]; exact q)
theorem unI {f : Value → Sem Value} {g : Int → Int}
   (rule : ∀ (i : Int) (t : Tok) (s : Shared) (Q : Value → Shared → Prop) (E : Value → Shared → Prop), Q (.int (g i) s.toks) { s with toks := s.toks + 1 } → wpAny (model X.prog X.w) X.A (f (.int i t)) Q E s) :
   UnR X f (rU fun i => .int (g i)) := by
 intro pins s σ H x v Q I rx h
 obtain ⟨i, rfl, q⟩ := h
 obtain ⟨t, rfl⟩ := rx
 exact rule i t s _ _ ⟨.int (g i), H, I.tok _, ⟨_, rfl⟩, q⟩
theorem un_neg : UnR X (unaryOp .USub) (rU fun i => .int (-i)) := unI fun _ _ _ _ _ q => neg_int q
end
def scal : V → V → Bool
 | .non, .non => true | .non, .int _ => true | .int _, .non => true | .non, .bl _ => true | .bl _, .non => true | .non, .str _ => true | .str _, .non => true
 | .int _, .int _ => true | .bl _, .bl _ => true | .str _, .str _ => true | .byt _, .byt _ => true
 | .int _, .str _ => true | .str _, .int _ => true | .bl _, .str _ => true | .str _, .bl _ => true
 | _, _ => false
def rEq : R2 := fun x y H Q => scal x y = true ∧ Q (.bl (decide (x = y))) H
def rNe : R2 := fun x y H Q => scal x y = true ∧ Q (.bl (!decide (x = y))) H
theorem dec_int {i j : Int} : decide (V.int i = V.int j) = (i == j) := by
 rw [Bool.eq_iff_iff]
 simp
theorem dec_bl {i j : Bool} : decide (V.bl i = V.bl j) = (i == j) := by
 rw [Bool.eq_iff_iff]
 simp
theorem dec_str {i j : Str} : decide (V.str i = V.str j) = (i == j) := by
 rw [Bool.eq_iff_iff]
 simp
theorem dec_byt {i j : Array UInt8} : decide (V.byt i = V.byt j) = (i.toList == j.toList) := by
 rw [Bool.eq_iff_iff]
 cases i
 cases j
 simp
section
variable {X : Cx} {a b c : Expr} {ta tb tc : TE} {pos : Pos}
theorem fin_bl {pins : List (Addr × Obj)} {σ : St} {H : Hp} {s : Shared} {Q : VK} {k k' : Bool} (I : Inv X pins σ H s) (q : Q (.bl k) H) (e : k = k') : EP X pins σ Q (.bool k') s := by
 subst e
 exact ⟨.bl k, H, I, rfl, q⟩
theorem op_eq : OpR X (compareOp .Eq) rEq := by
 intro pins s σ H x y v u Q I rx ry h
 obtain ⟨hs, q⟩ := h
 cases x with
 | non =>
   cases rx
   cases y with
   | non => cases ry; exact PySem.EqNone.eq_none_none (fin_bl I q (by simp))
   | bl j => cases ry; exact PySem.EqNone.eq_none_bool (fin_bl I q (by simp))
   | int j => obtain ⟨t', rfl⟩ := ry; exact PySem.EqNone.eq_none_int (fin_bl I q (by simp))
   | str j => obtain ⟨t', rfl⟩ := ry; exact PySem.EqNone.eq_none_str (fin_bl I q (by simp))
   | _ => exact absurd (show false = true from hs) Bool.false_ne_true
 | bl i =>
   cases rx
   cases y with
   | non => cases ry; exact PySem.EqNone.eq_bool_none (fin_bl I q (by simp))
   | bl j => cases ry; exact eq_bool (fin_bl I q dec_bl)
   | str j => obtain ⟨t', rfl⟩ := ry; exact PySem.EqMixed.eq_bool_str (fin_bl I q (by simp))
   | _ => exact absurd (show false = true from hs) Bool.false_ne_true
 | int i =>
   obtain ⟨t, rfl⟩ := rx
   cases y with
   | non => cases ry; exact PySem.EqNone.eq_int_none (fin_bl I q (by simp))
   | int j => obtain ⟨t', rfl⟩ := ry; exact eq_int (fin_bl I q dec_int)
   | str j => obtain ⟨t', rfl⟩ := ry; exact PySem.EqMixed.eq_int_str (fin_bl I q (by simp))
   | _ => exact absurd (show false = true from hs) Bool.false_ne_true
 | str i =>
   obtain ⟨t, rfl⟩ := rx
   cases y with
   | non => cases ry; exact PySem.EqNone.eq_str_none (fin_bl I q (by simp))
   | bl j => cases ry; exact PySem.EqMixed.eq_str_bool (fin_bl I q (by simp))
   | int j => obtain ⟨t', rfl⟩ := ry; exact PySem.EqMixed.eq_str_int (fin_bl I q (by simp))
   | str j => obtain ⟨t', rfl⟩ := ry; exact eq_str (fin_bl I q dec_str)
   | _ => exact absurd (show false = true from hs) Bool.false_ne_true
 | byt i =>
   obtain ⟨t, rfl⟩ := rx
   cases y with
   | byt j => obtain ⟨t', rfl⟩ := ry; exact PySem.W.eq_bytes (fin_bl I q dec_byt)
   | _ => exact absurd (show false = true from hs) Bool.false_ne_true
 | _ => cases y <;> exact absurd (show false = true from hs) Bool.false_ne_true
theorem op_ne : OpR X (compareOp .NotEq) rNe := by
 intro pins s σ H x y v u Q I rx ry h
 obtain ⟨hs, q⟩ := h
 cases x with
 | non =>
   cases rx
   cases y with
   | non => cases ry; exact PySem.EqNone.ne_none_none (fin_bl I q (by simp))
   | bl j => cases ry; exact PySem.EqNone.ne_none_bool (fin_bl I q (by simp))
   | int j => obtain ⟨t', rfl⟩ := ry; exact PySem.EqNone.ne_none_int (fin_bl I q (by simp))
   | str j => obtain ⟨t', rfl⟩ := ry; exact PySem.EqNone.ne_none_str (fin_bl I q (by simp))
   | _ => exact absurd (show false = true from hs) Bool.false_ne_true
 | bl i =>
   cases rx
   cases y with
   | non => cases ry; exact PySem.EqNone.ne_bool_none (fin_bl I q (by simp))
   | bl j => cases ry; exact ne_bool (fin_bl I q (congrArg not dec_bl))
   | str j => obtain ⟨t', rfl⟩ := ry; exact PySem.EqMixed.ne_bool_str (fin_bl I q (by simp))
   | _ => exact absurd (show false = true from hs) Bool.false_ne_true
 | int i =>
   obtain ⟨t, rfl⟩ := rx
   cases y with
   | non => cases ry; exact PySem.EqNone.ne_int_none (fin_bl I q (by simp))
   | int j => obtain ⟨t', rfl⟩ := ry; exact ne_int (fin_bl I q (congrArg not dec_int))
   | str j => obtain ⟨t', rfl⟩ := ry; exact PySem.EqMixed.ne_int_str (fin_bl I q (by simp))
   | _ => exact absurd (show false = true from hs) Bool.false_ne_true
 | str i =>
   obtain ⟨t, rfl⟩ := rx
   cases y with
   | non => cases ry; exact PySem.EqNone.ne_str_none (fin_bl I q (by simp))
   | bl j => cases ry; exact PySem.EqMixed.ne_str_bool (fin_bl I q (by simp))
   | int j => obtain ⟨t', rfl⟩ := ry; exact PySem.EqMixed.ne_str_int (fin_bl I q (by simp))
   | str j => obtain ⟨t', rfl⟩ := ry; exact ne_str (fin_bl I q (congrArg not dec_str))
   | _ => exact absurd (show false = true from hs) Bool.false_ne_true
 | byt i =>
   obtain ⟨t, rfl⟩ := rx
   cases y with
   | byt j => obtain ⟨t', rfl⟩ := ry; exact PySem.W.ne_bytes (fin_bl I q (congrArg not dec_byt))
   | _ => exact absurd (show false = true from hs) Bool.false_ne_true
 | _ => cases y <;> exact absurd (show false = true from hs) Bool.false_ne_true
theorem op_lt : OpR X (compareOp .Lt) (rI0 fun i j => .bl (decide (i < j))) := opB0 fun _ _ _ _ _ _ _ q => lt_int q
theorem op_le : OpR X (compareOp .LtE) (rI0 fun i j => .bl (decide (i ≤ j))) := opB0 fun _ _ _ _ _ _ _ q => le_int q
theorem op_gt : OpR X (compareOp .Gt) (rI0 fun i j => .bl (decide (j < i))) := opB0 fun _ _ _ _ _ _ _ q => gt_int q
theorem op_ge : OpR X (compareOp .GtE) (rI0 fun i j => .bl (decide (j ≤ i))) := opB0 fun _ _ _ _ _ _ _ q => ge_int q
theorem op_isN : OpR X (compareOp .Is) (fun x y H Q => y = .non ∧ Q (.bl (decide (x = .non))) H) := by
 intro pins s σ H x y v u Q I rx ry h
 obtain ⟨rfl, q⟩ := h
 cases ry
 refine is_none_gen (fin_bl I q ?_)
 cases x <;> first
   | (cases rx; rfl)
   | (obtain ⟨t, rfl⟩ := rx; rfl)
theorem op_notN : OpR X (compareOp .IsNot) (fun x y H Q => y = .non ∧ Q (.bl (!decide (x = .non))) H) := by
 intro pins s σ H x y v u Q I rx ry h
 obtain ⟨rfl, q⟩ := h
 cases ry
 refine isnot_none_gen (fin_bl I q ?_)
 cases x <;> first
   | (cases rx; rfl)
   | (obtain ⟨t, rfl⟩ := rx; rfl)
theorem nomark (b : Expr) {op : CmpOp} (h : op ≠ .In := by decide) (h2 : op ≠ .NotIn := by decide) : behindInMarks op b = false := by
 have e1 : (op == CmpOp.In) = false := by cases op <;> first | rfl | exact absurd rfl h
 have e2 : (op == CmpOp.NotIn) = false := by cases op <;> first | rfl | exact absurd rfl h2
 cases b <;> simp [behindInMarks, e1, e2]
theorem pe_cmpR {op : CmpOp} {r : R2} (ho : OpR X (compareOp op) r) (ha : PE X a ta) (hb : PE X b tb) (hm : behindInMarks op b = false) : PE X (.Compare a [op] [b] pos) (tOp r ta tb) := by
 intro pins s σ H Q I h
 exact wpAny_Compare1 (binT ha hb I h fun v u s2 x y H2 I2 rx ry q => ho pins s2 σ H2 x y v u Q I2 rx ry q) hm
def tTest (t : TE) : TT := fun σ H Q => t σ H fun x H' => ∃ k, x = .bl k ∧ Q k H'
theorem pt_cmpR {op : CmpOp} {r : R2} (ho : OpR X (compareOp op) r) (ha : PE X a ta) (hb : PE X b tb) (hm : behindInMarks op b = false) : PT X (.Compare a [op] [b] pos) (tTest (tOp r ta tb)) := by
 intro pins s σ H Q I h
 refine wpAny_isTrue_Compare1 (thn (ha pins s σ H _ I h) fun v s1 ⟨x, H1, I1, r1, q1⟩ => thn (hb pins s1 σ H1 _ I1 q1) fun u s2 ⟨y, H2, I2, r2, q2⟩ =>
   thn (ho pins s2 σ H2 x y v u _ I2 r1 r2 q2) fun c s3 ⟨z, H3, I3, r3, k, e, q3⟩ => ?_) hm
 subst e
 cases r3
 exact wpAny_truthy_bool ⟨H3, I3, q3⟩
def tChain (r r' : R2) (ta tb tc : TE) : TE := fun σ H Q => ta σ H fun x H1 => tb σ H1 fun y H2 => r x y H2 fun z H3 => ∃ k, z = .bl k ∧
 (if k = true then tc σ H3 fun w' H4 => r' y w' H4 Q else Q (.bl false) H3)
theorem pe_chain {op op' : CmpOp} {r r' : R2} (ho : OpR X (compareOp op) r) (ho' : OpR X (compareOp op') r') (ha : PE X a ta) (hb : PE X b tb) (hc : PE X c tc)
   (hm : lastMarks [op, op'] [b, c] = false := by with_unfolding_all rfl) : PE X (.Compare a [op, op'] [b, c] pos) (tChain r r' ta tb tc) := by
 intro pins s σ H Q I h
 refine Compare_chain (thn (ha pins s σ H _ I h) fun v s1 ⟨x, H1, I1, r1, q1⟩ => chain_link (thn (hb pins s1 σ H1 _ I1 q1) fun u s2 ⟨y, H2, I2, r2, q2⟩ =>
   thn (ho pins s2 σ H2 x y v u _ I2 r1 r2 q2) fun d s3 ⟨z, H3, I3, r3, k, e, q3⟩ => ?_)) hm
 subst e
 cases r3
 refine wpAny_truthy_bool ?_
 cases k with
 | false => exact ite_ff ⟨.bl false, H3, I3, rfl, q3⟩
 | true => exact ite_tt (chain_last (thn (hc pins s3 σ H3 _ I3 q3) fun w' s4 ⟨z', H4, I4, r4, q4⟩ => ho' pins s4 σ H4 y z' u w' Q I4 r2 r4 q4))
def TruV (K : PySem.W.Frag) (x : V) (H : Hp) (k : Bool) : Prop :=
 match x with
 | .non => k = false
 | .bl b => k = b
 | .int i => k = (i != 0)
 | .str y => y.length ≤ sizeLine ∧ k = ((y.length : Int) != 0)
 | .byt y => y.size ≤ sizeLine ∧ k = ((y.size : Int) != 0)
 | .ref p => (∃ xs, SqL K H p xs ∧ k = !xs.isEmpty) ∨ (∃ xs, SqT K H p xs ∧ k = !xs.isEmpty) ∨ ∃ kvs, H p = some (.dK kvs) ∧ k = !kvs.isEmpty
 | _ => False
theorem isEmpty_kv {κ : Type} {kvs : List (κ × V)} {vs : List (κ × Value)} (r : KV kvs vs) : (!vs.isEmpty) = !kvs.isEmpty := by
 cases r <;> rfl
theorem isEmpty_of {xs : List V} {its : List Value} (r : Vals xs its) : (!its.toArray.isEmpty) = !xs.isEmpty := by
 cases r <;> simp
theorem line63 : (sizeLine : Nat) < 2 ^ 63 := by rw [sizeLine_eq]; decide
theorem tru_ok : TruR X (fun x H Q => ∃ k, TruV X.K x H k ∧ Q k H) := by
 intro pins s σ H x v Q I rx h
 obtain ⟨k, e, q⟩ := h
 have hl := line63
 have hs : sizeLine = 16777216 := sizeLine_eq
 cases x with
 | non =>
   cases rx
   have e' : k = false := e
   subst e'
   exact truthy_none ⟨H, I, q⟩
 | bl b =>
   cases rx
   have e' : k = b := e
   subst e'
   exact wpAny_truthy_bool ⟨H, I, q⟩
 | int i =>
   obtain ⟨t, rfl⟩ := rx
   have e' : k = (i != 0) := e
   subst e'
   exact PySem.P.truthy_int ⟨H, I, q⟩
 | str y =>
   obtain ⟨t, rfl⟩ := rx
   obtain ⟨hy, e'⟩ : y.length ≤ sizeLine ∧ k = ((y.length : Int) != 0) := e
   subst e'
   exact PySem.P.truthy_str (by omega) ⟨H, I.tok _, q⟩
 | byt y =>
   obtain ⟨t, rfl⟩ := rx
   obtain ⟨hy, e'⟩ : y.size ≤ sizeLine ∧ k = ((y.size : Int) != 0) := e
   subst e'
   exact PySem.W.truthy_bytes (by omega) ⟨H, I.tok _, q⟩
 | ref p =>
   cases rx
   have e' : (∃ xs, SqL X.K H p xs ∧ k = !xs.isEmpty) ∨ (∃ xs, SqT X.K H p xs ∧ k = !xs.isEmpty) ∨ ∃ kvs, H p = some (.dK kvs) ∧ k = !kvs.isEmpty := e
   rcases e' with ⟨xs, hx, e'⟩ | ⟨xs, hx, e'⟩ | ⟨kvs, hx, e'⟩
   · subst e'
     obtain ⟨its, r, pl, hz⟩ := I.list hx
     have hlen := r.length
     exact wpAny_truthy_list pl.isList (by simp only [List.size_toArray]; omega) ⟨H, I.tok _, by rw [isEmpty_of r]; exact q⟩
   · subst e'
     obtain ⟨its, r, pl, hz⟩ := I.tuple hx
     have hlen := r.length
     exact truthy_tuple pl (by simp only [List.size_toArray]; omega) ⟨H, I.tok _, by rw [isEmpty_of r]; exact q⟩
   · subst e'
     obtain ⟨hz, hS, vs, r, m⟩ : kvs.length ≤ sizeLine ∧ (p == sysModules) = false ∧ ∃ vs, KV kvs vs ∧ s.heap.DictOf (mixKind X.prog X.w) p vs := I.hok p _ hx
     have hlen : kvs.length = vs.length := Paired.length r
     exact wpAny_truthy_dict hS m (by omega) ⟨H, I.tok _, by rw [isEmpty_kv r]; exact q⟩
 | _ => exact (show False from e).elim
theorem pt_truth (ha : PE X a ta) (he : ∀ whole, isTrue a X.env whole = (do let v ← whole; standAt a.pos; holding [v] (truthy v))) :
   PT X a (fun σ H Q => ta σ H fun x H' => ∃ k, TruV X.K x H' k ∧ Q k H') := by
 intro pins s σ H Q I h
 exact isTrue_plain (thn (ha pins s σ H _ I h) fun v s1 ⟨x, H1, I1, r1, q1⟩ => tru_ok pins s1 σ H1 x v Q I1 r1 q1) (he _)
theorem op_add_str : OpR X (binaryOp .Add) (fun x y H Q => ∃ i j, x = .str i ∧ y = .str j ∧ i.length + j.length ≤ sizeLine ∧ Q (.str (i ++ j)) H) := by
 intro pins s σ H x y v u Q I rx ry h
 obtain ⟨i, j, rfl, rfl, hz, q⟩ := h
 obtain ⟨t, rfl⟩ := rx
 obtain ⟨t', rfl⟩ := ry
 exact add_str (fun t' tk => ⟨.str (i ++ j), H, I.tok _, ⟨_, rfl⟩, q⟩) hz
theorem vals1 {x : V} {us : List Value} (r : Vals [x] us) : ∃ u, us = [u] ∧ RelV x u := by
 cases r with
 | cons r1 r2 => cases r2; exact ⟨_, rfl, r1⟩
theorem vals2 {x y : V} {us : List Value} (r : Vals [x, y] us) : ∃ u w', us = [u, w'] ∧ RelV x u ∧ RelV y w' := by
 cases r with
 | cons r1 r2 =>
   cases r2 with
   | cons r3 r4 => cases r4; exact ⟨_, _, rfl, r1, r3⟩
theorem call_ord : CallR X (.builtin "ord") (fun xs H Q => ∃ x, xs = [.str x] ∧ x.length = 1 ∧ Q (.int (x.cps.getD 0 0 : Nat)) H) := by
 intro pins s σ H xs us Q I r h
 obtain ⟨x, rfl, hz, q⟩ := h
 obtain ⟨u, rfl, t, rfl⟩ := vals1 r
 exact ord_of_one hz ⟨.int _, H, I.tok _, ⟨_, rfl⟩, q⟩
end
end L2
namespace L2
open PySem PySem.Spec PyProof.Rows
structure ObjM (h : Heap) (x dx C : Addr) (mA : Str → Option Value) : Prop where
 obj : h.get? x = some (PySem.W.instObj C dx)
 ns : h.Ns1 dx mA
 ne : dx ≠ x
theorem lookIn_ns {h : Heap} {dx : Addr} {mA : Str → Option Value} (n : h.Ns1 dx mA) : ∃ od, h.get? dx = some od ∧ ∀ name, PySem.W.lookIn name od = some (mA name) := by
 obtain ⟨o, es, ep, ho, hd, hk, _, hm⟩ := n
 refine ⟨o, ho, fun name => ?_⟩
 have e := hm name
 unfold nsFind findBy at e
 rw [← Array.find?_toList] at e
 unfold PySem.W.lookIn
 rw [hd]
 dsimp only
 split
 · rename_i y q
   rw [q] at e
   exact congrArg some e
 · rename_i q
   rw [q] at e
   have a : es.toList.any (·.refKey) = false := by
     rw [List.any_eq_false]
     intro y hy
     obtain ⟨z, t, hkey⟩ := hk y (Array.mem_toList_iff.mp hy)
     simp [DictEntry.refKey, hkey]
   have a' : ¬ es.toList.any (·.refKey) = true := by rw [a]; exact Bool.false_ne_true
   rw [if_neg a']
   exact congrArg some e
theorem ObjM.look {h : Heap} {x dx C : Addr} {mA : Str → Option Value} (I : ObjM h x dx C mA) : ∃ od, PySem.W.InstAt h x (PySem.W.instObj C dx) C (some od) ∧ ∀ name, PySem.W.lookIn name od = some (mA name) :=
 let ⟨od, ho, hl⟩ := lookIn_ns I.ns
 ⟨od, ⟨I.obj, rfl, rfl, ho⟩, hl⟩
section
variable {prog : Program} {w : World} {A : Around} {E : Value → Shared → Prop} {s : Shared} {K : PySem.W.Frag} {x dx C f : Addr} {mA : Str → Option Value} {name : Str} {v : Value}
theorem get_map {expr : Bool} {Q : Value → Shared → Prop} (X : K.In s.heap) (I : ObjM s.heap x dx C mA) (hg : PySem.W.plainGet K C name = true) (hh : PySem.W.hasDictIn K C = true)
   (ha : PySem.W.findIn K (.ref C) name = some none) (hv : mA name = some v) (hv' : PySem.W.handedIn v = true) (h : Q v { s with toks := s.toks + 1 }) :
   wpAny (model prog w) A (getAttr (.ref x) name expr) Q E s := by
 obtain ⟨od, J, hl⟩ := I.look
 exact PySem.W.get_value X J (PySem.W.plainGet_of hg).1 (PySem.W.findObj_own hh ha rfl (by rw [hl, hv])) hv' h
theorem get_meth {pl : Sem Bool} {Q : Value × List Value → Shared → Prop} (X : K.In s.heap) (I : ObjM s.heap x dx C mA) (hg : PySem.W.plainGet K C name = true)
   (hf : PySem.W.findIn K (.ref C) name = some (some (.ref f))) (ht : PySem.W.isFn K (.ref f) = true) (hv : mA name = none) (h : Q (.ref f, [.ref x]) s) :
   wpAny (model prog w) A (getMethod (.ref x) name pl) Q E s := by
 obtain ⟨od, J, hl⟩ := I.look
 exact PySem.W.method_fn X J (PySem.W.plainGet_of hg).1 (PySem.W.plainGet_of hg).2 hf (beq_iff_eq.mp ht) (by show (PySem.W.lookIn name od).map (·.isSome) = some false; rw [hl, hv]; rfl) h
theorem set_map {ns : List Str} {Q : Unit → Shared → Prop} (X : K.In s.heap) (I : ObjM s.heap x dx C mA)
   (hs : PySem.W.findIn K (.ref C) "__setattr__" = some (some (.builtin "object.__setattr__"))) (hp : PySem.W.plainOver K C = true) (ht : PySem.W.takerIn K C name = some none) (hh : PySem.W.hasDictIn K C = true)
   (hw : PySem.Within mA ns) (hsz : ns.length ≤ sizeLine)
   (h : ∀ h', ObjM h' x dx C (fun y => if y = name then some v else mA y) → Heap.SameBut dx s.heap h' → Q () { s with heap := h', toks := s.toks + 2 }) :
   wpAny (model prog w) A (setAttr (.ref x) name v) Q E s := by
 obtain ⟨od, J, hl⟩ := I.look
 refine PySem.W.set_plain X J hs (PySem.W.osa_open (s := { s with toks := s.toks + 1 }) (r := none) X J hp ht fun b => ?_)
 obtain ⟨cd, hc, hd'⟩ := PySem.W.any_some hh
 have hx : s.heap.get? x = some ⟨.ref C, some dx, .plain, #[]⟩ := I.obj
 refine wpAny_bind (wpAny_pure (wpAny_bind (wpAny_bind (wpAny_loadPart hx (wpAny_bind (PySem.W.Looks.here (s := { s with toks := s.toks + 1 }) (PySem.W.looks_clsIn X hc) ?_))))))
 rw [hd']
 refine wpAny_pure (a := some dx) (wpAny_bind (wpAny_pure (wpAny_bind ?_)))
 refine wpAny_nsSet1 (s := { s with toks := s.toks + 1 }) I.ns fun h' hn2 hs2 => ?_
 obtain ⟨oD, esD, epD, hoD, hdD, hcD⟩ := hn2.count (PySem.Within.cons name v hw)
 refine wpAny_bind (wpAny_lookBehind hoD (by rw [hdD]; exact pastItsLine_dict (Nat.le_trans hcD (by rw [List.length_cons]; omega))) ?_)
 exact wpAny_pure (h _ ⟨(hs2.2 _ (Ne.symm I.ne)).trans I.obj, hn2, I.ne⟩ hs2)
theorem make_map {R : Result → Shared → Prop} {vs : List Value} {kw : List (Str × Value)} (X : K.In s.heap) (hm : PySem.W.makesIn K C = true)
   (hi : PySem.W.findIn K (.ref C) "__init__" = some (some (.ref f))) (hf : PySem.W.typeIn K (.ref f) = some (.type "function"))
   (h : codeAny (model prog w) (A.under (.builtin "type.__call__" ⟨.ref C :: vs, kw⟩)) (.call (.ref f) ⟨.ref (s.heap.objs.size + 1) :: vs, kw⟩) (PySem.W.InitBack (s.heap.objs.size + 1) R)
     { s with heap := (s.heap.push PySem.W.emptyDict).push (PySem.W.instObj C s.heap.objs.size) }) :
   codeAny (model prog w) A (.call (.ref C) ⟨vs, kw⟩) R s := by
 obtain ⟨hh, g, d, t, os⟩ := s
 exact PySem.W.make_core (PySem.W.makes_of X hm) (PySem.W.looks_findIn X hi) (fun self => PySem.W.bind_fn X self hf) (.inl rfl) h
end
def putF (f : Str) (v : V) : List (Str × V) → List (Str × V)
 | [] => [(f, v)]
 | (g, x) :: r => if g = f then (g, v) :: r else (g, x) :: putF f v r
theorem lookup_putF (f g : Str) (v : V) : ∀ fs : List (Str × V), (putF f v fs).lookup g = if g = f then some v else fs.lookup g
 | [] => by
   show List.lookup g [(f, v)] = _
   by_cases h : g = f
   · have hb : (g == f) = true := beq_iff_eq.mpr h
     simp only [List.lookup, hb, if_pos h]
   · have hb : (g == f) = false := beq_eq_false_iff_ne.mpr h
     simp only [List.lookup, hb, if_neg h]
 | (k, x) :: r => by
   have ih := lookup_putF f g v r
   rw [show putF f v ((k, x) :: r) = (if k = f then (k, v) :: r else (k, x) :: putF f v r) from rfl]
   by_cases hk : k = f
   · rw [if_pos hk]
     by_cases h : g = k
     · have hb : (g == k) = true := beq_iff_eq.mpr h
       simp only [List.lookup, hb, if_pos (h.trans hk)]
     · have hb : (g == k) = false := beq_eq_false_iff_ne.mpr h
       simp only [List.lookup, hb, if_neg (fun e : g = f => h (e.trans hk.symm))]
   · rw [if_neg hk]
     by_cases h : g = k
     · have hb : (g == k) = true := beq_iff_eq.mpr h
       simp only [List.lookup, hb, if_neg (fun e : g = f => hk (h.symm.trans e))]
     · have hb : (g == k) = false := beq_eq_false_iff_ne.mpr h
       simp only [List.lookup, hb]
       exact ih
theorem keys_putF (f : Str) (v : V) : ∀ fs : List (Str × V), f ∈ (putF f v fs).map (·.1) ∧ ∀ g, g ∈ fs.map (·.1) → g ∈ (putF f v fs).map (·.1)
 | [] => ⟨by simp [putF], fun g h => by simp at h⟩
 | (k, x) :: r => by
   obtain ⟨i1, i2⟩ := keys_putF f v r
   rw [show putF f v ((k, x) :: r) = (if k = f then (k, v) :: r else (k, x) :: putF f v r) from rfl]
   by_cases hk : k = f
   · rw [if_pos hk]
     subst hk
     exact ⟨by simp, fun g h => by simpa using h⟩
   · rw [if_neg hk]
     refine ⟨?_, fun g h => ?_⟩
     · rw [List.map_cons]
       exact List.mem_cons_of_mem _ i1
     · rw [List.map_cons] at h ⊢
       rcases List.mem_cons.mp h with e | e
       · exact List.mem_cons.mpr (.inl e)
       · exact List.mem_cons_of_mem _ (i2 g e)
theorem length_putF (f : Str) (v : V) : ∀ fs : List (Str × V), (putF f v fs).length ≤ fs.length + 1
 | [] => by simp [putF]
 | (k, x) :: r => by
   have ih := length_putF f v r
   rw [show putF f v ((k, x) :: r) = (if k = f then (k, v) :: r else (k, x) :: putF f v r) from rfl]
   by_cases hk : k = f
   · rw [if_pos hk, List.length_cons, List.length_cons]; omega
   · rw [if_neg hk, List.length_cons, List.length_cons]; omega
theorem RelO.some_of {v : V} {o : Option Value} (r : RelO (some v) o) : ∃ u, o = some u ∧ RelV v u := by
 cases o with
 | none => exact (show False from r).elim
 | some u => exact ⟨u, rfl, r⟩
theorem RelO.none_of {o : Option Value} (r : RelO none o) : o = none := by
 cases o with
 | none => rfl
 | some u => exact (show False from r).elim
theorem handed_of {v : V} {u : Value} (r : RelV v u) : PySem.W.handedIn u = true := by
 cases v with
 | non => cases (show u = Value.none from r); rfl
 | bl b => cases (show u = Value.bool b from r); rfl
 | int i => obtain ⟨t, e⟩ := (show ∃ t, u = Value.int i t from r); cases e; rfl
 | str x => obtain ⟨t, e⟩ := (show ∃ t, u = Value.str x t from r); cases e; rfl
 | byt b => obtain ⟨t, e⟩ := (show ∃ t, u = Value.bytes b t from r); cases e; rfl
 | flt b => obtain ⟨t, e⟩ := (show ∃ t, u = Value.float b t from r); cases e; rfl
 | ref a => cases (show u = Value.ref a from r); rfl
 | ty n => cases (show u = Value.type n from r); rfl
section
variable {P : Program} {w : World} {H H' : Hp} {h h' : Heap} {a C dx : Addr} {fs fs' : List (Str × V)}
theorem ins_get (hok : HOk P w H h) (e : H a = some (.ins C dx fs)) : ∃ mA, ObjM h a dx C mA ∧ (∀ f, RelO (fs.lookup f) (mA f)) ∧ PySem.Within mA (fs.map (·.1)) ∧ fs.length ≤ 1000 ∧ H dx = some (.own a) := by
 obtain ⟨d, z, ne, ob, mA, n, r, q⟩ := (show ObjOk P w H h a (.ins C dx fs) from hok a _ e)
 exact ⟨mA, ⟨ob, n, ne⟩, r, q, z, d⟩
end
structure Cls (K : PySem.W.Frag) (C : Addr) : Prop where
 pg : PySem.W.plainGet K C Str.empty = true
 hd : PySem.W.hasDictIn K C = true
 po : PySem.W.plainOver K C = true
 sa : PySem.W.findIn K (.ref C) "__setattr__" = some (some (.builtin "object.__setattr__"))
theorem Cls.get {K : PySem.W.Frag} {C : Addr} (c : Cls K C) (f : Str) : PySem.W.plainGet K C f = true := c.pg
def NoAttr (K : PySem.W.Frag) (C : Addr) (f : Str) : Prop := PySem.W.findIn K (.ref C) f = some none
theorem NoAttr.taker {K : PySem.W.Frag} {C : Addr} {f : Str} (n : NoAttr K C f) : PySem.W.takerIn K C f = some none := by
 unfold PySem.W.takerIn
 rw [show PySem.W.findIn K (.ref C) f = some none from n]
 rfl
structure Meth (K : PySem.W.Frag) (C : Addr) (m : Str) (f : Addr) : Prop where
 at_ : PySem.W.findIn K (.ref C) m = some (some (.ref f))
 fn : PySem.W.isFn K (.ref f) = true
 kp : PySem.W.keepIn K (.ref f) = true
section
variable {X : Cx} {pins : List (Addr × Obj)} {σ : St} {H : Hp} {s : Shared} {a C dx : Addr} {fs : List (Str × V)} {f : Str} {v : V} {A : Around} {E : Value → Shared → Prop}
theorem getattr_ok {b : Bool} {Q : Value → Shared → Prop} (I : Inv X pins σ H s) (e : H a = some (.ins C dx fs)) (c : Cls X.K C) (n : NoAttr X.K C f) (l : fs.lookup f = some v)
   (h : ∀ u s', Inv X pins σ H s' → RelV v u → Q u s') : wpAny (model X.prog X.w) A (getAttr (.ref a) f b) Q E s := by
 obtain ⟨mA, O, r, _, _, _⟩ := ins_get I.hok e
 obtain ⟨u, hu, ru⟩ := RelO.some_of (v := v) (o := mA f) (by rw [← l]; exact r f)
 exact get_map I.kIn O (c.get f) c.hd n hu (handed_of ru) (h u _ (I.tok _) ru)
theorem getmeth_ok {m : Str} {g : Addr} {pl : Sem Bool} {Q : Value × List Value → Shared → Prop} (I : Inv X pins σ H s) (e : H a = some (.ins C dx fs)) (c : Cls X.K C) (k : Meth X.K C m g) (l : fs.lookup m = none)
   (h : Q (.ref g, [.ref a]) s) : wpAny (model X.prog X.w) A (getMethod (.ref a) m pl) Q E s := by
 obtain ⟨mA, O, r, _, _, _⟩ := ins_get I.hok e
 have hn : mA m = none := RelO.none_of (by rw [← l]; exact r m)
 exact get_meth I.kIn O (c.get m) k.at_ k.fn hn h
theorem setattr_ok {y : V} {u : Value} {Q : Unit → Shared → Prop} (I : Inv X pins σ H s) (e : H a = some (.ins C dx fs)) (c : Cls X.K C) (n : NoAttr X.K C f) (hl : fs.length < 1000) (ry : RelV y u)
   (h : ∀ s', Inv X pins σ (upd H a (.ins C dx (putF f y fs))) s' → Q () s') : wpAny (model X.prog X.w) A (setAttr (.ref a) f u) Q E s := by
 obtain ⟨mA, O, r, wi, _, ho⟩ := ins_get I.hok e
 have hz : (fs.map (·.1)).length ≤ sizeLine := by rw [List.length_map, sizeLine_eq]; omega
 refine set_map I.kIn O c.sa c.po n.taker c.hd wi hz fun h' O' sb => h _ ?_
 have hd : ∃ o, h'.get? dx = some o := let ⟨o, _, _, e', _⟩ := O'.ns; ⟨o, e'⟩
 refine I.write (x := a) (e := dx) (by rw [e]; exact True.intro) (.inr ho) (fun b q hb z => (sb.2 b hb).trans z) hd ?_
 refine ⟨by rw [upd_ne O.ne]; exact ho, ?_, O.ne, O'.obj, _, O'.ns, fun g => ?_, fun g hg => ?_⟩
 · have := length_putF f y fs; omega
 · show RelO ((putF f y fs).lookup g) (if g = f then some u else mA g)
   rw [lookup_putF]
   by_cases q : g = f
   · rw [if_pos q, if_pos q]; exact ry
   · rw [if_neg q, if_neg q]; exact r g
 · by_cases q : g = f
   · rw [q]; exact (keys_putF f y fs).1
   · refine (keys_putF f y fs).2 g (wi g fun z => hg ?_)
     show (if g = f then some u else mA g) = none
     rw [if_neg q]; exact z
theorem Inv.made (I : Inv X pins σ H s) : Inv X pins σ (upd (upd H s.heap.objs.size (.own (s.heap.objs.size + 1))) (s.heap.objs.size + 1) (.ins C s.heap.objs.size []))
   { s with heap := (s.heap.push PySem.W.emptyDict).push (PySem.W.instObj C s.heap.objs.size) } := by
 have e1 : (s.heap.push PySem.W.emptyDict).get? s.heap.objs.size = some PySem.W.emptyDict := Heap.get?_push_size s.heap rfl
 have e2 : ((s.heap.push PySem.W.emptyDict).push (PySem.W.instObj C s.heap.objs.size)).get? (s.heap.objs.size + 1) = some (PySem.W.instObj C s.heap.objs.size) := by
   have := Heap.get?_push_size (s.heap.push PySem.W.emptyDict) (o := PySem.W.instObj C s.heap.objs.size) rfl
   rwa [Heap.size_push] at this
 have e3 : (s.heap.push PySem.W.emptyDict).Ns s.heap.objs.size (fun _ => none) := ⟨PySem.W.emptyDict, #[], _, e1, rfl, (fun e he => absurd he (by simp)), fun _ => rfl⟩
 have I1 := I.laid (a := s.heap.objs.size) (o := .own (s.heap.objs.size + 1)) (h' := s.heap.push PySem.W.emptyDict) (t' := s.toks) (fun b u q => Heap.get?_push_of_some _ q) (Nat.le_refl _) ⟨_, e1⟩
 refine I1.laid (a := s.heap.objs.size + 1) (o := .ins C s.heap.objs.size []) (t' := s.toks) (fun b u q => Heap.get?_push_of_some _ q) (Nat.le_of_eq (Heap.size_push _ _)) ?_
 have ne : s.heap.objs.size ≠ s.heap.objs.size + 1 := Nat.ne_of_lt (Nat.lt_succ_self _)
 refine ⟨by rw [upd_ne ne, upd_same], Nat.zero_le _, ne, e2, fun _ => none, (Heap.Ns1.of_empty e3).at fun o q => Heap.get?_push_of_some _ q, fun _ => True.intro, fun y hy => absurd rfl hy⟩
theorem attr_of {prog : Program} {w : World} {env : Env} {e : Expr} {f : Str} {pos : Pos} {s : Shared} {Q : Value → Shared → Prop} (hb : attributeBase e f env (eval e env) = eval e env)
   (h : wpAny (model prog w) A (eval e env) (fun o s₁ => wpAny (model prog w) A (getAttr o f true) Q E s₁) E s) : wpAny (model prog w) A (eval (.Attribute e f pos) env) Q E s :=
 Attribute_any_ h (by rw [arm_eval_Attribute, hb])
end
def tFld (K : PySem.W.Frag) (ta : TE) (f : Str) : TE := fun σ H Q => ta σ H fun x H1 => ∃ a C dx fs v, x = .ref a ∧ H1 a = some (.ins C dx fs) ∧ Cls K C ∧ NoAttr K C f ∧ fs.lookup f = some v ∧ Q v H1
def sFld (K : PySem.W.Frag) (ta tv : TE) (f : Str) : TS := fun D σ H => tv σ H fun y H1 => ta σ H1 fun x H2 => ∃ a C dx fs, x = .ref a ∧ H2 a = some (.ins C dx fs) ∧ Cls K C ∧ NoAttr K C f ∧ fs.length < 1000 ∧
 D.nx σ (upd H2 a (.ins C dx (putF f y fs)))
def InOp (X : Cx) (op : Operator) (rd : V → V → Hp → VK → Prop) : Prop :=
 ∀ (pins : List (Addr × Obj)) (s : Shared) (σ : St) (H : Hp) (x y : V) (u v : Value) (Q : VK), Inv X pins σ H s → RelV x u → RelV y v → rd x y H Q → wpAny (model X.prog X.w) X.A (inplaceOp op u v) (EP X pins σ Q) X.xe s
def sFldAug (K : PySem.W.Frag) (ta tv : TE) (rd : V → V → Hp → VK → Prop) (f : Str) : TS := fun D σ H => ta σ H fun x H1 => ∃ a C dx fs v, x = .ref a ∧ H1 a = some (.ins C dx fs) ∧ Cls K C ∧ NoAttr K C f ∧ fs.lookup f = some v ∧
 tv σ H1 fun y H2 => rd v y H2 fun z H3 => ∃ dx' fs', H3 a = some (.ins C dx' fs') ∧ fs'.length < 1000 ∧ D.nx σ (upd H3 a (.ins C dx' (putF f z fs')))
section
variable {X : Cx} {o e value : Expr} {f : Str} {pos pos' tpos : Pos} {ta tv : TE}
theorem pe_fld (he : PE X e ta) (hb : attributeBase e f X.env (eval e X.env) = eval e X.env) : PE X (.Attribute e f pos) (tFld X.K ta f) := by
 intro pins s σ H Q I h
 refine attr_of hb (thn (he pins s σ H _ I h) fun u s1 ⟨x, H1, I1, rx, a, C, dx, fs, v, ex, ea, c, n, l, q⟩ => ?_)
 subst ex
 obtain rfl : u = Value.ref a := rx
 exact getattr_ok I1 ea c n l fun u' s2 I2 ru => ⟨v, H1, I2, ru, q⟩
theorem ps_fld (ha : PE X o ta) (hv : PE X value tv) (hs : swapsWith value (some (.Attribute o f pos')) pos.line X.env = pure false) : PS X (.Assign [.Attribute o f pos'] value pos) (sFld X.K ta tv f) := by
 intro pins s σ H D I h
 refine plainObj_wpAny_Assign_Attribute (thn (hv pins s σ H _ I h) fun u s1 ⟨y, H1, I1, ry, q⟩ => thn (ha pins s1 σ H1 _ I1 q) fun ov s2 ⟨x, H2, I2, rx, a, C, dx, fs, ex, ea, c, n, l, q2⟩ => ?_) hs
 subst ex
 obtain rfl : ov = Value.ref a := rx
 exact setattr_ok I2 ea c n l ry fun s3 I3 => ⟨σ, _, I3, q2⟩
theorem ps_fldaug {op : Operator} {rd : V → V → Hp → VK → Prop} (ha : PE X o ta) (hv : PE X value tv) (hop : InOp X op rd) : PS X (.AugAssign (.Attribute o f tpos) op value pos) (sFldAug X.K ta tv rd f) := by
 intro pins s σ H D I h
 refine wpAny_AugAssign_AttributeAny (thn (ha pins s σ H _ I h) fun ov s1 ⟨x, H1, I1, rx, a, C, dx, fs, v, ex, ea, c, n, l, q⟩ => ?_)
 subst ex
 obtain rfl : ov = Value.ref a := rx
 refine getattr_ok I1 ea c n l fun u s2 I2 ru => thn (hv pins s2 σ H1 _ I2 q) fun w3 s3 ⟨y, H2, I3, ry, q3⟩ => thn (hop pins s3 σ H2 v y u w3 _ I3 ru ry q3) fun w4 s4 ⟨z, H3, I4, rz, dx', fs', ea', l', q4⟩ => ?_
 exact setattr_ok I4 ea' c n l' rz fun s5 I5 => ⟨σ, _, I5, q4⟩
def rAdd : V → V → Hp → VK → Prop := fun x y H Q => ∃ i j, x = .int i ∧ y = .int j ∧ Q (.int (i + j)) H
theorem in_add : InOp X .Add rAdd := by
 rintro pins s σ H x y u v Q I rx ry ⟨i, j, rfl, rfl, q⟩
 obtain ⟨t, rfl⟩ := (show ∃ t, u = Value.int i t from rx)
 obtain ⟨t', rfl⟩ := (show ∃ t', v = Value.int j t' from ry)
 exact PyProof.Rows.iadd_int ⟨.int (i + j), H, I.tok _, ⟨_, rfl⟩, q⟩
end
end L2
namespace L2
open PySem PySem.Spec PyProof.Rows
structure Room (k : Nat) (A : Around) : Prop where
 hd : A.handled = none
 dp : A.depth + 3 * k + 5 < recursionLimit
 un : A.units + 16 * k + 200 < cLine
theorem Room.mono {j k : Nat} {A : Around} (r : Room k A) (h : j ≤ k) : Room j A := ⟨r.hd, by have := r.dp; omega, by have := r.un; omega⟩
theorem Room.deeper {k : Nat} {A : Around} (r : Room (k + 1) A) (env : Env) : Room k (A.deeper env) :=
 ⟨r.hd, by have := r.dp; show A.depth + 1 + 3 * k + 5 < _; omega, by have := r.un; show A.units + 3 + 16 * k + 200 < _; omega⟩
theorem make_depth {A : Around} {C : Addr} {us : List Value} {kw : List (Str × Value)} : (A.under (.builtin "type.__call__" ⟨.ref C :: us, kw⟩)).depth = A.depth + 1 := by
 first | rfl | simp [Around.under, Code.weight, Code.isCreation, Code.isGuard, Code.isCaller, Code.frames, Code.isFrame, guardIds]
theorem make_units {A : Around} {C : Addr} {us : List Value} {kw : List (Str × Value)} : (A.under (.builtin "type.__call__" ⟨.ref C :: us, kw⟩)).units = A.units + 1 := by
 first | rfl | simp [Around.under, Code.cUnits, Code.frames, Code.isFrame]
theorem Room.make {k : Nat} {A : Around} (r : Room (k + 1) A) (C : Addr) (us : List Value) (kw : List (Str × Value)) : Room k (A.under (.builtin "type.__call__" ⟨.ref C :: us, kw⟩)) :=
 ⟨r.hd, by have := r.dp; rw [make_depth]; omega, by have := r.un; rw [make_units]; omega⟩
theorem Room.depth {k : Nat} {A : Around} (r : Room k A) : A.depth < recursionLimit := by have := r.dp; omega
theorem Room.units {k : Nat} {A : Around} (r : Room k A) : A.units + 64 < cLine := by have := r.un; omega
def tNil : TA := fun _ H Q => Q [] H
def tCons (ta : TE) (tr : TA) : TA := fun σ H Q => ta σ H fun x H1 => tr σ H1 fun xs H2 => Q (x :: xs) H2
section
variable {X : Cx} {e : Expr} {es : List Expr} {te : TE} {t : TA} {pos : Pos}
theorem pa_nil : PA X [] tNil := fun _ _ _ _ H Q I h => Calls.spliced_nil ⟨[], H, I, .nil, h⟩
theorem pa_cons (ha : PE X e te) (hr : PA X es t) (hs : starEach (e :: es) X.env = (false, eval e X.env) :: starEach es X.env := by rfl) : PA X (e :: es) (tCons te t) := by
 intro pos pins s σ H Q I h
 rw [hs]
 show wpAny _ _ (spliced ((false, eval e X.env) :: backTo pos (starEach es X.env))) _ _ s
 refine Calls.spliced_cons (thn (ha pins s σ H _ I h) fun u s1 ⟨x, H1, I1, r1, q1⟩ => ?_)
 exact thn (hr pos pins s1 σ H1 _ I1 q1) fun us s2 ⟨xs, H2, I2, r2, q2⟩ => ⟨x :: xs, H2, I2, .cons r1 r2, q2⟩
def tTup (t : TA) : TE := fun σ H Q => t σ H fun xs H1 => xs.length ≤ sizeLine ∧ ∀ p, H1 p = none → Q (.ref p) (upd H1 p (.tup xs))
def tLst (t : TA) : TE := fun σ H Q => t σ H fun xs H1 => xs.length ≤ sizeLine ∧ ∀ p, H1 p = none → Q (.ref p) (upd H1 p (.lst xs))
theorem pe_tup {x1} (h : PA X es t) : PE X (.Tuple es x1 pos) (tTup t) := by
 intro pins s σ H Q I hq
 refine wpAny_Tuple_spliced (thn (h pos pins s σ H _ I hq) fun us s1 ⟨xs, H1, I1, r, z, q⟩ => ⟨by rw [← r.length]; exact z, ?_⟩)
 have hf : H1 s1.heap.objs.size = none := I1.hok.fresh (Nat.le_refl _)
 refine ⟨.ref s1.heap.objs.size, upd H1 s1.heap.objs.size (.tup xs), I1.laid (t' := s1.toks) (fun b u e => Heap.get?_push_of_some _ e) (Nat.le_refl _) ?_, rfl, q _ hf⟩
 exact ⟨z, us, r, ⟨_, Heap.get?_push_size _ rfl, rfl, _, rfl⟩⟩
theorem pe_lst (h : PA X es t) : PE X (.List es pos) (tLst t) := by
 intro pins s σ H Q I hq
 refine wpAny_List_spliced (thn (h pos pins s σ H _ I hq) fun us s1 ⟨xs, H1, I1, r, z, q⟩ => ⟨by rw [← r.length]; exact z, ?_⟩)
 have hf : H1 s1.heap.objs.size = none := I1.hok.fresh (Nat.le_refl _)
 refine ⟨.ref s1.heap.objs.size, upd H1 s1.heap.objs.size (.lst xs), I1.laid (t' := s1.toks) (fun b u e => Heap.get?_push_of_some _ e) (Nat.le_refl _) ?_, rfl, q _ hf⟩
 exact ⟨z, us, 0, r, Heap.get?_push_size _ rfl⟩
end
abbrev Sp := List V → Hp → VK → XK → Prop
abbrev CXT := List Env → Hp → Shared → XK → Value → Shared → Prop
structure Env0 (P : Program) (w : World) (K : PySem.W.Frag) (mg : Str → Option Value) (base : Heap) (A : Around) (outer : List Env) (s : Shared) (H : Hp) : Prop where
 frames : A.frames = some outer
 mod : Mod K mg base
 bs : ∀ b o, base.get? b = some o → s.heap.get? b = some o ∧ H b = none
 bsz : base.objs.size ≤ s.heap.objs.size
 funs : s.heap.FunFrames base outer
 frf : ∀ b ∈ frs outer, H b = none
 hok : HOk P w H s.heap
 bare : AllBare s.gens
def CE (outer : List Env) (P : Program) (w : World) (H : Hp) (s : Shared) (Q : VK) (u : Value) (s' : Shared) : Prop :=
 ∃ v H', s'.os = s.os ∧ AllBare s'.gens ∧ Un (frs outer) [] H H' s.heap s'.heap ∧ HOk P w H' s'.heap ∧ RelV v u ∧ Q v H'
def CR (CX : CXT) (outer : List Env) (P : Program) (w : World) (H : Hp) (s : Shared) (Q : VK) (E : XK) (r : Result) (s' : Shared) : Prop :=
 match r with
 | .ok (.ret u) => CE outer P w H s Q u s'
 | .ok _ => False
 | .error e => CX outer H s E e s'
structure FnOk (P : Program) (w : World) (K : PySem.W.Frag) (mg : Str → Option Value) (base : Heap) (CX : CXT) (k : Nat) (f : Addr) (fd : FuncData) (ps : List Str) (sp : Sp) : Prop where
 len : ∀ vs H Q E, sp vs H Q E → vs.length = ps.length
 run : ∀ (A : Around) (outer : List Env) (s : Shared) (H : Hp) (args : Args) (us : List Value) (vs : List V) (Q : VK) (E : XK), Room k A → Env0 P w K mg base A outer s H → BindsTo s fd args (ps.zip us) → Vals vs us → sp vs H Q E →
   codeAny (model P w) A (.call (.ref f) args) (CR CX outer P w H s Q E) s
theorem Env0.make {P : Program} {w : World} {K : PySem.W.Frag} {mg : Str → Option Value} {base : Heap} {A : Around} {outer : List Env} {s : Shared} {H : Hp} (e : Env0 P w K mg base A outer s H) (C : Addr) (us : List Value) (kw : List (Str × Value)) :
   Env0 P w K mg base (A.under (.builtin "type.__call__" ⟨.ref C :: us, kw⟩)) outer s H := ⟨by first | exact e.frames | (simpa [Around.under, Code.envs, Code.isFrame, pushEnvs] using e.frames), e.mod, e.bs, e.bsz, e.funs, e.frf, e.hok, e.bare⟩
section
variable {X : Cx} {pins : List (Addr × Obj)} {σ : St} {H : Hp} {s s' : Shared}
theorem Inv.env0 (I : Inv X pins σ H s) : Env0 X.prog X.w X.K X.mg X.base X.A X.stack s H :=
 ⟨I.ok.frames, I.ok.mod, I.bs, Nat.le_trans I.ok.bsz I.sz, I.stack, I.stkFree, I.hok, I.bare⟩
theorem Inv.after {Q : VK} {u : Value} (I : Inv X pins σ H s) (h : CE X.stack X.prog X.w H s Q u s') : EP X pins σ Q u s' := by
 obtain ⟨v, H', os, bare, un, hok, r, q⟩ := h
 obtain ⟨hh, g, d, t, os'⟩ := s'
 obtain rfl : os' = s.os := os
 exact ⟨v, H', I.call (h' := hh) (g' := g) (d' := d) (t' := t) (ch := []) un hok bare (fun b z => absurd z (by simp)), r, q⟩
end
def tCall (sp : Sp) (dvs : List V) (E : XK) (t : TA) : TE := fun σ H Q => t σ H fun vs H1 => sp (vs ++ dvs) H1 Q E
def tMeth (C : Addr) (m : Str) (sp : Sp) (dvs : List V) (E : XK) (ta : TE) (t : TA) : TE := fun σ H Q => ta σ H fun x H1 => ∃ a dx fs, x = .ref a ∧ H1 a = some (.ins C dx fs) ∧ fs.lookup m = none ∧
 t σ H1 fun vs H2 => sp (x :: (vs ++ dvs)) H2 Q E
def tMake (C : Addr) (sp : Sp) (dvs : List V) (E : XK) (t : TA) : TE := fun σ H Q => t σ H fun vs H1 => ∀ x dx, H1 x = none → H1 dx = none → dx ≠ x →
 sp (.ref x :: (vs ++ dvs)) (upd (upd H1 dx (.own x)) x (.ins C dx [])) (fun v H2 => v = .non ∧ Q (.ref x) H2) E
def Binds (K : PySem.W.Frag) (fd : FuncData) (ps : List Str) (ds : List Value) : Prop :=
 ∀ (s : Shared) (us : List Value), K.In s.heap → (us ++ ds).length = ps.length → BindsTo s fd ⟨us, []⟩ (ps.zip (us ++ ds))
theorem Binds.all {K : PySem.W.Frag} {fd : FuncData} {ps : List Str} (h : ∀ us : List Value, us.length = ps.length → bindArgs fd ⟨us, []⟩ = pure (ps.zip us)) : Binds K fd ps [] := fun s us _ hl => by
 rw [List.append_nil] at hl ⊢
 exact .of_eq (h us hl)
def Passes (CX : CXT) (X : Cx) (E : XK) : Prop := ∀ (pins : List (Addr × Obj)) (σ : St) (H : Hp) (s : Shared) (e : Value) (s' : Shared), Inv X pins σ H s → CX X.stack H s E e s' → X.xe e s'
section
variable {X : Cx} {CX : CXT} {k : Nat} {f C : Addr} {fd : FuncData} {ps : List Str} {sp : Sp} {dvs : List V} {ds : List Value} {E : XK} {x m : Str} {p pos apos : Pos} {e o : Expr} {es : List Expr} {ta : TE} {t : TA}
theorem run_fn {pins : List (Addr × Obj)} {σ : St} {H : Hp} {s : Shared} {Q : VK} {us : List Value} {vs : List V} (F : FnOk X.prog X.w X.K X.mg X.base CX k f fd ps sp) (hr : Room k X.A) (hb : Binds X.K fd ps ds) (hd : Vals dvs ds) (hx : Passes CX X E)
   (I : Inv X pins σ H s) (r : Vals vs us) (h : sp (vs ++ dvs) H Q E) : wpAny (model X.prog X.w) X.A (call (.ref f) us) (EP X pins σ Q) X.xe s := by
 have r2 : Vals (vs ++ dvs) (us ++ ds) := r.append hd
 have hl : (us ++ ds).length = ps.length := by rw [← r2.length]; exact F.len _ _ _ _ h
 refine wpAny_call (codeAny_mono (F.run X.A X.stack s H ⟨us, []⟩ (us ++ ds) (vs ++ dvs) Q E hr I.env0 (hb s us I.kIn hl) r2 h) fun r s' hq => ?_)
 cases r with
 | error e => exact hx pins σ H s e s' I hq
 | ok fl =>
   cases fl with
   | ret u => exact I.after hq
   | next => exact False.elim hq
   | brk => exact False.elim hq
   | cont => exact False.elim hq
theorem pe_call (F : FnOk X.prog X.w X.K X.mg X.base CX k f fd ps sp) (hr : Room k X.A) (hg : Gl X x) (hm : X.mg x = some (.ref f)) (hk : PySem.W.keepIn X.K (.ref f) = true) (hb : Binds X.K fd ps ds) (hd : Vals dvs ds) (hx : Passes CX X E)
   (ha : PA X (e :: es) t) (hdb : (x == ("__debug__" : Str)) = false := by decide) (he : starEach (e :: es) X.env = (false, eval e X.env) :: starEach es X.env := by rfl) (hpl : (backTo pos (starEach es X.env)).any (·.1) = false := by rfl) :
   PE X (.Call (.Name x p) (e :: es) [] pos) (tCall sp dvs E t) := by
 intro pins s σ H Q I h
 refine wpAny_Call_Name_kw (ld_glob I hg hm ?_ hdb)
 refine PySem.W.callWith_K (h₀ := X.base) I.ok.mod.kin hk (thn (ha pos pins s σ H _ I h) fun us s1 ⟨vs, H1, I1, r, q⟩ => ⟨I1.kIn, ?_⟩) he hpl
 exact run_fn F hr hb hd hx I1 r q
theorem pe_meth {pl : Sem Bool} (he : PE X o ta) (c : Cls X.K C) (hm : Meth X.K C m f) (F : FnOk X.prog X.w X.K X.mg X.base CX k f fd ps sp) (hr : Room k X.A) (hb : Binds X.K fd ps ds) (hd : Vals dvs ds) (hx : Passes CX X E) (ha : PA X (e :: es) t)
   (hst : starEach (e :: es) X.env = (false, eval e X.env) :: starEach es X.env := by rfl) (hpl : (backTo pos (starEach es X.env)).any (·.1) = false := by rfl)
   (ht : eval (.Call (.Attribute o m apos) (e :: es) [] pos) X.env = (do
     let ov ← eval o X.env
     standAt apos.atName
     let (f, first) ← holding [ov] (getMethod ov m pl)
     callWith pos f first (backTo pos (starEach (e :: es) X.env)) (backToKw pos (keywordEach [] X.env))) := by rfl) :
   PE X (.Call (.Attribute o m apos) (e :: es) [] pos) (tMeth C m sp dvs E ta t) := by
 intro pins s σ H Q I h
 refine PySem.W.methodCall_KW (pl := pl) (thn (he pins s σ H _ I h) fun u s1 ⟨x, H1, I1, rx, a, dx, fs, ex, ea, l, q⟩ => ?_) ht
 subst ex
 obtain rfl : u = Value.ref a := rx
 refine getmeth_ok I1 ea c hm l ?_
 refine PySem.W.callWith_K (first := [.ref a]) (h₀ := X.base) I.ok.mod.kin hm.kp (thn (ha pos pins s1 σ H1 _ I1 q) fun us s2 ⟨vs, H2, I2, r, q2⟩ => ⟨I2.kIn, ?_⟩) hst hpl
 exact run_fn (us := .ref a :: us) (vs := .ref a :: vs) F hr hb hd hx I2 (.cons rfl r) q2
theorem pe_meth0 {pl : Sem Bool} (he : PE X o ta) (c : Cls X.K C) (hm : Meth X.K C m f) (F : FnOk X.prog X.w X.K X.mg X.base CX k f fd ps sp) (hr : Room k X.A) (hb : Binds X.K fd ps ds) (hd : Vals dvs ds) (hx : Passes CX X E)
   (ht : eval (.Call (.Attribute o m apos) [] [] pos) X.env = (do
     let ov ← eval o X.env
     standAt apos.atName
     let (f, first) ← holding [ov] (getMethod ov m pl)
     callWith pos f first (backTo pos (starEach [] X.env)) (backToKw pos (keywordEach [] X.env))) := by rfl) :
   PE X (.Call (.Attribute o m apos) [] [] pos) (tMeth C m sp dvs E ta tNil) := by
 intro pins s σ H Q I h
 refine PySem.W.methodCall_KW (pl := pl) (thn (he pins s σ H _ I h) fun u s1 ⟨x, H1, I1, rx, a, dx, fs, ex, ea, l, q⟩ => ?_) ht
 subst ex
 obtain rfl : u = Value.ref a := rx
 refine getmeth_ok I1 ea c hm l ?_
 exact PySem.W.callWith_K0 (first := [.ref a]) I1.kIn hm.kp (run_fn (us := [.ref a]) (vs := [.ref a]) F hr hb hd hx I1 (.cons rfl .nil) q)
structure Mk (K : PySem.W.Frag) (C f : Addr) : Prop where
 makes : PySem.W.makesIn K C = true
 init : PySem.W.findIn K (.ref C) "__init__" = some (some (.ref f))
 fn : PySem.W.isFn K (.ref f) = true
 kp : PySem.W.keepIn K (.ref C) = true
theorem run_make {pins : List (Addr × Obj)} {σ : St} {H : Hp} {s : Shared} {Q : VK} {us : List Value} {vs : List V} (M : Mk X.K C f) (F : FnOk X.prog X.w X.K X.mg X.base CX k f fd ps sp) (hr : Room (k + 1) X.A) (hb : Binds X.K fd ps ds) (hd : Vals dvs ds)
   (hx : Passes CX X E) (I : Inv X pins σ H s) (r : Vals vs us)
   (h : ∀ x dx, H x = none → H dx = none → dx ≠ x → sp (.ref x :: (vs ++ dvs)) (upd (upd H dx (.own x)) x (.ins C dx [])) (fun v H2 => v = .non ∧ Q (.ref x) H2) E) :
   wpAny (model X.prog X.w) X.A (call (.ref C) us) (EP X pins σ Q) X.xe s := by
 have hq := h (s.heap.objs.size + 1) s.heap.objs.size (I.hok.fresh (Nat.le_succ _)) (I.hok.fresh (Nat.le_refl _)) (Nat.ne_of_lt (Nat.lt_succ_self _))
 have I2 := Inv.made (C := C) I
 have r2 : Vals (V.ref (s.heap.objs.size + 1) :: (vs ++ dvs)) (Value.ref (s.heap.objs.size + 1) :: (us ++ ds)) := .cons rfl (r.append hd)
 have hl : (Value.ref (s.heap.objs.size + 1) :: us ++ ds).length = ps.length := by
   have e := r2.length
   rw [F.len _ _ _ _ hq] at e
   exact e.symm
 refine wpAny_call (make_map (f := f) I.kIn M.makes M.init (beq_iff_eq.mp M.fn) (codeAny_mono (F.run _ X.stack _ _ ⟨Value.ref (s.heap.objs.size + 1) :: us, []⟩ (Value.ref (s.heap.objs.size + 1) :: (us ++ ds)) _ _ E (hr.make C us [])
   (I2.env0.make C us []) (hb _ (Value.ref (s.heap.objs.size + 1) :: us) I2.kIn hl) r2 hq) fun r s' hq' => ?_))
 cases r with
 | error e => exact hx pins σ _ _ e s' I2 hq'
 | ok fl =>
   cases fl with
   | ret u =>
     obtain ⟨v, H', I3, rv, ev, q3⟩ := I2.after hq'
     subst ev
     exact ⟨rv, ⟨V.ref (s.heap.objs.size + 1), H', I3, rfl, q3⟩⟩
   | next => exact False.elim hq'
   | brk => exact False.elim hq'
   | cont => exact False.elim hq'
theorem pe_make (M : Mk X.K C f) (F : FnOk X.prog X.w X.K X.mg X.base CX k f fd ps sp) (hr : Room (k + 1) X.A) (hg : Gl X x) (hm : X.mg x = some (.ref C)) (hb : Binds X.K fd ps ds) (hd : Vals dvs ds) (hx : Passes CX X E)
   (ha : PA X (e :: es) t) (hdb : (x == ("__debug__" : Str)) = false := by decide) (he : starEach (e :: es) X.env = (false, eval e X.env) :: starEach es X.env := by rfl) (hpl : (backTo pos (starEach es X.env)).any (·.1) = false := by rfl) :
   PE X (.Call (.Name x p) (e :: es) [] pos) (tMake C sp dvs E t) := by
 intro pins s σ H Q I h
 refine wpAny_Call_Name_kw (ld_glob I hg hm ?_ hdb)
 refine PySem.W.callWith_K (h₀ := X.base) I.ok.mod.kin M.kp (thn (ha pos pins s σ H _ I h) fun us s1 ⟨vs, H1, I1, r, q⟩ => ⟨I1.kIn, ?_⟩) he hpl
 exact run_make M F hr hb hd hx I1 r q
theorem pe_make0 (M : Mk X.K C f) (F : FnOk X.prog X.w X.K X.mg X.base CX k f fd ps sp) (hr : Room (k + 1) X.A) (hg : Gl X x) (hm : X.mg x = some (.ref C)) (hb : Binds X.K fd ps ds) (hd : Vals dvs ds) (hx : Passes CX X E)
   (hdb : (x == ("__debug__" : Str)) = false := by decide) : PE X (.Call (.Name x p) [] [] pos) (tMake C sp dvs E tNil) := by
 intro pins s σ H Q I h
 refine wpAny_Call_Name_kw (ld_glob I hg hm ?_ hdb)
 exact PySem.W.callWith_K0 I.kIn M.kp (run_make (us := []) M F hr hb hd hx I .nil h)
end
structure FnScope (N P : List Str) (sc : Scope) : Prop where
 kind : sc.kind = .function
 co : sc.isCoroutine = false
 gen : sc.isGenerator = false
 nd : N.Nodup
 pre : N.take P.length = P
 par : ∀ x ∈ P, sc.names.lookup x = some .local ∨ sc.names.lookup x = some .cell
 nofree : ∀ y ∈ sc.names, y.2 ≠ .free
theorem bindL_out {kindOf : Str → Option NameKind} {x : Str} : ∀ {binds : List (Str × Value)} {m : Str → Option Value}, (∀ v, (x, v) ∉ binds) → bindL kindOf binds m x = m x
 | [], _, _ => rfl
 | (n, v) :: r, m, h => by
   unfold bindL
   rw [bindL_out fun w hw => h w (List.mem_cons_of_mem _ hw)]
   split
   · have : x ≠ n := by rintro rfl; exact h v List.mem_cons_self
     simp [this]
   · rfl
theorem bindC_out {kindOf : Str → Option NameKind} {x : Str} : ∀ {binds : List (Str × Value)} {m : Str → Option Value}, (∀ v, (x, v) ∉ binds) → bindC kindOf binds m x = m x
 | [], _, _ => rfl
 | (n, v) :: r, m, h => by
   unfold bindC
   rw [bindC_out fun w hw => h w (List.mem_cons_of_mem _ hw)]
   split
   · rfl
   · have : x ≠ n := by rintro rfl; exact h v List.mem_cons_self
     simp [this]
theorem bindL_get {kindOf : Str → Option NameKind} {x : Str} {v : Value} : ∀ {P : List Str} {vs : List Value} {i : Nat} {m : Str → Option Value}, P.Nodup → P[i]? = some x → vs[i]? = some v → kindOf x = some .local →
   bindL kindOf (P.zip vs) m x = some v
 | [], _, _, _, _, h, _, _ => by simp at h
 | _ :: _, [], _, _, _, _, h, _ => by simp at h
 | p :: P, w :: vs, 0, m, nd, h1, h2, hk => by
   simp at h1 h2; subst h1; subst h2
   show bindL kindOf ((p, w) :: P.zip vs) m p = _
   unfold bindL
   rw [bindL_out fun v hv => (List.nodup_cons.mp nd).1 (List.of_mem_zip hv).1, if_pos hk]
   simp
 | p :: P, w :: vs, i + 1, m, nd, h1, h2, hk => by
   show bindL kindOf ((p, w) :: P.zip vs) m x = _
   unfold bindL
   exact bindL_get (i := i) (List.nodup_cons.mp nd).2 (by simpa using h1) (by simpa using h2) hk
theorem bindC_get {kindOf : Str → Option NameKind} {x : Str} {v : Value} : ∀ {P : List Str} {vs : List Value} {i : Nat} {m : Str → Option Value}, P.Nodup → P[i]? = some x → vs[i]? = some v → kindOf x ≠ some .local →
   bindC kindOf (P.zip vs) m x = some v
 | [], _, _, _, _, h, _, _ => by simp at h
 | _ :: _, [], _, _, _, _, h, _ => by simp at h
 | p :: P, w :: vs, 0, m, nd, h1, h2, hk => by
   simp at h1 h2; subst h1; subst h2
   show bindC kindOf ((p, w) :: P.zip vs) m p = _
   unfold bindC
   rw [bindC_out fun v hv => (List.nodup_cons.mp nd).1 (List.of_mem_zip hv).1, if_neg hk]
   simp
 | p :: P, w :: vs, i + 1, m, nd, h1, h2, hk => by
   show bindC kindOf ((p, w) :: P.zip vs) m x = _
   unfold bindC
   exact bindC_get (i := i) (List.nodup_cons.mp nd).2 (by simpa using h1) (by simpa using h2) hk
def start (N : List Str) (vs : List V) : St := vs.map some ++ List.replicate (N.length - vs.length) none
def cxOf (CX : CXT) (P : Program) (w : World) (K : PySem.W.Frag) (mg : Str → Option Value) (base : Heap) (N : List Str) (qual : Str) (scope : Scope) (f : Addr) (cd : Value) (A : Around) (outer : List Env) (s : Shared) (H : Hp) (E : XK) : Cx where
 prog := P
 w := w
 K := K
 mg := mg
 base := base
 A := A.deeper (envOfC qual scope s.heap.objs.size f cd)
 N := N
 s_0 := s
 H_0 := H
 env := envOfC qual scope s.heap.objs.size f cd
 outer := outer
 stack := envOfC qual scope s.heap.objs.size f cd :: outer
 ex := []
 calm := true
 fn := fun _ => true
 pn := []
 xe := fun e s' => wpAny (model P w) (A.deeper (envOfC qual scope s.heap.objs.size f cd)) (leaving (envOfC qual scope s.heap.objs.size f cd) e) (fun _ s'' => CX outer H s E e s'') (fun e' s'' => CX outer H s E e' s'') s'
theorem cell_has {sc : Scope} {n : Nat} {x : Str} (h : sc.names.lookup x = some .cell) : ∃ c, (cellsFrom n sc.names []).lookup x = some c := by
 have q := PySem.W.cellsFrom_some sc.names n [] (.inl h)
 exact Option.isSome_iff_exists.mp q
theorem inv_start {CX : CXT} {P : Program} {w : World} {K : PySem.W.Frag} {mg : Str → Option Value} {base : Heap} {N ps : List Str} {qual : Str} {scope : Scope} {f : Addr} {cd : Value} {A : Around} {outer : List Env} {s s1 : Shared} {H : Hp} {E : XK} {us : List Value} {vs : List V}
   (S : FnScope N ps scope) (hd : A.handled = none) (e0 : Env0 P w K mg base A outer s H) (hl : vs.length = ps.length) (r : Vals vs us)
   (x : InCallC s s.heap.objs.size (bindL (envOfC qual scope s.heap.objs.size f cd).kindOf (ps.zip us) fun _ => none) (cellsFrom (s.heap.objs.size + 1) scope.names []) (bindC (envOfC qual scope s.heap.objs.size f cd).kindOf (ps.zip us) fun _ => none) s1) :
   Inv (cxOf CX P w K mg base N qual scope f cd A outer s H E) [] (start N vs) H s1 := by
 have hpl : ps.length ≤ N.length := by have := congrArg List.length S.pre; rw [List.length_take] at this; omega
 obtain ⟨h1, tk, rfl, hk⟩ := x.done
 have noA : ∀ b : Addr, b ∉ (cxOf CX P w K mg base N qual scope f cd A outer s H E).ex := fun b z => absurd (show b ∈ ([] : List Addr) from z) (by simp)
 refine ⟨⟨e0.mod, S.kind, rfl, rfl, Nat.le_refl _, fun y z c h1 h2 => ?_, fun y hy => ?_, fun y c _ h => ?_, fun _ => hd, Around.frames_deeper e0.frames, .inr ⟨rfl, rfl⟩, fun b z => absurd z (noA b), e0.bs, e0.bsz, fun b _ _ => noA b, fun b z => absurd z (noA b), e0.funs, e0.frf⟩,
   rfl, e0.bare, Un.kept hk, ⟨_, x.toInCall.ns, fun i y v h1 h2 h3 => ?_⟩, fun y c h => ⟨_, x.cell y c h⟩, e0.hok.fresh (Nat.le_refl _), fun y c h => ?_, fun p hp => absurd (show p ∈ ([] : List (Addr × Obj)) from hp) (by simp), e0.hok.kept hk, ?_⟩
 · exact name_of_addr x.apart (PySem.mem_of_lookup h1) (PySem.mem_of_lookup h2)
 · have hy : scope.names.lookup y = some .cell ∨ scope.names.lookup y = some .free := hy
   rcases hy with hy | hy
   · exact cell_has hy
   · exact absurd rfl (S.nofree _ (PySem.mem_of_lookup hy))
 · exact Nat.le_of_lt (x.above y c (PySem.mem_of_lookup h))
 · have hi : i < vs.length := by
     unfold start at h2
     by_cases hi : i < vs.length
     · exact hi
     · rw [List.getElem?_append_right (by simpa using hi)] at h2
       rw [List.getElem?_replicate] at h2
       split at h2 <;> cases h2
   have ha : vs[i]? = some v := by
     unfold start at h2
     rw [List.getElem?_append_left (by simpa using hi), List.getElem?_map] at h2
     cases e : vs[i]? with
     | none => rw [e] at h2; cases h2
     | some a => rw [e] at h2; cases h2; rfl
   obtain ⟨u, hu, rv⟩ := r.get ha
   have hp : ps[i]? = some y := by
     rw [← S.pre, List.getElem?_take_of_lt (by omega)]; exact h1
   have ndP : ps.Nodup := by rw [← S.pre]; exact S.nd.sublist (List.take_sublist _ _)
   refine ⟨u, rv, ?_⟩
   rcases S.par y (List.mem_of_getElem? hp) with k | k
   · exact .inl ⟨k, bindL_get ndP hp hu k⟩
   · obtain ⟨c, e⟩ := cell_has (n := s.heap.objs.size + 1) k
     refine .inr ⟨.inl k, c, e, ?_⟩
     have q := x.cell y c e
     rw [bindC_get ndP hp hu (by show scope.names.lookup y ≠ _; rw [k]; decide)] at q
     exact q
 · exact e0.hok.fresh (Nat.le_of_lt (x.above y c (PySem.mem_of_lookup h)))
 · unfold start
   show _ = N.length
   rw [List.length_append, List.length_map, List.length_replicate]
   omega
theorem fn_of {CX : CXT} {P : Program} {w : World} {K : PySem.W.Frag} {mg : Str → Option Value} {base : Heap} {k : Nat} {f : Addr} {name qual : Str} {params : Arguments} {body : List Stmt} {scope : Scope} {dV kV doc pm cdv ct oc : Value} {an od : Option Addr}
   {osl : Array (Option Value)} {N ps : List Str} {sp : Sp} (lk : K.lookup f = some ⟨oc, od, .func (PySem.W.fnOf name qual params body scope dV kV doc pm an cdv ct), osl⟩) (hcd : PySem.W.codeIn K cdv qual = true) (S : FnScope N ps scope)
   (len : ∀ vs H Q E, sp vs H Q E → vs.length = ps.length)
   (hbody : ∀ (A : Around) (outer : List Env) (s : Shared) (H : Hp) (vs : List V) (Q : VK) (E : XK), Room k (A.deeper (envOfC qual scope s.heap.objs.size f cdv)) → sp vs H Q E →
     ∃ t, PSs (cxOf CX P w K mg base N qual scope f cdv A outer s H E) body t ∧ t { nx := fun _ H' => Q .non H', rt := Q } (start N vs) H) :
   FnOk P w K mg base CX (k + 1) f (PySem.W.fnOf name qual params body scope dV kV doc pm an cdv ct) ps sp := by
 refine ⟨len, fun A outer s H args us vs Q E hr e0 hb r hsp => ?_⟩
 have hl := len _ _ _ _ hsp
 have KX : K.In s.heap := e0.mod.kin.keeps fun b o e => (e0.bs b o e).1
 have lim : s.heap.NoLimit := e0.mod.nolimit.keeps fun b o e => (e0.bs b o e).1
 have hkind : ∀ y ∈ ps.zip us, scope.names.lookup y.1 = some .local ∨ (scope.names.lookup y.1 = some .cell ∧ ((cellsFrom (s.heap.objs.size + 1) scope.names []).lookup y.1).isSome = true) := fun ⟨n, v⟩ hy => by
   rcases S.par n (List.of_mem_zip hy).1 with q | q
   · exact .inl q
   · exact .inr ⟨q, PySem.W.cellsFrom_some _ _ _ (.inl q)⟩
 refine codeAny_call_function hr.depth (KX _ _ lk) rfl S.co S.gen rfl (PySem.W.codeRec_of KX hcd) (hb _ _ _ _ ?_)
 refine wpAny_newFunctionEnv_cells S.kind hkind fun env he s1 x => ?_
 subst he
 refine ⟨lim.keeps x.toInCall.keep, codeAny_func ?_⟩
 obtain ⟨t, ht, hq⟩ := hbody A outer s H vs Q E (hr.deeper _) hsp
 have I : Inv (cxOf CX P w K mg base N qual scope f cdv A outer s H E) [] (start N vs) H s1 := inv_start S hr.hd e0 hl r x
 refine wpAny_mono (ht [] s1 (start N vs) H _ I hq) (fun fl s' hs => ?_) fun e s' hs => hs
 have fin : ∀ {σ' : St} {H' : Hp} {v : V} {u : Value}, Inv (cxOf CX P w K mg base N qual scope f cdv A outer s H E) [] σ' H' s' → RelV v u → Q v H' → CE outer P w H s Q u s' :=
   fun {σ' H' v u} J rv q => ⟨v, H', J.os, J.bare, J.base, J.hok, rv, q⟩
 cases fl with
 | ret u =>
   obtain ⟨v, σ', H', J, rv, q⟩ := hs
   exact fin J rv q
 | next =>
   obtain ⟨σ', H', J, q⟩ := hs
   exact fin (v := V.non) (u := Value.none) J rfl q
 | brk =>
   obtain ⟨_, _, _, q⟩ := hs
   exact False.elim q
 | cont =>
   obtain ⟨_, _, _, q⟩ := hs
   exact False.elim q
end L2
namespace L2
open PySem PySem.Spec PyProof.Rows
section
variable {X : Cx} {x : Str} {p pos : Pos} {e : Expr} {es : List Expr} {t : TA} {id T : String} {r : List V → Hp → VK → Prop}
def tCB (r : List V → Hp → VK → Prop) (t : TA) : TE := fun σ H Q => t σ H fun vs H1 => r vs H1 Q
theorem pe_callB (hc : CallR X (.builtin id) r) (hg : Gl X x) (hm : X.mg x = none) (hv : bootBuiltins x = some (.builtin id)) (ha : PA X (e :: es) t) (hn : x ≠ "__name__" := by decide) (hdb : (x == ("__debug__" : Str)) = false := by decide)
   (he : starEach (e :: es) X.env = (false, eval e X.env) :: starEach es X.env := by rfl) (hpl : (backTo pos (starEach es X.env)).any (·.1) = false := by rfl) : PE X (.Call (.Name x p) (e :: es) [] pos) (tCB r t) := by
 intro pins s σ H Q I h
 refine wpAny_Call_Name_kw (ld_blt I hg hm hv ?_ hn hdb)
 exact PyProof.Rows.callWith_builtin1 (thn (ha pos pins s σ H _ I h) fun us s1 ⟨vs, H1, I1, r1, q1⟩ => hc pins s1 σ H1 vs us Q I1 r1 q1) he hpl
theorem pe_callTy (hc : CallR X (.type T) r) (hg : Gl X x) (hm : X.mg x = none) (hv : bootBuiltins x = some (.type T)) (ha : PA X (e :: es) t) (hn : x ≠ "__name__" := by decide) (hdb : (x == ("__debug__" : Str)) = false := by decide)
   (he : starEach (e :: es) X.env = (false, eval e X.env) :: starEach es X.env := by rfl) (hpl : (backTo pos (starEach es X.env)).any (·.1) = false := by rfl) : PE X (.Call (.Name x p) (e :: es) [] pos) (tCB r t) := by
 intro pins s σ H Q I h
 refine wpAny_Call_Name_kw (ld_blt I hg hm hv ?_ hn hdb)
 exact PyProof.Rows.callWith_type1 (thn (ha pos pins s σ H _ I h) fun us s1 ⟨vs, H1, I1, r1, q1⟩ => hc pins s1 σ H1 vs us Q I1 r1 q1) he hpl
end
end L2
namespace HT
open PySem PyProof.Rows
theorem rcLt_int (A : Around) (s : Shared) (a : Int) (t : Tok) (c : Int) (u : Tok) (prog : Program) (w : World) (E : Value → Shared → Prop) (Q : Value → Shared → Prop) (h : Q (.bool (decide (a < c))) s) :
   wpAny (model prog w) A (richCompare .Lt (.int a t) (.int c u)) Q E s :=
 (PyProof.Rows.lt_int h : wpAny (model prog w) A (compareOp .Lt (.int a t) (.int c u)) Q E s)
section
variable {prog : Program} {w : World} {A : Around} {E : Value → Shared → Prop} {s : Shared}
def sIx (n d : Nat) : Option Int → Nat
 | none => d
 | some v => if v < 0 then (v + (n : Int)).toNat else min v.toNat n
theorem sIx_none (n d : Nat) : sIx n d none = d := rfl
theorem sIx_nat (n d k : Nat) : sIx n d (some (k : Int)) = min k n := by
 show (if (k : Int) < 0 then ((k : Int) + (n : Int)).toNat else min (k : Int).toNat n) = min k n
 rw [if_neg (by omega), Int.toNat_natCast]
theorem sIx_le (n d : Nat) (hd : d ≤ n) (o : Option Int) : sIx n d o ≤ n := by
 cases o with
 | none => exact hd
 | some v =>
   show (if v < 0 then (v + (n : Int)).toNat else min v.toNat n) ≤ n
   by_cases hv : v < 0
   · rw [if_pos hv]; omega
   · rw [if_neg hv]; exact Nat.min_le_right _ _
end
end HT
namespace L2
open PySem PySem.Spec PyProof.Rows
abbrev TO := St → Hp → (Option Int → Hp → Prop) → Prop
def PO (X : Cx) (e : Option Expr) (t : TO) : Prop :=
 ∀ (pins : List (Addr × Obj)) (s : Shared) (σ : St) (H : Hp) (Q : Option Int → Hp → Prop), Inv X pins σ H s → t σ H Q →
   wpAny (model X.prog X.w) X.A (evalPart e X.env) (fun u s' => ∃ o H', Inv X pins σ H' s' ∧ IsPart u o ∧ Q o H') X.xe s
def tNoPart : TO := fun _ H Q => Q none H
def tPart (t : TE) : TO := fun σ H Q => t σ H fun x H1 => ∃ i, x = .int i ∧ Q (some i) H1
section
variable {X : Cx} {e : Expr} {te : TE} {lo hi : Option Expr} {tl th : TO} {pos p2 : Pos}
theorem po_none : PO X none tNoPart := by
 intro pins s σ H Q I h
 rw [evalPart_none]
 exact wpAny_pure ⟨none, H, I, .none, h⟩
theorem po_some (h : PE X e te) : PO X (some e) (tPart te) := by
 intro pins s σ H Q I hw
 rw [evalPart_some]
 refine thn (h pins s σ H _ I hw) fun u s1 ⟨x, H1, I1, r1, q1⟩ => ?_
 obtain ⟨i, rfl, q⟩ := q1
 obtain ⟨t, rfl⟩ := r1
 exact ⟨some i, H1, I1, .int i t, q⟩
def SlR (X : Cx) (r : V → Option Int → Option Int → Hp → VK → Prop) : Prop :=
 ∀ (pins : List (Addr × Obj)) (s : Shared) (σ : St) (H : Hp) (x : V) (v vl vu : Value) (lo hi : Option Int) (sl : Addr) (Q : VK), Inv X pins σ H s → RelV x v → s.heap.IsSliceOf sl vl vu .none → IsPart vl lo → IsPart vu hi → r x lo hi H Q →
   ∃ T id, typeLookup (.type T) "__getitem__" = pure (some (.builtin id)) ∧ s.TypeIs v T ∧ wpAny (model X.prog X.w) X.A (getItem v (.ref sl)) (EP X pins σ Q) X.xe s
def tSl (r : V → Option Int → Option Int → Hp → VK → Prop) (te : TE) (tl th : TO) : TE := fun σ H Q => te σ H fun x H1 => tl σ H1 fun l H2 => th σ H2 fun u H3 => r x l u H3 Q
theorem pe_slice {r : V → Option Int → Option Int → Hp → VK → Prop} (hr : SlR X r) (he : PE X e te) (hl : PO X lo tl) (hu : PO X hi th) : PE X (.Subscript e (.Slice lo hi none p2) pos) (tSl r te tl th) := by
 intro pins s σ H Q I h
 refine Subscript_ (thn (he pins s σ H _ I h) fun v s1 ⟨x, H1, I1, r1, q1⟩ => ?_)
 refine wpAny_Slice (thn (hl pins s1 σ H1 _ I1 q1) fun vl s2 ⟨l, H2, I2, pl, q2⟩ => thn (hu pins s2 σ H2 _ I2 q2) fun vu s3 ⟨u, H3, I3, pu, q3⟩ => ?_)
 rw [evalPart_none]
 refine wpAny_pure ?_
 have I4 : Inv X pins σ H3 { s3 with heap := s3.heap.push { cls := .type "slice", data := .fields #[vl, vu, .none] } } := I3.kept (t' := s3.toks) fun b ob q => Heap.get?_push_of_some _ q
 obtain ⟨T, id, hT, ht, hg⟩ := hr pins { s3 with heap := s3.heap.push { cls := .type "slice", data := .fields #[vl, vu, .none] } } σ H3 x v vl vu l u s3.heap.objs.size Q I4 r1 (Heap.IsSliceOf.new ..) pl pu q3
 show wpAny (model X.prog X.w) X.A (subscriptTail e (.Slice lo hi none p2) v (.ref s3.heap.objs.size)) (EP X pins σ Q) X.xe { s3 with heap := s3.heap.push { cls := .type "slice", data := .fields #[vl, vu, .none] } }
 exact tail_any (ops := [.ref s3.heap.objs.size, v]) ht hT hg (by with_unfolding_all rfl)
def cutV (xs : List V) (lo hi : Option Int) : List V := (xs.drop (HT.sIx xs.length 0 lo)).take (HT.sIx xs.length xs.length hi - HT.sIx xs.length 0 lo)
theorem cutV_length (xs : List V) (lo hi : Option Int) : (cutV xs lo hi).length ≤ xs.length := by
 unfold cutV
 rw [List.length_take, List.length_drop]
 omega
end
end L2
namespace L2
open PySem PySem.Spec PyProof.Rows
def ixN (n : Nat) (i : Int) : Option Nat := if 0 ≤ i then (if i < n then some i.toNat else none) else if -(n : Int) ≤ i then some (i + n).toNat else none
def atI {α : Type} (xs : List α) (i : Int) : Option α := (ixN xs.length i).bind fun j => xs[j]?
theorem ixN_seq {n : Nat} {i : Int} {j : Nat} (h : ixN n i = some j) : seqIndex? i n = some j ∧ j < n ∧ -(n : Int) ≤ i ∧ i < n := by
 unfold ixN at h
 by_cases h0 : 0 ≤ i
 · rw [if_pos h0] at h
   by_cases h1 : i < n
   · rw [if_pos h1] at h
     have e : i.toNat = j := Option.some.inj h
     exact ⟨by rw [seqIndex_of h0 h1, e], by omega, by omega, h1⟩
   · rw [if_neg h1] at h; cases h
 · rw [if_neg h0] at h
   by_cases h1 : -(n : Int) ≤ i
   · rw [if_pos h1] at h
     have e : (i + n).toNat = j := Option.some.inj h
     exact ⟨by rw [seqIndex_neg (by omega) h1, e], by omega, h1, by omega⟩
   · rw [if_neg h1] at h; cases h
theorem atI_get {α : Type} {xs : List α} {i : Int} {v : α} (h : atI xs i = some v) : ∃ j, seqIndex? i xs.length = some j ∧ xs[j]? = some v ∧ j < xs.length ∧ -(xs.length : Int) ≤ i ∧ i < xs.length := by
 unfold atI at h
 cases e : ixN xs.length i with
 | none => rw [e] at h; cases h
 | some j =>
   rw [e] at h
   obtain ⟨h1, h2, h3, h4⟩ := ixN_seq e
   exact ⟨j, h1, h, h2, h3, h4⟩
theorem atI_nat {α : Type} {xs : List α} {j : Nat} {v : α} (h : xs[j]? = some v) : atI xs (j : Int) = some v := by
 have hj : j < xs.length := (List.getElem?_eq_some_iff.mp h).1
 have e : ixN xs.length (j : Int) = some j := by
   unfold ixN
   rw [if_pos (by omega), if_pos (by omega)]; simp
 unfold atI; rw [e]; exact h
theorem atI_last {α : Type} (xs : List α) (v : α) : atI (xs ++ [v]) (-1) = some v := by
 have hl : (xs ++ [v]).length = xs.length + 1 := by simp
 have e : ixN (xs ++ [v]).length (-1) = some xs.length := by
   unfold ixN
   rw [hl, if_neg (by decide), if_pos (by omega)]
   congr 1
   omega
 unfold atI
 rw [e]
 show (xs ++ [v])[xs.length]? = some v
 simp
def PlainIx (b : Expr) : Prop := ∀ o i, subscripted b false o i = operate [o, i] (getItem o i)
def IxR (X : Cx) (r : R2) : Prop :=
 ∀ (value slice : Expr) (pins : List (Addr × Obj)) (s : Shared) (σ : St) (H : Hp) (x y : V) (v u : Value) (Q : VK), Inv X pins σ H s → RelV x v → RelV y u → r x y H Q →
   subscripted slice false v u = operate [v, u] (getItem v u) → wpAny (model X.prog X.w) X.A (subscriptTail value slice v u) (EP X pins σ Q) X.xe s
def MtR (X : Cx) (id : String) (r : V → List V → Hp → VK → Prop) : Prop :=
 ∀ (pins : List (Addr × Obj)) (s : Shared) (σ : St) (H : Hp) (x : V) (xs : List V) (v : Value) (us : List Value) (Q : VK), Inv X pins σ H s → RelV x v → Vals xs us → r x xs H Q →
   wpAny (model X.prog X.w) X.A (call (.builtin id) (v :: us)) (EP X pins σ Q) X.xe s
section
variable {X : Cx} {a b : Expr} {ta tb : TE} {pos : Pos}
theorem pe_ix {r : R2} (hr : IxR X r) (ha : PE X a ta) (hb : PE X b tb) (hs : PlainIx b) : PE X (.Subscript a b pos) (tOp r ta tb) := by
 intro pins s σ H Q I h
 exact Subscript_ (binT ha hb I h fun v u s2 x y H2 I2 rx ry q => hr a b pins s2 σ H2 x y v u Q I2 rx ry q (hs _ _))
def rIxL (K : PySem.W.Frag) : R2 := fun x y H Q => ∃ p xs i v, x = .ref p ∧ y = .int i ∧ SqL K H p xs ∧ atI xs i = some v ∧ Q v H
def rIxT (K : PySem.W.Frag) : R2 := fun x y H Q => ∃ p xs i v, x = .ref p ∧ y = .int i ∧ SqT K H p xs ∧ atI xs i = some v ∧ Q v H
def rIxS : R2 := fun x y H Q => ∃ z i c, x = .str z ∧ y = .int i ∧ z.length ≤ sizeLine ∧ atI z.cps.toList i = some c ∧ Q (.str ⟨#[c]⟩) H
theorem ix_list : IxR X (rIxL X.K) := by
 intro value slice pins s σ H x y v u Q I rx ry h hs
 obtain ⟨p, xs, i, z, rfl, rfl, hq, he, q⟩ := h
 cases rx
 obtain ⟨t, rfl⟩ := ry
 obtain ⟨its, r, pl, hz⟩ := I.list hq
 obtain ⟨j, h1, h2, h3, h4, h5⟩ := atI_get he
 obtain ⟨w, ew, rw'⟩ := r.get h2
 have hl := r.length
 have hn := line63
 have fin : EP X pins σ Q w s := ⟨z, H, I, rw', q⟩
 by_cases h0 : 0 ≤ i
 · have hj : i.toNat = j := by
     rw [seqIndex_of h0 h5] at h1
     exact Option.some.inj h1
   exact item_listR pl.isList h0 (by omega) (by rw [hj]; simpa using ew) fin hs
 · have hj : (i + (its.toArray.size : Int)).toNat = j := by
     rw [seqIndex_neg (by omega) h4] at h1
     rw [List.size_toArray, ← hl]
     exact Option.some.inj h1
   exact subscriptTail_builtinR (x := w) pl.isList.typeIs slot_list_getitem.lookup
     (wpAny_getItem_list_neg (Q := fun r s' => r = w ∧ EP X pins σ Q r s') pl.isList (by omega) (by rw [List.size_toArray] <;> omega) (by omega) (by rw [hj]; simpa using ew) ⟨rfl, fin⟩) hs
theorem ix_tup : IxR X (rIxT X.K) := by
 intro value slice pins s σ H x y v u Q I rx ry h hs
 obtain ⟨p, xs, i, z, rfl, rfl, hq, he, q⟩ := h
 cases rx
 obtain ⟨t, rfl⟩ := ry
 obtain ⟨its, r, pl, hz⟩ := I.tuple hq
 obtain ⟨j, h1, h2, h3, h4, h5⟩ := atI_get he
 obtain ⟨w, ew, rw'⟩ := r.get h2
 have hl := r.length
 have hn := line63
 have fin : EP X pins σ Q w s := ⟨z, H, I, rw', q⟩
 exact subscriptTail_builtinR (x := w) pl.typeIs slot_tuple_getitem.lookup
   (getItem_tuple (j := j) (Q := fun r s' => r = w ∧ EP X pins σ Q r s') pl (by omega) (by omega) (by rw [List.size_toArray, ← hl]; exact h1) (by simpa using ew) ⟨rfl, fin⟩) hs
theorem ix_str : IxR X rIxS := by
 intro value slice pins s σ H x y v u Q I rx ry h hs
 obtain ⟨z, i, c, rfl, rfl, hz, he, q⟩ := h
 obtain ⟨t, rfl⟩ := rx
 obtain ⟨t', rfl⟩ := ry
 obtain ⟨j, h1, h2, h3, h4, h5⟩ := atI_get he
 have hl : z.cps.toList.length = z.length := by simp [Str.length]
 rw [hl] at h1 h4 h5
 have hn := line63
 exact tail_any (typeIs_str s z t) slot_str_getitem.lookup (getItem_str (c := c) (by
   have e1 : decide (i < -(2 ^ 63 : Int)) = false := decide_eq_false (by omega)
   have e2 : decide (i ≥ 2 ^ 63) = false := decide_eq_false (by omega)
   rw [e1, e2, Bool.or_false]) (by rw [h1]; simpa using h2) ⟨.str ⟨#[c]⟩, H, I.tok _, ⟨_, rfl⟩, q⟩) hs
theorem mapSeq_set (its : List Value) (n j : Nat) (u : Value) : Obj.mapSeq (·.setIfInBounds j u) { cls := .type "list", data := .seq its.toArray n } = { cls := .type "list", data := .seq (its.set j u).toArray n } := by
 simp [Obj.mapSeq]
theorem Inv.lst {pins : List (Addr × Obj)} {σ : St} {H : Hp} {s : Shared} {p : Addr} {xs : List V} (I : Inv X pins σ H s) (h : H p = some (.lst xs)) :
   ∃ (its : List Value) (n : Nat), Vals xs its ∧ s.heap.get? p = some { cls := .type "list", data := .seq its.toArray n } ∧ xs.length ≤ sizeLine := by
 obtain ⟨z, its, n, r, e⟩ := I.hok p _ h
 exact ⟨its, n, r, e, z⟩
theorem Inv.lstUpd {pins : List (Addr × Obj)} {σ : St} {H : Hp} {s : Shared} {p : Addr} {xs ys : List V} {its its' : List Value} {n n' : Nat} {f : Obj → Obj} (I : Inv X pins σ H s) (h : H p = some (.lst xs))
   (ho : s.heap.get? p = some { cls := .type "list", data := .seq its.toArray n }) (hf : f { cls := .type "list", data := .seq its.toArray n } = { cls := .type "list", data := .seq its'.toArray n' }) (r : Vals ys its') (hz : ys.length ≤ sizeLine) (t : Nat) :
   Inv X pins σ (upd H p (.lst ys)) { s with heap := s.heap.update p f, toks := t } := by
 have e : (s.heap.update p f).get? p = some { cls := .type "list", data := .seq its'.toArray n' } := by
   rw [Heap.get?_update_self f ho (by rw [hf] <;> rfl), hf]
 refine I.write (x := p) (e := p) (by rw [h]; trivial) (.inl rfl) (fun b u hb q => (Heap.get?_update_other _ _ (Ne.symm hb)).trans q) ⟨_, e⟩ ?_
 exact ⟨hz, its', n', r, e⟩
def rSetL : V → V → V → Hp → (Hp → Prop) → Prop := fun o i v H Q => ∃ p xs k j, o = .ref p ∧ i = .int k ∧ H p = some (.lst xs) ∧ ixN xs.length k = some j ∧ Q (upd H p (.lst (xs.set j v)))
theorem set_list : PSet X rSetL := by
 intro pins s σ H o i v ov iv u Q I ro ri rv h
 obtain ⟨p, xs, k, j, rfl, rfl, hp, hj, q⟩ := h
 cases ro
 obtain ⟨t, rfl⟩ := ri
 obtain ⟨its, n, r, ho, hz⟩ := I.lst hp
 obtain ⟨h1, h2, h3, h4⟩ := ixN_seq hj
 have hl := r.length
 have hn := line63
 have I' : Inv X pins σ (upd H p (.lst (xs.set j v))) { s with heap := s.heap.update p (Obj.mapSeq (·.setIfInBounds j u)) } :=
   I.lstUpd hp ho (mapSeq_set its n j u) (r.set rv j) (by rw [List.length_set]; exact hz) s.toks
 by_cases h0 : 0 ≤ k
 · have hk : k.toNat = j := by
     rw [seqIndex_of h0 h4] at h1
     exact Option.some.inj h1
   exact PySem.W.ki_setAt ho h0 (by omega) (by rw [List.size_toArray, ← hl]; exact h4) (by rw [hk]; exact ⟨_, I', q⟩)
 · have hk : (k + (its.toArray.size : Int)).toNat = j := by
     rw [seqIndex_neg (by omega) h3] at h1
     rw [List.size_toArray, ← hl]
     exact Option.some.inj h1
   exact PySem.W.ki_setBack ho (by omega) (by rw [List.size_toArray, ← hl]; exact h3) (by omega) (by rw [hk]; exact ⟨_, I', q⟩)
theorem slice_bounds (lo hi : Option Int) (n : Nat) : (sliceBounds lo hi none n).1 = ((HT.sIx n 0 lo : Nat) : Int) ∧ (sliceBounds lo hi none n).2.1 = ((HT.sIx n n hi : Nat) : Int) ∧ (sliceBounds lo hi none n).2.2 = 1 := by
 refine ⟨?_, ?_, rfl⟩
 · cases lo with
   | none => simp [sliceBounds, HT.sIx]
   | some i =>
     simp only [sliceBounds, HT.sIx, Option.getD_none, show (1 : Int) > 0 by decide, if_true]
     by_cases h : i < 0
     · simp only [h, if_true] <;> omega
     · simp only [h, if_false] <;> omega
 · cases hi with
   | none => simp [sliceBounds, HT.sIx]
   | some i =>
     simp only [sliceBounds, HT.sIx, Option.getD_none, show (1 : Int) > 0 by decide, if_true]
     by_cases h : i < 0
     · simp only [h, if_true] <;> omega
     · simp only [h, if_false] <;> omega
theorem slicePick_cut (its : List Value) (lo hi : Option Int) : slicePick its.toArray lo hi none = ((its.drop (HT.sIx its.length 0 lo)).take (HT.sIx its.length its.length hi - HT.sIx its.length 0 lo)).toArray := by
 obtain ⟨h1, h2, h3⟩ := slice_bounds lo hi its.toArray.size
 unfold slicePick
 rw [h1, h2, h3]
 simp only [sliceRange_one, pick_run, List.size_toArray] <;> rfl
def rSlL (K : PySem.W.Frag) : V → Option Int → Option Int → Hp → VK → Prop := fun x lo hi H Q => ∃ a xs, x = .ref a ∧ SqL K H a xs ∧ ∀ p, H p = none → Q (.ref p) (upd H p (.lst (cutV xs lo hi)))
theorem sl_list : SlR X (rSlL X.K) := by
 intro pins s σ H x v vl vu lo hi sl Q I rx hs pl pu h
 obtain ⟨a, xs, rfl, hx, q⟩ := h
 cases rx
 obtain ⟨its, r, ht, hz⟩ := I.list hx
 have hlen := r.length
 refine ⟨"list", _, slot_list_getitem.lookup, ht.isList.typeIs, ?_⟩
 refine wpAny_getItem_list_slice ht.isList hs pl pu .none (by simp) ?_ (by rw [List.size_toArray] <;> omega)
 rw [slicePick_cut, ← hlen]
 refine ⟨.ref s.heap.objs.size, _, I.laid (t' := s.toks) (o := .lst (cutV xs lo hi)) (fun b ob q => Heap.get?_push_of_some _ q) (Nat.le_refl _) ?_, rfl, q _ (I.hok.fresh (Nat.le_refl _))⟩
 exact ⟨Nat.le_trans (cutV_length xs lo hi) hz, _, 0, (r.drop (HT.sIx xs.length 0 lo)).take (HT.sIx xs.length xs.length hi - HT.sIx xs.length 0 lo), Heap.get?_push_size _ rfl⟩
theorem call_len_seq : CallR X (.builtin "len") (fun xs H Q => ∃ p ys, xs = [.ref p] ∧ (SqL X.K H p ys ∨ SqT X.K H p ys) ∧ Q (.int ys.length) H) := by
 intro pins s σ H xs us Q I r h
 obtain ⟨p, ys, rfl, hq, q⟩ := h
 obtain ⟨u, rfl, rx⟩ := vals1 r
 cases rx
 have hn := line63
 rcases hq with hq | hq
 · obtain ⟨its, r', pl, hz⟩ := I.list hq
   have hlen := r'.length
   exact Calls.call_len_list pl.isList (by simp only [List.size_toArray] <;> omega) ⟨.int ys.length, H, I.tok _, ⟨s.toks + 1, by rw [List.size_toArray, hlen]⟩, q⟩
 · obtain ⟨its, r', pl, hz⟩ := I.tuple hq
   have hlen := r'.length
   exact len_tuple pl (by simp only [List.size_toArray] <;> omega) ⟨.int ys.length, H, I.tok _, ⟨s.toks + 1, by rw [List.size_toArray, hlen]⟩, q⟩
theorem call_len_str : CallR X (.builtin "len") (fun xs H Q => ∃ z, xs = [.str z] ∧ z.length ≤ sizeLine ∧ Q (.int z.length) H) := by
 intro pins s σ H xs us Q I r h
 obtain ⟨z, rfl, hz, q⟩ := h
 obtain ⟨u, rfl, t, rfl⟩ := vals1 r
 have hn := line63
 exact len_str (by omega) ⟨.int z.length, H, I.tok _, ⟨_, rfl⟩, q⟩
theorem call_list_of : CallR X (.type "list") (fun xs H Q => ∃ p ys, xs = [.ref p] ∧ (SqL X.K H p ys ∨ SqT X.K H p ys) ∧ ∀ l, H l = none → Q (.ref l) (upd H l (.lst ys))) := by
 intro pins s σ H xs us Q I r h
 obtain ⟨p, ys, rfl, hq, q⟩ := h
 obtain ⟨u, rfl, rx⟩ := vals1 r
 cases rx
 have fin : ∀ (its : List Value), Vals ys its → ys.length ≤ sizeLine → ∀ (h' : Heap) (c' : Nat), (∀ b o', s.heap.get? b = some o' → h'.get? b = some o') →
     h'.get? s.heap.objs.size = some { cls := .type "list", dict := none, data := .seq its.toArray c', slots := #[] } → EP X pins σ Q (.ref s.heap.objs.size) { s with heap := h' } := fun its r' hz h' c' kp e =>
   ⟨.ref s.heap.objs.size, _, I.laid (t' := s.toks) kp (Nat.le_refl _) (show ObjOk X.prog X.w _ h' _ (.lst ys) from ⟨hz, its, c', r', e⟩), rfl, q _ (I.hok.fresh (Nat.le_refl _))⟩
 rcases hq with hq | hq
 · obtain ⟨its, r', pl, hz⟩ := I.list hq
   have hlen := r'.length
   obtain ⟨o, ho, hc, n, hd⟩ := pl.isList
   exact call_list_seq p (.inl rfl) ho hc hd (fun h' c' kp e => fin its r' hz h' c' kp e) (by simp only [List.size_toArray] <;> omega)
 · obtain ⟨its, r', pl, hz⟩ := I.tuple hq
   have hlen := r'.length
   obtain ⟨o, ho, hc, n, hd⟩ := pl
   exact call_list_seq p (.inr rfl) ho hc hd (fun h' c' kp e => fin its r' hz h' c' kp e) (by simp only [List.size_toArray] <;> omega)
def tyV (K : PySem.W.Frag) (T : String) (x : V) (H : Hp) : Prop := match x with
 | .str _ => T = "str"
 | .int _ => T = "int"
 | .ref p => (T = "list" ∧ ∃ xs, SqL K H p xs) ∨ (T = "tuple" ∧ ∃ o, K.lookup p = some o ∧ o.cls = .type "tuple" ∧ o.dict = none) ∨
     (T = "dict" ∧ ((∃ kvs, H p = some (.dK kvs)) ∨ ∃ kvs, H p = some (.dT kvs))) ∨ (T = "set" ∧ ∃ S n, H p = some (.set S n))
 | _ => False
theorem tyV_is {pins : List (Addr × Obj)} {σ : St} {H : Hp} {s : Shared} {T : String} {x : V} {v : Value} (I : Inv X pins σ H s) (r : RelV x v) (ty : tyV X.K T x H) :
   s.TypeIs v T ∧ ∀ a, v = .ref a → ∃ ob, s.heap.get? a = some ob ∧ ob.dict = none := by
 cases x with
 | str z =>
   obtain ⟨t, rfl⟩ := r
   cases (show T = "str" from ty)
   exact ⟨typeIs_str s z t, fun _ e => nomatch e⟩
 | int i =>
   obtain ⟨t, rfl⟩ := r
   cases (show T = "int" from ty)
   exact ⟨typeIs_int s i t, fun _ e => nomatch e⟩
 | ref p =>
   cases r
   rcases ty with ⟨rfl, xs, hq⟩ | ⟨rfl, o, hk, hc, hd⟩ | ⟨rfl, hk⟩ | ⟨rfl, S, n, hk⟩
   · obtain ⟨its, _, pl, _⟩ := I.list hq
     refine ⟨pl.isList.typeIs, fun a e => ?_⟩
     cases e
     obtain ⟨o, n, e, c, hd, _⟩ := pl
     exact ⟨o, e, hd⟩
   · refine ⟨⟨o, I.kIn p o hk, hc⟩, fun a e => ?_⟩
     cases e
     exact ⟨o, I.kIn _ o hk, hd⟩
   · have z : ∃ o, s.heap.get? p = some o ∧ o.ExactDict := by
       rcases hk with ⟨kvs, hk⟩ | ⟨kvs, hk⟩
       · obtain ⟨_, _, _, _, o, _, _, e, ex, _⟩ := I.hok p _ hk
         exact ⟨o, e, ex⟩
       · obtain ⟨_, _, _, _, o, _, _, e, ex, _⟩ := I.hok p _ hk
         exact ⟨o, e, ex⟩
     obtain ⟨o, e, ex⟩ := z
     refine ⟨⟨o, e, ex.1⟩, fun a e2 => ?_⟩
     cases e2
     exact ⟨o, e, ex.2.1⟩
   · obtain ⟨o, _, _, _, e, ex, _⟩ := I.hok p _ hk
     refine ⟨⟨o, e, ex.1⟩, fun a e2 => ?_⟩
     cases e2
     exact ⟨o, e, ex.2.1⟩
 | _ => exact False.elim ty
def tBM0 (K : PySem.W.Frag) (T : String) (r : V → List V → Hp → VK → Prop) (to : TE) : TE := fun σ H Q => to σ H fun x H1 => tyV K T x H1 ∧ r x [] H1 Q
def tBM (K : PySem.W.Frag) (T : String) (r : V → List V → Hp → VK → Prop) (to : TE) (t : TA) : TE := fun σ H Q => to σ H fun x H1 => tyV K T x H1 ∧ t σ H1 fun xs H2 => r x xs H2 Q
variable {o e : Expr} {es : List Expr} {to : TE} {t : TA} {name : Str} {apos cpos : Pos} {T id : String} {r : V → List V → Hp → VK → Prop}
theorem pe_bm0 (pa : PlainAttrs T) (slot : Slot T name id) (hty : typeOf (.builtin id) = pure (.type "method_descriptor")) (hm : MtR X id r) (ho : PE X o to)
   (hbase : attributeBase o name X.env (eval o X.env) = eval o X.env := by rfl) (hline : (apos.endLine == cpos.line) = true := by rfl) : PE X (.Call (.Attribute o name apos) [] [] cpos) (tBM0 X.K T r to) := by
 intro pins s σ H Q I h
 refine wpAny_Call_method0_late hbase hline (thn (ho pins s σ H _ I h) fun v s1 ⟨x, H1, I1, r1, ty, q1⟩ => ?_)
 obtain ⟨h1, h2⟩ := tyV_is I1 r1 ty
 exact ⟨T, id, pa, slot, hty, h1, h2, Calls.callWith_builtin rfl (PySem.evalArgs_none (hm pins s1 σ H1 x [] v [] Q I1 r1 .nil q1))⟩
theorem pe_bm (pa : PlainAttrs T) (slot : Slot T name id) (hty : typeOf (.builtin id) = pure (.type "method_descriptor")) (hm : MtR X id r) (ho : PE X o to) (ha : PA X (e :: es) t)
   (hbase : attributeBase o name X.env (eval o X.env) = eval o X.env := by rfl)
   (hfew : ((backTo cpos (starEach (e :: es) X.env)).all (fun x => !x.1) && (backToKw cpos (keywordEach [] X.env)).all (fun x => x.1.isSome)
     && decide ((e :: es).length + ([] : List Keyword).length + (if ([] : List Keyword).isEmpty then 0 else 1) < 30)) = true := by rfl)
   (hline : (apos.endLine == cpos.line) = true := by rfl) (hs : starEach (e :: es) X.env = (false, eval e X.env) :: starEach es X.env := by rfl) (hplain : (backTo cpos (starEach es X.env)).any (·.1) = false := by rfl) :
   PE X (.Call (.Attribute o name apos) (e :: es) [] cpos) (tBM X.K T r to t) := by
 intro pins s σ H Q I h
 refine wpAny_Call_method_late hbase hfew hline rfl (thn (ho pins s σ H _ I h) fun v s1 ⟨x, H1, I1, r1, ty, q1⟩ => ?_)
 obtain ⟨h1, h2⟩ := tyV_is I1 r1 ty
 refine ⟨T, id, pa, slot, hty, h1, h2, ?_⟩
 have hA := ha cpos pins s1 σ H1 _ I1 q1
 rw [hs] at hA ⊢
 refine Calls.callWith_builtin (by show (false || (backTo cpos (starEach es X.env)).any (·.1)) = false; rw [hplain] <;> rfl) (Calls.evalArgs_plain ?_)
 exact thn hA fun us s2 ⟨vs, H2, I2, r2, q2⟩ => hm pins s2 σ H2 x vs v us Q I2 r1 r2 q2
/- xs.append(e), list.index on a module's tuple .. are MtR facts of 06m -/
end
end L2
namespace L2
open PySem PySem.Spec PyProof.Rows
def MtM (X : Cx) (id : String) (r : V → List V → Hp → VK → Prop) : Prop :=
 ∀ (pins : List (Addr × Obj)) (s : Shared) (σ : St) (H : Hp) (x : V) (xs : List V) (v : Value) (us : List Value) (Q : VK), Inv X pins σ H s → RelV x v → Vals xs us → r x xs H Q →
   wpAny (model X.prog X.w) X.A (call (.builtin id) (v :: us)) (EP X pins σ Q) X.xe s
theorem Vals.one : ∀ {x : V} {us : List Value}, Vals [x] us → ∃ u, us = [u] ∧ RelV x u
 | _, _, .cons r .nil => ⟨_, rfl, r⟩
theorem Vals.zero : ∀ {us : List Value}, Vals [] us → us = []
 | _, .nil => rfl
theorem Vals.reverse {xs : List V} {us : List Value} (h : Vals xs us) : Vals xs.reverse us.reverse := by
 induction h with
 | nil => exact .nil
 | cons r t ih => rw [List.reverse_cons, List.reverse_cons]; exact Vals.append ih (.cons r .nil)
theorem Vals.rep {xs : List V} {us : List Value} (h : Vals xs us) : ∀ k : Nat, Vals (List.replicate k xs).flatten (List.replicate k us).flatten
 | 0 => .nil
 | k + 1 => by
   rw [List.replicate_succ, List.replicate_succ, List.flatten_cons, List.flatten_cons]
   exact Vals.append h (Vals.rep h k)
theorem foldl_rep (its : List Value) : ∀ (k : Nat) (acc : List Value),
   List.foldl (fun x1 x2 => x1 ++ x2) acc.toArray (List.replicate k its.toArray) = (acc ++ (List.replicate k its).flatten).toArray
 | 0, acc => by simp
 | k + 1, acc => by
   have e : acc.toArray ++ its.toArray = (acc ++ its).toArray := by simp
   have e2 : (acc ++ its) ++ (List.replicate k its).flatten = acc ++ (List.replicate (k + 1) its).flatten := by
     rw [List.replicate_succ, List.flatten_cons, List.append_assoc]
   rw [← e2, ← foldl_rep its k (acc ++ its), ← e, List.replicate_succ, List.foldl_cons]
section
variable {X : Cx} {pins : List (Addr × Obj)} {σ : St} {H : Hp} {s : Shared} {l b : Addr} {xs ys zs : List V}
theorem Inv.lset {its its' : List Value} {n : Nat} {f : Array Value → Array Value} {t' : Nat} (I : Inv X pins σ H s) (hH : H l = some (.lst xs))
   (e : s.heap.get? l = some { cls := .type "list", data := .seq its.toArray n }) (hf : f its.toArray = its'.toArray) (hv : Vals ys its') (hz : ys.length ≤ sizeLine) :
   Inv X pins σ (upd H l (.lst ys)) { s with heap := s.heap.update l (Obj.mapSeq f), toks := t' } := by
 have q := PySem.IsL.update e f
 rw [hf] at q
 refine I.write (x := l) (e := l) (by rw [hH]; exact trivial) (.inl rfl) (fun b' u hb hu => (Heap.get?_update_other s.heap (Obj.mapSeq f) (Ne.symm hb)).trans hu) ⟨_, q⟩ ?_
 exact ⟨hz, its', _, hv, q⟩
theorem Inv.lnew {its : List Value} {t' : Nat} (I : Inv X pins σ H s) (hv : Vals ys its) (hz : ys.length ≤ sizeLine) :
   Inv X pins σ (upd H s.heap.objs.size (.lst ys)) { s with heap := s.heap.push { cls := .type "list", data := .seq its.toArray }, toks := t' } :=
 I.laid (fun _ _ q => Heap.get?_push_of_some _ q) (Nat.le_refl _) ⟨hz, its, 0, hv, Heap.get?_push_size _ rfl⟩
theorem Inv.fresh (I : Inv X pins σ H s) : H s.heap.objs.size = none := I.hok.fresh (Nat.le_refl _)
theorem Inv.lstM (I : Inv X pins σ H s) (hH : H l = some (.lst xs)) : xs.length ≤ sizeLine ∧ ∃ (its : List Value) (n : Nat), Vals xs its ∧ xs.length = its.length ∧ s.heap.get? l = some { cls := .type "list", data := .seq its.toArray n } := by
 obtain ⟨z, its, n, r, e⟩ := I.hok l _ hH
 exact ⟨z, its, n, r, r.length, e⟩
theorem notLongL {n : Nat} (h : n ≤ sizeLine) : Builtin.List.listTooLong n = false := by
 unfold Builtin.List.listTooLong
 exact decide_eq_false (by omega)
end
section
variable {X : Cx}
def rAppend : V → List V → Hp → VK → Prop := fun x vs H Q => ∃ l xs y, x = .ref l ∧ vs = [y] ∧ H l = some (.lst xs) ∧ xs.length < sizeLine ∧ Q .non (upd H l (.lst (xs ++ [y])))
theorem mt_append : MtM X "list.append" rAppend := by
 intro pins s σ H x vs v us Q I rx rv h
 obtain ⟨l, xs, y, rfl, rfl, hH, hz, q⟩ := h
 cases rx
 obtain ⟨u, rfl, ru⟩ := rv.one
 obtain ⟨z, its, n, r, hl, e⟩ := I.lstM hH
 refine call_meets F.slot_list_append ⟨_, e, rfl⟩ F.entry_list_append (F.args_list_append_2 _ _) (PySem.list_append l its.toArray n u (by rw [List.size_toArray]; omega)) ⟨e, ?_⟩
 refine ⟨.non, _, I.lset (its' := its ++ [u]) hH e (by simp) (r.append (.cons ru .nil)) ?_, rfl, q⟩
 rw [List.length_append, List.length_singleton]
 omega
def rExtend : V → List V → Hp → VK → Prop := fun x vs H Q => ∃ l b xs zs, x = .ref l ∧ vs = [.ref b] ∧ H l = some (.lst xs) ∧ H b = some (.lst zs) ∧ xs.length + zs.length ≤ sizeLine ∧ Q .non (upd H l (.lst (xs ++ zs)))
theorem mt_extend : MtM X "list.extend" rExtend := by
 intro pins s σ H x vs v us Q I rx rv h
 obtain ⟨l, b, xs, zs, rfl, rfl, hH, hB, hz, q⟩ := h
 cases rx
 obtain ⟨u, rfl, ru⟩ := rv.one
 cases ru
 obtain ⟨z, its, n, r, hl, e⟩ := I.lstM hH
 obtain ⟨z2, its2, n2, r2, hl2, e2⟩ := I.lstM hB
 have hsz : its.toArray.size + its2.toArray.size ≤ sizeLine := by rw [List.size_toArray, List.size_toArray]; omega
 have hlong : ¬ (!its.toArray.isEmpty && Builtin.List.listTooLong (its.toArray.size + its2.toArray.size)) = true := by
   rw [notLongL hsz, Bool.and_false]
   exact Bool.false_ne_true
 refine call_meets F.slot_list_extend ⟨_, e, rfl⟩ F.entry_list_extend (F.args_list_extend_2 _ _)
   (AutoSeq1.list_extend_list_list_0 l its.toArray n b its2.toArray n2 hlong (by rw [List.size_toArray]; omega) (by omega)) ⟨e, e2, ?_⟩
 refine ⟨.non, _, I.lset (its' := its ++ its2) hH e (by simp) (r.append r2) ?_, rfl, q⟩
 rw [List.length_append]
 omega
def rReverse : V → List V → Hp → VK → Prop := fun x vs H Q => ∃ l xs, x = .ref l ∧ vs = [] ∧ H l = some (.lst xs) ∧ Q .non (upd H l (.lst xs.reverse))
theorem mt_reverse : MtM X "list.reverse" rReverse := by
 intro pins s σ H x vs v us Q I rx rv h
 obtain ⟨l, xs, rfl, rfl, hH, q⟩ := h
 cases rx
 have hus := rv.zero
 subst hus
 obtain ⟨z, its, n, r, hl, e⟩ := I.lstM hH
 refine call_meets F.slot_list_reverse ⟨_, e, rfl⟩ F.entry_list_reverse (F.args_list_reverse_1 _) (AutoSeq1.list_reverse_list_0 l its.toArray n (by rw [List.size_toArray]; omega)) ⟨e, ?_⟩
 refine ⟨.non, _, I.lset (its' := its.reverse) hH e (by simp) r.reverse ?_, rfl, q⟩
 rw [List.length_reverse]
 omega
def rCat : R2 := fun x y H Q => ∃ l b xs zs, x = .ref l ∧ y = .ref b ∧ H l = some (.lst xs) ∧ H b = some (.lst zs) ∧ xs.length + zs.length ≤ sizeLine ∧ ∀ p, H p = none → Q (.ref p) (upd H p (.lst (xs ++ zs)))
theorem op_cat : OpR X (binaryOp .Add) rCat := by
 intro pins s σ H x y v u Q I rx ry h
 obtain ⟨l, b, xs, zs, rfl, rfl, hH, hB, hz, q⟩ := h
 cases rx
 cases ry
 obtain ⟨z, its, n, r, hl, e⟩ := I.lstM hH
 obtain ⟨z2, its2, n2, r2, hl2, e2⟩ := I.lstM hB
 refine PySem.P.add_list e e2 ?_ (by rw [List.size_toArray, List.size_toArray]; omega)
 have ea : its.toArray ++ its2.toArray = (its ++ its2).toArray := by simp
 rw [ea]
 exact ⟨.ref _, _, I.lnew (t' := s.toks) (r.append r2) (by rw [List.length_append]; omega), rfl, q _ I.fresh⟩
def rRep : R2 := fun x y H Q => ∃ l k xs, x = .ref l ∧ y = .int k ∧ H l = some (.lst xs) ∧ -(2 ^ 63) ≤ k ∧ k < 2 ^ 63 ∧ xs.length * k.toNat ≤ sizeLine ∧
 ∀ p, H p = none → Q (.ref p) (upd H p (.lst (List.replicate k.toNat xs).flatten))
theorem len_rep {α : Type} (xs : List α) (k : Nat) : (List.replicate k xs).flatten.length = k * xs.length := by
 induction k with
 | zero => simp
 | succ k ih => rw [List.replicate_succ, List.flatten_cons, List.length_append, ih, Nat.succ_mul, Nat.add_comm]
theorem op_rep : OpR X (binaryOp .Mult) rRep := by
 intro pins s σ H x y v u Q I rx ry h
 obtain ⟨l, k, xs, rfl, rfl, hH, h1, h2, hz, q⟩ := h
 cases rx
 obtain ⟨t, rfl⟩ := ry
 obtain ⟨z, its, n, r, hl, e⟩ := I.lstM hH
 have hlen : its.toArray.size * k.toNat ≤ sizeLine := by rw [List.size_toArray, ← hl]; exact hz
 have hcap : ¬ its.toArray.size * k.toNat > (2 ^ 63 - 1) / 8 := by
   have : (sizeLine : Nat) ≤ (2 ^ 63 - 1) / 8 := by decide
   omega
 have hfit : ¬ (!Builtin.List.listFitsIndex k) = true := by
   rw [fitsIndex_both h1 h2]
   exact Bool.false_ne_true
 have hlong : ¬ Builtin.List.listTooLong (its.toArray.size * k.toNat) = true := by
   rw [notLongL hlen]
   exact Bool.false_ne_true
 have hnew : List.foldl (fun x1 x2 => x1 ++ x2) #[] (List.replicate (if its.toArray.isEmpty = true then 0 else k.toNat) its.toArray) = (List.replicate k.toNat its).flatten.toArray := by
   have f0 : ∀ m : Nat, List.foldl (fun x1 x2 => x1 ++ x2) #[] (List.replicate m its.toArray) = (List.replicate m its).flatten.toArray := fun m => by
     have := foldl_rep its m []
     rw [List.nil_append] at this
     exact this
   rw [f0]
   cases its with
   | nil => simp
   | cons a r' => rw [if_neg (by simp)]
 refine wpAny_binaryOp_repeat_ref (T := "list") (U := "int") (by decide) ⟨_, e, rfl⟩ (fun s' => typeIs_int s' k t) noFill_list_mul F.fills_int_mul F.slot_int_rmul repeat_list F.slot_int_index.lookup
   (call_meets F.slot_int_rmul (typeIs_int s k t) F.entry_int_rmul (F.args_int_rmul_2 _ _) (int___rmul___int_list k t l its.toArray n)
     ⟨e, rfl, ⟨_, e, rfl⟩, call_meets F.slot_list_mul ⟨_, e, rfl⟩ F.entry_list_mul (F.args_list_mul_2 _ _) (AutoListH.list___mul___list_int_3 l its.toArray n k t hfit hcap hlong) ⟨e, ?_⟩⟩)
 rw [hnew]
 exact ⟨.ref _, _, I.lnew (t' := s.toks) (r.rep k.toNat) (by rw [len_rep, Nat.mul_comm]; exact hz), rfl, q _ I.fresh⟩
end
end L2
namespace L2
open PySem PySem.Spec PyProof.Rows
theorem Vals.ints : ∀ {ns : List Int} {us : List Value}, Vals (ns.map V.int) us → IntsAre us ns
 | [], us, h => by
   rw [List.map_nil] at h
   cases h
   exact IntsAre.nil
 | n :: ns, us, h => by
   rw [List.map_cons] at h
   cases h with
   | cons r t =>
     obtain ⟨k, rfl⟩ := r
     exact IntsAre.cons n k (Vals.ints t)
theorem Vals.bls : ∀ {bs : List Bool} {us : List Value}, Vals (bs.map V.bl) us → us = bs.map Value.bool
 | [], us, h => by
   rw [List.map_nil] at h
   cases h
   rfl
 | b :: bs, us, h => by
   rw [List.map_cons] at h
   cases h with
   | cons r t =>
     cases r
     rw [Vals.bls t, List.map_cons]
theorem Vals.ref1 {a : Addr} {us : List Value} (r : Vals [V.ref a] us) : us = [Value.ref a] := by
 cases r with
 | cons r t =>
   cases t
   cases r
   rfl
section
variable {prog : Program} {w : World} {A : Around} {E : Value → Shared → Prop} {s : Shared} {l : Addr} {its : List Value} {ns : List Int} {Q : Value → Shared → Prop}
theorem sum_raw (hh : A.handled = none) (hl : s.heap.IsList l its.toArray) (hi : IntsAre its ns)
   (h : ∀ h' tk t', (∀ b o, s.heap.get? b = some o → h'.get? b = some o) → Q (.int ns.sum t') { s with heap := h', toks := tk }) : wpAny (model prog w) A (call (.builtin "sum") [.ref l]) Q E s := by
 obtain ⟨xs, e⟩ := hi.allInts.items
 have hn : numsOf (intItems xs).toList = ns := by rw [← e]; exact hi.numsOf
 rw [nums_intItems] at hn
 rw [e] at hl
 refine PySem.sum_intListG hh hl fun h' tk t' hk => ?_
 have := h h' tk t' hk
 rw [preSum_eq, List.take_of_length_le (by simp), hn]; exact this
end
section
variable {X : Cx}
def rSum (K : PySem.W.Frag) : List V → Hp → VK → Prop := fun vs H Q => ∃ (a : Addr) (ns : List Int), vs = [V.ref a] ∧ SqL K H a (ns.map V.int) ∧ Q (.int ns.sum) H
theorem cr_sum (hc : X.calm = true) : CallR X (.builtin "sum") (rSum X.K) := by
 intro pins s σ H vs us Q I r h
 obtain ⟨a, ns, rfl, hs, q⟩ := h
 obtain ⟨its, rv, hl, _⟩ := I.list hs
 rw [Vals.ref1 r]
 exact sum_raw (I.ok.hd hc) hl.isList rv.ints fun h' tk t' hk => ⟨.int _, H, I.kept hk, ⟨_, rfl⟩, q⟩
end
theorem iter_any {prog : Program} {w : World} {A : Around} {E : Value → Shared → Prop} {s : Shared} {l : Addr} {items : Array Value} {Q : Value → Shared → Prop} (hl : s.heap.IsList l items)
   (h : ∀ s₂ : Shared, s₂ = { s with heap := s.heap.push { cls := .type "list_iterator", data := .fields #[.ref l, .int 0 0] } } →
     (s₂.heap.IsListIter s.heap.objs.size l 0 ∧ s₂.heap.IsList l items) → l ≠ s.heap.objs.size → Q (.ref s.heap.objs.size) s₂) : wpAny (model prog w) A (pyIter (.ref l)) Q E s := by
 have hlt : l < s.heap.objs.size := by obtain ⟨_, e, _⟩ := hl; exact Heap.lt_size e
 exact wpAny_pyIter_list hl (h _ rfl ⟨⟨_, Heap.get?_push_size _ rfl, rfl, rfl⟩, hl.push _⟩ (Nat.ne_of_lt hlt))
theorem truth_bools {prog : Program} {w : World} {A : Around} {bs : List Bool} {its : List Value} (e : its = bs.map Value.bool) :
   TruthOf prog w A (fun i v => its.toArray[i]? = some v) (fun i => bs.getD i false) := fun i v s Q E hv hq => by
 have hv' : its[i]? = some v := by simpa using hv
 rw [e, List.getElem?_map] at hv'
 obtain ⟨b, hb, rfl⟩ := Option.map_eq_some_iff.mp hv'
 have hg : bs.getD i false = b := by rw [List.getD_eq_getElem?_getD, hb] <;> rfl
 have hq' : Q (bs.getD i false) s := hq
 rw [hg] at hq'
 exact wpAny_truthy_bool hq'
theorem all_range : ∀ bs : List Bool, (List.range bs.length).all (fun i => bs.getD i false) = bs.all id
 | [] => rfl
 | b :: bs => by
   rw [List.length_cons, List.range_succ_eq_map, List.all_cons, List.all_map, List.all_cons, ← all_range bs]
   all_goals rfl
section
variable {X : Cx}
def rAll (K : PySem.W.Frag) : List V → Hp → VK → Prop := fun vs H Q => ∃ (a : Addr) (bs : List Bool), vs = [V.ref a] ∧ SqL K H a (bs.map V.bl) ∧ Q (.bl (bs.all id)) H
theorem cr_all (hc : X.calm = true) : CallR X (.builtin "all") (rAll X.K) := by
 intro pins s σ H vs us Q I r h
 obtain ⟨a, bs, rfl, hs, q⟩ := h
 obtain ⟨its, rv, hl, _⟩ := I.list hs
 rw [Vals.ref1 r]
 have hb := rv.bls
 refine call_all_walk (iter_any hl.isList fun s₂ e2 st hne => ?_)
 subst e2
 refine ⟨_, _, _, _, _, _, _, rfl, Walks.list (A := X.A.in1) (I.ok.hd hc) _ a hne its.toArray, st, truth_bools hb, fun h' tk hk => ?_⟩
 refine ⟨.bl _, H, I.kept fun b o eo => hk b o (fun hmem => ?_) (Heap.get?_push_of_some _ eo), ?_, q⟩
 · rcases List.mem_cons.mp hmem with e1 | hmem
   · exact absurd (e1 ▸ Heap.lt_size eo) (Nat.lt_irrefl _)
   · cases hmem
 · show Value.bool _ = Value.bool _
   rw [← all_range, hb, List.size_toArray, List.length_map]
end
mutual
inductive Dp (K : PySem.W.Frag) (H : Hp) : V → PyData → Prop
 | non : Dp K H .non .none
 | bl (b : Bool) : Dp K H (.bl b) (.bool b)
 | int (i : Int) : Dp K H (.int i) (.int i)
 | str (x : Str) : Dp K H (.str x) (.str x)
 | lst {a : Addr} {xs : List V} {ds : List PyData} : SqL K H a xs → DpAll K H xs ds → Dp K H (.ref a) (.list ds)
 | tup {a : Addr} {xs : List V} {ds : List PyData} : SqT K H a xs → DpAll K H xs ds → Dp K H (.ref a) (.tuple ds)
inductive DpAll (K : PySem.W.Frag) (H : Hp) : List V → List PyData → Prop
 | nil : DpAll K H [] []
 | cons {v : V} {vs : List V} {d : PyData} {ds : List PyData} : Dp K H v d → DpAll K H vs ds → DpAll K H (v :: vs) (d :: ds)
end
section
variable {X : Cx} {pins : List (Addr × Obj)} {σ : St} {H : Hp} {s : Shared}
mutual
theorem Dp.reads (I : Inv X pins σ H s) : ∀ (d : PyData) (v : V) (u : Value), Dp X.K H v d → RelV v u → ∃ as, Reads s.heap u d as
 | .none, _, _, h, r => by
   cases h
   cases r
   exact ⟨_, Reads.none⟩
 | .bool b, _, _, h, r => by
   cases h
   cases r
   exact ⟨_, Reads.bool b⟩
 | .int i, _, _, h, r => by
   cases h
   obtain ⟨t, rfl⟩ := r
   exact ⟨_, Reads.int i t⟩
 | .str x, _, _, h, r => by
   cases h
   obtain ⟨t, rfl⟩ := r
   exact ⟨_, Reads.str x t⟩
 | .list ds, _, _, h, r => by
   cases h with
   | lst hs ha =>
     cases r
     obtain ⟨its, rv, ⟨o, n, ho, hc, _, hd⟩, _⟩ := I.list hs
     obtain ⟨as, hr⟩ := Dp.readsAll I ds _ its ha rv
     exact ⟨_, Reads.list ho hc hd hr⟩
 | .tuple ds, _, _, h, r => by
   cases h with
   | tup hs ha =>
     cases r
     obtain ⟨its, rv, ⟨o, ho, hc, n, hd⟩, _⟩ := I.tuple hs
     obtain ⟨as, hr⟩ := Dp.readsAll I ds _ its ha rv
     exact ⟨_, Reads.tuple ho hc hd hr⟩
 | .dict _, _, _, h, _ => by cases h
theorem Dp.readsAll (I : Inv X pins σ H s) : ∀ (ds : List PyData) (vs : List V) (us : List Value), DpAll X.K H vs ds → Vals vs us → ∃ as, ReadsAll s.heap us ds as
 | [], _, _, h, r => by
   cases h
   cases r
   exact ⟨_, ReadsAll.nil⟩
 | d :: ds, _, _, h, r => by
   cases h with
   | cons h1 h2 =>
     cases r with
     | cons r1 r2 =>
       obtain ⟨as, q1⟩ := Dp.reads I d _ _ h1 r1
       obtain ⟨bs, q2⟩ := Dp.readsAll I ds _ _ h2 r2
       exact ⟨_, ReadsAll.cons q1 q2⟩
end
end
section
variable {X : Cx}
def rNeD (K : PySem.W.Frag) : R2 := fun x y H Q => ∃ d e, Dp K H x d ∧ Dp K H y e ∧ SeqAt.shaped d = true ∧ SeqAt.shaped e = true ∧ Q (.bl (!PyData.eqv d e)) H
theorem op_neD (hu : X.A.units + 64 < cLine) : OpR X (compareOp .NotEq) (rNeD X.K) := by
 intro pins s σ H x y v u Q I rx ry h
 obtain ⟨d, e, hd, he, sd, se, q⟩ := h
 obtain ⟨as, r1⟩ := Dp.reads I d x v hd rx
 obtain ⟨bs, r2⟩ := Dp.reads I e y u he ry
 exact SeqAt.compareNe_shaped r1 r2 sd se hu ⟨.bl _, H, I, rfl, q⟩
end
end L2
namespace L2
open PySem PySem.Spec PyProof.Rows
abbrev CellAt (h : Heap) (c : Addr) (v : Option Value) : Prop := h.IsCell c v
def relS (scope sc : Scope) : Scope :=
 { scope with names := scope.names.map fun (n, k) => if (k == .free && sc.kind == .function && sc.names.lookup n == some .cell) then (n, .cell) else (n, k) }
def cloFrom (cells : List (Str × Addr)) : List (Str × NameKind) → List (Str × Addr) → List (Str × Addr)
 | [], acc => acc
 | (n, k) :: r, acc => if k == .free then cloFrom cells r ((n, (cells.lookup n).getD 0) :: acc) else cloFrom cells r acc
theorem closure_loop (env : Env) (f : Str × NameKind → List (Str × Addr) → Sem (ForInStep (List (Str × Addr))))
   (hf : ∀ n k c, f (n, k) c = if k == .free then (do let a ← cellOf env n; pure (.yield ((n, a) :: c))) else pure (.yield c)) :
   ∀ (names : List (Str × NameKind)) (acc : List (Str × Addr)), (∀ y ∈ names, y.2 = .free → ∃ c, env.cells.lookup y.1 = some c) → forIn names acc f = pure (cloFrom env.cells names acc)
 | [], acc, _ => by rw [List.forIn_nil]; rfl
 | (n, k) :: r, acc, h => by
   rw [List.forIn_cons, hf]
   have ih := fun acc => closure_loop env f hf r acc fun y hy => h y (List.mem_cons_of_mem _ hy)
   unfold cloFrom
   by_cases hk : (k == NameKind.free) = true
   · rw [if_pos hk, if_pos hk]
     obtain ⟨c, hc⟩ := h (n, k) List.mem_cons_self (by simpa using hk)
     have e : cellOf env n = pure c := by unfold cellOf; rw [hc]
     rw [e]
     have e2 : (env.cells.lookup n).getD 0 = c := by rw [hc]; rfl
     rw [e2]
     exact ih _
   · rw [if_neg hk, if_neg hk]
     exact ih _
theorem closure_ok {scope : Scope} {env : Env} (h : ∀ y ∈ scope.names, y.2 = .free → ∃ c, env.cells.lookup y.1 = some c) : closureFor scope env = pure (cloFrom env.cells scope.names []) := by
 simp only [closureFor]
 rw [closure_loop env _ (fun n k c => rfl) scope.names [] h]
 rfl
theorem mem_lookup {α : Type} : ∀ {l : List (Str × α)} {n : Str} {c : α}, (n, c) ∈ l → ∃ c', l.lookup n = some c'
 | (k, v) :: r, n, c, h => by
   rw [List.lookup_cons]
   cases hb : n == k with
   | true => exact ⟨_, rfl⟩
   | false =>
     rcases List.mem_cons.mp h with e | h
     · cases e; simp at hb
     · exact mem_lookup h
theorem cloFrom_mem {cells : List (Str × Addr)} : ∀ {names : List (Str × NameKind)} {acc : List (Str × Addr)} {n : Str} {c : Addr}, (n, c) ∈ cloFrom cells names acc → (n, c) ∈ acc ∨ ((n, .free) ∈ names ∧ c = (cells.lookup n).getD 0)
 | [], _, _, _, h => .inl h
 | (m, k) :: r, acc, n, c, h => by
   unfold cloFrom at h
   split at h
   · rename_i hk
     have hk : k = .free := by simpa using hk
     rcases cloFrom_mem h with h | ⟨h1, h2⟩
     · rcases List.mem_cons.mp h with e | h
       · cases e; exact .inr ⟨hk ▸ List.mem_cons_self, rfl⟩
       · exact .inl h
     · exact .inr ⟨List.mem_cons_of_mem _ h1, h2⟩
   · rcases cloFrom_mem h with h | ⟨h1, h2⟩
     · exact .inl h
     · exact .inr ⟨List.mem_cons_of_mem _ h1, h2⟩
theorem cloFrom_acc {cells : List (Str × Addr)} : ∀ {names : List (Str × NameKind)} {acc : List (Str × Addr)} {p : Str × Addr}, p ∈ acc → p ∈ cloFrom cells names acc
 | [], _, _, h => h
 | (m, k) :: r, acc, p, h => by
   unfold cloFrom
   split
   · exact cloFrom_acc (List.mem_cons_of_mem _ h)
   · exact cloFrom_acc h
theorem cloFrom_has {cells : List (Str × Addr)} : ∀ {names : List (Str × NameKind)} {acc : List (Str × Addr)} {n : Str}, (n, .free) ∈ names → (n, (cells.lookup n).getD 0) ∈ cloFrom cells names acc
 | (m, k) :: r, acc, n, h => by
   unfold cloFrom
   rcases List.mem_cons.mp h with e | h
   · cases e
     exact cloFrom_acc List.mem_cons_self
   · split
     · exact cloFrom_has h
     · exact cloFrom_has h
theorem cells_mem : ∀ {names : List (Str × NameKind)} {h : Heap} {acc : List (Str × Addr)} {x : Str} {c : Addr}, (x, c) ∈ cellsFrom h.objs.size names acc →
   (x, c) ∈ acc ∨ ((x, .cell) ∈ names ∧ h.objs.size ≤ c ∧ CellAt (pushCells h names) c none)
 | [], _, _, _, _, h => .inl h
 | (n, k) :: r, h, acc, x, c, hm => by
   unfold cellsFrom at hm
   unfold pushCells
   split at hm
   · rename_i hk
     rw [if_pos hk]
     have hk : k = .cell := by simpa using hk
     rw [← Heap.size_push h { cls := .type "cell", data := .cell none }] at hm
     rcases cells_mem hm with hm | ⟨h1, h2, h3⟩
     · rcases List.mem_cons.mp hm with e | hm
       · cases e
         exact .inr ⟨hk ▸ List.mem_cons_self, Nat.le_refl _, _, pushCells_keeps r _ _ _ (Heap.get?_push_size _ rfl), rfl⟩
       · exact .inl hm
     · rw [Heap.size_push] at h2
       exact .inr ⟨List.mem_cons_of_mem _ h1, Nat.le_of_succ_le h2, h3⟩
   · rename_i hk
     rw [if_neg hk]
     rcases cells_mem hm with hm | ⟨h1, h2, h3⟩
     · exact .inl hm
     · exact .inr ⟨List.mem_cons_of_mem _ h1, h2, h3⟩
theorem cells_acc : ∀ {names : List (Str × NameKind)} {n : Nat} {acc : List (Str × Addr)} {p : Str × Addr}, p ∈ acc → p ∈ cellsFrom n names acc
 | [], _, _, _, h => h
 | (m, k) :: r, n, acc, p, h => by
   unfold cellsFrom
   split
   · exact cells_acc (List.mem_cons_of_mem _ h)
   · exact cells_acc h
theorem cells_has : ∀ {names : List (Str × NameKind)} {n : Nat} {acc : List (Str × Addr)} {x : Str}, (x, .cell) ∈ names → ∃ c, (x, c) ∈ cellsFrom n names acc
 | (m, k) :: r, n, acc, x, h => by
   unfold cellsFrom
   rcases List.mem_cons.mp h with e | h
   · cases e
     exact ⟨n, cells_acc List.mem_cons_self⟩
   · split
     · exact cells_has h
     · exact cells_has h
theorem cells_inj : ∀ {names : List (Str × NameKind)} {h : Heap} {acc : List (Str × Addr)} {x y : Str} {c : Addr}, (∀ p ∈ acc, p.2 < h.objs.size) → (∀ x y c, (x, c) ∈ acc → (y, c) ∈ acc → x = y) →
   (x, c) ∈ cellsFrom h.objs.size names acc → (y, c) ∈ cellsFrom h.objs.size names acc → x = y
 | [], _, _, _, _, _, _, hi, h1, h2 => hi _ _ _ h1 h2
 | (n, k) :: r, h, acc, x, y, c, hl, hi, h1, h2 => by
   unfold cellsFrom at h1 h2
   split at h1
   · rename_i hk
     rw [if_pos hk] at h2
     rw [← Heap.size_push h { cls := .type "cell", data := .cell none }] at h1 h2
     refine cells_inj (h := h.push _) (fun p hp => ?_) (fun x y c a b => ?_) h1 h2
     · rw [Heap.size_push]
       rcases List.mem_cons.mp hp with rfl | hp
       · exact Nat.lt_succ_self _
       · exact Nat.lt_succ_of_lt (hl p hp)
     · rcases List.mem_cons.mp a with e | a <;> rcases List.mem_cons.mp b with e' | b
       · cases e; cases e'; rfl
       · cases e; exact absurd (hl _ b) (Nat.lt_irrefl _)
       · cases e'; exact absurd (hl _ a) (Nat.lt_irrefl _)
       · exact hi _ _ _ a b
   · rename_i hk
     rw [if_neg hk] at h2
     exact cells_inj hl hi h1 h2
theorem newEnv_comp {M : Model} {A : Around} {E : Value → Shared → Prop} {s : Shared} {scope : Scope} {globals : Addr} {closure : List (Str × Addr)} {qual : Str} {func : Option Addr} {code : Value} {around : Env} {builtins : Addr} {Q : Env → Shared → Prop}
   (h : Q (newEnv scope s.heap.objs.size globals (cellsFrom (s.heap.objs.size + 1) scope.names closure) qual func code (some around) builtins)
     { s with heap := pushCells (s.heap.push { cls := .type "dict", data := .dict #[] }) scope.names }) :
   wpAny M A (newFunctionEnv scope globals closure [] qual func code (some around) builtins) Q E s := by
 simp only [newFunctionEnv, Option.isSome_some, if_true]
 refine wpAny_bind (wpAny_alloc ?_)
 refine wpAny_bind (wpAny_layCells _ (fun n k c => rfl) scope.names closure _ _ ?_)
 rw [show ({ s with heap := s.heap.push { cls := .type "dict", data := .dict #[] } } : Shared).heap.objs.size = s.heap.objs.size + 1 from Heap.size_push ..]
 rw [List.forIn_nil]
 exact wpAny_bind (wpAny_pure (wpAny_pure h))
theorem lookup_relS {sc : Scope} : ∀ {names : List (Str × NameKind)} {x : Str} {k : NameKind},
   (names.map fun (n, k) => if (k == NameKind.free && sc.kind == .function && sc.names.lookup n == some .cell) then (n, NameKind.cell) else (n, k)).lookup x = some k →
   ∃ k', names.lookup x = some k' ∧ (k = k' ∨ (k' = .free ∧ k = .cell))
 | [], _, _, h => by simp at h
 | (n, k₀) :: r, x, k, h => by
   have ih := @lookup_relS sc r x k
   have h' : List.lookup x ((if (k₀ == NameKind.free && sc.kind == .function && sc.names.lookup n == some .cell) = true then (n, NameKind.cell) else (n, k₀)) :: (r.map _)) = some k := h
   cases hx : x == n with
   | true =>
     simp only [List.lookup_cons, hx]
     by_cases hc : (k₀ == NameKind.free && sc.kind == .function && sc.names.lookup n == some .cell) = true
     · rw [if_pos hc] at h'
       simp only [List.lookup_cons, hx] at h'
       cases h'
       simp only [Bool.and_eq_true, beq_iff_eq] at hc
       exact ⟨k₀, rfl, .inr ⟨hc.1.1, rfl⟩⟩
     · rw [if_neg hc] at h'
       simp only [List.lookup_cons, hx] at h'
       cases h'
       exact ⟨_, rfl, .inl rfl⟩
   | false =>
     simp only [List.lookup_cons, hx]
     by_cases hc : (k₀ == NameKind.free && sc.kind == .function && sc.names.lookup n == some .cell) = true
     · rw [if_pos hc] at h'
       simp only [List.lookup_cons, hx] at h'
       exact ih h'
     · rw [if_neg hc] at h'
       simp only [List.lookup_cons, hx] at h'
       exact ih h'
structure BlkOk (N : List Str) (sc scope : Scope) (own : List (Str × Nat)) : Prop where
 kind : scope.kind = .function
 uniq : ∀ y ∈ scope.names, scope.names.lookup y.1 = some y.2
 ix : ∀ p ∈ own, N[p.2]? = some p.1
 free : ∀ y ∈ scope.names, y.2 = .free → sc.names.lookup y.1 = some .cell ∨ sc.names.lookup y.1 = some .free
 own : ∀ y ∈ scope.names, y.2 = .local ∨ y.2 = .cell → y.1 ∈ own.map (·.1) ∨ y.1 ∉ N
def wipe (σ : St) : List Nat → St
 | [] => σ
 | v :: vs => (wipe σ vs).set v none
theorem wipe_length (σ : St) : ∀ vs : List Nat, (wipe σ vs).length = σ.length
 | [] => rfl
 | v :: vs => by unfold wipe; rw [List.length_set, wipe_length σ vs]
theorem wipe_some {σ : St} {i : Nat} {x : V} : ∀ {vs : List Nat}, (wipe σ vs)[i]? = some (some x) → σ[i]? = some (some x) ∧ i ∉ vs
 | [], h => ⟨h, by simp⟩
 | v :: vs, h => by
   unfold wipe at h
   by_cases hi : v = i
   · subst hi
     by_cases hv : v < (wipe σ vs).length
     · rw [List.getElem?_set_self hv] at h; cases h
     · rw [List.getElem?_eq_none (by simpa using hv)] at h; cases h
   · rw [List.getElem?_set_ne hi] at h
     obtain ⟨h1, h2⟩ := wipe_some h
     exact ⟨h1, by simp only [List.mem_cons, not_or]; exact ⟨fun e => hi e.symm, h2⟩⟩
abbrev Cx.blk (X : Cx) (s : Shared) (H : Hp) (scope : Scope) (cenv : Env) (fp : List Addr) : Cx := { X with s_0 := s, H_0 := H, env := cenv, outer := X.stack, ex := fp, fn := fun x => scope.names.lookup x == some .cell, pn := [], xe := fun _ _ => False }
section
variable {X : Cx} {pins : List (Addr × Obj)} {σ : St} {H : Hp} {s : Shared}
theorem block_start {scope : Scope} {own : List (Str × Nat)} {fp : List Addr} (I : Inv X pins σ H s) (ok : BlkOk X.N X.env.scope scope own) (hN : X.N.Nodup) (hfp : ∀ b ∈ fp, FpOk X pins H b ∧ b < s.heap.objs.size) :
   Inv (X.blk s H scope (compEnvC scope (cellsFrom (s.heap.objs.size + 1) scope.names (cloFrom X.env.cells scope.names [])) s.heap.objs.size X.env) fp) [] (wipe σ (own.map (·.2))) H { s with heap := pushCells (s.heap.push { cls := .type "dict", data := .dict #[] }) scope.names } := by
 have hfree : ∀ y ∈ scope.names, y.2 = .free → ∃ c, X.env.cells.lookup y.1 = some c := fun y hy e => by
   rcases ok.free y hy e with k | k
   · exact I.ok.has _ (.inl k)
   · exact I.ok.has _ (.inr k)
 generalize hcenv : compEnvC scope (cellsFrom (s.heap.objs.size + 1) scope.names (cloFrom X.env.cells scope.names [])) s.heap.objs.size X.env = cenv
 have kp : ∀ b o, s.heap.get? b = some o → (pushCells (s.heap.push { cls := .type "dict", data := .dict #[] }) scope.names).get? b = some o := fun b o e => pushCells_keeps _ _ _ _ (Heap.get?_push_of_some _ e)
 have hL : cenv.locals = s.heap.objs.size := by rw [← hcenv]; rfl
 have hcl : cenv.cells = cellsFrom (s.heap.objs.size + 1) scope.names (cloFrom X.env.cells scope.names []) := by rw [← hcenv]; rfl
 have hsc : cenv.scope = relS scope X.env.scope := by rw [← hcenv]; rfl
 rw [← Heap.size_push s.heap { cls := .type "dict", data := .dict #[] }] at hcl
 have cm : ∀ {y c}, (y, c) ∈ cloFrom X.env.cells scope.names [] → X.env.cells.lookup y = some c ∧ c < s.heap.objs.size := fun {y c} hm => by
   rcases cloFrom_mem hm with hm | ⟨h1, rfl⟩
   · cases hm
   · obtain ⟨c, hc⟩ := hfree _ h1 rfl
     rw [hc]
     obtain ⟨w, z⟩ := I.cell _ _ hc
     exact ⟨rfl, z.lt⟩
 have mem : ∀ {y c}, cenv.cells.lookup y = some c → (X.env.cells.lookup y = some c ∧ c < s.heap.objs.size) ∨ (s.heap.objs.size + 1 ≤ c ∧ CellAt (pushCells (s.heap.push { cls := .type "dict", data := .dict #[] }) scope.names) c none) := fun {y c} e => by
   rw [hcl] at e
   rcases cells_mem (PySem.mem_of_lookup e) with hm | ⟨_, h2, h3⟩
   · exact .inl (cm hm)
   · rw [Heap.size_push] at h2; exact .inr ⟨h2, h3⟩
 have look : ∀ {y}, scope.names.lookup y = some .free → ∃ c, cenv.cells.lookup y = some c ∧ X.env.cells.lookup y = some c := fun {y} hl => by
   have hy : (y, NameKind.free) ∈ scope.names := PySem.mem_of_lookup hl
   obtain ⟨c', e'⟩ := mem_lookup (cells_acc (names := scope.names) (n := (s.heap.push { cls := .type "dict", data := .dict #[] }).objs.size) (cloFrom_has (cells := X.env.cells) (acc := []) hy))
   rw [← hcl] at e'
   refine ⟨c', e', ?_⟩
   rw [hcl] at e'
   rcases cells_mem (PySem.mem_of_lookup e') with hm | ⟨h1, _, _⟩
   · exact (cm hm).1
   · have := ok.uniq _ h1
     rw [hl] at this; cases this
 have okB : (X.blk s H scope cenv fp).Ok := by
   refine ⟨I.ok.mod, by show cenv.scope.kind = _; rw [hsc]; exact ok.kind, by show cenv.globals = _; rw [← hcenv]; exact I.ok.glob, by show cenv.builtins = _; rw [← hcenv]; exact I.ok.blt, by show s.heap.objs.size ≤ cenv.locals; rw [hL]; exact Nat.le_refl _,
     fun y z c e1 e2 => ?_, fun y hy => ?_, fun y c z e => ?_, I.ok.hd, I.ok.frames, .inl rfl, fun b hb => ⟨?_, fun y c e z => ?_⟩, I.bs, Nat.le_trans I.ok.bsz I.sz, fun b o e hb => ?_, fun b hb z => ?_, I.stack, I.stkFree⟩
   · have e1 : cenv.cells.lookup y = some c := e1
     have e2 : cenv.cells.lookup z = some c := e2
     rw [hcl] at e1 e2
     refine cells_inj (fun p hp => ?_) (fun y z c a b => I.ok.inj y z c (cm a).1 (cm b).1) (PySem.mem_of_lookup e1) (PySem.mem_of_lookup e2)
     rw [Heap.size_push]
     exact Nat.lt_succ_of_lt (cm (y := p.1) (c := p.2) hp).2
   · show ∃ c, cenv.cells.lookup y = some c
     have key : ∀ k, cenv.kindOf y = some k → (k = .cell ∨ k = .free) → ∃ c, cenv.cells.lookup y = some c := fun k hk hk' => by
       unfold Env.kindOf at hk
       rw [hsc] at hk
       obtain ⟨k', e, r⟩ := lookup_relS hk
       have : k' = .cell ∨ k' = .free := by
         rcases r with rfl | ⟨rfl, _⟩
         · exact hk'
         · exact .inr rfl
       rcases this with rfl | rfl
       · obtain ⟨c, hm⟩ := cells_has (n := (s.heap.push { cls := .type "dict", data := .dict #[] }).objs.size) (acc := cloFrom X.env.cells scope.names []) (PySem.mem_of_lookup e)
         obtain ⟨c', e'⟩ := mem_lookup hm
         exact ⟨c', by rw [hcl]; exact e'⟩
       · obtain ⟨c, h1, _⟩ := look e
         exact ⟨c, h1⟩
     rcases hy with hy | hy
     · exact key _ hy (.inl rfl)
     · exact key _ hy (.inr rfl)
   · have z : (scope.names.lookup y == some NameKind.cell) = true := z
     have z : scope.names.lookup y = some .cell := by simpa using z
     have e : cenv.cells.lookup y = some c := e
     rw [hcl] at e
     rcases cells_mem (PySem.mem_of_lookup e) with hm | ⟨_, h2, _⟩
     · rcases cloFrom_mem hm with hm | ⟨h1, _⟩
       · cases hm
       · have q := ok.uniq _ h1
         rw [z] at q; cases q
     · rw [Heap.size_push] at h2
       exact Nat.le_of_succ_le h2
   · show b ≠ cenv.locals
     rw [hL]; exact Nat.ne_of_lt (hfp b hb).2
   · have e : cenv.cells.lookup y = some c := e
     rcases mem e with ⟨h1, _⟩ | ⟨h1, _⟩
     · exact (hfp b hb).1.2.2.2.2.1 y c h1 z
     · have h2 : s.heap.objs.size + 1 ≤ b := by rw [← z]; exact h1
       exact absurd (Nat.lt_of_lt_of_le (hfp b hb).2 (Nat.le_of_succ_le h2)) (Nat.lt_irrefl _)
   · rcases (hfp b hb).1.2.2.2.1 with z | z
     · exact I.ok.noex b o e z
     · exact absurd (Nat.lt_of_lt_of_le (Heap.lt_size e) (Nat.le_trans I.ok.bsz z)) (Nat.lt_irrefl _)
   · rcases List.mem_cons.mp (I.stkSub b z) with z | z
     · exact (hfp b hb).1.2.1 z
     · exact (hfp b hb).1.2.2.1 z
 refine ⟨okB, rfl, I.bare, Un.kept kp, ⟨fun _ => none, ?_, fun i y av e1 e2 e3 => ?_⟩, fun y c e => ?_, ?_, fun y c e => ?_, fun p hp => ?_, I.hok.kept kp, by rw [wipe_length]; exact I.len⟩
 · show Heap.Ns _ cenv.locals _
   rw [hL]
   exact Heap.Ns.keeps (Heap.Ns.new ..) fun b o e => pushCells_keeps _ _ _ _ e
 · obtain ⟨e2, hne⟩ := wipe_some e2
   have hfr : scope.names.lookup y = some .free ∧ (cenv.kindOf y = some .cell ∨ cenv.kindOf y = some .free) := by
     have key : ∀ k, cenv.scope.names.lookup y = some k → k = .local ∨ k = .cell ∨ k = .free → scope.names.lookup y = some .free ∧ (cenv.kindOf y = some .cell ∨ cenv.kindOf y = some .free) := fun k hk hk' => by
       have hk0 := hk
       rw [hsc] at hk
       obtain ⟨k', e, r⟩ := lookup_relS hk
       have no : ¬ (k' = .local ∨ k' = .cell) := fun hh => by
         rcases ok.own _ (PySem.mem_of_lookup e) hh with e' | e'
         · obtain ⟨p, hp, hpy⟩ := List.mem_map.mp e'
           have e3 := ok.ix p hp
           have : p.1 = y := hpy
           rw [this] at e3
           exact hne (List.mem_map.mpr ⟨p, hp, nodup_ix hN e3 e1⟩)
         · exact e' (List.mem_of_getElem? e1)
       rcases r with rfl | ⟨rfl, rfl⟩
       · rcases hk' with rfl | rfl | rfl
         · exact absurd (.inl rfl) no
         · exact absurd (.inr rfl) no
         · exact ⟨e, .inr hk0⟩
       · exact ⟨e, .inl hk0⟩
     have e3 : Vis cenv.scope y := e3
     rcases e3 with e3 | e3 | e3
     · exact key _ e3 (.inl rfl)
     · exact key _ e3 (.inr (.inl rfl))
     · exact key _ e3 (.inr (.inr rfl))
   obtain ⟨m, hn, hl⟩ := I.loc
   have hvis : Vis X.env.scope y := (ok.free _ (PySem.mem_of_lookup hfr.1) rfl).elim (fun k => .inr (.inl k)) (fun k => .inr (.inr k))
   obtain ⟨w, r, q⟩ := hl i y av e1 e2 hvis
   refine ⟨w, r, .inr ⟨hfr.2, ?_⟩⟩
   obtain ⟨c, h1, h2⟩ := look hfr.1
   rcases q with ⟨k, _⟩ | ⟨_, c', e', z⟩
   · have k : X.env.scope.names.lookup y = some .local := k
     rcases ok.free _ (PySem.mem_of_lookup hfr.1) rfl with k' | k' <;> rw [show X.env.scope.names.lookup y = _ from k'] at k <;> cases k
   · rw [h2] at e'; cases e'
     exact ⟨c, h1, z.keeps kp⟩
 · have e : cenv.cells.lookup y = some c := e
   rcases mem e with ⟨h1, _⟩ | ⟨_, z⟩
   · obtain ⟨w, z⟩ := I.cell y c h1
     exact ⟨w, z.keeps kp⟩
   · exact ⟨_, z⟩
 · show H cenv.locals = none
   rw [hL]; exact I.hok.fresh (Nat.le_refl _)
 · have e : cenv.cells.lookup y = some c := e
   rcases mem e with ⟨h1, _⟩ | ⟨h1, _⟩
   · exact I.freeC y c h1
   · exact I.hok.fresh (Nat.le_of_succ_le h1)
 · exact absurd (show p ∈ ([] : List (Addr × Obj)) ++ [] from hp) (by simp)
theorem app_ok {E : Value → Shared → Prop} {D : Addr} {xs : List V} {y : V} {v : Value} {Q : Value → Shared → Prop} (I : Inv X pins σ H s) (hD : H D = some (.lst xs)) (hz : xs.length < sizeLine) (r : RelV y v)
   (h : ∀ s', Inv X pins σ (upd H D (.lst (xs ++ [y]))) s' → Q .none s') : wpAny (model X.prog X.w) X.A (call (.builtin "list.append") [.ref D, v]) Q E s := by
 obtain ⟨hz', its, n, ri, e⟩ := I.hok D _ hD
 have hl := ri.length
 refine append_at (hsz := by rw [List.size_toArray]; omega) e fun h' sb ho' => ?_
 refine h { s with heap := h' } (I.write (t' := s.toks) (by rw [hD]; trivial) (.inl rfl) (fun b u hb q => (sb.2 b hb).trans q) ⟨_, ho'⟩ ⟨by rw [List.length_append]; exact hz, its ++ [v], n + 1, ri.append (.cons r .nil), ?_⟩)
 rw [ho']
 simp
def PTs (X : Cx) (ifs : List Expr) (t : TT) : Prop :=
 ∀ (pins : List (Addr × Obj)) (s : Shared) (σ : St) (H : Hp) (Q : Bool → Hp → Prop), Inv X pins σ H s → t σ H Q →
   wpAny (model X.prog X.w) X.A (forIn ifs true fun c r => if r = true then do let ok ← isTrue c X.env (eval c X.env); pure (ForInStep.yield ok) else pure (ForInStep.yield r)) (TP X pins σ Q) X.xe s
def tYes : TT := fun _ H Q => Q true H
theorem pts_nil : PTs X [] tYes := fun _ _ _ H _ I h => wpAny_tests_nil ⟨H, I, h⟩
theorem pts_one {c : Expr} {t : TT} (h : PT X c t) : PTs X [c] t := fun pins s σ H Q I hw => wpAny_tests_one (h pins s σ H Q I hw)
end
theorem thnF {α : Type} {t : Sem α} {Q Q' : α → Shared → Prop} {M : Model} {A : Around} {E : Value → Shared → Prop} {s : Shared} (h : wpAny M A t Q (fun _ _ => False) s) (hQ : ∀ a s, Q a s → Q' a s) : wpAny M A t Q' E s := wpAny_mono h hQ fun _ _ z => False.elim z
theorem compLoop_any {prog : Program} {w : World} {A : Around} {R : Result → Shared → Prop} {s : Shared} {elt target iter : Expr} {ifs : List Expr} {scope : Scope} {pos : Pos} {it acc : Value} {env : Env} (I : Nat → Shared → Prop)
   (turn : ∀ n s, I n s → wpAny (model prog w) A (pyNext it) (fun r s₁ => match r with
     | none => R (.ok .next) s₁
     | some v => wpAny (model prog w) A (letOwnedTupleGo target it v) (fun _ s₁' => wpAny (model prog w) A (assign target env v) (fun _ s₂ =>
         wpAny (model prog w) A (forIn ifs true fun c r => if r = true then do let ok ← isTrue c env (eval c env); pure (ForInStep.yield ok) else pure (ForInStep.yield r)) (fun ok s₃ =>
           if ok = true then wpAny (model prog w) A (eval elt env) (fun x s₄ =>
             wpAny (model prog w) A (call (.builtin "list.append") [acc, x]) (fun _ s₅ => ∃ m, m < n ∧ I m s₅) (notedBy (model prog w) A env fun e s' => R (.error e) s') s₄) (notedBy (model prog w) A env fun e s' => R (.error e) s') s₃
           else ∃ m, m < n ∧ I m s₃) (notedBy (model prog w) A env fun e s' => R (.error e) s') s₂) (notedBy (model prog w) A env fun e s' => R (.error e) s') s₁') (notedBy (model prog w) A env fun e s' => R (.error e) s') s₁) (notedBy (model prog w) A env fun e s' => R (.error e) s') s)
   (n : Nat) (h : I n s) :
   codeAny (model prog w) A (.compLoop (.ListComp elt [⟨target, iter, ifs, 0⟩] scope pos) 0 it acc env) R s := by
 refine codeAny_loop rfl I (fun n s hI => ?_) n h
 show wpAny _ A ((compTurn (.ListComp elt [⟨target, iter, ifs, 0⟩] scope pos) 0 it acc env).onRaise (fun x => do noteFrame x env; theTreesLotGoes x)) _ _ s
 refine wpAny_noted ?_
 rw [compTurn_list]
 refine wpAny_bind (wpAny_standAt (wpAny_bind (wpAny_mono (turn n s hI) (fun r s₁ h₁ => ?_) fun _ _ h' => h')))
 cases r with
 | none => exact wpAny_pure h₁
 | some v =>
   refine wpAny_bind (wpAny_mono h₁ (fun _ s₁' h₁' => ?_) fun _ _ h' => h')
   refine wpAny_bind (wpAny_mono h₁' (fun _ s₂ h₂ => wpAny_bind (wpAny_mono h₂ (fun ok s₃ h₃ => ?_) fun _ _ h' => h')) fun _ _ h' => h')
   cases ok with
   | false => exact wpAny_pure ⟨rfl, h₃⟩
   | true =>
     exact wpAny_bind (wpAny_bind (wpAny_mono h₃ (fun x s₄ h₄ => wpAny_bind (wpAny_mono h₄ (fun _ s₅ h₅ => wpAny_pure (wpAny_pure ⟨rfl, h₅⟩)) fun _ _ h' => h')) fun _ _ h' => h'))
section
variable {X : Cx}
def tLc (wi : TI) (g : TG) (tt : TT) (te : TE) (vs : List Nat) : TE := fun σ H Q => wi σ H fun J H1 => ∀ D, H1 D = none → ∃ W : Nat → Nat → Hp → Prop, (∃ m, W 0 m (upd H1 D (.lst []))) ∧ ∀ i m H, W i m H →
 (J.stop i H ∧ Q (.ref D) H) ∨ (J.go i H ∧ ∃ Nx : Hp → Prop, (∀ H', Nx H' → ∃ m', m' < m ∧ W (i + 1) m' H') ∧ ∀ x H', J.yld i H x H' → g x (wipe σ vs) H' fun σ2 H2 => wipe σ2 vs = wipe σ vs ∧ tt σ2 H2 fun b H3 =>
   if b = true then te σ2 H3 fun y H4 => ∃ acc, H4 D = some (.lst acc) ∧ acc.length < sizeLine ∧ Nx (upd H4 D (.lst (acc ++ [y]))) else Nx H3)
theorem lc_core {pins : List (Addr × Obj)} {s : Shared} {σ : St} {H : Hp} {Q : VK} {elt tg iter : Expr} {ifs : List Expr} {scope : Scope} {own : List (Str × Nat)} {pos pos' : Pos} {wi : TI} {g : TG} {tt : TT} {te : TE} {use : Option (Value → Sem Unit)} {Qf : Value → Shared → Prop}
   (hc : X.calm = true) (hN : X.N.Nodup) (I : Inv X pins σ H s) (hi : PI X tg iter wi) (ok : BlkOk X.N X.env.scope scope own)
   (hg : ∀ (s : Shared) (H : Hp) (C : Addr) (cl : List (Str × Addr)) (fp : List Addr), PG (X.blk s H scope (compEnvC scope cl C X.env) fp) tg g) (ht : ∀ (s : Shared) (H : Hp) (C : Addr) (cl : List (Str × Addr)) (fp : List Addr), PTs (X.blk s H scope (compEnvC scope cl C X.env) fp) ifs tt)
   (he : ∀ (s : Shared) (H : Hp) (C : Addr) (cl : List (Str × Addr)) (fp : List Addr), PE (X.blk s H scope (compEnvC scope cl C X.env) fp) elt te) (hs : ∀ x, foldedSetIterable iter X.env x = pure x)
   (h : tLc wi g tt te (own.map (·.2)) σ H Q)
   (hRR : ∀ D C s' m H', Inv X pins σ H' s' → Q (.ref D) H' → s'.heap.Ns C m → FpOk X pins H' C → compPost (model X.prog X.w) X.A X.xe use Qf (.ref D) C (.ok .next) s') :
   wpAny (model X.prog X.w) X.A (comprehension (.ListComp elt [⟨tg, iter, ifs, 0⟩] scope pos) scope X.env pos' (newList []) false (eval iter X.env) use) Qf X.xe s := by
 have hfree : ∀ y ∈ scope.names, y.2 = .free → ∃ c, X.env.cells.lookup y.1 = some c := fun y hy e => by
   rcases ok.free y hy e with k | k
   · exact I.ok.has _ (.inl k)
   · exact I.ok.has _ (.inr k)
 refine wpAny_comprehension_free (use := use) rfl hs (closure_ok hfree) ok.kind (fun y hy e => by rw [ok.uniq y hy, e])
   (thn (hi pins s σ H _ I h) fun xv s1 hx => thn hx fun itv s2 h2 => ?_)
 obtain ⟨it, fp, tn, J, H2, e, I2, T, st2, f2, q⟩ := h2
 subst e
 refine wpAny_newObj_type (newEnv_comp ?_) (by show 0 ≤ sizeLine; decide)
 generalize hD : s2.heap.objs.size = D
 have hDn : H2 D = none := I2.hok.fresh (Nat.le_of_eq hD)
 obtain ⟨W, ⟨m0, w0⟩, turn⟩ := q D hDn
 generalize hs3 : ({ s2 with heap := s2.heap.push { cls := .type "list", data := .seq ([] : List Value).toArray } } : Shared) = s3
 have I3 : Inv X pins σ (upd H2 D (.lst [])) s3 := by
   rw [← hs3]
   refine I2.laid (t' := s2.toks) (fun b o e => Heap.get?_push_of_some _ e) (Nat.le_of_eq hD) ⟨Nat.zero_le _, [], 0, .nil, ?_⟩
   rw [← hD]
   exact Heap.get?_push_size _ rfl
 have h3 : s3.heap = s2.heap.push { cls := .type "list", data := .seq ([] : List Value).toArray } := by rw [← hs3]
 have sz : ∀ b ∈ fp, b < s2.heap.objs.size := fun b hb => by
   obtain ⟨o, e, _⟩ := T.obj _ _ st2 b hb
   exact Heap.lt_size e
 have f3 : ∀ b ∈ fp, FpOk X pins (upd H2 D (.lst [])) b ∧ b < s3.heap.objs.size := fun b hb => by
   have hlt := sz b hb
   refine ⟨⟨?_, (f2 b hb).2⟩, by rw [h3, Heap.size_push]; exact Nat.lt_succ_of_lt hlt⟩
   rw [upd_ne (by rw [← hD]; exact Nat.ne_of_lt hlt)]
   exact (f2 b hb).1
 have st3 : tn 0 s3.heap := T.keep _ _ _ st2 fun b _ o e => by rw [h3]; exact Heap.get?_push_of_some _ e
 have I4 := block_start I3 ok hN f3
 have pg := hg s3 (upd H2 D (.lst [])) s3.heap.objs.size (cellsFrom (s3.heap.objs.size + 1) scope.names (cloFrom X.env.cells scope.names [])) fp
 have pt := ht s3 (upd H2 D (.lst [])) s3.heap.objs.size (cellsFrom (s3.heap.objs.size + 1) scope.names (cloFrom X.env.cells scope.names [])) fp
 have pe := he s3 (upd H2 D (.lst [])) s3.heap.objs.size (cellsFrom (s3.heap.objs.size + 1) scope.names (cloFrom X.env.cells scope.names [])) fp
 show codeAny _ _ (.compStart (.ListComp elt [⟨tg, iter, ifs, 0⟩] scope pos) 0 (.ref it) (.ref D) (compEnvC scope (cellsFrom (s3.heap.objs.size + 1) scope.names (cloFrom X.env.cells scope.names [])) s3.heap.objs.size X.env)) (compPost (model X.prog X.w) X.A X.xe use Qf (.ref D) s3.heap.objs.size) { s3 with heap := pushCells (s3.heap.push { cls := .type "dict", data := .dict #[] }) scope.names }
 have nfp : ∀ b ∈ fp, (upd H2 D (.lst [])) b = none := fun b hb => (f3 b hb).1.1
 generalize hce : compEnvC scope (cellsFrom (s3.heap.objs.size + 1) scope.names (cloFrom X.env.cells scope.names [])) s3.heap.objs.size X.env = ce at I4 pg pt pe ⊢
 have cL : ce.locals = s3.heap.objs.size := by subst hce; rfl
 generalize hH3 : upd H2 D (.lst []) = H3 at I3 I4 pg pt pe w0 nfp f3
 generalize hs4 : ({ s3 with heap := pushCells (s3.heap.push { cls := .type "dict", data := .dict #[] }) scope.names } : Shared) = s4 at I4 ⊢
 have st4 : tn 0 s4.heap := T.keep _ _ _ st3 fun b _ o e => by rw [← hs4]; exact pushCells_keeps _ _ _ _ (Heap.get?_push_of_some _ e)
 have stat : ∀ {σ' : St} {H' : Hp} {s' : Shared}, Inv (X.blk s3 H3 scope ce fp) [] σ' H' s' → (∀ b ∈ fp, H' b = none) → ∀ b ∈ fp, FpOk (X.blk s3 H3 scope ce fp) [] H' b := fun {σ' H' s'} I' hn b hb =>
   ⟨hn b hb, (I'.ok.exf b hb).1, I'.ok.exfs b hb, .inl hb, fun x c e => (I'.ok.exf b hb).2 x c e, fun p hp => absurd (show p ∈ ([] : List (Addr × Obj)) ++ [] from hp) (by simp)⟩
 have loop : codeAny (model X.prog X.w) X.A (.compLoop (.ListComp elt [⟨tg, iter, ifs, 0⟩] scope pos) 0 (.ref it) (.ref D) ce) (compPost (model X.prog X.w) X.A X.xe use Qf (.ref D) s3.heap.objs.size) s4 := by
   refine compLoop_any (fun n s' => ∃ i H', Inv (X.blk s3 H3 scope ce fp) [] (wipe σ (own.map (·.2))) H' s' ∧ tn i s'.heap ∧ (∀ b ∈ fp, H' b = none) ∧ W i n H') ?_ m0 ⟨0, H3, I4, st4, nfp, w0⟩
   rintro n s5 ⟨i, H5, I5, st5, n5, w5⟩
   rcases turn i n H5 w5 with ⟨stop, qq⟩ | ⟨go, Nx, hNx, step⟩
   · have td := T.done (X.blk s3 H3 scope ce fp) rfl rfl rfl hc i [] s5 _ H5 (fun _ _ => False) I5 (stat I5 n5) st5 stop
     refine thnF td fun r s6 ⟨hr, I6⟩ => ?_
     subst hr
     have I7 : Inv X pins σ H5 s6 := I3.call' (ch := fp) I6.os I6.base I6.hok I6.bare fun b hb => ⟨(f3 b hb).1.2.2.2.1, (f3 b hb).1.2.1, (f3 b hb).1.2.2.2.2.1, (f3 b hb).1.2.2.2.2.2⟩
     have nC : H5 s3.heap.objs.size = none := by
       have z : H5 ce.locals = none := I6.free
       rw [cL] at z
       exact z
     obtain ⟨m, hn, _⟩ := I6.loc
     have hn : s6.heap.Ns ce.locals m := hn
     rw [cL] at hn
     exact hRR D s3.heap.objs.size s6 m H5 I7 qq hn (I3.fpOk (Nat.le_refl _) nC)
   · have ti := T.item (X.blk s3 H3 scope ce fp) rfl rfl rfl hc i [] s5 _ H5 (fun _ _ => False) I5 (stat I5 n5) st5 go
     refine thnF ti fun r s6 ⟨u, hr, h6⟩ => ?_
     subst hr
     refine thnF h6 fun _ s7 ⟨x, H7, I7, r7, y7, st7, n7⟩ => ?_
     have I7' := I7.pinned (stat I7 n7) (T.obj _ _ st7)
     refine thnF (pg _ s7 _ H7 x u _ I7' r7 (step x H7 y7)) fun _ s8 ⟨σ8, H8, I8, hw8, q8⟩ => ?_
     refine thnF (pt _ s8 σ8 H8 _ I8 q8) fun b s9 ⟨H9, I9, q9⟩ => ?_
     have fin : ∀ {s' : Shared} {H' : Hp}, Inv (X.blk s3 H3 scope ce fp) ([] ++ pinsAt fp s7.heap) σ8 H' s' → Nx H' → ∃ m, m < n ∧ ∃ i H', Inv (X.blk s3 H3 scope ce fp) [] (wipe σ (own.map (·.2))) H' s' ∧ tn i s'.heap ∧ (∀ b ∈ fp, H' b = none) ∧ W i m H' := fun {s' H'} I' nx => by
       obtain ⟨m', hm, w'⟩ := hNx H' nx
       have pin' : ∀ b ∈ fp, ∀ o, s7.heap.get? b = some o → s'.heap.get? b = some o ∧ H' b = none := fun b hb o e =>
         let z := I'.pin (b, o) (List.mem_append_right _ (List.mem_append_right _ (mem_pinsAt hb e)))
         ⟨z.1, z.2.1⟩
       have hl : (wipe σ (own.map (·.2))).length = σ8.length := by rw [← hw8, wipe_length]
       refine ⟨m', hm, i + 1, H', (I'.unpinned (pins := [])).weak hl (fun j v e => ?_), T.keep _ _ _ st7 fun b hb o e => (pin' b hb o e).1, fun b hb => ?_, w'⟩
       · rw [← hw8] at e
         exact (wipe_some e).1
       · obtain ⟨o, e, _⟩ := T.obj _ _ st7 b hb
         exact (pin' b hb o e).2
     cases b with
     | false =>
       simp only [Bool.false_eq_true, if_false] at q9 ⊢
       exact fin I9 q9
     | true =>
       simp only [if_true] at q9 ⊢
       refine thnF (pe _ s9 σ8 H9 _ I9 q9) fun z s10 ⟨yv, H10, I10, r10, acc, hD10, hz10, nx⟩ => ?_
       exact app_ok (X := X.blk s3 H3 scope ce fp) I10 hD10 hz10 r10 fun s11 I11 => fin I11 nx
 exact codeAny_compStart_list loop (T.self X.A 0 _ _ _ st4 loop)
theorem pe_lc {elt tg iter : Expr} {ifs : List Expr} {scope : Scope} {own : List (Str × Nat)} {pos : Pos} {wi : TI} {g : TG} {tt : TT} {te : TE} (hc : X.calm = true) (hN : X.N.Nodup) (hi : PI X tg iter wi) (ok : BlkOk X.N X.env.scope scope own)
   (hg : ∀ (s : Shared) (H : Hp) (C : Addr) (cl : List (Str × Addr)) (fp : List Addr), PG (X.blk s H scope (compEnvC scope cl C X.env) fp) tg g) (ht : ∀ (s : Shared) (H : Hp) (C : Addr) (cl : List (Str × Addr)) (fp : List Addr), PTs (X.blk s H scope (compEnvC scope cl C X.env) fp) ifs tt)
   (he : ∀ (s : Shared) (H : Hp) (C : Addr) (cl : List (Str × Addr)) (fp : List Addr), PE (X.blk s H scope (compEnvC scope cl C X.env) fp) elt te) (hs : ∀ x, foldedSetIterable iter X.env x = pure x := by intro _; rfl) :
   PE X (.ListComp elt [⟨tg, iter, ifs, 0⟩] scope pos) (tLc wi g tt te (own.map (·.2))) := by
 intro pins s σ H Q I h
 rw [eval_ListComp]
 refine lc_core hc hN I hi ok hg ht he hs h fun D C s' m H' I' q hn f => ⟨m, hn, fun h'' sb => ?_⟩
 obtain ⟨f0, f1, f2, f3, f4, f5⟩ := f
 exact ⟨.ref D, H', I'.turned (t' := s'.toks) (fun b o hb e => (sb.2 b hb).trans e) f0 f1 f3 f4 f5, rfl, q⟩
end
theorem lc_range {lo : Int} {n : Nat} {g : TG} {tt : TT} {te : TE} {vs : List Nat} {σ : St} {H1 : Hp} {D : Addr} {Qd : Hp → Prop} (Pv : Nat → Hp → Prop) (h0 : Pv 0 (upd H1 D (.lst [])))
   (hs : ∀ i H, i < n → Pv i H → g (.int (lo + i)) (wipe σ vs) H fun σ2 H2 => wipe σ2 vs = wipe σ vs ∧ tt σ2 H2 fun b H3 =>
     if b = true then te σ2 H3 fun y H4 => ∃ acc, H4 D = some (.lst acc) ∧ acc.length < sizeLine ∧ Pv (i + 1) (upd H4 D (.lst (acc ++ [y]))) else Pv (i + 1) H3) (hd : ∀ H, Pv n H → Qd H) :
   ∃ W : Nat → Nat → Hp → Prop, (∃ m, W 0 m (upd H1 D (.lst []))) ∧ ∀ i m H, W i m H →
     ((Itr lo n).stop i H ∧ Qd H) ∨ ((Itr lo n).go i H ∧ ∃ Nx : Hp → Prop, (∀ H', Nx H' → ∃ m', m' < m ∧ W (i + 1) m' H') ∧ ∀ x H', (Itr lo n).yld i H x H' → g x (wipe σ vs) H' fun σ2 H2 => wipe σ2 vs = wipe σ vs ∧ tt σ2 H2 fun b H3 =>
       if b = true then te σ2 H3 fun y H4 => ∃ acc, H4 D = some (.lst acc) ∧ acc.length < sizeLine ∧ Nx (upd H4 D (.lst (acc ++ [y]))) else Nx H3) := by
 refine ⟨fun i m H => m = n - i ∧ i ≤ n ∧ Pv i H, ⟨n, by simp, Nat.zero_le _, h0⟩, ?_⟩
 rintro i m H ⟨rfl, hi, p⟩
 by_cases hlt : i < n
 · refine .inr ⟨hlt, Pv (i + 1), fun H' p' => ⟨n - (i + 1), by omega, rfl, hlt, p'⟩, fun x H' y => ?_⟩
   obtain ⟨e, y⟩ := y
   subst e y
   exact hs i _ hlt p
 · have e : i = n := by omega
   subst e
   exact .inl ⟨Nat.le_refl _, hd H p⟩
theorem lc_list {K : PySem.W.Frag} {a : Addr} {xs : List V} {g : TG} {tt : TT} {te : TE} {vs : List Nat} {σ : St} {H1 : Hp} {D : Addr} {Qd : Hp → Prop} (Pv : Nat → Hp → Prop) (h0 : Pv 0 (upd H1 D (.lst []))) (hl : ∀ i H, i ≤ xs.length → Pv i H → SqL K H a xs)
   (hs : ∀ i x H, xs[i]? = some x → Pv i H → g x (wipe σ vs) H fun σ2 H2 => wipe σ2 vs = wipe σ vs ∧ tt σ2 H2 fun b H3 =>
     if b = true then te σ2 H3 fun y H4 => ∃ acc, H4 D = some (.lst acc) ∧ acc.length < sizeLine ∧ Pv (i + 1) (upd H4 D (.lst (acc ++ [y]))) else Pv (i + 1) H3) (hd : ∀ H, Pv xs.length H → Qd H) :
   ∃ W : Nat → Nat → Hp → Prop, (∃ m, W 0 m (upd H1 D (.lst []))) ∧ ∀ i m H, W i m H →
     ((Itl K a).stop i H ∧ Qd H) ∨ ((Itl K a).go i H ∧ ∃ Nx : Hp → Prop, (∀ H', Nx H' → ∃ m', m' < m ∧ W (i + 1) m' H') ∧ ∀ x H', (Itl K a).yld i H x H' → g x (wipe σ vs) H' fun σ2 H2 => wipe σ2 vs = wipe σ vs ∧ tt σ2 H2 fun b H3 =>
       if b = true then te σ2 H3 fun y H4 => ∃ acc, H4 D = some (.lst acc) ∧ acc.length < sizeLine ∧ Nx (upd H4 D (.lst (acc ++ [y]))) else Nx H3) := by
 refine ⟨fun i m H => m = xs.length - i ∧ i ≤ xs.length ∧ Pv i H, ⟨xs.length, by simp, Nat.zero_le _, h0⟩, ?_⟩
 rintro i m H ⟨rfl, hi, p⟩
 have q := hl i H hi p
 by_cases hlt : i < xs.length
 · refine .inr ⟨⟨xs, xs[i], q, by simp [hlt]⟩, Pv (i + 1), fun H' p' => ⟨xs.length - (i + 1), by omega, rfl, hlt, p'⟩, fun x H' y => ?_⟩
   obtain ⟨e, y⟩ := y
   subst e
   exact hs i x _ (y xs q) p
 · have e : i = xs.length := by omega
   subst e
   exact .inl ⟨⟨xs, q, Nat.le_refl _⟩, hd H p⟩
def blkC (N : List Str) (sc scope : Scope) (own : List (Str × Nat)) : Bool :=
 (match scope.kind with | .function => true | _ => false) && (scope.names.all fun y => decide (scope.names.lookup y.1 = some y.2)) && (own.all fun p => decide (N[p.2]? = some p.1)) &&
   (scope.names.all fun y => match y.2 with
     | .free => (match sc.names.lookup y.1 with | some .cell => true | some .free => true | _ => false)
     | .local => decide (y.1 ∈ own.map (·.1)) || decide (y.1 ∉ N)
     | .cell => decide (y.1 ∈ own.map (·.1)) || decide (y.1 ∉ N)
     | _ => true)
theorem blkOk_by {N : List Str} {sc scope : Scope} {own : List (Str × Nat)} (h : blkC N sc scope own = true) : BlkOk N sc scope own := by
 unfold blkC at h
 simp only [Bool.and_eq_true, List.all_eq_true, decide_eq_true_eq] at h
 obtain ⟨⟨⟨h1, h2⟩, h3⟩, h4⟩ := h
 refine ⟨?_, h2, h3, fun y hy e => ?_, fun y hy e => ?_⟩
 · split at h1
   · assumption
   · cases h1
 · have q := h4 y hy
   simp only [e] at q
   split at q <;> first | exact .inl (by assumption) | exact .inr (by assumption) | cases q
 · have q := h4 y hy
   rcases e with e | e <;> (simp only [e, Bool.or_eq_true, decide_eq_true_eq] at q; exact q)
end L2
namespace L2
open PySem PySem.Spec PyProof.Rows
section
variable {κ : Type} [DecidableEq κ]
def valV (kvs : List (κ × V)) (k : κ) : Option V := (kvs.find? fun kv => decide (kv.1 = k)).map (·.2)
def putK (kvs : List (κ × V)) (k : κ) (v : V) : List (κ × V) :=
 if (kvs.any fun kv => decide (kv.1 = k)) = true then kvs.map (fun kv => if kv.1 = k then (kv.1, v) else kv) else kvs ++ [(k, v)]
theorem valV_pos {p : κ × V} {r : List (κ × V)} {k : κ} (e : p.1 = k) : valV (p :: r) k = some p.2 := by simp [valV, List.find?_cons, e]
theorem valV_neg {p : κ × V} {r : List (κ × V)} {k : κ} (e : ¬ p.1 = k) : valV (p :: r) k = valV r k := by simp [valV, List.find?_cons, e]
theorem valV_any (k : κ) : ∀ kvs : List (κ × V), (kvs.any fun kv => decide (kv.1 = k)) = (valV kvs k).isSome
 | [] => rfl
 | p :: r => by
   rw [List.any_cons]
   by_cases e : p.1 = k
   · simp only [valV_pos e, decide_eq_true e, Bool.true_or, Option.isSome_some]
   · rw [valV_neg e, decide_eq_false e, Bool.false_or]; exact valV_any k r
theorem valV_map (k j : κ) (y : V) : ∀ kvs : List (κ × V), valV (kvs.map fun kv => if kv.1 = k then (kv.1, y) else kv) j = (valV kvs j).map fun x => if j = k then y else x
 | [] => rfl
 | p :: r => by
   have ih := valV_map k j y r
   rw [List.map_cons]
   by_cases h : p.1 = k
   · rw [if_pos h]
     by_cases e : p.1 = j
     · rw [valV_pos (p := (p.1, y)) e, valV_pos e, Option.map_some, if_pos (e.symm.trans h)]
     · rw [valV_neg (p := (p.1, y)) e, valV_neg e, ih]
   · rw [if_neg h]
     by_cases e : p.1 = j
     · rw [valV_pos (p := p) e, valV_pos e, Option.map_some, if_neg (fun z => h (e.trans z))]
     · rw [valV_neg (p := p) e, valV_neg e, ih]
theorem valV_snoc (k j : κ) (y : V) : ∀ kvs : List (κ × V), valV kvs k = none → valV (kvs ++ [(k, y)]) j = if j = k then some y else valV kvs j
 | [], _ => by
   by_cases e : k = j
   · rw [if_pos e.symm]; exact valV_pos (p := (k, y)) e
   · rw [if_neg (fun z => e z.symm)]; exact valV_neg (p := (k, y)) e
 | p :: r, hn => by
   rw [List.cons_append]
   have hk : ¬ p.1 = k := fun z => by rw [valV_pos z] at hn; cases hn
   rw [valV_neg hk] at hn
   have ih := valV_snoc k j y r hn
   by_cases e : p.1 = j
   · rw [valV_pos e, valV_pos e, if_neg (fun z => hk (e.trans z))]
   · rw [valV_neg e, valV_neg e, ih]
theorem valV_put (kvs : List (κ × V)) (k j : κ) (y : V) : valV (putK kvs k y) j = if j = k then some y else valV kvs j := by
 unfold putK
 by_cases a : (kvs.any fun kv => decide (kv.1 = k)) = true
 · rw [if_pos a, valV_map]
   rw [valV_any] at a
   by_cases e : j = k
   · obtain ⟨x, hx⟩ := Option.isSome_iff_exists.mp a
     rw [if_pos e, e, hx, Option.map_some, if_pos rfl]
   · rw [if_neg e]
     cases valV kvs j with
     | none => rfl
     | some x => rw [Option.map_some, if_neg e]
 · rw [if_neg a]
   refine valV_snoc k j y kvs ?_
   rw [valV_any] at a
   cases q : valV kvs k with
   | none => rfl
   | some x => rw [q] at a; exact (a rfl).elim
theorem length_putK (kvs : List (κ × V)) (k : κ) (v : V) : (putK kvs k v).length ≤ kvs.length + 1 := by
 unfold putK
 split
 · rw [List.length_map]; omega
 · rw [List.length_append, List.length_cons, List.length_nil]; omega
theorem RelO.isSome_eq {o : Option V} {u : Option Value} (r : RelO o u) : o.isSome = u.isSome := by
 cases o with
 | none => cases u with
   | none => rfl
   | some _ => exact (show False from r).elim
 | some _ => cases u with
   | none => exact (show False from r).elim
   | some _ => rfl
theorem RelO.getD {o : Option V} {u : Option Value} {d : V} {d' : Value} (r : RelO o u) (rd : RelV d d') : RelV (o.getD d) (u.getD d') := by
 cases o with
 | none => cases u with
   | none => exact rd
   | some _ => exact (show False from r).elim
 | some _ => cases u with
   | none => exact (show False from r).elim
   | some _ => exact r
theorem KV.val {kvs : List (κ × V)} {vs : List (κ × Value)} (r : KV kvs vs) (k : κ) : RelO (valV kvs k) (valueAt vs k) := by
 unfold KV at r
 induction r with
 | nil => exact True.intro
 | @cons p q ps qs h t ih =>
   obtain ⟨h1, h2⟩ := h
   by_cases e : p.1 = k
   · have e' : q.1 = k := h1.symm.trans e
     have b : valueAt (q :: qs) k = some q.2 := by simp [valueAt, List.find?_cons, e']
     rw [valV_pos e, b]; exact h2
   · have e' : ¬ q.1 = k := fun z => e (h1.trans z)
     have b : valueAt (q :: qs) k = valueAt qs k := by simp [valueAt, List.find?_cons, e']
     rw [valV_neg e, b]; exact ih
theorem KV.any {kvs : List (κ × V)} {vs : List (κ × Value)} (r : KV kvs vs) (k : κ) : (kvs.any fun kv => decide (kv.1 = k)) = vs.any fun kv => decide (kv.1 = k) := by
 unfold KV at r
 induction r with
 | nil => rfl
 | cons h t ih => rw [List.any_cons, List.any_cons, ih, h.1]
theorem KV.repl {kvs : List (κ × V)} {vs : List (κ × Value)} (r : KV kvs vs) (k : κ) {y : V} {u : Value} (ry : RelV y u) :
   KV (kvs.map fun kv => if kv.1 = k then (kv.1, y) else kv) (vs.map fun kv => if kv.1 = k then (kv.1, u) else kv) := by
 unfold KV at r ⊢
 induction r with
 | nil => exact .nil
 | @cons p q ps qs h t ih =>
   rw [List.map_cons, List.map_cons]
   refine .cons ?_ ih
   obtain ⟨h1, h2⟩ := h
   by_cases e : p.1 = k
   · rw [if_pos e, if_pos (h1.symm.trans e)]; exact ⟨h1, ry⟩
   · rw [if_neg e, if_neg (fun z => e (h1.trans z))]; exact ⟨h1, h2⟩
theorem KV.put {kvs : List (κ × V)} {vs : List (κ × Value)} (r : KV kvs vs) (k : κ) {y : V} {u : Value} (ry : RelV y u) : KV (putK kvs k y) (stored vs k u) := by
 unfold putK stored
 rw [r.any k]
 by_cases e : (vs.any fun kv => decide (kv.1 = k)) = true
 · rw [if_pos e, if_pos e]; exact r.repl k ry
 · rw [if_neg e, if_neg e]; exact Paired.snoc r ⟨rfl, ry⟩
theorem KV.length {kvs : List (κ × V)} {vs : List (κ × Value)} (r : KV kvs vs) : kvs.length = vs.length := Paired.length r
end
theorem kV_is {P : Program} {w : World} {k : Key} {u : Value} (r : RelV (kV k) u) : (mixKind P w).is k u = true := by
 cases k with
 | inl i => obtain ⟨t, e⟩ := (show ∃ t, u = Value.int i t from r); subst e; exact mixKind_int P w i t
 | inr x => obtain ⟨t, e⟩ := (show ∃ t, u = Value.str x t from r); subst e; exact mixKind_str P w x t
theorem items_are {P : Program} {w : World} : ∀ {ks : List Key} {us : List Value}, Vals (ks.map kV) us → ItemsAre (mixKind P w) ks us
 | [], _, r => by rw [List.map_nil] at r; cases r; exact .nil
 | k :: ks, _, r => by
   rw [List.map_cons] at r
   cases r with
   | cons h t => exact .cons (kV_is h) (items_are t)
abbrev KT (H : Hp) : List (List Key × V) → List (List Key × Addr × Value) → Prop := Paired fun p q => p.1 = q.1 ∧ H q.2.1 = some (.tup (p.1.map kV)) ∧ RelV p.2 q.2.2
theorem KT.val {H : Hp} {kvs : List (List Key × V)} {xs : List (List Key × Addr × Value)} (r : KT H kvs xs) (k : List Key) : RelO (valV kvs k) ((atKey xs k).map (·.2)) := by
 induction r with
 | nil => exact True.intro
 | @cons p q ps qs h t ih =>
   obtain ⟨h1, _, h2⟩ := h
   by_cases e : p.1 = k
   · have e' : q.1 = k := h1.symm.trans e
     have b : atKey (q :: qs) k = some q.2 := by simp [atKey, List.find?_cons, e']
     rw [valV_pos e, b]; exact h2
   · have e' : ¬ q.1 = k := fun z => e (h1.trans z)
     have b : atKey (q :: qs) k = atKey qs k := by simp [atKey, List.find?_cons, e']
     rw [valV_neg e, b]; exact ih
theorem KT.repl {H : Hp} {kvs : List (List Key × V)} {xs : List (List Key × Addr × Value)} (r : KT H kvs xs) (k : List Key) {y : V} {u : Value} (ry : RelV y u) :
   KT H (kvs.map fun kv => if kv.1 = k then (kv.1, y) else kv) (xs.map (putAt k u)) := by
 induction r with
 | nil => exact .nil
 | @cons p q ps qs h t ih =>
   rw [List.map_cons, List.map_cons]
   refine .cons ?_ ih
   obtain ⟨h1, h2, h3⟩ := h
   unfold putAt
   by_cases e : p.1 = k
   · rw [if_pos e, if_pos (h1.symm.trans e)]; exact ⟨h1, h2, ry⟩
   · rw [if_neg e, if_neg (fun z => e (h1.trans z))]; exact ⟨h1, h2, h3⟩
theorem KT.put {H : Hp} {kvs : List (List Key × V)} {xs : List (List Key × Addr × Value)} (r : KT H kvs xs) (k : List Key) {b : Addr} {y : V} {u : Value} (hb : H b = some (.tup (k.map kV))) (ry : RelV y u) :
   KT H (putK kvs k y) (storedH xs k b u) := by
 have e : (kvs.any fun kv => decide (kv.1 = k)) = (atKey xs k).isSome := by
   rw [valV_any, (r.val k).isSome_eq, Option.isSome_map]
 unfold putK storedH
 rw [e]
 by_cases q : (atKey xs k).isSome = true
 · rw [if_pos q, if_pos q]; exact r.repl k ry
 · rw [if_neg q, if_neg q]; exact Paired.snoc r ⟨rfl, hb, ry⟩
theorem KT.keeps {H H' : Hp} {kvs : List (List Key × V)} {xs : List (List Key × Addr × Value)} (r : KT H kvs xs) (ht : ∀ b ys, H b = some (.tup ys) → H' b = some (.tup ys)) : KT H' kvs xs :=
 Paired.mapP r fun _ _ z => ⟨z.1, ht _ _ z.2.1, z.2.2⟩
section
variable {P : Program} {w : World} {H : Hp} {h : Heap} {a : Addr}
theorem rd_of {u : HO} (ok : HOk P w H h) (e : Rd H a u) : ObjOk P w H h a u := e.ok ok
theorem dk_rd {kvs : List (Key × V)} (ok : HOk P w H h) (e : Rd H a (.dK kvs)) : kvs.length ≤ sizeLine ∧ (a == sysModules) = false ∧ ∃ vs, KV kvs vs ∧ h.DictOf (mixKind P w) a vs :=
 show ObjOk P w H h a (.dK kvs) from rd_of ok e
theorem dk_of {kvs : List (Key × V)} (ok : HOk P w H h) (e : H a = some (.dK kvs)) : kvs.length ≤ sizeLine ∧ (a == sysModules) = false ∧ ∃ vs, KV kvs vs ∧ h.DictOf (mixKind P w) a vs := dk_rd ok (.inl e)
theorem key_of {ks : List Key} (ok : HOk P w H h) (e : H a = some (.tup (ks.map kV))) : (tupleKind (mixKind P w)).is h ks a := by
 obtain ⟨_, its, r, o, h1, h2, n, h3⟩ := (show ObjOk P w H h a (.tup (ks.map kV)) from ok a _ e)
 exact ⟨o, its.toArray, n, h1, h2, h3, by simpa using items_are r⟩
theorem dt_rd {kvs : List (List Key × V)} (ok : HOk P w H h) (e : Rd H a (.dT kvs)) : kvs.length ≤ sizeLine ∧ (a == sysModules) = false ∧
   ∃ xs, KT H kvs xs ∧ h.DictOfH (tupleKind (mixKind P w)) a xs := by
 obtain ⟨z, y, xs, r, o, es, ep, h1, h2, h3, h4, h5⟩ := (show ObjOk P w H h a (.dT kvs) from rd_of ok e)
 refine ⟨z, y, xs, r, o, es, ep, h1, h2, h3, h4, fun x hx => ?_, h5⟩
 have all : ∀ {l : List (List Key × V)} {m : List (List Key × Addr × Value)}, KT H l m → ∀ x ∈ m, (tupleKind (mixKind P w)).is h x.1 x.2.1 := by
   intro l m q
   induction q with
   | nil => intro x hx; exact nomatch hx
   | @cons p q ps qs hq t ih =>
     intro x hx
     rcases List.mem_cons.mp hx with e | hx
     · subst e
       exact key_of ok (by rw [← hq.1]; exact hq.2.1)
     · exact ih x hx
 exact all r x hx
theorem dt_of {kvs : List (List Key × V)} (ok : HOk P w H h) (e : H a = some (.dT kvs)) : kvs.length ≤ sizeLine ∧ (a == sysModules) = false ∧
   ∃ xs, KT H kvs xs ∧ h.DictOfH (tupleKind (mixKind P w)) a xs := dt_rd ok (.inl e)
end
def DGet (H : Hp) (a : Addr) (y : V) (r : Option V) : Prop :=
 (∃ kvs k, Rd H a (.dK kvs) ∧ y = kV k ∧ r = valV kvs k) ∨ ∃ kvs k b, Rd H a (.dT kvs) ∧ y = .ref b ∧ H b = some (.tup (k.map kV)) ∧ r = valV kvs k
def DPut (H : Hp) (a : Addr) (y v : V) (H' : Hp) : Prop :=
 (∃ kvs k, H a = some (.dK kvs) ∧ y = kV k ∧ kvs.length < sizeLine ∧ H' = upd H a (.dK (putK kvs k v))) ∨
 ∃ kvs k b, H a = some (.dT kvs) ∧ y = .ref b ∧ H b = some (.tup (k.map kV)) ∧ kvs.length < sizeLine ∧ H' = upd H a (.dT (putK kvs k v))
theorem DGet.k {H : Hp} {a : Addr} {kvs : List (Key × V)} {k : Key} (e : H a = some (.dK kvs)) : DGet H a (kV k) (valV kvs k) := .inl ⟨kvs, k, .inl e, rfl, rfl⟩
theorem DPut.k {H : Hp} {a : Addr} {kvs : List (Key × V)} {k : Key} {v : V} (e : H a = some (.dK kvs)) (hl : kvs.length < sizeLine) : DPut H a (kV k) v (upd H a (.dK (putK kvs k v))) := .inl ⟨kvs, k, e, rfl, hl, rfl⟩
section
variable {X : Cx} {pins : List (Addr × Obj)} {σ : St} {H : Hp} {s : Shared} {a : Addr} {y v : V} {u r : Value} {o : Option V} {A : Around} {E : Value → Shared → Prop}
theorem Inv.big (I : Inv X pins σ H s) : sysModules < s.heap.objs.size := by
 have h : mainGlobals < s.heap.objs.size := (I.mod.glob.keeps I.bk).lt
 exact Nat.lt_trans (by decide) h
theorem d_getItem {Q : Value → Shared → Prop} (hu : A.units + 1 < cLine) (I : Inv X pins σ H s) (g : DGet H a y (some v)) (ry : RelV y u) (h : ∀ w' s', Inv X pins σ H s' → RelV v w' → Q w' s') :
   wpAny (model X.prog X.w) A (getItem (.ref a) u) Q E s := by
 rcases g with ⟨kvs, k, e, ey, l⟩ | ⟨kvs, k, b, e, ey, eb, l⟩
 · subst ey
   obtain ⟨z, hd, vs, rel, dd⟩ := dk_rd I.hok e
   obtain ⟨w', hw, rw'⟩ := RelO.some_of (v := v) (o := valueAt vs k) (by rw [l]; exact rel.val k)
   exact wpAny_getItem_of (kV_is ry) dd.mapOf hw (h w' _ (I.tok _) rw')
 · subst ey
   cases (show u = Value.ref b from ry)
   obtain ⟨z, hd, xs, rel, dd⟩ := dt_rd I.hok e
   obtain ⟨w', hw, rw'⟩ := RelO.some_of (v := v) (o := (atKey xs k).map (·.2)) (by rw [l]; exact rel.val k)
   obtain ⟨p, hp, hp2⟩ := Option.map_eq_some_iff.mp hw
   refine wpAny_getItem_heap (tupleKind_room_in1 hu) (key_of I.hok eb) dd hp ?_
   rw [hp2]
   exact h w' _ (I.tok _) rw'
theorem d_notIn {Q : Value → Shared → Prop} (hu : A.units + 1 < cLine) (I : Inv X pins σ H s) (g : DGet H a y o) (ry : RelV y u) (h : ∀ s', Inv X pins σ H s' → Q (.bool (!o.isSome)) s') :
   wpAny (model X.prog X.w) A (compareOp .NotIn u (.ref a)) Q E s := by
 rcases g with ⟨kvs, k, e, ey, l⟩ | ⟨kvs, k, b, e, ey, eb, l⟩
 · subst ey
   obtain ⟨z, hd, vs, rel, dd⟩ := dk_rd I.hok e
   refine wpAny_notIn_of (kV_is ry) hd dd.mapOf ?_
   rw [← (rel.val k).isSome_eq, ← l]
   exact h _ (I.tok _)
 · subst ey
   cases (show u = Value.ref b from ry)
   obtain ⟨z, hd, xs, rel, dd⟩ := dt_rd I.hok e
   refine wpAny_notIn_heap (tupleKind_room_in1 hu) (key_of I.hok eb) hd dd ?_
   have q := (rel.val k).isSome_eq
   rw [Option.isSome_map] at q
   rw [← q, ← l]
   exact h _ (I.tok _)
theorem d_write {h' : Heap} {t' : Nat} {ob : HO} (I : Inv X pins σ H s) (mu : Mut (H a)) (hs : Heap.SameBut a s.heap h') (he : ∃ q, h'.get? a = some q) (new : ObjOk X.prog X.w (upd H a ob) h' a ob) :
   Inv X pins σ (upd H a ob) { s with heap := h', toks := t' } :=
 I.write (x := a) (e := a) mu (.inl rfl) (fun b q hb z => (hs.2 b hb).trans z) he new
theorem dk_new {P : Program} {w : World} {H' : Hp} {h' : Heap} {kvs : List (Key × V)} {vs : List (Key × Value)} (z : kvs.length ≤ sizeLine) (hd : (a == sysModules) = false) (rel : KV kvs vs) (dd : h'.DictOf (mixKind P w) a vs) :
   ObjOk P w H' h' a (.dK kvs) := ⟨z, hd, vs, rel, dd⟩
theorem d_setItem {H' : Hp} {Q : Unit → Shared → Prop} (hu : A.units + 1 < cLine) (I : Inv X pins σ H s) (g : DPut H a y v H') (ry : RelV y u) (rv : RelV v r) (h : ∀ s', Inv X pins σ H' s' → Q () s') :
   wpAny (model X.prog X.w) A (setItem (.ref a) u r) Q E s := by
 rcases g with ⟨kvs, k, e, ey, l, eH⟩ | ⟨kvs, k, b, e, ey, eb, l, eH⟩
 · subst ey eH
   obtain ⟨z, hd, vs, rel, dd⟩ := dk_of I.hok e
   have hz : vs.length ≤ sizeLine := by rw [← rel.length]; exact z
   have hl : (putK kvs k v).length ≤ sizeLine := by have := length_putK kvs k v; omega
   refine wpAny_setItem_pairs (hsz := hz) (kV_is ry) dd fun h' dd' hs => h _ ?_
   have he : ∃ q, h'.get? a = some q := let ⟨q, _, _, hq, _⟩ := dd'; ⟨q, hq⟩
   exact d_write I (by rw [e]; exact True.intro) hs he (dk_new hl hd (rel.put k rv) dd')
 · subst ey eH
   cases (show u = Value.ref b from ry)
   obtain ⟨z, hd, xs, rel, dd⟩ := dt_of I.hok e
   have hz : xs.length ≤ sizeLine := by rw [← Paired.length rel]; exact z
   have hl : (putK kvs k v).length ≤ sizeLine := by have := length_putK kvs k v; omega
   refine wpAny_setItem_heap (hsz := hz) (tupleKind_room_in1 hu) (key_of I.hok eb) dd fun h' dd' hs => h _ ?_
   obtain ⟨q, es, ep, hq, h2, h3, h4, _, h5⟩ := dd'
   refine d_write I (by rw [e]; exact True.intro) hs ⟨q, hq⟩ ⟨hl, hd, _, (rel.put k eb rv).keeps fun c ys ec => ?_, q, es, ep, hq, h2, h3, h4, h5⟩
   rw [upd_ne (ne_of ec e (fun z => nomatch z))]
   exact ec
end
def NoSl (i : Expr) : Prop := ∀ ov iv, subscripted i false ov iv = operate [ov, iv] (getItem ov iv)
theorem subD_of {prog : Program} {w : World} {A : Around} {E : Value → Shared → Prop} {s : Shared} {env : Env} {value slice : Expr} {pos : Pos} {T id : String} {Q : Value → Shared → Prop}
   (hl : typeLookup (.type T) "__getitem__" = pure (some (.builtin id))) (hs : NoSl slice)
   (h : wpAny (model prog w) A (eval value env) (fun o s₁ => wpAny (model prog w) A (eval slice env) (fun i s₂ => s₂.TypeIs o T ∧ wpAny (model prog w) A (getItem o i) Q E s₂) E s₁) E s) :
   wpAny (model prog w) A (eval (.Subscript value slice pos) env) Q E s := by
 refine Subscript_ (wpAny_mono h (fun o s₁ h₁ => wpAny_mono h₁ (fun i s₂ h₂ => ?_) fun _ _ x => x) fun _ _ x => x)
 obtain ⟨hT, h₂⟩ := h₂
 unfold subscriptTail
 refine wpAny_bind ?_
 rw [getitemInPython_of_ne hT.not_modules]
 refine wpAny_bind (wpAny_specialOf hT hl ?_)
 have fin : wpAny (model prog w) A (subscripted slice false o i) (fun r s₃ => wpAny (model prog w) A (letTemporaryGo value o r >>= fun _ => pure r) Q E s₃) E s₂ := by
   rw [hs o i]
   exact wpAny_operating (wpAny_mono h₂ (fun r s₃ h₃ => wpAny_bind (wpAny_letTemporaryGo (wpAny_pure h₃))) fun _ _ x => x)
 first
   | exact wpAny_pure (wpAny_bind fin)
   | exact wpAny_bind (wpAny_pure (wpAny_bind fin))
   | exact wpAny_bind fin
theorem dict_typeIs {X : Cx} {pins : List (Addr × Obj)} {σ : St} {H : Hp} {s : Shared} {a : Addr} {y : V} {o : Option V} (I : Inv X pins σ H s) (g : DGet H a y o) : s.TypeIs (.ref a) "dict" := by
 rcases g with ⟨kvs, k, e, _, _⟩ | ⟨kvs, k, b, e, _, _, _⟩
 · obtain ⟨_, _, vs, _, dd⟩ := dk_rd I.hok e
   exact dd.typeIs
 · obtain ⟨_, _, xs, _, dd⟩ := dt_rd I.hok e
   exact dd.typeIs
def tDGet (td ty : TE) : TE := fun σ H Q => td σ H fun x H1 => ty σ H1 fun y H2 => ∃ a v, x = .ref a ∧ DGet H2 a y (some v) ∧ Q v H2
def tDNotIn (ty td : TE) : TE := fun σ H Q => ty σ H fun y H1 => td σ H1 fun x H2 => ∃ a o, x = .ref a ∧ DGet H2 a y o ∧ Q (.bl (!o.isSome)) H2
def sDPut (td ty tv : TE) : TS := fun D σ H => tv σ H fun v H1 => td σ H1 fun x H2 => ty σ H2 fun y H3 => ∃ a H4, x = .ref a ∧ DPut H3 a y v H4 ∧ D.nx σ H4
section
variable {X : Cx} {o i e value : Expr} {pos pos' tpos : Pos} {td ty tv : TE}
theorem pe_dget (hu : X.A.units + 1 < cLine) (ho : PE X o td) (hi : PE X i ty) (hs : NoSl i) : PE X (.Subscript o i pos) (tDGet td ty) := by
 intro pins s σ H Q I h
 refine subD_of PySem.F.slot_dict_getitem.lookup hs (thn (ho pins s σ H _ I h) fun u s1 ⟨x, H1, I1, rx, q1⟩ => thn (hi pins s1 σ H1 _ I1 q1) fun iv s2 ⟨y, H2, I2, ry, a, v, ex, g, q2⟩ => ?_)
 subst ex
 obtain rfl : u = Value.ref a := rx
 exact ⟨dict_typeIs I2 g, d_getItem hu I2 g ry fun w' s3 I3 rw' => ⟨v, H2, I3, rw', q2⟩⟩
theorem pc_dnotin (hu : X.A.units + 1 < cLine) (hi : PE X i ty) (ho : PE X o td) : PC X .NotIn i o (tDNotIn ty td) := by
 intro pins s σ H Q I h
 refine thn (hi pins s σ H _ I h) fun iv s1 ⟨y, H1, I1, ry, q1⟩ => thn (ho pins s1 σ H1 _ I1 q1) fun u s2 ⟨x, H2, I2, rx, a, ov, ex, g, q2⟩ => ?_
 subst ex
 obtain rfl : u = Value.ref a := rx
 exact d_notIn hu I2 g ry fun s3 I3 => ⟨.bl (!ov.isSome), H2, I3, rfl, q2⟩
theorem ps_dput (hu : X.A.units + 1 < cLine) (ho : PE X o td) (hi : PE X i ty) (hv : PE X value tv) (hs : swapsWith value (some (.Subscript o i pos')) pos.line X.env = pure false) :
   PS X (.Assign [.Subscript o i pos'] value pos) (sDPut td ty tv) := by
 intro pins s σ H D I h
 refine wpAny_Assign_Subscript (thn (hv pins s σ H _ I h) fun r s1 ⟨v, H1, I1, rv, q1⟩ => thn (ho pins s1 σ H1 _ I1 q1) fun u s2 ⟨x, H2, I2, rx, q2⟩ => thn (hi pins s2 σ H2 _ I2 q2) fun iv s3 ⟨y, H3, I3, ry, a, H4, ex, g, q3⟩ => ?_) hs
 subst ex
 obtain rfl : u = Value.ref a := rx
 exact d_setItem hu I3 g ry rv fun s4 I4 => ⟨σ, H4, I4, q3⟩
end
theorem dk_empty {P : Program} {w : World} {H : Hp} (h : Heap) (hb : sysModules < h.objs.size) : ObjOk P w H (h.push { cls := .type "dict", data := .dict #[] }) h.objs.size (.dK []) :=
 ⟨Nat.zero_le _, beq_eq_false_iff_ne.mpr (Ne.symm (Nat.ne_of_lt hb)), [], .nil, Heap.DictOf.new h⟩
def tDNewK : TE := fun _ H Q => ∀ p, H p = none → Q (.ref p) (upd H p (.dK []))
section
variable {X : Cx} {pos : Pos}
theorem pe_dnewK : PE X (.Dict [] [] pos) tDNewK := fun pins s σ H Q I h =>
 wpAny_Dict_empty ⟨.ref s.heap.objs.size, _, I.laid (a := s.heap.objs.size) (o := .dK []) (t' := s.toks) (fun _ _ q => Heap.get?_push_of_some _ q) (Nat.le_refl _) (dk_empty s.heap I.big), rfl, h _ (I.hok.fresh (Nat.le_refl _))⟩
end
def tPairs : List (TE × TE) → St → Hp → (List (V × V) → Hp → Prop) → Prop
 | [], _, H, Q => Q [] H
 | (tk, tv) :: r, σ, H, Q => tk σ H fun x H1 => tv σ H1 fun y H2 => tPairs r σ H2 fun ps H3 => Q ((x, y) :: ps) H3
abbrev VV : List (V × V) → List (Value × Value) → Prop := Paired fun p q => RelV p.1 q.1 ∧ RelV p.2 q.2
def PPs (X : Cx) (pos : Pos) (keys : List (Option Expr)) (values : List Expr) (trs : List (TE × TE)) : Prop :=
 ∀ (pins : List (Addr × Obj)) (s : Shared) (σ : St) (H : Hp) (Q : List (V × V) → Hp → Prop), Inv X pins σ H s → tPairs trs σ H Q →
   wpAny (model X.prog X.w) X.A (evalPairs (pairTrees keys values X.env pos)) (fun vs s' => ∃ ps H', Inv X pins σ H' s' ∧ VV ps vs ∧ Q ps H') X.xe s
theorem pps_nil {X : Cx} {pos : Pos} : PPs X pos [] [] [] := fun pins s σ H Q I h => pairTrees_nil_walk ⟨[], H, I, .nil, h⟩
theorem pps_cons {X : Cx} {pos : Pos} {k v : Expr} {ks : List (Option Expr)} {vs : List Expr} {tk tv : TE} {trs : List (TE × TE)} (hk : PE X k tk) (hv : PE X v tv) (hr : PPs X pos ks vs trs) :
   PPs X pos (some k :: ks) (v :: vs) ((tk, tv) :: trs) := fun pins s σ H Q I h =>
 pairTrees_cons_walk (thn (hk pins s σ H _ I h) fun u s1 ⟨x, H1, I1, rx, q1⟩ => thn (hv pins s1 σ H1 _ I1 q1) fun w2 s2 ⟨y, H2, I2, ry, q2⟩ =>
   thn (hr pins s2 σ H2 _ I2 q2) fun ws s3 ⟨ps, H3, I3, rel, q3⟩ => ⟨(x, y) :: ps, H3, I3, .cons ⟨rx, ry⟩ rel, q3⟩)
def mergeK (kvs more : List (Key × V)) : List (Key × V) := more.foldl (fun acc kv => putK acc kv.1 kv.2) kvs
theorem KV.merge : ∀ {more : List (Key × V)} {rs : List (Key × Value)} {kvs : List (Key × V)} {vs : List (Key × Value)}, KV more rs → KV kvs vs → KV (mergeK kvs more) (merged vs rs) := by
 intro more rs kvs vs r
 unfold KV at r
 induction r generalizing kvs vs with
 | nil => intro q; exact q
 | @cons p q ps qs h t ih =>
   intro r0
   have e : KV (putK kvs p.1 p.2) (stored vs q.1 q.2) := by
     have := r0.put p.1 h.2
     rw [← h.1]; exact this
   exact ih e
theorem length_mergeK : ∀ (more kvs : List (Key × V)), (mergeK kvs more).length ≤ kvs.length + more.length
 | [], kvs => by show kvs.length ≤ kvs.length + 0; omega
 | p :: r, kvs => by
   have h1 := length_mergeK r (putK kvs p.1 p.2)
   have h2 := length_putK kvs p.1 p.2
   show (mergeK (putK kvs p.1 p.2) r).length ≤ _
   rw [List.length_cons]; omega
theorem carries_of {P : Program} {w : World} : ∀ {kvs : List (Key × V)} {ws : List (Value × Value)}, VV (kvs.map fun kv => (kV kv.1, kv.2)) ws → ∃ rs, Carries (mixKind P w) ws rs ∧ KV kvs rs
 | [], _, r => by rw [List.map_nil] at r; cases r; exact ⟨[], True.intro, .nil⟩
 | p :: kvs, _, r => by
   rw [List.map_cons] at r
   cases r with
   | @cons a b as bs h t =>
     obtain ⟨rs, c, q⟩ := carries_of (P := P) (w := w) t
     obtain ⟨b1, b2⟩ := b
     exact ⟨(p.1, b2) :: rs, ⟨kV_is h.1, rfl, c⟩, .cons ⟨rfl, h.2⟩ q⟩
def tDisp (trs : List (TE × TE)) : TE := fun σ H Q => ∀ p, H p = none → tPairs trs σ (upd H p (.dK [])) fun ps H2 => H2 p = some (.dK []) ∧ ∃ kvs : List (Key × V), ps = kvs.map (fun kv => (kV kv.1, kv.2)) ∧ kvs.length ≤ 15 ∧ Q (.ref p) (upd H2 p (.dK (mergeK [] kvs)))
theorem pe_disp {X : Cx} {pos : Pos} {keys : List (Option Expr)} {values : List Expr} {trs : List (TE × TE)} (h : PPs X pos keys values trs) (hall : keys.all (·.isSome) = true) (hl : keys.length = values.length) (h0 : keys ≠ [])
   (h15 : keys.length ≤ 15) : PE X (.Dict keys values pos) (tDisp trs) := by
 intro pins s σ H Q I q
 have hn := I.hok.fresh (Nat.le_refl s.heap.objs.size)
 have I1 := I.laid (a := s.heap.objs.size) (o := .dK []) (h' := s.heap.push { cls := .type "dict", data := .dict #[] }) (t' := s.toks) (fun _ _ q => Heap.get?_push_of_some _ q) (Nat.le_refl _) (dk_empty s.heap I.big)
 refine wpAny_Dict_walk (knd := mixKind X.prog X.w) hall hl h0 h15 (thn (h pins _ σ _ _ I1 (q _ hn)) fun ws s2 ⟨ps, H2, I2, rel, e, kvs, ep, lk, q2⟩ => ?_)
 subst ep
 obtain ⟨rs, c, rk⟩ := carries_of (P := X.prog) (w := X.w) rel
 obtain ⟨z, hd, vs0, r0, dd⟩ := dk_of I2.hok e
 cases r0
 refine ⟨rs, c, dd, fun h' dd' hs => ⟨.ref s.heap.objs.size, _, ?_, rfl, q2⟩⟩
 have hz : (mergeK [] kvs).length ≤ sizeLine := by
   have h1 := length_mergeK kvs []
   rw [List.length_nil] at h1
   rw [sizeLine_eq]; omega
 have he : ∃ q, h'.get? s.heap.objs.size = some q := let ⟨q, _, _, hq, _⟩ := dd'; ⟨q, hq⟩
 exact d_write I2 (by rw [e]; exact True.intro) hs he (dk_new hz hd (rk.merge .nil) dd')
structure M1 (X : Cx) (o : Expr) (m : Str) (apos : Pos) (e : Expr) (cpos : Pos) : Prop where
 base : attributeBase o m X.env (eval o X.env) = eval o X.env
 few : ((backTo cpos (starEach [e] X.env)).all (fun x => !x.1) && (backToKw cpos (keywordEach [] X.env)).all (fun x => x.1.isSome)
   && decide (([e] : List Expr).length + ([] : List Keyword).length + (if ([] : List Keyword).isEmpty then 0 else 1) < 30)) = true
 line : (apos.endLine == cpos.line) = true
 trees : backTo cpos (starEach [e] X.env) = [(false, eval e X.env)]
structure M2 (X : Cx) (o : Expr) (m : Str) (apos : Pos) (e f : Expr) (cpos : Pos) : Prop where
 base : attributeBase o m X.env (eval o X.env) = eval o X.env
 few : ((backTo cpos (starEach [e, f] X.env)).all (fun x => !x.1) && (backToKw cpos (keywordEach [] X.env)).all (fun x => x.1.isSome)
   && decide (([e, f] : List Expr).length + ([] : List Keyword).length + (if ([] : List Keyword).isEmpty then 0 else 1) < 30)) = true
 line : (apos.endLine == cpos.line) = true
 trees : backTo cpos (starEach [e, f] X.env) = [(false, eval e X.env), (false, eval f X.env)]
def IsD (H : Hp) (a : Addr) : Prop := (∃ kvs, Rd H a (.dK kvs)) ∨ ∃ kvs, Rd H a (.dT kvs)
theorem isD_at {X : Cx} {pins : List (Addr × Obj)} {σ : St} {H : Hp} {s : Shared} {a : Addr} (I : Inv X pins σ H s) (d : IsD H a) :
   s.TypeIs (.ref a) "dict" ∧ (∀ b, Value.ref a = .ref b → ∃ ob, s.heap.get? b = some ob ∧ ob.dict = none) ∧ (a == sysModules) = false := by
 rcases d with ⟨kvs, e⟩ | ⟨kvs, e⟩
 · obtain ⟨_, hd, vs, _, dd⟩ := dk_rd I.hok e
   refine ⟨dd.typeIs, fun b q => ?_, hd⟩
   cases q
   obtain ⟨ob, _, _, h1, h2, _⟩ := dd
   exact ⟨ob, h1, h2.2.1⟩
 · obtain ⟨_, hd, xs, _, dd⟩ := dt_rd I.hok e
   refine ⟨dd.typeIs, fun b q => ?_, hd⟩
   cases q
   obtain ⟨ob, _, _, h1, h2, _⟩ := dd
   exact ⟨ob, h1, h2.2.1⟩
section
variable {X : Cx} {pins : List (Addr × Obj)} {σ : St} {H : Hp} {s : Shared} {a : Addr} {y d : V} {u r : Value} {o : Option V} {A : Around} {E : Value → Shared → Prop}
theorem d_get1 {Q : Value → Shared → Prop} (hu : A.units + 1 < cLine) (I : Inv X pins σ H s) (g : DGet H a y o) (ry : RelV y u) (h : ∀ w' s', Inv X pins σ H s' → RelV (o.getD .non) w' → Q w' s') :
   wpAny (model X.prog X.w) A (call (.builtin "dict.get") [.ref a, u]) Q E s := by
 rcases g with ⟨kvs, k, e, ey, l⟩ | ⟨kvs, k, b, e, ey, eb, l⟩
 · subst ey
   obtain ⟨z, hd, vs, rel, dd⟩ := dk_rd I.hok e
   refine call_meetsIn PySem.F.slot_dict_get dd.typeIs PySem.F.entry_dict_get (PySem.F.args_dict_get_2 _ _) (meets_dict_get (mixKind X.prog X.w) a (kV_is ry) hd) ⟨_, dd.mapOf, h _ _ (I.tok _) ?_⟩
   rw [l]
   exact (rel.val k).getD rfl
 · subst ey
   cases (show u = Value.ref b from ry)
   obtain ⟨z, hd, xs, rel, dd⟩ := dt_rd I.hok e
   refine call_meetsIn PySem.F.slot_dict_get dd.typeIs PySem.F.entry_dict_get (PySem.F.args_dict_get_2 _ _) (meetsH_dict_get (tupleKind (mixKind X.prog X.w)) a b hd) ⟨tupleKind_room_in1 hu, k, xs, key_of I.hok eb, dd, h _ _ (I.tok _) ?_⟩
   rw [l]
   exact (rel.val k).getD rfl
theorem d_get2 {Q : Value → Shared → Prop} (hu : A.units + 1 < cLine) (I : Inv X pins σ H s) (g : DGet H a y o) (ry : RelV y u) (rd : RelV d r) (h : ∀ w' s', Inv X pins σ H s' → RelV (o.getD d) w' → Q w' s') :
   wpAny (model X.prog X.w) A (call (.builtin "dict.get") [.ref a, u, r]) Q E s := by
 rcases g with ⟨kvs, k, e, ey, l⟩ | ⟨kvs, k, b, e, ey, eb, l⟩
 · subst ey
   obtain ⟨z, hd, vs, rel, dd⟩ := dk_rd I.hok e
   refine call_meetsIn PySem.F.slot_dict_get dd.typeIs PySem.F.entry_dict_get (PySem.F.args_dict_get_3 _ _ _) (meets_dict_get_default (mixKind X.prog X.w) a (kV_is ry) hd r) ⟨_, dd.mapOf, h _ _ (I.tok _) ?_⟩
   rw [l]
   exact (rel.val k).getD rd
 · subst ey
   cases (show u = Value.ref b from ry)
   obtain ⟨z, hd, xs, rel, dd⟩ := dt_rd I.hok e
   refine call_meetsIn PySem.F.slot_dict_get dd.typeIs PySem.F.entry_dict_get (PySem.F.args_dict_get_3 _ _ _) (meetsH_dict_get_default (tupleKind (mixKind X.prog X.w)) a b hd r) ⟨tupleKind_room_in1 hu, k, xs, key_of I.hok eb, dd, h _ _ (I.tok _) ?_⟩
   rw [l]
   exact (rel.val k).getD rd
end
def tDGet1 (td ty : TE) : TE := fun σ H Q => td σ H fun x H1 => ∃ a, x = .ref a ∧ IsD H1 a ∧ ty σ H1 fun y H2 => ∃ o, DGet H2 a y o ∧ Q (o.getD .non) H2
def tDGet2 (td ty tx : TE) : TE := fun σ H Q => td σ H fun x H1 => ∃ a, x = .ref a ∧ IsD H1 a ∧ ty σ H1 fun y H2 => tx σ H2 fun z H3 => ∃ o, DGet H3 a y o ∧ Q (o.getD z) H3
section
variable {X : Cx} {o e f : Expr} {apos cpos : Pos} {td ty tx : TE}
theorem pe_dget1 (hu : X.A.units + 1 < cLine) (ho : PE X o td) (he : PE X e ty) (m : M1 X o "get" apos e cpos) : PE X (.Call (.Attribute o "get" apos) [e] [] cpos) (tDGet1 td ty) := by
 intro pins s σ H Q I h
 refine wpAny_Call_method m.base m.few m.line PySem.F.plainAttrs_dict PySem.F.slot_dict_get PySem.F.type_dict_get (thn (ho pins s σ H _ I h) fun u s1 ⟨x, H1, I1, rx, a, ex, d, q1⟩ => ?_)
 subst ex
 obtain rfl : u = Value.ref a := rx
 obtain ⟨t1, t2, _⟩ := isD_at I1 d
 refine ⟨t1, t2, ?_⟩
 rw [m.trees]
 refine Calls.callWith_builtin rfl (Calls.evalArgs_plain (Calls.spliced_cons (thn (he pins s1 σ H1 _ I1 q1) fun iv s2 ⟨y, H2, I2, ry, ov, g, q2⟩ => Calls.spliced_nil ?_)))
 exact d_get1 hu I2 g ry fun w' s3 I3 rw' => ⟨_, H2, I3, rw', q2⟩
theorem pe_dget2 (hu : X.A.units + 1 < cLine) (ho : PE X o td) (he : PE X e ty) (hf : PE X f tx) (m : M2 X o "get" apos e f cpos) : PE X (.Call (.Attribute o "get" apos) [e, f] [] cpos) (tDGet2 td ty tx) := by
 intro pins s σ H Q I h
 refine wpAny_Call_method m.base m.few m.line PySem.F.plainAttrs_dict PySem.F.slot_dict_get PySem.F.type_dict_get (thn (ho pins s σ H _ I h) fun u s1 ⟨x, H1, I1, rx, a, ex, d, q1⟩ => ?_)
 subst ex
 obtain rfl : u = Value.ref a := rx
 obtain ⟨t1, t2, _⟩ := isD_at I1 d
 refine ⟨t1, t2, ?_⟩
 rw [m.trees]
 refine Calls.callWith_builtin rfl (Calls.evalArgs_plain (Calls.spliced_cons (thn (he pins s1 σ H1 _ I1 q1) fun iv s2 ⟨y, H2, I2, ry, q2⟩ =>
   Calls.spliced_cons (thn (hf pins s2 σ H2 _ I2 q2) fun fv s3 ⟨z, H3, I3, rz, ov, g, q3⟩ => Calls.spliced_nil ?_))))
 exact d_get2 hu I3 g ry rz fun w' s4 I4 rw' => ⟨_, H3, I4, rw', q3⟩
end
end L2
namespace L2
open PySem PySem.Spec PyProof.Rows
section
variable {X : Cx} {pins : List (Addr × Obj)} {σ : St} {H : Hp} {s : Shared} {h' : Heap}
theorem Inv.turnedL {t' : Nat} {ch : List Addr} (I : Inv X pins σ H s) (k : ∀ b o, b ∉ ch → s.heap.get? b = some o → h'.get? b = some o) (hf : ∀ b ∈ ch, FpOk X pins H b) : Inv X pins σ H { s with heap := h', toks := t' } := by
 have nit : ∀ b u, H b = some u → b ∉ ch := fun b u e z => by
   have q := (hf b z).1
   rw [q] at e; cases e
 refine I.step (g' := s.gens) (d' := s.drawn) (ch := ch) (fun b hb => ⟨(hf b hb).2.2.2.1, (hf b hb).2.1, (hf b hb).2.2.2.2.1, (hf b hb).2.2.2.2.2⟩) (fun b o _ _ hc e _ => k b o hc e) (fun b o _ _ hc e _ => ⟨o.slots, k b o hc e⟩)
   (fun _ _ _ _ n => n) (fun b o hc e => ⟨o, k b o hc e⟩) (fun _ _ e => e) (fun _ _ _ e => e) (fun b ps e => ⟨#[], by rw [e]; simp⟩) (fun m hm => ?_) (fun b u e => ?_) I.bare
 · obtain ⟨o, es, ep, ho, r⟩ := hm
   exact ⟨o, es, ep, k _ o (fun z => (hf _ z).2.1 rfl) ho, r⟩
 · refine (I.hok b u e).stay (fun c v hc q => k c v ?_ q) (fun _ q => q) fun _ _ q => q
   rcases hc with z | z
   · rw [z]; exact nit b u e
   · exact nit c _ z
theorem Inv.turnedNew {t' : Nat} {ch : List Addr} {T : Addr} {ob : HO} (I : Inv X pins σ H s) (k : ∀ b o, b ∉ ch → s.heap.get? b = some o → h'.get? b = some o) (hf : ∀ b ∈ ch, FpOk X pins H b) (hT : s.heap.objs.size ≤ T)
   (new : ObjOk X.prog X.w (upd H T ob) h' T ob) : Inv X pins σ (upd H T ob) { s with heap := h', toks := t' } := by
 have hn : H T = none := I.hok.fresh hT
 have nit : ∀ b u, H b = some u → b ∉ ch := fun b u e z => by
   have q := (hf b z).1
   rw [q] at e; cases e
 refine I.step (g' := s.gens) (d' := s.drawn) (ch := ch) (fun b hb => ⟨(hf b hb).2.2.2.1, (hf b hb).2.1, (hf b hb).2.2.2.2.1, (hf b hb).2.2.2.2.2⟩) (fun b o _ _ hc e _ => k b o hc e) (fun b o _ _ hc e _ => ⟨o.slots, k b o hc e⟩)
   (fun b o _ e n => ?_) (fun b o hc e => ⟨o, k b o hc e⟩) (fun b xs e => ?_) (fun b o u e => ?_) (fun b ps e => ⟨#[], ?_⟩) (fun m hm => ?_) (fun b u e => ?_) I.bare
 · rw [upd_ne (Nat.ne_of_lt (Nat.lt_of_lt_of_le (Heap.lt_size e) hT))]; exact n
 · rw [upd_ne (ne_of_none e hn)]; exact e
 · rw [upd_ne (ne_of_none e hn)]; exact e
 · rw [upd_ne (ne_of_none e hn), e]; simp
 · obtain ⟨o, es, ep, ho, r⟩ := hm
   exact ⟨o, es, ep, k _ o (fun z => (hf _ z).2.1 rfl) ho, r⟩
 · by_cases hb : b = T
   · subst hb
     rw [upd_same] at e
     cases e
     exact new
   · rw [upd_ne hb] at e
     refine (I.hok b u e).stay (fun c v hc q => k c v ?_ q) (fun c q => by rw [upd_ne (ne_of_none q hn)]; exact q) fun c xs q => by rw [upd_ne (ne_of_none q hn)]; exact q
     rcases hc with z | z
     · rw [z]; exact nit b u e
     · exact nit c _ z
theorem Inv.lock {d : Addr} {u : HO} (I : Inv X pins σ H s) (h : H d = some u) (mu : Mut (some u)) : ∃ od, Inv X pins σ (upd H d (.frz od u)) s := by
 have x := I.hok d u h
 have ex : ∃ od, s.heap.get? d = some od := by
   cases u with
   | lst xs => obtain ⟨_, _, _, _, e⟩ := x; exact ⟨_, e⟩
   | dK kvs => obtain ⟨_, _, _, _, o, _, _, e, _⟩ := x; exact ⟨o, e⟩
   | dT kvs => obtain ⟨_, _, _, _, o, _, _, e, _⟩ := x; exact ⟨o, e⟩
   | set S n => obtain ⟨o, _, _, _, e, _⟩ := x; exact ⟨o, e⟩
   | ins C dx fs => obtain ⟨_, _, _, e, _⟩ := x; exact ⟨_, e⟩
   | ext φ => obtain ⟨_, ⟨_, e⟩, _⟩ := x; exact ⟨_, e⟩
   | _ => exact False.elim mu
 obtain ⟨od, e⟩ := ex
 have new : ObjOk X.prog X.w (upd H d (.frz od u)) s.heap d (.frz od u) := by
   refine ⟨e, x.stay (fun b v _ q => q) (fun b q => ?_) fun b xs q => ?_⟩
   · rw [upd_ne (fun z => by rw [z, h] at q; cases q; exact mu)]; exact q
   · rw [upd_ne (fun z => by rw [z, h] at q; cases q; exact mu)]; exact q
 exact ⟨od, I.write (x := d) (e := d) (t' := s.toks) (h' := s.heap) (by rw [h]; exact mu) (.inl rfl) (fun b v _ q => q) ⟨od, e⟩ new⟩
theorem Inv.nofrz {d : Addr} {u : HO} (I : Inv X pins σ H s) (h : H d = some u) (mu : Mut (some u)) : ∀ o' u', X.H_0 d ≠ some (.frz o' u') := fun o' u' e => by
 have q := I.base.frzs d o' u' e
 rw [h] at q
 cases q
 exact mu
theorem Inv.unlock {d : Addr} {od : Obj} {u : HO} (I : Inv X pins σ H s) (h : H d = some (.frz od u)) (hn : ∀ o' u', X.H_0 d ≠ some (.frz o' u')) : Inv X pins σ (upd H d u) s := by
 have neH : ∀ b o, H b = some o → (∀ o' u', o ≠ .frz o' u') → b ≠ d := fun b o e hne z => by
   rw [z, h] at e
   cases e
   exact hne _ _ rfl
 have neN : ∀ b, H b = none → b ≠ d := fun b e z => by rw [z, h] at e; cases e
 refine ⟨I.ok, I.os, I.bare, ⟨I.base.keep, I.base.slot, fun b o e n hx => ?_, I.base.there, fun b xs e => ?_, fun b o x e => ?_, fun b ps e => ?_⟩, I.loc, I.cell, ?_, fun x c e => ?_, fun p hp => ?_, fun b o e => ?_, I.len⟩
 · rw [upd_ne (neN b (I.base.free b o e n hx))]; exact I.base.free b o e n hx
 · have q := I.base.tups b xs e
   rw [upd_ne (neH b _ q (fun _ _ z => nomatch z))]; exact q
 · have q := I.base.frzs b o x e
   rw [upd_ne (fun z => by rw [z] at e; exact hn _ _ e)]; exact q
 · obtain ⟨m, q⟩ := I.base.tbls b ps e
   exact ⟨m, by rw [upd_ne (neH b _ q (fun _ _ z => nomatch z))]; exact q⟩
 · rw [upd_ne (neN _ I.free)]; exact I.free
 · rw [upd_ne (neN c (I.freeC x c e))]; exact I.freeC x c e
 · obtain ⟨e, n, r⟩ := I.pin p hp
   exact ⟨e, by rw [upd_ne (neN _ n)]; exact n, r⟩
 · by_cases hb : b = d
   · rw [hb, upd_same] at e
     cases e
     rw [hb]
     obtain ⟨_, x⟩ := I.hok d _ h
     exact x.stay (fun c v _ q => q) (fun c q => by rw [upd_ne (neH c _ q (fun _ _ z => nomatch z))]; exact q) fun c xs q => by rw [upd_ne (neH c _ q (fun _ _ z => nomatch z))]; exact q
   · rw [upd_ne hb] at e
     exact (I.hok b o e).stay (fun c v _ q => q) (fun c q => by rw [upd_ne (neH c _ q (fun _ _ z => nomatch z))]; exact q) fun c xs q => by rw [upd_ne (neH c _ q (fun _ _ z => nomatch z))]; exact q
end
def tLock (t : TS) : TS := fun D σ H => ∃ d u, H d = some u ∧ Mut (some u) ∧ ∀ od, t ⟨fun σ' H' => H' d = some (.frz od u) ∧ D.nx σ' (upd H' d u), fun v H' => H' d = some (.frz od u) ∧ D.rt v (upd H' d u), fun σ' H' => H' d = some (.frz od u) ∧ D.bk σ' (upd H' d u), fun σ' H' => H' d = some (.frz od u) ∧ D.ct σ' (upd H' d u)⟩ σ (upd H d (.frz od u))
section
variable {X : Cx}
theorem ps_lock {st : Stmt} {t : TS} (h : PS X st t) : PS X st (tLock t) := by
 intro pins s σ H D I hw
 obtain ⟨d, u, hd, mu, hw⟩ := hw
 obtain ⟨od, I1⟩ := I.lock hd mu
 refine thn (h pins s σ _ _ I1 (hw od)) fun f s1 q => ?_
 cases f with
 | next => obtain ⟨σ', H', I2, e, q⟩ := q; exact ⟨σ', _, I2.unlock e (I.nofrz hd mu), q⟩
 | brk => obtain ⟨σ', H', I2, e, q⟩ := q; exact ⟨σ', _, I2.unlock e (I.nofrz hd mu), q⟩
 | cont => obtain ⟨σ', H', I2, e, q⟩ := q; exact ⟨σ', _, I2.unlock e (I.nofrz hd mu), q⟩
 | ret v => obtain ⟨x, σ', H', I2, r, e, q⟩ := q; exact ⟨x, σ', _, I2.unlock e (I.nofrz hd mu), r, q⟩
theorem pi_one {tg : Expr} {pins : List (Addr × Obj)} {σ : St} {H : Hp} {s : Shared} {R : It → Hp → Prop} {J : It} {tn : Nat → Heap → Prop} {tk : Nat} (I : Inv X pins σ H s) (o : Obj)
   (T : Turn X.prog X.w X.K tg J [s.heap.objs.size] s.heap.objs.size tn) (st : tn 0 (s.heap.push o)) (q : R J H) : PIE X pins σ tg R (.ref s.heap.objs.size) { s with heap := s.heap.push o, toks := tk } := by
 refine ⟨s.heap.objs.size, [s.heap.objs.size], tn, J, H, rfl, I.kept fun b ob e => Heap.get?_push_of_some _ e, T, st, fun b hb => ?_, q⟩
 have e : b = s.heap.objs.size := by simpa using hb
 subst e
 exact I.fpOk (Nat.le_refl _) (I.hok.fresh (Nat.le_refl _))
end
def Itc (lo c : Int) (n : Nat) : It := ⟨fun i _ => i < n, fun i H x H' => H' = H ∧ x = .int (lo + (i : Nat) * c), fun i _ => n ≤ i⟩
theorem turn_rangeC {P : Program} {w : World} {K : PySem.W.Frag} {tg : Expr} (it : Addr) (lo c : Int) (n : Nat) : Turn P w K tg (Itc lo c n) [it] it (fun i h => IsRangeIter h it (lo + (i : Nat) * c) ((n : Int) - (i : Nat)) c) where
 mem := by simp
 obj := fun i h st b hb => by
   have e : b = it := by simpa using hb
   subst e
   exact ⟨_, st, fun v z => nomatch z⟩
 keep := fun i h h' st k => k it (by simp) _ st
 item := by
   intro X hP hw hK hc i pins s σ H E I hf st hg
   subst hP hw hK
   obtain ⟨f0, f1, f2, f3, f4, f5⟩ := hf it (by simp)
   have W := Walks.range (prog := X.prog) (w := X.w) (I.ok.hd hc) it lo c n
   refine W.item i s _ _ hg st fun v h' tk hv st' kk => ?_
   obtain ⟨t, rfl⟩ := hv
   have I1 : Inv X pins σ H { s with heap := h', toks := tk } := I.turned (fun b o hb e => kk b o (by simpa using hb) e) f0 f1 f3 f4 f5
   exact ⟨_, rfl, go_of (s := { s with heap := h', toks := tk }) (n := "range_iterator") st' rfl rfl (by decide) ⟨.int (lo + (i : Nat) * c), H, I1, ⟨t, rfl⟩, ⟨rfl, rfl⟩, st', fun b hb => (hf b hb).1⟩⟩
 done := by
   intro X hP hw hK hc i pins s σ H E I hf st hg
   subst hP hw hK
   obtain ⟨f0, f1, f2, f3, f4, f5⟩ := hf it (by simp)
   exact wpAny_pyNext_range_end (I.ok.hd hc) st (by have : n ≤ i := hg; omega) fun h' eb => ⟨rfl, I.turned (t' := s.toks) (fun b o hb e => eb b o hb e) f0 f1 f3 f4 f5⟩
 self := fun A i s Q E st h => wpAny_pyIter_rangeiter st h
def RgC (i j c : Int) (n : Nat) : Prop := c ≠ 0 ∧ c.natAbs < 1073741824 ∧ Builtin.Range.small i j c = true ∧ Builtin.Range.rangeSize i j c = n
theorem RgC.neg {i j : Int} (ha : -(2 ^ 62) ≤ i) (ha' : i < 2 ^ 62) (hb : -(2 ^ 62) ≤ j) (hb' : j < 2 ^ 62) : RgC i j (-1) (i - j).toNat :=
 ⟨by decide, by decide, PySem.W.small_down ha ha' hb hb', PySem.W.rangeSize_downNat i j⟩
def iRng3 (ta : TA) : TI := fun σ H R => ta σ H fun vs H1 => ∃ (i j c : Int) (n : Nat), vs = [.int i, .int j, .int c] ∧ RgC i j c n ∧ R (Itc i c n) H1
section
variable {X : Cx} {tg : Expr}
theorem pi_range3 {a b c : Expr} {ta : TA} {p pos : Pos} (hg : Gl X "range") (hm : X.mg "range" = none) (ha : PA X [a, b, c] ta)
   (hs : starEach [a, b, c] X.env = (false, eval a X.env) :: starEach [b, c] X.env := by rfl) (hpl : (backTo pos (starEach [b, c] X.env)).any (·.1) = false := by rfl) :
   PI X tg (.Call (.Name "range" p) [a, b, c] [] pos) (iRng3 ta) := by
 intro pins s σ H R I h
 refine Call_ (ld_blt I hg hm boot_range (PyProof.Rows.callWith_type1 (thn (ha pos pins s σ H _ I h) fun us s1 ⟨vs, H1, I1, r1, q1⟩ => ?_) hs hpl))
 obtain ⟨i, j, k, n, e, ⟨c0, c1, c2, c3⟩, q⟩ := q1
 subst e
 cases r1 with
 | cons r rr =>
   cases rr with
   | cons r' rr =>
     cases rr with
     | cons r'' rr =>
       cases rr
       obtain ⟨t, rfl⟩ := r
       obtain ⟨t', rfl⟩ := r'
       obtain ⟨t'', rfl⟩ := r''
       refine call_range_3 c0 ?_ (.inl (PyProof.noPylong_small c1))
       refine wpAny_pyIter_range (IsRange.new ..) c2 ?_
       have I2 : Inv X pins σ H1 { s1 with heap := s1.heap.push { cls := .type "range", data := .fields #[.int i t, .int j t', .int k t''] } } := I1.kept (t' := s1.toks) fun b o e => Heap.get?_push_of_some _ e
       refine pi_one (tk := s1.toks) I2 _ (turn_rangeC _ i k n) ?_ q
       have e1 : i + ((0 : Nat) : Int) * k = i := by simp
       have e2 : (n : Int) - ((0 : Nat) : Int) = Builtin.Range.rangeSize i j k := by rw [c3]; simp
       show IsRangeIter _ _ (i + ((0 : Nat) : Int) * k) ((n : Int) - ((0 : Nat) : Int)) k
       rw [e1, e2]
       exact Heap.get?_push_size _ rfl
end
theorem for_rangeC {lo c : Int} {n : Nat} {g : TG} {tb : TS} {D : Ends} {σ : St} {H : Hp} (Pv : Nat → St → Hp → Prop) (h0 : Pv 0 σ H)
   (hs : ∀ i σ H, i < n → Pv i σ H → g (.int (lo + (i : Nat) * c)) σ H fun σ2 H2 => tb { D with nx := Pv (i + 1), ct := Pv (i + 1), bk := D.nx } σ2 H2) (hd : ∀ σ H, Pv n σ H → D.nx σ H) :
   ∃ W : Nat → Nat → St → Hp → Prop, (∃ m, W 0 m σ H) ∧ ∀ i m σ H, W i m σ H →
     ((Itc lo c n).stop i H ∧ D.nx σ H) ∨ ((Itc lo c n).go i H ∧ ∃ N : St → Hp → Prop, (∀ σ' H', N σ' H' → ∃ m', m' < m ∧ W (i + 1) m' σ' H') ∧ ∀ x H', (Itc lo c n).yld i H x H' → g x σ H' fun σ2 H2 => tb { D with nx := N, ct := N, bk := D.nx } σ2 H2) := by
 refine ⟨fun i m σ H => m = n - i ∧ i ≤ n ∧ Pv i σ H, ⟨n, by simp, Nat.zero_le _, h0⟩, ?_⟩
 rintro i m σ H ⟨rfl, hi, p⟩
 by_cases hlt : i < n
 · refine .inr ⟨hlt, Pv (i + 1), fun σ' H' p' => ⟨n - (i + 1), by omega, rfl, hlt, p'⟩, fun x H' y => ?_⟩
   obtain ⟨e, y⟩ := y
   subst e y
   exact hs i σ _ hlt p
 · have e : i = n := by omega
   subst e
   exact .inl ⟨Nat.le_refl _, hd σ H p⟩
def Its (x : Str) : It := ⟨fun i _ => i < x.cps.size, fun i H v H' => H' = H ∧ ∃ c, x.cps[i]? = some c ∧ v = .str ⟨#[c]⟩, fun i _ => x.cps.size ≤ i⟩
theorem turn_str {P : Program} {w : World} {K : PySem.W.Frag} {tg : Expr} (it : Addr) (x : Str) (t : Tok) (ty : String) (hty : ty = "str_ascii_iterator" ∨ ty = "str_iterator") :
   Turn P w K tg (Its x) [it] it (fun i h => h.IsStrIter it ty x t i) where
 mem := by simp
 obj := fun i h st b hb => by
   have e : b = it := by simpa using hb
   subst e
   obtain ⟨o, e, c, d⟩ := st
   exact ⟨o, e, fun v z => by rw [d] at z; cases z⟩
 keep := fun i h h' st k => let ⟨o, ho, r⟩ := st; ⟨o, k it (by simp) o ho, r⟩
 item := by
   intro X hP hw hK hc i pins s σ H E I hf st hg
   subst hP hw hK
   obtain ⟨f0, f1, f2, f3, f4, f5⟩ := hf it (by simp)
   have W : Walks X.prog X.w X.A it [it] [it] x.cps.size (SignAt x) (fun i h => h.IsStrIter it ty x t i) := by
     rcases hty with e | e
     · rw [e]; exact Walks.strAscii (I.ok.hd hc) it x t
     · rw [e]; exact Walks.strWide (I.ok.hd hc) it x t
   have hno : ["enumerate", "zip", "dict_itemiterator", "dict_reverseitemiterator", "odict_iterator", "itertools.zip_longest", "itertools.pairwise"].contains ty = false := by
     rcases hty with e | e
     · rw [e]; decide
     · rw [e]; decide
   refine W.item i s _ _ hg st fun v h' tk hv st' kk => ?_
   obtain ⟨c, u, hcx, rfl⟩ := hv
   have I1 : Inv X pins σ H { s with heap := h', toks := tk } := I.turned (fun b o hb e => kk b o (by simpa using hb) e) f0 f1 f3 f4 f5
   obtain ⟨oi, e, cc, dd⟩ := id st'
   exact ⟨_, rfl, go_of (s := { s with heap := h', toks := tk }) e cc dd hno ⟨.str ⟨#[c]⟩, H, I1, ⟨u, rfl⟩, ⟨rfl, c, hcx, rfl⟩, st', fun b hb => (hf b hb).1⟩⟩
 done := by
   intro X hP hw hK hc i pins s σ H E I hf st hg
   subst hP hw hK
   obtain ⟨f0, f1, f2, f3, f4, f5⟩ := hf it (by simp)
   have hx : x.cps[i]? = none := Array.getElem?_eq_none hg
   rcases hty with e | e
   · rw [e] at st
     exact wpAny_pyNext_ascii_end (I.ok.hd hc) st hx fun h' eb => ⟨rfl, I.turned (t' := s.toks) (fun b o hb e => eb b o hb e) f0 f1 f3 f4 f5⟩
   · rw [e] at st
     exact wpAny_pyNext_wide_end (I.ok.hd hc) st hx fun h' eb => ⟨rfl, I.turned (t' := s.toks) (fun b o hb e => eb b o hb e) f0 f1 f3 f4 f5⟩
 self := fun A i s Q E st h => by
   rcases hty with e | e
   · rw [e] at st; exact wpAny_pyIter_striter_ascii st h
   · rw [e] at st; exact wpAny_pyIter_striter_wide st h
def iStr (te : TE) : TI := fun σ H R => te σ H fun v H1 => ∃ x, v = .str x ∧ R (Its x) H1
theorem pi_str {X : Cx} {tg e : Expr} {te : TE} (he : PE X e te) : PI X tg e (iStr te) := by
 intro pins s σ H R I h
 refine thn (he pins s σ H _ I h) fun v s1 ⟨y, H1, I1, r1, x, ex, q⟩ => ?_
 subst ex
 obtain ⟨t, rfl⟩ := r1
 cases ha : x.cps.all (· < 128)
 · exact wpAny_pyIter_wide ha (pi_one (tk := s1.toks) I1 _ (turn_str _ x t "str_iterator" (.inr rfl)) ⟨_, Heap.get?_push_size _ rfl, rfl, rfl⟩ q)
 · exact wpAny_pyIter_ascii ha (pi_one (tk := s1.toks) I1 _ (turn_str _ x t "str_ascii_iterator" (.inl rfl)) ⟨_, Heap.get?_push_size _ rfl, rfl, rfl⟩ q)
section
variable {prog : Program} {w : World} {A : Around} {E : Value → Shared → Prop} {s : Shared}
theorem iter_keys {d : Addr} {o : Obj} {es : Array DictEntry} {ep : Nat} {Q : Value → Shared → Prop} (hd : (d == sysModules) = false) (ho : s.heap.get? d = some o) (hc : o.ExactDict) (hdat : o.data = .dict es ep)
   (hQ : Q (.ref s.heap.objs.size) { s with heap := s.heap.push { cls := .type "dict_keyiterator", data := .fields #[.ref d, .int 0 0, .int es.size 0, .int ep 0] } }) :
   wpAny (model prog w) A (pyIter (.ref d)) Q E s := by
 have hT : s.TypeIs (.ref d) "dict" := ⟨o, ho, hc.1⟩
 refine wpAny_pyIter_slot hT F.slot_dict_iter (wpAny_call_entry F.slot_dict_iter hT F.entry_dict_iter ?_ (F.args_dict_iter_1 _))
 unfold Builtin.«dict.__iter__»
 refine wpAny_bind ?_
 unfold Builtin.Dict.dictSlotNone
 refine wpAny_bind (wpAny_notOrdered_dict hT ?_)
 show wpAny _ _ (pure (Value.ref d)) _ _ s
 refine wpAny_pure ?_
 show wpAny _ _ (Builtin.Dict.showsAll d >>= _) _ _ s
 unfold Builtin.Dict.showsAll
 rw [if_neg (by rw [hd]; exact Bool.false_ne_true)]
 refine wpAny_bind (wpAny_pure ?_)
 refine wpAny_bind (wpAny_dictEntries ho hdat ?_)
 refine wpAny_bind (wpAny_dictEpoch ho hdat ?_)
 refine wpAny_bind (wpAny_newObj_type (wpAny_pure ⟨_, rfl, "dict_keyiterator", _, ⟨_, Heap.get?_push_size _ rfl, rfl⟩, F.slot_dict_keyiterator_next.lookup, ?_⟩))
 simpa [rawInt] using hQ
theorem next_key_item {it d : Addr} {i n ep : Nat} {od : Obj} {es : Array DictEntry} {en : DictEntry} {Q : Option Value → Shared → Prop} (hit : s.heap.IsKeyIter it d i n ep) (hod : s.heap.get? d = some od) (hdd : od.data = .dict es ep)
   (hsz : es.size = n) (hx : es[i]? = some en) (hQ : ∀ h', h'.IsKeyIter it d (i + 1) n ep → Heap.SameBut it s.heap h' → Q (some en.key) { s with heap := h' }) : wpAny (model prog w) A (pyNext (.ref it)) Q E s := by
 obtain ⟨o, ho, hc, hd⟩ := id hit
 unfold pyNext
 refine wpAny_bind (wpAny_attempt (wpAny_callSpecial?_slot (name := Str.ofString "__next__") hit.typeIs F.slot_dict_keyiterator_next
   (wpAny_call_entry F.slot_dict_keyiterator_next hit.typeIs F.entry_dict_keyiterator_next ?_ (F.args_dict_keyiterator_next_1 _))))
 refine wpAny_bind (wpAny_pure ?_)
 refine wpAny_bind ?_
 refine wpAny_bind ?_
 first | refine wpAny_bind (wpAny_typeNameOfWhole_keyiter hit.typeIs (wpAny_pure ?_)) | refine wpAny_bind (wpAny_typeNameOf_keyiter hit.typeIs (wpAny_pure ?_))
 refine wpAny_bind (wpAny_fieldsOf ho hd ?_)
 have hown : Builtin.Dict_items.ownsTuple "dict_keyiterator" = false := by decide
 simp only [hown, Bool.false_eq_true, if_false]
 show wpAny _ _ (if (Value.ref d == Value.none) = true then _ else _) _ _ s
 rw [if_neg (show ¬ ((Value.ref d == Value.none) = true) from Bool.false_ne_true)]
 refine wpAny_bind (wpAny_pure ?_)
 refine wpAny_bind (wpAny_dictEntries hod hdd ?_)
 rw [if_neg (by rw [hsz]; simp)]
 refine wpAny_bind (wpAny_pure ?_)
 refine wpAny_bind (wpAny_dictEpoch hod hdd ?_)
 rw [if_neg (by simp)]
 refine wpAny_pure ?_
 obtain ⟨hlt', hen⟩ := Array.getElem?_eq_some_iff.mp hx
 simp only [show ¬ ((i : Int) < 0) from by omega, if_false, Int.toNat_natCast, Array.getElem?_eq_getElem hlt']
 refine wpAny_bind ?_
 first | refine wpAny_bind (wpAny_typeNameOfWhole_keyiter hit.typeIs (wpAny_pure ?_)) | refine wpAny_bind (wpAny_typeNameOf_keyiter hit.typeIs (wpAny_pure ?_))
 refine wpAny_bind (wpAny_isOneOf_keyiter hit.typeIs ?_)
 show wpAny _ _ (setField (.ref it) 1 (rawInt ((i : Int) + 1)) >>= _) _ _ s
 refine wpAny_bind (wpAny_setField ho hd (by simp) ?_)
 have hit' : (s.heap.update it (Obj.mapFields (·.setIfInBounds 1 (rawInt ((i : Int) + 1))))).IsKeyIter it d (i + 1) n ep :=
   ⟨_, Heap.get?_update_self _ ho (Obj.isFreed_of_fields (Obj.data_mapFields hd _)), (Obj.cls_mapFields ..).trans hc, by rw [Obj.data_mapFields hd]; simp [rawInt]⟩
 refine wpAny_bind (wpAny_holding ?_)
 refine wpAny_bind (wpAny_isOneOf_keyiter (s := { s with heap := s.heap.update it (Obj.mapFields (·.setIfInBounds 1 (rawInt ((i : Int) + 1)))) }) hit'.typeIs ?_)
 show wpAny _ _ (pure es[i].key) _ _ _
 rw [hen]
 exact wpAny_pure (wpAny_pure ⟨_, rfl, wpAny_pure (hQ _ hit' (Heap.SameBut.update ..))⟩)
theorem next_key_end {it d : Addr} {i n ep : Nat} {od : Obj} {es : Array DictEntry} {Q : Option Value → Shared → Prop} (hh : A.handled = none) (hit : s.heap.IsKeyIter it d i n ep) (hod : s.heap.get? d = some od) (hdd : od.data = .dict es ep)
   (hsz : es.size = n) (hge : n ≤ i) (hQ : ∀ h', Heap.ExtBut it s.heap h' → Q none { s with heap := h' }) : wpAny (model prog w) A (pyNext (.ref it)) Q E s := by
 obtain ⟨o, ho, hc, hd⟩ := id hit
 unfold pyNext
 refine wpAny_bind (wpAny_attempt (wpAny_callSpecial?_slot (name := Str.ofString "__next__") hit.typeIs F.slot_dict_keyiterator_next
   (wpAny_call_entry F.slot_dict_keyiterator_next hit.typeIs F.entry_dict_keyiterator_next ?_ (F.args_dict_keyiterator_next_1 _))))
 refine wpAny_bind (wpAny_pure ?_)
 refine wpAny_bind ?_
 refine wpAny_bind ?_
 first | refine wpAny_bind (wpAny_typeNameOfWhole_keyiter hit.typeIs (wpAny_pure ?_)) | refine wpAny_bind (wpAny_typeNameOf_keyiter hit.typeIs (wpAny_pure ?_))
 refine wpAny_bind (wpAny_fieldsOf ho hd ?_)
 have hown : Builtin.Dict_items.ownsTuple "dict_keyiterator" = false := by decide
 simp only [hown, Bool.false_eq_true, if_false]
 show wpAny _ _ (if (Value.ref d == Value.none) = true then _ else _) _ _ s
 rw [if_neg (show ¬ ((Value.ref d == Value.none) = true) from Bool.false_ne_true)]
 refine wpAny_bind (wpAny_pure ?_)
 refine wpAny_bind (wpAny_dictEntries hod hdd ?_)
 rw [if_neg (by rw [hsz]; simp)]
 refine wpAny_bind (wpAny_pure ?_)
 refine wpAny_bind (wpAny_dictEpoch hod hdd ?_)
 rw [if_neg (by simp)]
 refine wpAny_pure ?_
 have hge' : es.size ≤ i := by rw [hsz]; exact hge
 simp only [show ¬ ((i : Int) < 0) from by omega, if_false, Int.toNat_natCast, Array.getElem?_eq_none hge']
 refine wpAny_bind ?_
 first | refine wpAny_bind (wpAny_typeNameOfWhole_keyiter hit.typeIs (wpAny_pure ?_)) | refine wpAny_bind (wpAny_typeNameOf_keyiter hit.typeIs (wpAny_pure ?_))
 show wpAny _ _ (setField (.ref it) 0 .none >>= _) _ _ s
 refine wpAny_bind (wpAny_setField ho hd (by simp) ?_)
 show wpAny _ _ (newExc (.type "StopIteration") [] >>= _) _ _ _
 refine wpAny_bind ?_
 simp only [newExc, newTuple]
 refine wpAny_bind (wpAny_newObj_type ?_ (by size_fits))
 refine wpAny_bind (m := firstArgMember _ _) (wpAny_of_eq (a := Value.none) (by first | rfl | (simp only [firstArgMember]; rfl)) ?_)
 refine wpAny_newObj_type ?_ (by size_fits)
 simp only [raiseNew]
 refine wpAny_bind (wpAny_handled ?_)
 rw [show A.in1.handled = none from hh]
 refine wpAny_bind (wpAny_pure (wpAny_throw ?_))
 refine wpAny_bind (wpAny_isInstance (T := "StopIteration") (b := true) ⟨_, Heap.get?_push_size _ rfl, rfl⟩ isSubtype_stop ?_)
 exact wpAny_pure (hQ _ (((Heap.SameBut.update ..).extBut.push _).push _))
end
theorem kv_get {κ : Type} {kvs : List (κ × V)} {vs : List (κ × Value)} (h : KV kvs vs) : ∀ {i : Nat} {k : κ} {v : V}, kvs[i]? = some (k, v) → ∃ u, vs[i]? = some (k, u) ∧ RelV v u := by
 unfold KV at h
 induction h with
 | nil => intro i k v e; simp at e
 | @cons a b l₁ l₂ r t ih =>
   intro i k v e
   cases i with
   | zero =>
     simp only [List.getElem?_cons_zero, Option.some.injEq] at e
     subst e
     refine ⟨b.2, ?_, r.2⟩
     simp only [List.getElem?_cons_zero]
     exact congrArg some (Prod.ext r.1.symm rfl)
   | succ j =>
     simp only [List.getElem?_cons_succ] at e ⊢
     exact ih e
theorem paired_get {α β : Type} {G : α → β → Prop} {l₁ : List α} {l₂ : List β} (h : Paired G l₁ l₂) : ∀ {i : Nat} {a : α}, l₁[i]? = some a → ∃ b, l₂[i]? = some b ∧ G a b := by
 induction h with
 | nil => intro i a e; simp at e
 | @cons a b l₁ l₂ r t ih =>
   intro i a' e
   cases i with
   | zero =>
     simp only [List.getElem?_cons_zero, Option.some.injEq] at e
     subst e
     exact ⟨b, rfl, r⟩
   | succ j =>
     simp only [List.getElem?_cons_succ] at e ⊢
     exact ih e
theorem relV_key {k : Key} {u : Value} (h : keyIs k u = true) : RelV (kV k) u := by
 rcases keyIs_shape h with ⟨i, t, rfl, rfl⟩ | ⟨x, t, rfl, rfl⟩
 · exact ⟨t, rfl⟩
 · exact ⟨t, rfl⟩
section
variable {X : Cx} {pins : List (Addr × Obj)} {σ : St} {H : Hp} {s : Shared} {d : Addr} {o : Obj}
theorem Inv.frzK {kvs : List (Key × V)} (I : Inv X pins σ H s) (h : H d = some (.frz o (.dK kvs))) :
   (d == sysModules) = false ∧ s.heap.get? d = some o ∧ o.ExactDict ∧ ∃ (es : Array DictEntry) (ep : Nat) (vs : List (Key × Value)), o.data = .dict es ep ∧ es.size = kvs.length ∧ KV kvs vs ∧ s.heap.DictAt (mixKind X.prog X.w) d vs ep := by
 obtain ⟨hd, z, hs, vs, kv, o', es, ep, ho, hx, hdt, r⟩ := I.hok d _ h
 rw [hd] at ho
 cases ho
 refine ⟨hs, hd, hx, es, ep, vs, hdt, ?_, kv, o, es, hd, hx, hdt, r⟩
 have l1 := r.2.1.length
 have l2 : kvs.length = vs.length := Paired.length kv
 rw [Array.length_toList] at l1
 omega
theorem Inv.frzT {kvs : List (List Key × V)} (I : Inv X pins σ H s) (h : H d = some (.frz o (.dT kvs))) :
   (d == sysModules) = false ∧ s.heap.get? d = some o ∧ o.ExactDict ∧ ∃ (es : Array DictEntry) (ep : Nat), o.data = .dict es ep ∧ es.size = kvs.length ∧
     ∀ (i : Nat) (k : List Key) (v : V), kvs[i]? = some (k, v) → ∃ (en : DictEntry) (q : Addr), es[i]? = some en ∧ en.key = .ref q ∧ H q = some (.tup (k.map kV)) := by
 obtain ⟨hd, z, hs, xs, pr, o', es, ep, ho, hx, hdt, he, _⟩ := I.hok d _ h
 rw [hd] at ho
 cases ho
 refine ⟨hs, hd, hx, es, ep, hdt, ?_, fun i k v e => ?_⟩
 · have l1 : es.size = xs.length := size_of_entries he
   have l2 : kvs.length = xs.length := Paired.length pr
   omega
 · obtain ⟨b, hb, e1, e2, _⟩ := paired_get pr e
   have q := entry_at he i
   rw [hb] at q
   exact ⟨_, b.2.1, q, rfl, e2⟩
end
def Itk (d : Addr) (o : Obj) (kvs : List (Key × V)) : It :=
 ⟨fun i H => H d = some (.frz o (.dK kvs)) ∧ i < kvs.length, fun i H x H' => H' = H ∧ ∃ k v, kvs[i]? = some (k, v) ∧ x = kV k, fun i H => H d = some (.frz o (.dK kvs)) ∧ kvs.length ≤ i⟩
def Itkt (d : Addr) (o : Obj) (kvs : List (List Key × V)) : It :=
 ⟨fun i H => H d = some (.frz o (.dT kvs)) ∧ i < kvs.length, fun i H x H' => H' = H ∧ ∃ (k : List Key) (v : V) (q : Addr), kvs[i]? = some (k, v) ∧ x = .ref q ∧ H q = some (.tup (k.map kV)), fun i H => H d = some (.frz o (.dT kvs)) ∧ kvs.length ≤ i⟩
theorem dict_ep {o : Obj} {es es' : Array DictEntry} {ep ep' : Nat} (h : o.data = .dict es ep) (h' : o.data = .dict es' ep') : es' = es ∧ ep' = ep := by
 rw [h] at h'
 cases h'
 exact ⟨rfl, rfl⟩
section
variable {P : Program} {w : World} {K : PySem.W.Frag} {tg : Expr} {d : Addr} {o : Obj} {es : Array DictEntry} {ep : Nat}
theorem turn_keys {kvs : List (Key × V)} (it : Addr) (hod : o.data = .dict es ep) : Turn P w K tg (Itk d o kvs) [it] it (fun i h => h.IsKeyIter it d i kvs.length ep) where
 mem := by simp
 obj := fun i h st b hb => by
   have e : b = it := by simpa using hb
   subst e
   obtain ⟨oi, e, c, dd⟩ := st
   exact ⟨oi, e, fun v z => by rw [dd] at z; cases z⟩
 keep := fun i h h' st k => st.at fun oi e => k it (by simp) oi e
 item := by
   intro X hP hw hK hc i pins s σ H E I hf st hg
   subst hP hw hK
   obtain ⟨hd, hi⟩ := hg
   obtain ⟨f0, f1, f2, f3, f4, f5⟩ := hf it (by simp)
   obtain ⟨hs, hgd, hx, es', ep', vs, hdt, hsz, kv, hm⟩ := I.frzK hd
   obtain ⟨rfl, rfl⟩ := dict_ep hod hdt
   obtain ⟨⟨k, v⟩, hkv⟩ : ∃ p, kvs[i]? = some p := ⟨kvs[i], List.getElem?_eq_getElem hi⟩
   obtain ⟨u, hu, ru⟩ := kv_get kv hkv
   have hl : kvs.length = vs.length := Paired.length kv
   rw [hl] at st
   refine wpAny_pyNext_dict_item st hm hu fun key h' hkey st' sb => ?_
   have I1 : Inv X pins σ H { s with heap := h' } := I.turned (t' := s.toks) (fun b ob hb e => (sb.2 b hb).trans e) f0 f1 f3 f4 f5
   obtain ⟨oi, e, c, dd⟩ := id st'
   refine ⟨key, rfl, go_of (s := { s with heap := h' }) e c dd (by decide) ⟨kV k, H, I1, relV_key (show keyIs k key = true from hkey), ⟨rfl, k, v, hkv, rfl⟩, ?_, fun b hb => (hf b hb).1⟩⟩
   show h'.IsKeyIter it d (i + 1) kvs.length _
   rw [hl]
   exact st'
 done := by
   intro X hP hw hK hc i pins s σ H E I hf st hg
   subst hP hw hK
   obtain ⟨hd, hi⟩ := hg
   obtain ⟨f0, f1, f2, f3, f4, f5⟩ := hf it (by simp)
   obtain ⟨hs, hgd, hx, es', ep', vs, hdt, hsz, kv, hm⟩ := I.frzK hd
   obtain ⟨rfl, rfl⟩ := dict_ep hod hdt
   exact next_key_end (I.ok.hd hc) st hgd hdt hsz hi fun h' eb => ⟨rfl, I.turned (t' := s.toks) (fun b ob hb e => eb b ob hb e) f0 f1 f3 f4 f5⟩
 self := fun A i s Q E st h => wpAny_pyIter_keyiter st h
theorem turn_keysT {kvs : List (List Key × V)} (it : Addr) (hod : o.data = .dict es ep) : Turn P w K tg (Itkt d o kvs) [it] it (fun i h => h.IsKeyIter it d i kvs.length ep) where
 mem := by simp
 obj := fun i h st b hb => by
   have e : b = it := by simpa using hb
   subst e
   obtain ⟨oi, e, c, dd⟩ := st
   exact ⟨oi, e, fun v z => by rw [dd] at z; cases z⟩
 keep := fun i h h' st k => st.at fun oi e => k it (by simp) oi e
 item := by
   intro X hP hw hK hc i pins s σ H E I hf st hg
   subst hP hw hK
   obtain ⟨hd, hi⟩ := hg
   obtain ⟨f0, f1, f2, f3, f4, f5⟩ := hf it (by simp)
   obtain ⟨hs, hgd, hx, es', ep', hdt, hsz, ent⟩ := I.frzT hd
   obtain ⟨rfl, rfl⟩ := dict_ep hod hdt
   obtain ⟨⟨k, v⟩, hkv⟩ : ∃ p, kvs[i]? = some p := ⟨kvs[i], List.getElem?_eq_getElem hi⟩
   obtain ⟨en, q, hen, hkey, hq⟩ := ent i k v hkv
   refine next_key_item st hgd hdt hsz hen fun h' st' sb => ?_
   have I1 : Inv X pins σ H { s with heap := h' } := I.turned (t' := s.toks) (fun b ob hb e => (sb.2 b hb).trans e) f0 f1 f3 f4 f5
   obtain ⟨oi, e, c, dd⟩ := id st'
   exact ⟨en.key, rfl, go_of (s := { s with heap := h' }) e c dd (by decide) ⟨.ref q, H, I1, hkey, ⟨rfl, k, v, q, hkv, rfl, hq⟩, st', fun b hb => (hf b hb).1⟩⟩
 done := by
   intro X hP hw hK hc i pins s σ H E I hf st hg
   subst hP hw hK
   obtain ⟨hd, hi⟩ := hg
   obtain ⟨f0, f1, f2, f3, f4, f5⟩ := hf it (by simp)
   obtain ⟨hs, hgd, hx, es', ep', hdt, hsz, ent⟩ := I.frzT hd
   obtain ⟨rfl, rfl⟩ := dict_ep hod hdt
   exact next_key_end (I.ok.hd hc) st hgd hdt hsz hi fun h' eb => ⟨rfl, I.turned (t' := s.toks) (fun b ob hb e => eb b ob hb e) f0 f1 f3 f4 f5⟩
 self := fun A i s Q E st h => by
   refine wpAny_pyIter_slot st.typeIs F.slot_dict_keyiterator_iter (wpAny_call_entry F.slot_dict_keyiterator_iter st.typeIs F.entry_dict_keyiterator_iter ?_ (F.args_dict_keyiterator_iter_1 _))
   show wpAny _ _ (ret (.ref it)) _ _ s
   exact wpAny_pure ⟨_, rfl, "dict_keyiterator", _, st.typeIs, F.slot_dict_keyiterator_next.lookup, h⟩
end
def iKeys (td : TE) : TI := fun σ H R => td σ H fun x H1 => ∃ d o, x = .ref d ∧ ((∃ kvs, H1 d = some (.frz o (.dK kvs)) ∧ R (Itk d o kvs) H1) ∨ ∃ kvs, H1 d = some (.frz o (.dT kvs)) ∧ R (Itkt d o kvs) H1)
section
variable {X : Cx} {tg e : Expr} {td : TE} {apos cpos : Pos}
theorem pi_keys (he : PE X e td) : PI X tg e (iKeys td) := by
 intro pins s σ H R I h
 refine thn (he pins s σ H _ I h) fun u s1 ⟨x, H1, I1, rx, d, o, ex, q⟩ => ?_
 subst ex
 obtain rfl : u = Value.ref d := rx
 rcases q with ⟨kvs, hd, q⟩ | ⟨kvs, hd, q⟩
 · obtain ⟨hs, hgd, hx, es, ep, vs, hdt, hsz, kv, hm⟩ := I1.frzK hd
   refine iter_keys hs hgd hx hdt (pi_one (tk := s1.toks) I1 _ (turn_keys _ hdt) ⟨_, Heap.get?_push_size _ rfl, rfl, ?_⟩ q)
   rw [hsz] <;> rfl
 · obtain ⟨hs, hgd, hx, es, ep, hdt, hsz, ent⟩ := I1.frzT hd
   refine iter_keys hs hgd hx hdt (pi_one (tk := s1.toks) I1 _ (turn_keysT _ hdt) ⟨_, Heap.get?_push_size _ rfl, rfl, ?_⟩ q)
   rw [hsz] <;> rfl
end
def Ite (K : PySem.W.Frag) (a : Addr) : It :=
 ⟨fun i H => ∃ (xs : List V) (x : V), SqL K H a xs ∧ xs[i]? = some x, fun i H v H' => ∃ T x, v = .ref T ∧ H T = none ∧ H' = upd H T (.tup [.int (i : Nat), x]) ∧ ∀ xs, SqL K H a xs → xs[i]? = some x, fun i H => ∃ xs : List V, SqL K H a xs ∧ xs.length ≤ i⟩
theorem turn_enum {P : Program} {w : World} {K : PySem.W.Frag} {elts : List Expr} {kk : Nat} {tpos : Pos} (a e it : Addr) :
   Turn P w K (.Tuple elts kk tpos) (Ite K a) [e, it] e (fun i h => (∃ old, IsEnum h e it ((i : Nat) : Int) old) ∧ h.IsListIter it a i ∧ e ≠ it) where
 mem := by simp
 obj := fun i h st b hb => by
   obtain ⟨⟨old, he⟩, ⟨o, ho, hc, hd⟩, _⟩ := st
   have e' : b = e ∨ b = it := by simpa using hb
   rcases e' with z | z
   · rw [z]; exact ⟨_, he, fun v q => nomatch q⟩
   · rw [z]; exact ⟨o, ho, fun v q => by rw [hd] at q; cases q⟩
 keep := fun i h h' st k => let ⟨⟨old, he⟩, hi, hne⟩ := st; ⟨⟨old, k e (by simp) _ he⟩, hi.at fun o q => k it (by simp) o q, hne⟩
 item := by
   intro X hP hw hK hc i pins s σ H E I hf st hg
   subst hP hw hK
   obtain ⟨⟨old, he⟩, hit, hne⟩ := st
   obtain ⟨xs, x, hq, hx⟩ := hg
   obtain ⟨its, rv, p, hz⟩ := I.list hq
   obtain ⟨u, hu, ru⟩ := rv.get hx
   have hel : e < s.heap.objs.size := Heap.lt_size he
   have hil : it < s.heap.objs.size := by obtain ⟨_, q, _⟩ := hit; exact Heap.lt_size q
   refine wpAny_pyNext_enum_item he hit p.isList (x := u) (by simpa using hu) hne fun h' ho hit' hT hsz hk => ?_
   refine ⟨_, rfl, wpAny_letOwnedTupleGo_enum (s := { s with heap := h', toks := s.toks + 1 }) ho fun h'' he' sb => ?_⟩
   have hT2 : h''.get? s.heap.objs.size = some { cls := .type "tuple", data := .seq #[.int i s.toks, u] } := (sb.2 _ (Nat.ne_of_gt hel)).trans hT
   have new : ObjOk X.prog X.w (upd H s.heap.objs.size (.tup [.int (i : Nat), x])) h'' s.heap.objs.size (.tup [.int (i : Nat), x]) :=
     ⟨by show 2 ≤ sizeLine; decide, [.int i s.toks, u], .cons ⟨_, rfl⟩ (.cons ru .nil), ⟨_, hT2, rfl, _, rfl⟩⟩
   have I1 : Inv X pins σ (upd H s.heap.objs.size (.tup [.int (i : Nat), x])) { s with heap := h'', toks := s.toks + 1 } :=
     I.turnedNew (ch := [e, it]) (fun b ob hb q => (sb.2 b (fun z => hb (by simp [z]))).trans (hk b ob (fun z => hb (by simp [z])) (fun z => hb (by simp [z])) q)) hf (Nat.le_refl _) new
   refine ⟨.ref s.heap.objs.size, _, I1, rfl, ⟨_, x, rfl, I.hok.fresh (Nat.le_refl _), rfl, fun ys hy => by rw [I.list_inj hy hq]; exact hx⟩, ⟨⟨u, ?_⟩, hit'.at fun o q => (sb.2 it (Ne.symm hne)).trans q, hne⟩, fun b hb => ?_⟩
   · have e1 : ((i + 1 : Nat) : Int) = (i : Int) + 1 := by omega
     rw [e1]; exact he'
   · have hb' : b < s.heap.objs.size := by
       have e' : b = e ∨ b = it := by simpa using hb
       rcases e' with z | z
       · rw [z]; exact hel
       · rw [z]; exact hil
     rw [upd_ne (Nat.ne_of_lt hb')]
     exact (hf b hb).1
 done := by
   intro X hP hw hK hc i pins s σ H E I hf st hg
   subst hP hw hK
   obtain ⟨⟨old, he⟩, hit, hne⟩ := st
   obtain ⟨xs, hq, hx⟩ := hg
   obtain ⟨its, rv, p, hz⟩ := I.list hq
   obtain ⟨f0, f1, f2, f3, f4, f5⟩ := hf it (by simp)
   have hl := rv.length
   exact wpAny_pyNext_enum_end (I.ok.hd hc) he hit p.isList (by simp; omega) fun h' eb => ⟨rfl, I.turned (t' := s.toks) (fun b o hb q => eb b o hb q) f0 f1 f3 f4 f5⟩
 self := fun A i s Q E st h => let ⟨⟨_, he⟩, _⟩ := st; wpAny_pyIter_enum he h
def iEnum (K : PySem.W.Frag) (ta : TA) : TI := fun σ H R => ta σ H fun vs H1 => ∃ a xs, vs = [.ref a] ∧ SqL K H1 a xs ∧ R (Ite K a) H1
theorem pi_enum {X : Cx} {e : Expr} {ta : TA} {p pos tpos : Pos} {elts : List Expr} {kk : Nat} (hg : Gl X "enumerate") (hm : X.mg "enumerate" = none) (ha : PA X [e] ta) (hs : starEach [e] X.env = [(false, eval e X.env)] := by rfl) :
   PI X (.Tuple elts kk tpos) (.Call (.Name "enumerate" p) [e] [] pos) (iEnum X.K ta) := by
 intro pins s σ H R I h
 refine Call_ (ld_blt I hg hm boot_enumerate (PyProof.Rows.callWith_type1 (thn (ha pos pins s σ H _ I h) fun us s1 ⟨vs, H1, I1, r1, q1⟩ => ?_) hs rfl))
 obtain ⟨a, xs, ex, hq, q⟩ := q1
 subst ex
 cases r1 with
 | cons r rr =>
   cases rr
   cases r
   obtain ⟨its, rv, p', hz⟩ := I1.list hq
   refine call_enumerate_list p'.isList fun h' he hit hsz hk => wpAny_pyIter_enum he ?_
   have I2 : Inv X pins σ H1 { s1 with heap := h' } := I1.kept (t' := s1.toks) hk
   refine ⟨s1.heap.objs.size + 1, [s1.heap.objs.size + 1, s1.heap.objs.size], _, _, H1, rfl, I2, turn_enum a (s1.heap.objs.size + 1) s1.heap.objs.size, ⟨⟨.none, he⟩, hit, Nat.succ_ne_self _⟩, fun b hb => ?_, q⟩
   have e' : b = s1.heap.objs.size + 1 ∨ b = s1.heap.objs.size := by simpa using hb
   have hle : s1.heap.objs.size ≤ b := by
     rcases e' with z | z
     · rw [z]; exact Nat.le_add_right _ _
     · rw [z]; exact Nat.le_refl _
   exact I1.fpOk hle (I1.hok.fresh hle)
theorem boot_zip5 : bootBuiltins "zip" = some (.type "zip") := by decide +kernel
def Itz (K : PySem.W.Frag) (a b : Addr) : It :=
 ⟨fun i H => ∃ (xs ys : List V) (x y : V), SqL K H a xs ∧ SqL K H b ys ∧ xs[i]? = some x ∧ ys[i]? = some y,
   fun i H v H' => ∃ T x y, v = .ref T ∧ H T = none ∧ H' = upd H T (.tup [x, y]) ∧ (∀ xs, SqL K H a xs → xs[i]? = some x) ∧ ∀ ys, SqL K H b ys → ys[i]? = some y,
   fun i H => ∃ xs ys : List V, SqL K H a xs ∧ SqL K H b ys ∧ (xs.length ≤ i ∨ ys.length ≤ i)⟩
theorem turn_zip {P : Program} {w : World} {K : PySem.W.Frag} {elts : List Expr} {kk : Nat} {tpos : Pos} {a b z TI TO i1 i2 : Addr} (D : ZipApart z TI TO i1 i2 a b) :
   Turn P w K (.Tuple elts kk tpos) (Itz K a b) [z, TI, TO, i1, i2] z (fun i h => IsZip h z TI TO .none ∧ IsPair h TI (.ref i1) (.ref i2) ∧ (∃ x y, IsPair h TO x y) ∧ h.IsListIter i1 a i ∧ h.IsListIter i2 b i) where
 mem := by simp
 obj := fun i h st c hc => by
   obtain ⟨hz, hTI, ⟨x, y, hTO⟩, ⟨o1, e1, _, d1⟩, ⟨o2, e2, _, d2⟩⟩ := st
   have e' : c = z ∨ c = TI ∨ c = TO ∨ c = i1 ∨ c = i2 := by simpa using hc
   rcases e' with q | q | q | q | q
   · rw [q]; exact ⟨_, hz, fun v q => nomatch q⟩
   · rw [q]; exact ⟨_, hTI, fun v q => nomatch q⟩
   · rw [q]; exact ⟨_, hTO, fun v q => nomatch q⟩
   · rw [q]; exact ⟨o1, e1, fun v q => by rw [d1] at q; cases q⟩
   · rw [q]; exact ⟨o2, e2, fun v q => by rw [d2] at q; cases q⟩
 keep := fun i h h' st k => by
   obtain ⟨hz, hTI, ⟨x, y, hTO⟩, h1, h2⟩ := st
   exact ⟨k z (by simp) _ hz, k TI (by simp) _ hTI, ⟨x, y, k TO (by simp) _ hTO⟩, h1.at fun o q => k i1 (by simp) o q, h2.at fun o q => k i2 (by simp) o q⟩
 item := by
   intro X hP hw hK hc i pins s σ H E I hf st hg
   subst hP hw hK
   obtain ⟨hz, hTI, ⟨x0, y0, hTO⟩, h1, h2⟩ := st
   obtain ⟨xs, ys, x, y, hqx, hqy, hx, hy⟩ := hg
   obtain ⟨its, rv, p, _⟩ := I.list hqx
   obtain ⟨its2, rv2, p2, _⟩ := I.list hqy
   obtain ⟨u, hu, ru⟩ := rv.get hx
   obtain ⟨u2, hu2, ru2⟩ := rv2.get hy
   have hzl : z < s.heap.objs.size := Heap.lt_size hz
   refine wpAny_pyNext_zip_item D hz hTI hTO h1 h2 p.isList p2.isList (x := u) (y := u2) (by simpa using hu) (by simpa using hu2) fun h' z' TO' h1' h2' hT hsz hk => ?_
   refine ⟨_, rfl, wpAny_letOwnedTupleGo_zip (s := { s with heap := h' }) z' fun h'' z'' sb => ?_⟩
   have hT2 : h''.get? s.heap.objs.size = some { cls := .type "tuple", data := .seq #[u, u2] } := (sb.2 _ (Nat.ne_of_gt hzl)).trans hT
   have new : ObjOk X.prog X.w (upd H s.heap.objs.size (.tup [x, y])) h'' s.heap.objs.size (.tup [x, y]) :=
     ⟨by show 2 ≤ sizeLine; decide, [u, u2], .cons ru (.cons ru2 .nil), ⟨_, hT2, rfl, _, rfl⟩⟩
   have I1 : Inv X pins σ (upd H s.heap.objs.size (.tup [x, y])) { s with heap := h'' } :=
     I.turnedNew (t' := s.toks) (ch := [z, TI, TO, i1, i2]) (fun c o hb q => (sb.2 c (fun q' => hb (by simp [q']))).trans (hk c o (fun q' => hb (by simp [q'])) (fun q' => hb (by simp [q'])) (fun q' => hb (by simp [q'])) (fun q' => hb (by simp [q'])) q)) hf (Nat.le_refl _) new
   refine ⟨.ref s.heap.objs.size, _, I1, rfl, ⟨_, x, y, rfl, I.hok.fresh (Nat.le_refl _), rfl, fun l hl => by rw [I.list_inj hl hqx]; exact hx, fun l hl => by rw [I.list_inj hl hqy]; exact hy⟩, ⟨z'', ?_, ⟨u, u2, ?_⟩, ?_, ?_⟩, fun c hcm => ?_⟩
   · exact (sb.2 _ D.TIz).trans (hk _ _ D.TIz D.TITO D.TIi1 D.TIi2 hTI)
   · exact (sb.2 _ D.TOz).trans TO'
   · exact h1'.at fun o q => (sb.2 _ D.i1z).trans q
   · exact h2'.at fun o q => (sb.2 _ D.i2z).trans q
   · have hlt : c < s.heap.objs.size := by
       have e' : c = z ∨ c = TI ∨ c = TO ∨ c = i1 ∨ c = i2 := by simpa using hcm
       rcases e' with q | q | q | q | q
       · rw [q]; exact hzl
       · rw [q]; exact Heap.lt_size hTI
       · rw [q]; exact Heap.lt_size hTO
       · rw [q]; obtain ⟨_, e1, _⟩ := h1; exact Heap.lt_size e1
       · rw [q]; obtain ⟨_, e2, _⟩ := h2; exact Heap.lt_size e2
     rw [upd_ne (Nat.ne_of_lt hlt)]
     exact (hf c hcm).1
 done := by
   intro X hP hw hK hc i pins s σ H E I hf st hg
   subst hP hw hK
   obtain ⟨hz, hTI, ⟨x0, y0, hTO⟩, h1, h2⟩ := st
   obtain ⟨xs, ys, hqx, hqy, hend⟩ := hg
   obtain ⟨its, rv, p, _⟩ := I.list hqx
   obtain ⟨its2, rv2, p2, _⟩ := I.list hqy
   have l1 := rv.length
   have l2 := rv2.length
   have he : its.toArray[i]? = none ∨ its2.toArray[i]? = none := by
     rcases hend with q | q
     · exact .inl (by simp; omega)
     · exact .inr (by simp; omega)
   exact wpAny_pyNext_zip_end (I.ok.hd hc) D hz hTI hTO h1 h2 p.isList p2.isList he fun h' hk => ⟨rfl, I.turnedL (t' := s.toks) (ch := [z, TI, TO, i1, i2]) (fun c o hb q =>
     hk c o (fun q' => hb (by simp [q'])) (fun q' => hb (by simp [q'])) (fun q' => hb (by simp [q'])) (fun q' => hb (by simp [q'])) q) hf⟩
 self := fun A i s Q E st h => wpAny_pyIter_zip st.1 h
def iZip (K : PySem.W.Frag) (ta : TA) : TI := fun σ H R => ta σ H fun vs H1 => ∃ a b xs ys, vs = [.ref a, .ref b] ∧ SqL K H1 a xs ∧ SqL K H1 b ys ∧ R (Itz K a b) H1
theorem pi_zip {X : Cx} {e e2 : Expr} {ta : TA} {p pos tpos : Pos} {elts : List Expr} {kk : Nat} (hg : Gl X "zip") (hm : X.mg "zip" = none) (ha : PA X [e, e2] ta)
   (hs : starEach [e, e2] X.env = (false, eval e X.env) :: starEach [e2] X.env := by rfl) (hpl : (backTo pos (starEach [e2] X.env)).any (·.1) = false := by rfl) :
   PI X (.Tuple elts kk tpos) (.Call (.Name "zip" p) [e, e2] [] pos) (iZip X.K ta) := by
 intro pins s σ H R I h
 refine Call_ (ld_blt I hg hm boot_zip5 (PyProof.Rows.callWith_type1 (thn (ha pos pins s σ H _ I h) fun us s1 ⟨vs, H1, I1, r1, q1⟩ => ?_) hs hpl))
 obtain ⟨a, b, xs, ys, ex, hqx, hqy, q⟩ := q1
 subst ex
 cases r1 with
 | cons r rr =>
   cases rr with
   | cons r' rr =>
     cases rr
     cases r
     cases r'
     obtain ⟨its, rv, p1, _⟩ := I1.list hqx
     obtain ⟨its2, rv2, p2, _⟩ := I1.list hqy
     have la : a < s1.heap.objs.size := p1.lt
     have lb : b < s1.heap.objs.size := p2.lt
     refine call_zip_2 p1.isList p2.isList fun h' hz hTI hTO h1 h2 hsz hk => wpAny_pyIter_zip hz ?_
     have I2 : Inv X pins σ H1 { s1 with heap := h' } := I1.kept (t' := s1.toks) hk
     refine ⟨s1.heap.objs.size + 4, [s1.heap.objs.size + 4, s1.heap.objs.size + 2, s1.heap.objs.size + 3, s1.heap.objs.size, s1.heap.objs.size + 1], _, _, H1, rfl, I2, turn_zip (PySem.W.ktu_apart s1.heap.objs.size a b la lb), ⟨hz, hTI, ⟨_, _, hTO⟩, h1, h2⟩, fun c hcm => ?_, q⟩
     have e' : c = s1.heap.objs.size + 4 ∨ c = s1.heap.objs.size + 2 ∨ c = s1.heap.objs.size + 3 ∨ c = s1.heap.objs.size ∨ c = s1.heap.objs.size + 1 := by simpa using hcm
     have hle : s1.heap.objs.size ≤ c := by
       rcases e' with z | z | z | z | z
       · rw [z]; exact Nat.le_add_right _ _
       · rw [z]; exact Nat.le_add_right _ _
       · rw [z]; exact Nat.le_add_right _ _
       · rw [z]; exact Nat.le_refl _
       · rw [z]; exact Nat.le_add_right _ _
     exact I1.fpOk hle (I1.hok.fresh hle)
end L2
section
end
section
namespace TL
open PySem PySem.Builtin PySem.Builtin.Str PySem.StrLaws
theorem join_eq (y : Str) (parts : List Str) : Txt.join y parts = Str.join y parts := glued_eq_join y parts
end TL
end
namespace L2
open PySem PySem.Spec PyProof.Rows
theorem strs_of_vals : ∀ {ys : List Str} {us : List Value}, Vals (ys.map V.str) us → StrsAre us ys
 | [], _, .nil => .nil
 | y :: ys, _, .cons r t => by
   obtain ⟨k, rfl⟩ := r
   exact .cons y k (strs_of_vals t)
section
variable {X : Cx}
theorem mt_join : MtR X "str.join" (fun x xs H Q => ∃ a p, ∃ ys : List Str, x = .str a ∧ xs = [.ref p] ∧ (SqL X.K H p (ys.map V.str) ∨ SqT X.K H p (ys.map V.str)) ∧
   (ys.map (·.length)).sum + ys.length * a.length ≤ 16777216 ∧ Q (.str (Txt.join a ys)) H) := by
 intro pins s σ H x xs v us Q I rx rs h
 obtain ⟨a, p, ys, rfl, rfl, hp, hz, h⟩ := h
 obtain ⟨t, rfl⟩ := rx
 cases rs with
 | cons r1 rs =>
   cases rs
   cases r1
   rcases hp with hp | hp
   · obtain ⟨its, r, ⟨o, n, ho, hc, _, hd⟩, _⟩ := I.list hp
     exact PyProof.Rows.join_list (items := its.toArray) ⟨o, ho, hc, n, hd⟩ (by rw [List.toList_toArray]; exact strs_of_vals r) hz fun t' k => ⟨.str _, H, I.tok k, ⟨t', rfl⟩, h⟩
   · obtain ⟨its, r, ht, _⟩ := I.tuple hp
     exact PyProof.Rows.join_tuple (items := its.toArray) ht (by rw [List.toList_toArray]; exact strs_of_vals r) hz fun t' k => ⟨.str _, H, I.tok k, ⟨t', rfl⟩, h⟩
end
section
variable {X : Cx} {o e : Expr} {to te : TE}
def tM1 (r : V → List V → Hp → VK → Prop) (to te : TE) : TE := fun σ H Q => to σ H fun x H1 => (∃ a, x = .str a) ∧ te σ H1 fun y H2 => r x [y] H2 Q
theorem pe_m1 {id : String} {name : Str} {apos pos : Pos} {r : V → List V → Hp → VK → Prop} (slot : Slot "str" name id) (ty : typeOf (.builtin id) = pure (.type "method_descriptor")) (rule : MtR X id r) (ho : PE X o to) (he : PE X e te)
   (hs : starEach [e] X.env = [(false, eval e X.env)] := by rfl) (hbase : attributeBase o name X.env (eval o X.env) = eval o X.env := by rfl) (hline : (apos.endLine == pos.line) = true := by rfl) :
   PE X (.Call (.Attribute o name apos) [e] [] pos) (tM1 r to te) := by
 intro pins s σ H Q I h
 refine PySem.Call_method1 hbase hs hline (thn (ho pins s σ H _ I h) fun v s1 ⟨x, H1, I1, r1, q1⟩ => ?_)
 obtain ⟨⟨a, rfl⟩, q1⟩ := q1
 obtain ⟨t, rfl⟩ := _root_.id r1
 refine ⟨"str", _, F.plainAttrs_str, slot, ty, typeIs_str _ _ _, (fun _ e => nomatch e), Calls.callWith_builtin rfl (Calls.evalArgs_plain (Calls.spliced_cons ?_))⟩
 exact thn (he pins s1 σ H1 _ I1 q1) fun u s2 ⟨y, H2, I2, r2, q2⟩ => Calls.spliced_nil (rule pins s2 σ H2 _ [y] _ [u] Q I2 r1 (.cons r2 .nil) q2)
theorem pe_join {apos pos : Pos} (ho : PE X o to) (he : PE X e te) (hs : starEach [e] X.env = [(false, eval e X.env)] := by rfl) (hbase : attributeBase o "join" X.env (eval o X.env) = eval o X.env := by rfl) (hline : (apos.endLine == pos.line) = true := by rfl) :
   PE X (.Call (.Attribute o "join" apos) [e] [] pos) (tM1 (fun x xs H Q => ∃ a p, ∃ ys : List Str, x = .str a ∧ xs = [.ref p] ∧ (SqL X.K H p (ys.map V.str) ∨ SqT X.K H p (ys.map V.str)) ∧
     (ys.map (·.length)).sum + ys.length * a.length ≤ 16777216 ∧ Q (.str (Txt.join a ys)) H) to te) :=
 pe_m1 F.slot_str_join F.type_str_join mt_join ho he hs hbase hline
end
end L2
namespace L2
open PySem PySem.Spec PyProof.Rows
theorem IsPart.raw {v : Value} {o : Option Int} (p : IsPart v o) : ∃ l : Option (Int × Tok), v = partValue l ∧ l.map (·.1) = o := by
 cases p with
 | none => exact ⟨none, rfl, rfl⟩
 | int i t => exact ⟨some (i, t), rfl, rfl⟩
def clipS (n d : Nat) : Option Int → Int
 | none => (d : Int)
 | some i => max 0 (min (if i < 0 then i + (n : Int) else i) (n : Int))
theorem clipS_eq (n d : Nat) (o : Option Int) : clipS n d o = ((HT.sIx n d o : Nat) : Int) := by
 cases o with
 | none => rfl
 | some v =>
   show max (0 : Int) (min (if v < 0 then v + (n : Int) else v) (n : Int)) = (((if v < 0 then (v + (n : Int)).toNat else min v.toNat n) : Nat) : Int)
   by_cases hv : v < 0
   · simp only [if_pos hv]
     omega
   · simp only [if_neg hv]
     omega
theorem sidx_clip (a b : Option Int) (n : Nat) : Builtin.Str.strSliceIndices a b 1 n = sliceRange (clipS n 0 a) (clipS n n b) 1 := by
 have h1 : ((1 : Int) > 0) = True := by simp
 cases a <;> cases b <;> first
   | rfl
   | (simp only [Builtin.Str.strSliceIndices, clipS, h1, if_true]; rfl)
   | simp [Builtin.Str.strSliceIndices, clipS]
theorem sidx (a b : Option Int) (n : Nat) : Builtin.Str.strSliceIndices a b 1 n = (List.range (HT.sIx n n b - HT.sIx n 0 a)).map (fun k => HT.sIx n 0 a + k) := by
 rw [sidx_clip, clipS_eq, clipS_eq]
 generalize HT.sIx n 0 a = p
 generalize HT.sIx n n b = q
 simp only [sliceRange, show ((1 : Int) > 0) = True from by simp, if_true]
 by_cases hlt : (p : Int) < q
 · have e3 : (((q : Int) - p + 1 - 1) / 1).toNat = q - p := by first | omega | (simp; done) | (simp; omega)
   simp only [hlt, if_true, e3]
   refine List.map_congr_left fun k _ => ?_
   omega
 · have : q - p = 0 := by omega
   simp [hlt, this]
def cutS (z : Str) (lo hi : Option Int) : Str :=
 ⟨((z.cps.toList.drop (HT.sIx z.length 0 lo)).take (HT.sIx z.length z.length hi - HT.sIx z.length 0 lo)).toArray⟩
theorem sliceText_cut (z : Str) (lo hi : Option Int) : PySem.StrLaws.sliceText z lo hi = cutS z lo hi := by
 have h1 : HT.sIx z.length 0 lo ≤ z.length := HT.sIx_le _ _ (Nat.zero_le _) _
 have h2 : HT.sIx z.length z.length hi ≤ z.length := HT.sIx_le _ _ (Nat.le_refl _) _
 have hp : HT.sIx z.length 0 lo ≤ max (HT.sIx z.length 0 lo) (HT.sIx z.length z.length hi) := Nat.le_max_left _ _
 have hq : max (HT.sIx z.length 0 lo) (HT.sIx z.length z.length hi) ≤ z.length := Nat.max_le.mpr ⟨h1, h2⟩
 have hd : max (HT.sIx z.length 0 lo) (HT.sIx z.length z.length hi) - HT.sIx z.length 0 lo = HT.sIx z.length z.length hi - HT.sIx z.length 0 lo := by omega
 have e : Builtin.Str.strSliceIndices lo hi 1 z.length =
     Builtin.Str.strSliceIndices (some ((HT.sIx z.length 0 lo : Nat) : Int)) (some ((max (HT.sIx z.length 0 lo) (HT.sIx z.length z.length hi) : Nat) : Int)) 1 z.length := by
   rw [PySem.StrLaws.strSliceIndices_plain hp hq, hd, sidx]
 have e2 : PySem.StrLaws.sliceText z lo hi =
     PySem.StrLaws.sliceText z (some ((HT.sIx z.length 0 lo : Nat) : Int)) (some ((max (HT.sIx z.length 0 lo) (HT.sIx z.length z.length hi) : Nat) : Int)) := by
   unfold PySem.StrLaws.sliceText
   rw [e]
 rw [e2, PySem.StrLaws.sliceText_nat z hp hq, hd]
 rfl
theorem cutS_length (z : Str) (lo hi : Option Int) : (cutS z lo hi).length ≤ z.length := by
 show (((z.cps.toList.drop (HT.sIx z.length 0 lo)).take (HT.sIx z.length z.length hi - HT.sIx z.length 0 lo)).toArray).size ≤ z.cps.size
 rw [List.size_toArray, List.length_take, List.length_drop, Array.length_toList]
 omega
def rSlS : V → Option Int → Option Int → Hp → VK → Prop := fun x lo hi H Q => ∃ z, x = .str z ∧ z.length ≤ sizeLine ∧ Q (.str (cutS z lo hi)) H
theorem sl_str {X : Cx} : SlR X rSlS := by
 intro pins s σ H x v vl vu lo hi sl Q I rx hs pl pu h
 obtain ⟨z, rfl, hz, q⟩ := h
 obtain ⟨t, rfl⟩ := rx
 obtain ⟨os, hos, hcs, hds⟩ := hs
 obtain ⟨l, rfl, rfl⟩ := IsPart.raw pl
 obtain ⟨u, rfl, rfl⟩ := IsPart.raw pu
 refine ⟨"str", _, F.slot_str_getitem.lookup, typeIs_str _ _ _, ?_⟩
 refine wpAny_getItem_str_slice (l := l) (u := u) (st := none) ⟨os, hos, hcs, hds⟩ rfl ?_
 have hl : (PySem.StrLaws.sliceText z (l.map (·.1)) (u.map (·.1))).length ≤ sizeLine := by
   rw [sliceText_cut]
   exact Nat.le_trans (cutS_length z _ _) hz
 rw [← sliceText_cut] at q
 unfold PySem.StrLaws.sliceText at q hl
 show Made.post (if ((1 : Int) == 1 && (Builtin.Str.strSliceIndices (l.map (·.1)) (u.map (·.1)) 1 z.length).length == z.length) = true then Made.val (.str z t)
   else Made.str ⟨((Builtin.Str.strSliceIndices (l.map (·.1)) (u.map (·.1)) 1 z.length).filterMap (z.cps[·]?)).toArray⟩) (EP X pins σ Q) s
 by_cases c : ((1 : Int) == 1 && (Builtin.Str.strSliceIndices (l.map (·.1)) (u.map (·.1)) 1 z.length).length == z.length) = true
 · rw [if_pos c] at q ⊢
   exact ⟨.str z, H, I, ⟨t, rfl⟩, q⟩
 · rw [if_neg c] at q hl ⊢
   exact ⟨hl, .str _, H, I.tok _, ⟨_, rfl⟩, q⟩
end L2
/- THE LAST THEOREM (shape; LID, My.* are yours):
  My.Adr: a structure of the addresses that your layer names (classes, functions); My.Txt K t: a structure (Prop) of the equations over K;
  My.txt_mk : {K} {implicit addresses ..} (e1 : nsIn K mainGlobals "law" = some (some (.ref f))) (e2 : K.lookup f = some ⟨oc, od, .func (fnOf "law" "law" params body scope dV kV doc pm an cdv ct), sl⟩) (e3 : codeIn K cdv "law" = true) .. : ∃ t, My.Txt K t
set_option maxRecDepth 100000 in
set_option maxHeartbeats 0 in
theorem PySem.Challenge.cw_LID_holds : PySem.Challenge.rw_LID.Holds := by
 w_on; o_law; k_head; (case hw => w_witness2)
 k_fill
 refine L2.walk_of (l := PySem.Challenge.rw_LID) (n := 63) (k := 40) (x := "script") (CX := fun w => ..) (sp := fun _ => My.sp_law) rfl (by decide) rfl ⟨rfl, by decide, by decide⟩ (fun w h Y => PySem.W.kIn_of Y) ?F ?S ?C
 case F =>
   intro w mg fa h KX G hmg
   have T : ∃ t, My.Txt (L2.KOf KX) t := by
     dsimp only [L2.KOf]                          -- K must stand as «<heap const> w.params» for k_is
     refine' My.txt_mk ?e1 ?e2 ?e3 ..
     (case e1 => PySem.W.k_is)                    -- in the order: a name -> its address -> its object -> its parts
     (case e2 => PySem.W.k_is)
     ..
   obtain ⟨t, T⟩ := T
   have e0 := hmg.symm.trans (PySem.W.mg_of KX G T.law)
   cases e0                                       -- fa is the law's own address
   exact ⟨_, fun s u => .of_eq rfl, fun base kb nb => My.law_fn T kb nb⟩     -- if «.of_eq rfl» comes too early: refine' ⟨_, ?b, fun base kb nb => My.law_fn T kb nb⟩; exact fun s u => .of_eq rfl
 case S => exact fun w H a ns hl hO hS => ..
 case C => exact ..
(the tactic k_is has no namespace: write k_is) -/
namespace L2
open PySem PySem.Spec PyProof.Rows
def inClass (s : Stmt) (j : Nat) : Stmt := match s with
 | .ClassDef _ _ _ body _ _ _ _ _ _ _ => body.getD j (.Pass ⟨0, 0, 0, 0⟩)
 | _ => .Pass ⟨0, 0, 0, 0⟩
def defArgs (s : Stmt) : Arguments := match s with
 | .FunctionDef _ a _ _ _ _ _ _ _ _ => a
 | _ => { posonlyargs := [], args := [], vararg := none, kwonlyargs := [], kw_defaults := [], kwarg := none, defaults := [] }
def defBody (s : Stmt) : List Stmt := match s with
 | .FunctionDef _ _ b _ _ _ _ _ _ _ => b
 | _ => []
def defScope (s : Stmt) : Scope := match s with
 | .FunctionDef _ _ _ _ _ _ sc _ _ _ => sc
 | _ => { kind := .function, names := [], isGenerator := false, isCoroutine := false }
abbrev CX0 : CXT := fun _ _ _ _ _ _ => False
abbrev E0 : XK := fun _ _ _ => False
theorem pass0 {X : Cx} : Passes CX0 X E0 := fun _ _ _ _ _ _ _ h => h.elim
structure Fun (K : PySem.W.Frag) (x qual : Str) (st : Stmt) (f : Addr) (fd : FuncData) : Prop where
 ex : ∃ (oc : Value) (od : Option Addr) (kV doc pm : Value) (an : Option Addr) (cdv ct : Value) (osl : Array (Option Value)),
   fd = PySem.W.fnOf x qual (defArgs st) (defBody st) (defScope st) .none kV doc pm an cdv ct ∧ K.lookup f = some ⟨oc, od, .func fd, osl⟩ ∧ PySem.W.codeIn K cdv qual = true
 kp : PySem.W.keepIn K (.ref f) = true
section
variable {P : Program} {w : World} {K : PySem.W.Frag} {mg : Str → Option Value} {base : Heap}
theorem Fun.ok {x qual : Str} {st : Stmt} {f : Addr} {fd : FuncData} {N ps : List Str} {k : Nat} {sp : Sp} (F : Fun K x qual st f fd) (S : FnScope N ps (defScope st)) (len : ∀ vs H Q E, sp vs H Q E → vs.length = ps.length)
   (hbody : ∀ (cdv : Value) (A : Around) (outer : List Env) (s : Shared) (H : Hp) (vs : List V) (Q : VK) (E : XK), Room k (A.deeper (envOfC qual (defScope st) s.heap.objs.size f cdv)) → sp vs H Q E →
     ∃ t, PSs (cxOf CX0 P w K mg base N qual (defScope st) f cdv A outer s H E).nox (defBody st) t ∧ t { nx := fun _ H' => Q .non H', rt := Q } (start N vs) H) : FnOk P w K mg base CX0 (k + 1) f fd ps sp := by
 obtain ⟨oc, od, kV, doc, pm, an, cdv, ct, osl, rfl, lk, hcd⟩ := F.ex
 refine fn_of lk hcd S len fun A outer s H vs Q E hr hsp => ?_
 obtain ⟨t, h, q⟩ := hbody cdv A outer s H vs Q E hr hsp
 exact ⟨t, h.nox, q⟩
theorem Fun.binds {x qual : Str} {st : Stmt} {f : Addr} {fd : FuncData} {ps : List Str} (F : Fun K x qual st f fd)
   (h : ∀ (kV doc pm : Value) (an : Option Addr) (cdv ct : Value) (us : List Value), us.length = ps.length → bindArgs (PySem.W.fnOf x qual (defArgs st) (defBody st) (defScope st) .none kV doc pm an cdv ct) ⟨us, []⟩ = pure (ps.zip us)) : Binds K fd ps [] := by
 obtain ⟨oc, od, kV, doc, pm, an, cdv, ct, osl, rfl, lk, hcd⟩ := F.ex
 exact .all (h kV doc pm an cdv ct)
theorem fun_mk {x qual : Str} {st : Stmt} {f : Addr} {oc : Value} {od an : Option Addr} {osl : Array (Option Value)} {kV doc pm cdv ct : Value} (l : K.lookup f = some ⟨oc, od, .func (PySem.W.fnOf x qual (defArgs st) (defBody st) (defScope st) .none kV doc pm an cdv ct), osl⟩)
   (c : PySem.W.codeIn K cdv qual = true) (k : PySem.W.keepIn K (.ref f) = true) : Fun K x qual st f (PySem.W.fnOf x qual (defArgs st) (defBody st) (defScope st) .none kV doc pm an cdv ct) := ⟨⟨oc, od, kV, doc, pm, an, cdv, ct, osl, rfl, l, c⟩, k⟩
end
theorem hu_of {A : Around} {k : Nat} (hr : Room k A) : A.units + 1 < cLine := Nat.lt_of_le_of_lt (Nat.add_le_add_left (by decide : 1 ≤ 64) _) hr.units
section
variable {X : Cx}
theorem pv (i : Nat) {x : Str} {pos : Pos} (hN : X.N[i]? = some x := by rfl) (hv : Vis X.env.scope x := by first | exact Or.inl rfl | exact Or.inr (Or.inl rfl) | exact Or.inr (Or.inr rfl)) (hd : (x == ("__debug__" : Str)) = false := by decide)
   (hcd : (x == ("__classdict__" : Str)) = false := by decide) : PE X (.Name x pos) (tVar i) := pe_var hN hv hd hcd
end
theorem iteF {A B : Prop} (h : B) : if false = true then A else B := by
 rw [if_neg Bool.false_ne_true]
 exact h
theorem iteT {A B : Prop} (h : A) : if true = true then A else B := by
 rw [if_pos rfl]
 exact h
def Same (H H' : Hp) : Prop := ∀ b o, H b = some o → H' b = some o
theorem Same.refl (H : Hp) : Same H H := fun _ _ h => h
theorem Same.trans {H H1 H2 : Hp} (a : Same H H1) (b : Same H1 H2) : Same H H2 := fun c o h => b c o (a c o h)
theorem Same.free {H H' : Hp} (e : Same H H') {l : Addr} (h : H' l = Option.none) : H l = Option.none := by
 cases q : H l with
 | none => rfl
 | some o =>
   rw [e l o q] at h
   cases h
theorem Same.seq {K : PySem.W.Frag} {H H' : Hp} {a : Addr} {xs : List V} (e : Same H H') (h : SqL K H a xs) : SqL K H' a xs := by
 rcases h with (h | ⟨o, h⟩) | h
 · exact .inl (.inl (e _ _ h))
 · exact .inl (.inr ⟨o, e _ _ h⟩)
 · exact .inr h
section
variable {κ : Type} [DecidableEq κ]
theorem valV_in {kvs : List (κ × V)} {k : κ} {v : V} (h : valV kvs k = some v) : k ∈ kvs.map (·.1) := by
 have q : (kvs.any fun kv => decide (kv.1 = k)) = true := by
   rw [valV_any, h]
   all_goals rfl
 obtain ⟨p, hp, e⟩ := List.any_eq_true.mp q
 exact List.mem_map.mpr ⟨p, hp, of_decide_eq_true e⟩
end
theorem at_of {xs : List V} {z : Int} {j : Nat} {v : V} (e : z = (j : Int)) (h : xs[j]? = some v) : atI xs z = some v := by
 rw [e]
 exact atI_nat h
end L2
section
set_option Elab.async false
set_option linter.all false
set_option maxRecDepth 100000
set_option maxHeartbeats 2000000
namespace L2
open PySem PySem.Spec PyProof.Rows
open PySem.W (WData Codec OpenSpec Well WellAll ReadsW ReadsAllW)
mutual
inductive Dw (K : PySem.W.Frag) (H : Hp) : V → WData → Prop
 | non : Dw K H .non .none
 | bl (b : Bool) : Dw K H (.bl b) (.bool b)
 | int (i : Int) : Dw K H (.int i) (.int i)
 | str (x : Str) : Dw K H (.str x) (.str x)
 | byt (b : Array UInt8) : Dw K H (.byt b) (.bytes b.toList)
 | lst {a : Addr} {xs : List V} {ds : List WData} : SqL K H a xs → DwAll K H xs ds → Dw K H (.ref a) (.list ds)
 | tup {a : Addr} {xs : List V} {ds : List WData} : SqT K H a xs → DwAll K H xs ds → Dw K H (.ref a) (.tuple ds)
inductive DwAll (K : PySem.W.Frag) (H : Hp) : List V → List WData → Prop
 | nil : DwAll K H [] []
 | cons {v : V} {vs : List V} {d : WData} {ds : List WData} : Dw K H v d → DwAll K H vs ds → DwAll K H (v :: vs) (d :: ds)
end
theorem dw_ints {K : PySem.W.Frag} {H : Hp} : ∀ ns : List Int, DwAll K H (ns.map V.int) (ns.map WData.int)
 | [] => .nil
 | n :: r => .cons (.int n) (dw_ints r)
theorem ints_dw {K : PySem.W.Frag} {H : Hp} : ∀ (ns : List Int) (xs : List V), DwAll K H xs (ns.map WData.int) → xs = ns.map V.int
 | [], xs, h => by
   cases h
   rfl
 | n :: r, xs, h => by
   cases h with
   | cons h1 h2 =>
     cases h1
     rw [ints_dw r _ h2] <;> rfl
section
variable {P : Program} {w : World} {K : PySem.W.Frag} {H : Hp} {h : Heap} {R : PySem.W.WRecords} {cl : Str → Option Addr}
theorem sqL_at {a : Addr} {xs : List V} (hok : HOk P w H h) (KX : K.In h) (q : SqL K H a xs) : ∃ (its : List Value) (o : Obj) (n : Nat), Vals xs its ∧ h.get? a = some o ∧ o.cls = .type "list" ∧ o.data = .seq its.toArray n := by
 rcases q with q | ⟨o, its, n, e, hc, _, hd, _, hv⟩
 · obtain ⟨_, its, n, hv, e⟩ := (show ObjOk P w H h a (.lst xs) from q.ok hok)
   exact ⟨its, _, n, hv, e, rfl, rfl⟩
 · exact ⟨its.toList, o, n, hv, KX _ _ e, hc, by simp [hd]⟩
theorem sqT_at {a : Addr} {xs : List V} (hok : HOk P w H h) (KX : K.In h) (q : SqT K H a xs) : ∃ (its : List Value) (o : Obj) (n : Nat), Vals xs its ∧ h.get? a = some o ∧ o.cls = .type "tuple" ∧ o.data = .seq its.toArray n := by
 rcases q with q | ⟨o, its, n, e, hc, hd, _, hv⟩
 · obtain ⟨_, its, hv, o, e, hc, n, hd⟩ := (show ObjOk P w H h a (.tup xs) from q.ok hok)
   exact ⟨its, o, n, hv, e, hc, hd⟩
 · exact ⟨its.toList, o, n, hv, KX _ _ e, hc, by simp [hd]⟩
mutual
theorem Dw.reads (hok : HOk P w H h) (KX : K.In h) : ∀ (d : WData) (v : V) (u : Value), Dw K H v d → RelV v u → ∃ as, ReadsW R cl h u d as
 | .none, _, _, x, r => by
   cases x
   cases r
   exact ⟨_, ReadsW.none⟩
 | .bool b, _, _, x, r => by
   cases x
   cases r
   exact ⟨_, ReadsW.bool b⟩
 | .int i, _, _, x, r => by
   cases x
   obtain ⟨t, rfl⟩ := r
   exact ⟨_, ReadsW.int i t⟩
 | .str s, _, _, x, r => by
   cases x
   obtain ⟨t, rfl⟩ := r
   exact ⟨_, ReadsW.str s t⟩
 | .bytes b, _, _, x, r => by
   cases x
   obtain ⟨t, rfl⟩ := r
   exact ⟨_, ReadsW.bytes _ t⟩
 | .list ds, _, _, x, r => by
   cases x with
   | lst hs ha =>
     cases r
     obtain ⟨its, o, n, rv, ho, hc, hd⟩ := sqL_at hok KX hs
     obtain ⟨as, hr⟩ := Dw.readsAll hok KX ds _ its ha rv
     exact ⟨_, ReadsW.list ho hc hd hr⟩
 | .tuple ds, _, _, x, r => by
   cases x with
   | tup hs ha =>
     cases r
     obtain ⟨its, o, n, rv, ho, hc, hd⟩ := sqT_at hok KX hs
     obtain ⟨as, hr⟩ := Dw.readsAll hok KX ds _ its ha rv
     exact ⟨_, ReadsW.tuple ho hc hd hr⟩
 | .float _, _, _, x, _ => by cases x
 | .dict _, _, _, x, _ => by cases x
 | .bytearray _, _, _, x, _ => by cases x
 | .set _, _, _, x, _ => by cases x
 | .frozenset _, _, _, x, _ => by cases x
 | .obj _ _, _, _, x, _ => by cases x
theorem Dw.readsAll (hok : HOk P w H h) (KX : K.In h) : ∀ (ds : List WData) (vs : List V) (us : List Value), DwAll K H vs ds → Vals vs us → ∃ as, ReadsAllW R cl h us ds as
 | [], _, _, x, r => by
   cases x
   cases r
   exact ⟨_, ReadsAllW.nil⟩
 | d :: ds, _, _, x, r => by
   cases x with
   | cons h1 h2 =>
     cases r with
     | cons r1 r2 =>
       obtain ⟨as, q1⟩ := Dw.reads hok KX d _ _ h1 r1
       obtain ⟨bs, q2⟩ := Dw.readsAll hok KX ds _ _ h2 r2
       exact ⟨_, ReadsAllW.cons q1 q2⟩
end
end
mutual
def plW : WData → Bool
 | .none => true
 | .bool _ => true
 | .int _ => true
 | .str _ => true
 | .bytes _ => true
 | .list xs => plWs xs
 | .tuple xs => plWs xs
 | _ => false
def plWs : List WData → Bool
 | [] => true
 | x :: r => plW x && plWs r
end
theorem plWs_map {α : Type} {f : α → WData} (h : ∀ a, plW (f a) = true) : ∀ l : List α, plWs (l.map f) = true
 | [] => rfl
 | x :: r => by
   show (plW (f x) && plWs (r.map f)) = true
   rw [h x, plWs_map h r] <;> rfl
theorem pl_enc : ∀ (c : Codec) (a : c.denote), plW (c.enc a) = true
 | .unit, _ => rfl
 | .bool, _ => rfl
 | .int _ _, _ => rfl
 | .nat _ _, _ => rfl
 | .u8, _ => rfl
 | .bytes _ _, _ => rfl
 | .text _ _ _ _, _ => rfl
 | .list _ _ c, a => plWs_map (fun x => pl_enc c x) a
 | .pair c d, a => by
   show (plW (c.enc a.1) && (plW (d.enc a.2) && true)) = true
   rw [pl_enc c a.1, pl_enc d a.2] <;> rfl
 | .triple c d e, a => by
   show (plW (c.enc a.1) && (plW (d.enc a.2.1) && (plW (e.enc a.2.2) && true))) = true
   rw [pl_enc c a.1, pl_enc d a.2.1, pl_enc e a.2.2] <;> rfl
 | .option c, none => rfl
 | .option c, some x => pl_enc c x
theorem pl_encAll : ∀ (cs : List Codec) (a : Codec.denoteAll cs), plWs (Codec.encAll cs a) = true
 | [], _ => rfl
 | c :: cs, a => by
   show (plW (c.enc a.1) && plWs (Codec.encAll cs a.2)) = true
   rw [pl_enc c a.1, pl_encAll cs a.2] <;> rfl
theorem weight_mem : ∀ {xs : List WData} {d : WData}, d ∈ xs → d.weight ≤ WData.weightAll xs
 | [], d, h => absurd h (by simp)
 | x :: r, d, h => by
   show d.weight ≤ x.weight + 1 + WData.weightAll r
   rcases List.mem_cons.mp h with e | m
   · rw [e]
     omega
   · have z := weight_mem m
     omega
def toV : Value → V
 | .none => .non
 | .bool b => .bl b
 | .int i _ => .int i
 | .str x _ => .str x
 | .bytes b _ => .byt b
 | .ref a => .ref a
 | _ => .non
def OkU (A : List Addr) : Value → Prop
 | .none => True
 | .bool _ => True
 | .int _ _ => True
 | .str _ _ => True
 | .bytes _ _ => True
 | .ref a => a ∈ A
 | _ => False
theorem OkU.mono {A B : List Addr} (h : ∀ a ∈ A, a ∈ B) : ∀ {u : Value}, OkU A u → OkU B u := fun {u} x => by
 cases u with
 | ref a => exact h a x
 | none => trivial
 | bool b => trivial
 | int i t => trivial
 | str s t => trivial
 | bytes b t => trivial
 | _ => exact False.elim x
theorem relV_toV {A : List Addr} {u : Value} (x : OkU A u) : RelV (toV u) u := by
 cases u with
 | ref a => rfl
 | none => rfl
 | bool b => rfl
 | int i t => exact ⟨t, rfl⟩
 | str s t => exact ⟨t, rfl⟩
 | bytes b t => exact ⟨t, rfl⟩
 | _ => exact False.elim x
theorem vals_toV {A : List Addr} : ∀ {vs : List Value}, (∀ u ∈ vs, OkU A u) → Vals (vs.map toV) vs
 | [], _ => .nil
 | u :: r, h => .cons (relV_toV (h u (List.mem_cons_self ..))) (vals_toV fun x hx => h x (List.mem_cons_of_mem _ hx))
def ArgOb (h : Heap) (A : List Addr) (a : Addr) : Prop := ∃ vs : List Value, vs.length ≤ sizeLine ∧ (∀ u ∈ vs, OkU A u) ∧
 (h.get? a = some { cls := .type "list", data := .seq vs.toArray } ∨ h.get? a = some { cls := .type "tuple", data := .seq vs.toArray })
theorem ArgOb.mono {h : Heap} {A B : List Addr} {a : Addr} (k : ∀ a ∈ A, a ∈ B) (x : ArgOb h A a) : ArgOb h B a := by
 obtain ⟨vs, h1, h2, h3⟩ := x
 exact ⟨vs, h1, fun u hu => (h2 u hu).mono k, h3⟩
theorem wellAll_len {P : Params} {h : Heap} : ∀ {vs : List Value} {ds : List WData}, WellAll P h vs ds → vs.length = ds.length
 | _, _, .nil => rfl
 | _, _, .cons _ b => by
   show _ + 1 = _ + 1
   rw [wellAll_len b]
theorem well_list {P : Params} {h : Heap} {v : Value} {ds : List WData} (x : Well P h v (.list ds)) : ∃ (a : Addr) (vs : List Value), v = .ref a ∧ h.get? a = some { cls := .type "list", data := .seq vs.toArray } ∧ WellAll P h vs ds := by
 cases x with
 | list ho hall => exact ⟨_, _, rfl, ho, hall⟩
theorem well_tuple {P : Params} {h : Heap} {v : Value} {ds : List WData} (x : Well P h v (.tuple ds)) : ∃ (a : Addr) (vs : List Value), v = .ref a ∧ h.get? a = some { cls := .type "tuple", data := .seq vs.toArray } ∧ WellAll P h vs ds := by
 cases x with
 | tuple ho hall => exact ⟨_, _, rfl, ho, hall⟩
theorem well_cons {P : Params} {h : Heap} {us : List Value} {d : WData} {ds : List WData} (x : WellAll P h us (d :: ds)) : ∃ (v : Value) (vs : List Value), us = v :: vs ∧ Well P h v d ∧ WellAll P h vs ds := by
 cases x with
 | cons a b => exact ⟨_, _, rfl, a, b⟩
theorem line_of {n : Nat} (h : n ≤ 1048576) : n ≤ sizeLine := Nat.le_trans h (by decide)
section
variable {P : Params} {h : Heap}
mutual
theorem area_one : ∀ (d : WData) (v : Value), Well P h v d → plW d = true → d.weight ≤ 1048576 → ∃ A : List Addr, OkU A v ∧ ∀ a ∈ A, ArgOb h A a
 | .none, _, x, _, _ => by
   cases x
   exact ⟨[], trivial, fun a m => absurd m (by simp)⟩
 | .bool b, _, x, _, _ => by
   cases x
   exact ⟨[], trivial, fun a m => absurd m (by simp)⟩
 | .int i, _, x, _, _ => by
   cases x
   exact ⟨[], trivial, fun a m => absurd m (by simp)⟩
 | .str s, _, x, _, _ => by
   cases x
   exact ⟨[], trivial, fun a m => absurd m (by simp)⟩
 | .bytes b, _, x, _, _ => by
   cases x
   exact ⟨[], trivial, fun a m => absurd m (by simp)⟩
 | .list ds, _, x, p, z => by
   obtain ⟨a, vs, rfl, ho, hall⟩ := well_list x
   have z2 : WData.weightAll ds ≤ 1048576 := z
   obtain ⟨A, h1, h2⟩ := area_all ds _ hall p fun d hd => Nat.le_trans (weight_mem hd) z2
   have k : ∀ b ∈ A, b ∈ a :: A := fun b hb => List.mem_cons_of_mem _ hb
   refine ⟨a :: A, List.mem_cons_self .., fun b hb => ?_⟩
   rcases List.mem_cons.mp hb with e | m
   · rw [e]
     exact ⟨vs, line_of (by rw [wellAll_len hall]; exact Nat.le_trans (PySem.W.length_le_weightAllW ds) z2), fun u hu => (h1 u hu).mono k, .inl ho⟩
   · exact (h2 b m).mono k
 | .tuple ds, _, x, p, z => by
   obtain ⟨a, vs, rfl, ho, hall⟩ := well_tuple x
   have z2 : WData.weightAll ds ≤ 1048576 := z
   obtain ⟨A, h1, h2⟩ := area_all ds _ hall p fun d hd => Nat.le_trans (weight_mem hd) z2
   have k : ∀ b ∈ A, b ∈ a :: A := fun b hb => List.mem_cons_of_mem _ hb
   refine ⟨a :: A, List.mem_cons_self .., fun b hb => ?_⟩
   rcases List.mem_cons.mp hb with e | m
   · rw [e]
     exact ⟨vs, line_of (by rw [wellAll_len hall]; exact Nat.le_trans (PySem.W.length_le_weightAllW ds) z2), fun u hu => (h1 u hu).mono k, .inr ho⟩
   · exact (h2 b m).mono k
 | .float _, _, _, p, _ => Bool.noConfusion (show false = true from p)
 | .dict _, _, _, p, _ => Bool.noConfusion (show false = true from p)
 | .bytearray _, _, _, p, _ => Bool.noConfusion (show false = true from p)
 | .set _, _, _, p, _ => Bool.noConfusion (show false = true from p)
 | .frozenset _, _, _, p, _ => Bool.noConfusion (show false = true from p)
 | .obj _ _, _, _, p, _ => Bool.noConfusion (show false = true from p)
theorem area_all : ∀ (ds : List WData) (vs : List Value), WellAll P h vs ds → plWs ds = true → (∀ d ∈ ds, d.weight ≤ 1048576) → ∃ A : List Addr, (∀ u ∈ vs, OkU A u) ∧ ∀ a ∈ A, ArgOb h A a
 | [], _, x, _, _ => by
   cases x
   exact ⟨[], fun u m => absurd m (by simp), fun a m => absurd m (by simp)⟩
 | d :: ds, _, x, p, z => by
   obtain ⟨v, vs, rfl, x1, x2⟩ := well_cons x
   have q : plW d = true ∧ plWs ds = true := Bool.and_eq_true_iff.mp p
   obtain ⟨A, a1, a2⟩ := area_one d v x1 q.1 (z d (List.mem_cons_self ..))
   obtain ⟨B, b1, b2⟩ := area_all ds vs x2 q.2 fun e he => z e (List.mem_cons_of_mem _ he)
   have kA : ∀ b ∈ A, b ∈ A ++ B := fun b hb => List.mem_append.mpr (.inl hb)
   have kB : ∀ b ∈ B, b ∈ A ++ B := fun b hb => List.mem_append.mpr (.inr hb)
   refine ⟨A ++ B, fun u hu => ?_, fun b hb => ?_⟩
   · rcases List.mem_cons.mp hu with e | m
     · rw [e]
       exact a1.mono kA
     · exact (b1 u m).mono kB
   · rcases List.mem_append.mp hb with m | m
     · exact (a2 b m).mono kA
     · exact (b2 b m).mono kB
end
end
def hoOf (o : Obj) : Option HO := match o.data with
 | .seq vs _ => if (o.cls == Value.type "list") = true then some (.frz o (.lst (vs.toList.map toV))) else some (.frz o (.tup (vs.toList.map toV)))
 | _ => none
def argH (K : PySem.W.Frag) (h : Heap) (A : List Addr) : Hp := fun b => if b ∈ A then (if (K.lookup b).isNone = true then (h.get? b).bind hoOf else none) else none
def OnlyF (H : Hp) : Prop := ∀ b, H b = none ∨ ∃ o u, H b = some (.frz o u)
theorem hoOf_lst (vs : List Value) : hoOf { cls := .type "list", data := .seq vs.toArray } = some (.frz { cls := .type "list", data := .seq vs.toArray } (.lst (vs.map toV))) := by
 show (if (Value.type "list" == Value.type "list") = true then some (HO.frz { cls := .type "list", data := .seq vs.toArray } (.lst (vs.toArray.toList.map toV))) else some (HO.frz { cls := .type "list", data := .seq vs.toArray } (.tup (vs.toArray.toList.map toV)))) = _
 rw [if_pos (beq_self_eq_true _)]
theorem hoOf_tup (vs : List Value) : hoOf { cls := .type "tuple", data := .seq vs.toArray } = some (.frz { cls := .type "tuple", data := .seq vs.toArray } (.tup (vs.map toV))) := by
 show (if (Value.type "tuple" == Value.type "list") = true then some (HO.frz { cls := .type "tuple", data := .seq vs.toArray } (.lst (vs.toArray.toList.map toV))) else some (HO.frz { cls := .type "tuple", data := .seq vs.toArray } (.tup (vs.toArray.toList.map toV)))) = _
 rw [if_neg (by decide)]
section
variable {P : Program} {w : World} {K : PySem.W.Frag} {h : Heap} {A : List Addr}
theorem argH_at {b : Addr} {o : Obj} (hb : b ∈ A) (hk : K.lookup b = none) (e : h.get? b = some o) : argH K h A b = hoOf o := by
 unfold argH
 rw [if_pos hb, hk, if_pos (show (none : Option Obj).isNone = true from rfl), e] <;> rfl
theorem of_argH {b : Addr} {u : HO} (q : argH K h A b = some u) : b ∈ A ∧ K.lookup b = none := by
 unfold argH at q
 by_cases hb : b ∈ A
 · rw [if_pos hb] at q
   cases hk : K.lookup b with
   | none => exact ⟨hb, rfl⟩
   | some o =>
     rw [hk, if_neg (by simp)] at q
     cases q
 · rw [if_neg hb] at q
   cases q
theorem argH_is (ar : ∀ a ∈ A, ArgOb h A a) {b : Addr} {u : HO} (q : argH K h A b = some u) : K.lookup b = none ∧ ∃ vs : List Value, vs.length ≤ sizeLine ∧ (∀ u ∈ vs, OkU A u) ∧
   ((h.get? b = some { cls := .type "list", data := .seq vs.toArray } ∧ u = .frz { cls := .type "list", data := .seq vs.toArray } (.lst (vs.map toV))) ∨
    (h.get? b = some { cls := .type "tuple", data := .seq vs.toArray } ∧ u = .frz { cls := .type "tuple", data := .seq vs.toArray } (.tup (vs.map toV)))) := by
 obtain ⟨hb, hk⟩ := of_argH q
 obtain ⟨vs, h1, h2, h3⟩ := ar b hb
 refine ⟨hk, vs, h1, h2, ?_⟩
 rcases h3 with e | e
 · rw [argH_at hb hk e, hoOf_lst] at q
   exact .inl ⟨e, (Option.some.inj q).symm⟩
 · rw [argH_at hb hk e, hoOf_tup] at q
   exact .inr ⟨e, (Option.some.inj q).symm⟩
theorem argH_only (ar : ∀ a ∈ A, ArgOb h A a) : OnlyF (argH K h A) := fun b => by
 cases q : argH K h A b with
 | none => exact .inl rfl
 | some u =>
   obtain ⟨_, vs, _, _, ⟨_, e⟩ | ⟨_, e⟩⟩ := argH_is ar q
   · exact .inr ⟨_, _, by rw [e]⟩
   · exact .inr ⟨_, _, by rw [e]⟩
theorem argH_ok (ar : ∀ a ∈ A, ArgOb h A a) : HOk P w (argH K h A) h := fun b u q => by
 obtain ⟨_, vs, h1, h2, ⟨e, rfl⟩ | ⟨e, rfl⟩⟩ := argH_is ar q
 · exact ⟨e, by rw [List.length_map]; exact h1, vs, _, vals_toV h2, e⟩
 · exact ⟨e, by rw [List.length_map]; exact h1, vs, vals_toV h2, _, e, rfl, _, rfl⟩
theorem seq_inj {c c' : Value} {vs us : List Value} (e : (some { cls := c, data := .seq vs.toArray } : Option Obj) = some { cls := c', data := .seq us.toArray }) : c = c' ∧ vs = us := by
 have e1 := Option.some.inj e
 have e2 : c = c' := congrArg Obj.cls e1
 have e3 : Data.seq vs.toArray = Data.seq us.toArray := congrArg Obj.data e1
 injection e3 with e4
 refine ⟨e2, ?_⟩
 have e5 := congrArg Array.toList e4
 simpa using e5
theorem argL (KX : K.In h) (ar : ∀ a ∈ A, ArgOb h A a) {a : Addr} {vs : List Value} (ha : a ∈ A) (e : h.get? a = some { cls := .type "list", data := .seq vs.toArray }) : (∀ u ∈ vs, OkU A u) ∧ SqL K (argH K h A) a (vs.map toV) := by
 obtain ⟨us, h1, h2, h3⟩ := ar a ha
 have hu : us = vs := by
   rcases h3 with q | q
   · rw [e] at q
     exact (seq_inj q).2.symm
   · rw [e] at q
     exact absurd (Value.type.inj (seq_inj q).1) (by decide)
 subst hu
 refine ⟨h2, ?_⟩
 cases hk : K.lookup a with
 | none => exact .inl (.inr ⟨_, by rw [argH_at ha hk e, hoOf_lst]⟩)
 | some o =>
   have e2 := KX a o hk
   rw [e] at e2
   obtain rfl := Option.some.inj e2
   exact .inr ⟨_, us.toArray, _, hk, rfl, rfl, rfl, by rw [List.size_toArray]; exact h1, by simpa using vals_toV h2⟩
theorem argT (KX : K.In h) (ar : ∀ a ∈ A, ArgOb h A a) {a : Addr} {vs : List Value} (ha : a ∈ A) (e : h.get? a = some { cls := .type "tuple", data := .seq vs.toArray }) : (∀ u ∈ vs, OkU A u) ∧ SqT K (argH K h A) a (vs.map toV) := by
 obtain ⟨us, h1, h2, h3⟩ := ar a ha
 have hu : us = vs := by
   rcases h3 with q | q
   · rw [e] at q
     exact absurd (Value.type.inj (seq_inj q).1) (by decide)
   · rw [e] at q
     exact (seq_inj q).2.symm
 subst hu
 refine ⟨h2, ?_⟩
 cases hk : K.lookup a with
 | none => exact .inl (.inr ⟨_, by rw [argH_at ha hk e, hoOf_tup]⟩)
 | some o =>
   have e2 := KX a o hk
   rw [e] at e2
   obtain rfl := Option.some.inj e2
   exact .inr ⟨_, us.toArray, _, hk, rfl, rfl, by rw [List.size_toArray]; exact h1, by simpa using vals_toV h2⟩
mutual
theorem dw_one {Pm : Params} (KX : K.In h) (ar : ∀ a ∈ A, ArgOb h A a) : ∀ (d : WData) (v : Value), Well Pm h v d → plW d = true → OkU A v → Dw K (argH K h A) (toV v) d
 | .none, _, x, _, _ => by
   cases x
   exact .non
 | .bool b, _, x, _, _ => by
   cases x
   exact .bl b
 | .int i, _, x, _, _ => by
   cases x
   exact .int i
 | .str s, _, x, _, _ => by
   cases x
   exact .str s
 | .bytes b, _, x, _, _ => by
   cases x
   have z := Dw.byt (K := K) (H := argH K h A) b.toArray
   exact z
 | .list ds, _, x, p, hu => by
   obtain ⟨a, vs, rfl, ho, hall⟩ := well_list x
   obtain ⟨h2, hs⟩ := argL KX ar hu ho
   exact .lst hs (dw_all KX ar ds _ hall p h2)
 | .tuple ds, _, x, p, hu => by
   obtain ⟨a, vs, rfl, ho, hall⟩ := well_tuple x
   obtain ⟨h2, hs⟩ := argT KX ar hu ho
   exact .tup hs (dw_all KX ar ds _ hall p h2)
 | .float _, _, _, p, _ => Bool.noConfusion (show false = true from p)
 | .dict _, _, _, p, _ => Bool.noConfusion (show false = true from p)
 | .bytearray _, _, _, p, _ => Bool.noConfusion (show false = true from p)
 | .set _, _, _, p, _ => Bool.noConfusion (show false = true from p)
 | .frozenset _, _, _, p, _ => Bool.noConfusion (show false = true from p)
 | .obj _ _, _, _, p, _ => Bool.noConfusion (show false = true from p)
theorem dw_all {Pm : Params} (KX : K.In h) (ar : ∀ a ∈ A, ArgOb h A a) : ∀ (ds : List WData) (vs : List Value), WellAll Pm h vs ds → plWs ds = true → (∀ u ∈ vs, OkU A u) → DwAll K (argH K h A) (vs.map toV) ds
 | [], _, x, _, _ => by
   cases x
   exact .nil
 | d :: ds, _, x, p, hu => by
   obtain ⟨v, vs, rfl, x1, x2⟩ := well_cons x
   have q : plW d = true ∧ plWs ds = true := Bool.and_eq_true_iff.mp p
   exact .cons (dw_one KX ar d v x1 q.1 (hu _ (List.mem_cons_self ..))) (dw_all KX ar ds vs x2 q.2 fun u m => hu u (List.mem_cons_of_mem _ m))
end
end
theorem spec_call {P : Program} {w : World} {K : PySem.W.Frag} {mg mb : Str → Option Value} {CX : CXT} {k : Nat} {fa : Addr} {fd : FuncData} {ps : List Str} {sp : Sp} {s₁ : Shared} {vals : List Value} {ds : List WData} {R : PySem.W.WRecords} {cl : Str → Option Addr} {d0 : WData}
   (KX : K.In s₁.heap) (hns : s₁.heap.Ns mainGlobals mg) (hb : s₁.heap.Ns builtinsNs mb) (hbb : ∀ x : Str, x ≠ "__name__" → mb x = bootBuiltins x) (hlim : s₁.heap.NoLimit) (hg : s₁.gens = #[])
   (hwl : WellAll w.params s₁.heap vals ds) (hpl : plWs ds = true) (hwt : ∀ d ∈ ds, d.weight ≤ 1048576) (hr : Room k callerA)
   (F : ∀ base : Heap, K.In base → base.Ns mainGlobals mg → FnOk P w K mg base CX k fa fd ps sp) (hbind : ∀ (s : Shared) (us : List Value), us.length = ps.length → BindsTo s fd ⟨us, []⟩ (ps.zip us)) (hlen : ds.length = ps.length)
   (hsp : ∀ (H : Hp) (xs : List V), OnlyF H → DwAll K H xs ds → sp xs H (fun v H' => Dw K H' v d0) fun _ _ _ => False)
   (hCX : ∀ H e s', CX [] H s₁ (fun _ _ _ => False) e s' → False) :
   codeAny (model P w) callerA (.call (.ref fa) ⟨vals, []⟩) (fun r s' => ∃ u as, r = .ok (.ret u) ∧ ReadsW R cl s'.heap u d0 as ∧ OldK s₁.heap s'.heap ∧ s'.os = s₁.os ∧ AllBare s'.gens) s₁ := by
 obtain ⟨A, ho, ar⟩ := area_all ds vals hwl hpl hwt
 have hO : OnlyF (argH K s₁.heap A) := argH_only ar
 have hok : HOk P w (argH K s₁.heap A) s₁.heap := argH_ok ar
 have hS := dw_all KX ar ds vals hwl hpl ho
 have hV := vals_toV ho
 have hK : ∀ b u, argH K s₁.heap A b = some u → K.lookup b = none := fun b u q => (argH_is ar q).1
 have noA : ∀ {b : Addr} {o : Obj} {es : Array DictEntry} {ep : Nat}, s₁.heap.get? b = some o → o.data = .dict es ep → argH K s₁.heap A b = none := fun {b o es ep} e d => by
   cases q : argH K s₁.heap A b with
   | none => rfl
   | some u =>
     obtain ⟨_, vs, _, _, ⟨e2, _⟩ | ⟨e2, _⟩⟩ := argH_is ar q
     · rw [e2] at e
       cases e
       have d' : Data.seq vs.toArray _ = Data.dict es ep := d
       cases d'
     · rw [e2] at e
       cases e
       have d' : Data.seq vs.toArray _ = Data.dict es ep := d
       cases d'
 generalize argH K s₁.heap A = H at hO hok hS hK noA
 have base_of : ∀ {b : Addr} {o : Obj}, s₁.heap.get? b = some o → H b = none → (hidT s₁.heap H).get? b = some o := fun e n => hidT_get e n
 have nsK : ∀ {b : Addr} {m : Str → Option Value}, s₁.heap.Ns b m → (hidT s₁.heap H).Ns b m := fun {b m} ⟨o, es, ep, e, d, r⟩ => ⟨o, es, ep, base_of e (noA e d), d, r⟩
 have nK : ∀ b o, K.lookup b = some o → H b = none := fun b o e => by
   cases q : H b with
   | none => rfl
   | some u =>
     rw [hK b u q] at e
     cases e
 have hKb : K.In (hidT s₁.heap H) := fun b o e => base_of (KX b o e) (nK b o e)
 have hM : Mod K mg (hidT s₁.heap H) := ⟨hKb, nsK hns, ⟨mb, nsK hb, hbb⟩, let ⟨mc, h1, h2⟩ := hlim; ⟨mc, nsK h1, h2⟩⟩
 have e0 : Env0 P w K mg (hidT s₁.heap H) callerA [] s₁ H := ⟨rfl, hM, fun b o e => of_hidT e, Nat.le_of_eq (hidT_size _ _), trivial, fun b hb => absurd (show b ∈ ([] : List Addr) from hb) (by simp), hok, .of_eq hg⟩
 have hl : vals.length = ps.length := by rw [wellAll_len hwl]; exact hlen
 refine codeAny_mono ((F _ hKb (nsK hns)).run callerA [] s₁ H ⟨vals, []⟩ vals (vals.map toV) _ _ hr e0 (hbind s₁ vals hl) hV (hsp H _ hO hS)) fun r s' x => ?_
 cases r with
 | error e => exact (hCX H e s' x).elim
 | ok fl =>
   cases fl with
   | next => exact False.elim x
   | brk => exact False.elim x
   | cont => exact False.elim x
   | ret u =>
     obtain ⟨v, H', os, bare, un, hok', r', q⟩ := x
     have kept : ∀ b o, s₁.heap.get? b = some o → s'.heap.get? b = some o := fun b o e => by
       cases q2 : H b with
       | none => exact un.keep b o e q2 (by intro z; exact absurd (show b ∈ ([] : List Addr) from z) (by simp)) (by simp)
       | some u2 =>
         rcases hO b with z | ⟨ob, u3, z⟩
         · rw [q2] at z
           cases z
         · have z2 := un.frzs b ob _ z
           obtain ⟨e1, _⟩ := hok b _ z
           obtain ⟨e2, _⟩ := hok' b _ z2
           rw [e] at e1
           cases e1
           exact e2
     have KX' : K.In s'.heap := fun b o e => kept b o (KX b o e)
     obtain ⟨as, hrd⟩ := Dw.reads (R := R) (cl := cl) hok' KX' d0 v u q r'
     exact ⟨u, as, rfl, hrd, OldK.of_keep kept, os, bare⟩
theorem layable_weight {ds : List WData} (h : WData.layableAll ds = true) : ∀ d ∈ ds, d.weight ≤ 1048576 := fun d hd =>
 (PySem.W.layableW_iff.mp (List.all_eq_true.mp h d hd)).2.2
theorem encAll_len : ∀ (cs : List Codec) (a : Codec.denoteAll cs), (Codec.encAll cs a).length = cs.length
 | [], _ => rfl
 | c :: cs, a => by
   show (Codec.encAll cs a.2).length + 1 = cs.length + 1
   rw [encAll_len cs a.2]
theorem walk_spec {r : OpenSpec} {k : Nat} {q : Program} {loose : List Str} {XP : (Str → Option Value) → Heap → Prop} {YP : World → Heap → Prop} {d : DefRec} {K : Params → PySem.W.Frag} {CX : World → CXT} {ps : List Str} {sp : World → Sp}
   (hwell : r.wellSaid = true) (hdf : d.params.defaults = []) (hlen : r.args.length = ps.length) (hr : Room k callerA)
   (hY : ∀ (w : World) (h : Heap), YP w h → (K w.params).In h)
   (F : ∀ (w : World) (mg : Str → Option Value) (fa : Addr) (h : Heap), YP w h → (K w.params).In h → h.Ns mainGlobals mg → mg d.name = some (.ref fa) →
     ∃ fd : FuncData, (∀ (s : Shared) (us : List Value), us.length = ps.length → BindsTo s fd ⟨us, []⟩ (ps.zip us)) ∧
       ∀ base : Heap, (K w.params).In base → base.Ns mainGlobals mg → FnOk r.prog w (K w.params) mg base (CX w) k fa fd ps (sp w))
   (hsp : ∀ (w : World) (H : Hp) (xs : List V) (a : Codec.denoteAll r.args), OnlyF H → Codec.withinAll r.args a = true → Codec.app r.args r.asked a = true → DwAll (K w.params) H xs (Codec.encAll r.args a) →
     sp w xs H (fun v H' => Dw (K w.params) H' v (r.ret.enc (Codec.app r.args r.f a))) fun _ _ _ => False)
   (hCX : ∀ (w : World) (H : Hp) (s : Shared) (e : Value) (s' : Shared), CX w [] H s (fun _ _ _ => False) e s' → False) :
   PySem.W.WalkOS q loose XP YP r d [] (fun f vs => PySem.call f vs) := by
 intro w s_0 s₁ mg mb G Y fa o pm cd doc dV kV ho hd hcd hD hmg hg args vals as hpre hlay hrd hwl hlo
 obtain ⟨a, e1, e2⟩ := PySem.W.os_pre_some hpre
 obtain ⟨e3, hwi⟩ := Codec.encAll_of_decAll r.args args a e1
 subst e3
 have KX := hY w _ Y
 obtain ⟨fd, hb, hF⟩ := F w mg fa _ Y KX G.T.g hmg
 refine PySem.W.enter_call (codeAny_mono (spec_call (R := []) (cl := classAt s_0.heap) (d0 := r.ret.enc (Codec.app r.args r.f a)) KX G.T.g G.T.b G.T.builtins G.T.nolimit hg hwl (pl_encAll _ _) (layable_weight hlay) hr hF hb (by rw [encAll_len]; exact hlen)
   (fun H xs hO hS => hsp w H xs a hO hwi e2 hS) fun H e s' => hCX w H s₁ e s') fun r' s' hq => ?_)
 obtain ⟨u, as', rfl, h1, h2, h3, h4⟩ := hq
 exact ⟨.inl ⟨u, _, as', rfl, fun _ => rfl, h1, (OpenSpec.post_iff hwell hwi _ _).mpr rfl, fun z => Bool.noConfusion (show false = true from z)⟩, h2, h3, h4⟩
theorem walk_specK {r : OpenSpec} {k : Nat} {q : Program} {loose : List Str} {XP : (Str → Option Value) → Heap → Prop} {YP : World → Heap → Prop} {d : DefRec} {K : Params → PySem.W.Frag} {CX : CXT} {ps : List Str} {sp : PySem.W.Frag → Sp}
   (hwell : r.wellSaid = true) (hdf : d.params.defaults = []) (hlen : r.args.length = ps.length) (hr : Room k callerA)
   (hY : ∀ (w : World) (h : Heap), YP w h → (K w.params).In h)
   (F : ∀ (w : World) (mg : Str → Option Value) (fa : Addr) (h : Heap), YP w h → (K w.params).In h → h.Ns mainGlobals mg → mg d.name = some (.ref fa) →
     ∃ fd : FuncData, (∀ (s : Shared) (us : List Value), us.length = ps.length → BindsTo s fd ⟨us, []⟩ (ps.zip us)) ∧
       ∀ base : Heap, (K w.params).In base → base.Ns mainGlobals mg → FnOk r.prog w (K w.params) mg base CX k fa fd ps (sp (K w.params)))
   (hsp : ∀ (K : PySem.W.Frag) (H : Hp) (xs : List V) (a : Codec.denoteAll r.args), OnlyF H → Codec.withinAll r.args a = true → Codec.app r.args r.asked a = true → DwAll K H xs (Codec.encAll r.args a) →
     sp K xs H (fun v H' => Dw K H' v (r.ret.enc (Codec.app r.args r.f a))) fun _ _ _ => False)
   (hCX : ∀ (H : Hp) (s : Shared) (e : Value) (s' : Shared), CX [] H s (fun _ _ _ => False) e s' → False) :
   PySem.W.WalkOS q loose XP YP r d [] (fun f vs => PySem.call f vs) :=
 walk_spec (K := K) (CX := fun _ => CX) (sp := fun w => sp (K w.params)) hwell hdf hlen hr hY F (fun w H xs a h1 h2 h3 h4 => hsp (K w.params) H xs a h1 h2 h3 h4) fun _ H s e s' => hCX H s e s'
end L2
end
set_option Elab.async false
set_option linter.all false
set_option maxRecDepth 100000
namespace Km
open PySem PySem.Spec PyProof.Rows L2
theorem bcase {c : Bool} {A B : Prop} (h1 : c = true → A) (h2 : c = false → B) : if c = true then A else B := by
 cases c with
 | true => rw [if_pos rfl]; exact h1 rfl
 | false => rw [if_neg Bool.false_ne_true]; exact h2 rfl
theorem dcase {p : Prop} [Decidable p] {A B : Prop} (h1 : p → A) (h2 : ¬ p → B) : if decide p = true then A else B :=
 bcase (fun e => h1 (of_decide_eq_true e)) fun e => h2 (of_decide_eq_false e)
theorem ncase {p : Prop} [Decidable p] {A B : Prop} (h1 : ¬ p → A) (h2 : p → B) : if (!decide p) = true then A else B :=
 bcase (fun e => h1 (by simpa using e)) fun e => h2 (by simpa using e)
theorem chain_if {a b c : Int} {Q : VK} {σ : L2.St} {H : Hp} (k : Q (.bl (decide (a ≤ b) && decide (b ≤ c))) H) :
   if decide (a ≤ b) = true then tC (V.int c) σ H (fun w' H4 => rI0 (fun i j => V.bl (decide (i ≤ j))) (V.int b) w' H4 Q) else Q (.bl false) H :=
 dcase (fun h => ⟨b, c, rfl, rfl, by rw [decide_eq_true h, Bool.true_and] at k; exact k⟩) fun h => by rw [decide_eq_false h, Bool.false_and] at k; exact k
theorem yes_if {A B : Hp → Prop} {σ : L2.St} {H : Hp} (h : A H) : tYes σ H (fun b H3 => if b = true then A H3 else B H3) := by
 show if true = true then A H else B H
 rw [if_pos rfl]
 exact h
theorem same_new {H : Hp} {p : Addr} {o : HO} (h : H p = none) : Same H (upd H p o) := fun b u e => by rw [upd_ne (ne_of_none e h)]; exact e
theorem same_upd {H H1 : Hp} {p : Addr} {o : HO} (s : Same H H1) (h : H p = none) : Same H (upd H1 p o) := fun b u e => by rw [upd_ne (ne_of_none e h)]; exact s b u e
theorem upd_at {H : Hp} {a b : Addr} {o u : HO} (h : H b = some u) (n : b ≠ a) : upd H a o b = some u := by rw [upd_ne n]; exact h
def But (F : List Addr) (H H' : Hp) : Prop := ∀ b o, H b = some o → b ∉ F → H' b = some o
theorem But.same {H H' : Hp} (s : Same H H') (F : List Addr) : But F H H' := fun b o e _ => s b o e
theorem But.trans {F : List Addr} {H H1 H2 : Hp} (a : But F H H1) (b : But F H1 H2) : But F H H2 := fun c o e n => b c o (a c o e n) n
theorem But.upd {F : List Addr} {H H1 : Hp} {p : Addr} {o : HO} (a : But F H H1) (h : p ∈ F ∨ H p = none) : But F H (upd H1 p o) := fun b u e n => by
 have hb : b ≠ p := fun z => by
   rcases h with h | h
   · exact n (z ▸ h)
   · rw [z, h] at e; cases e
 rw [upd_ne hb]
 exact a b u e n
theorem But.refl (F : List Addr) (H : Hp) : But F H H := fun _ _ e _ => e
theorem But.mono {F G : List Addr} {H H1 : Hp} (a : But F H H1) (h : ∀ b ∈ F, b ∈ G) : But G H H1 := fun b o e n => a b o e fun z => n (h b z)
inductive Rws (H : Hp) : List Addr → List (List Int) → Prop
 | nil : Rws H [] []
 | cons {a : Addr} {r : List Int} {as : List Addr} {rs : List (List Int)} : H a = some (.lst (r.map V.int)) → Rws H as rs → Rws H (a :: as) (r :: rs)
theorem Rws.length {H : Hp} {as : List Addr} {rs : List (List Int)} (h : Rws H as rs) : as.length = rs.length := by
 induction h with
 | nil => rfl
 | cons _ _ ih => rw [List.length_cons, List.length_cons, ih]
theorem Rws.get {H : Hp} {as : List Addr} {rs : List (List Int)} (h : Rws H as rs) : ∀ {i : Nat} {a : Addr}, as[i]? = some a → ∃ r, rs[i]? = some r ∧ H a = some (.lst (r.map V.int)) := by
 induction h with
 | nil => intro i a e; simp at e
 | cons q _ ih =>
   intro i a e
   cases i with
   | zero =>
     have e : _ = a := Option.some.inj e
     subst e
     exact ⟨_, rfl, q⟩
   | succ i => exact ih e
theorem Rws.get' {H : Hp} {as : List Addr} {rs : List (List Int)} (h : Rws H as rs) : ∀ {i : Nat} {r : List Int}, rs[i]? = some r → ∃ a, as[i]? = some a ∧ H a = some (.lst (r.map V.int)) := by
 induction h with
 | nil => intro i a e; simp at e
 | cons q _ ih =>
   intro i a e
   cases i with
   | zero =>
     have e : _ = a := Option.some.inj e
     subst e
     exact ⟨_, rfl, q⟩
   | succ i => exact ih e
theorem Rws.mono {H H' : Hp} {as : List Addr} {rs : List (List Int)} (h : Rws H as rs) (k : ∀ b ∈ as, ∀ o, H b = some o → H' b = some o) : Rws H' as rs := by
 induction h with
 | nil => exact .nil
 | cons q _ ih => exact .cons (k _ List.mem_cons_self _ q) (ih fun b hb => k b (List.mem_cons_of_mem _ hb))
theorem Rws.same {H H' : Hp} {as : List Addr} {rs : List (List Int)} (h : Rws H as rs) (s : Same H H') : Rws H' as rs := h.mono fun b _ o e => s b o e
theorem Rws.append {H : Hp} {as bs : List Addr} {rs ss : List (List Int)} (h : Rws H as rs) (k : Rws H bs ss) : Rws H (as ++ bs) (rs ++ ss) := by
 induction h with
 | nil => exact k
 | cons q _ ih => exact .cons q ih
theorem Rws.snoc {H : Hp} {as : List Addr} {rs : List (List Int)} {a : Addr} {r : List Int} (h : Rws H as rs) (k : H a = some (.lst (r.map V.int))) : Rws H (as ++ [a]) (rs ++ [r]) := h.append (.cons k .nil)
theorem Rws.take {H : Hp} {as : List Addr} {rs : List (List Int)} (h : Rws H as rs) : ∀ n : Nat, Rws H (as.take n) (rs.take n) := by
 induction h with
 | nil => intro n; rw [List.take_nil, List.take_nil]; exact .nil
 | cons q _ ih =>
   intro n
   cases n with
   | zero => exact .nil
   | succ n => exact .cons q (ih n)
theorem Rws.there {H : Hp} {as : List Addr} {rs : List (List Int)} (h : Rws H as rs) : ∀ b ∈ as, ∃ o, H b = some o := by
 induction h with
 | nil => intro b hb; cases hb
 | cons q _ ih =>
   intro b hb
   rcases List.mem_cons.mp hb with rfl | hb
   · exact ⟨_, q⟩
   · exact ih b hb
theorem map_get {α β : Type} {f : α → β} {l : List α} {i : Nat} {y : β} (h : (l.map f)[i]? = some y) : ∃ x, l[i]? = some x ∧ y = f x := by
 rw [List.getElem?_map] at h
 obtain ⟨x, hx, e⟩ := Option.map_eq_some_iff.mp h
 exact ⟨x, hx, e.symm⟩
theorem take_snoc {α : Type} : ∀ {l : List α} {i : Nat} {x : α}, l[i]? = some x → l.take (i + 1) = l.take i ++ [x]
 | [], i, x, h => by simp at h
 | a :: l, 0, x, h => by
   have e : a = x := Option.some.inj h
   subst e
   rfl
 | a :: l, i + 1, x, h => by
   have ih := take_snoc (l := l) (i := i) (x := x) h
   show a :: l.take (i + 1) = a :: l.take i ++ [x]
   rw [ih]
   rfl
theorem drop_cons {α : Type} : ∀ {l : List α} {i : Nat} {x : α}, l[i]? = some x → l.drop i = x :: l.drop (i + 1)
 | [], i, x, h => by simp at h
 | a :: l, 0, x, h => by
   have e : a = x := Option.some.inj h
   subst e
   rfl
 | a :: l, i + 1, x, h => by
   show l.drop i = x :: l.drop (i + 1)
   exact drop_cons h
theorem lt_of_get {α : Type} {l : List α} {i : Nat} {x : α} (h : l[i]? = some x) : i < l.length := (List.getElem?_eq_some_iff.mp h).1
theorem few {n : Nat} (h : n ≤ 10000000) : n < sizeLine := by rw [sizeLine_eq]; omega
theorem few' {n : Nat} (h : n ≤ 10000000) : n ≤ sizeLine := Nat.le_of_lt (few h)
theorem cut_nat (xs : List V) (i j : Nat) : cutV xs (some (i : Int)) (some (j : Int)) = (xs.drop i).take (j - i) := by
 unfold cutV
 rw [HT.sIx_nat, HT.sIx_nat]
 rcases Nat.le_total i xs.length with h | h
 · rw [Nat.min_eq_left h]
   rcases Nat.le_total j xs.length with h2 | h2
   · rw [Nat.min_eq_left h2]
   · rw [Nat.min_eq_right h2, List.take_of_length_le (by rw [List.length_drop]; omega), List.take_of_length_le (by rw [List.length_drop]; omega)]
 · rw [Nat.min_eq_right h, List.drop_of_length_le (Nat.le_refl _), List.drop_of_length_le h, List.take_nil, List.take_nil]
theorem cut_ints (ns : List Int) (i j : Nat) : cutV (ns.map V.int) (some (i : Int)) (some (j : Int)) = ((ns.drop i).take (j - i)).map V.int := by
 rw [cut_nat, List.map_take, List.map_drop]
theorem cut_to (xs : List V) (j : Nat) : cutV xs none (some (j : Int)) = xs.take j := by
 unfold cutV
 rw [HT.sIx_nat, HT.sIx_none, List.drop_zero, Nat.sub_zero]
 rcases Nat.le_total j xs.length with h2 | h2
 · rw [Nat.min_eq_left h2]
 · rw [Nat.min_eq_right h2, List.take_of_length_le (Nat.le_refl _), List.take_of_length_le h2]
theorem lc_zip {K : W.Frag} {a b : Addr} {xs ys : List V} {g : TG} {tt : TT} {te : TE} {vs : List Nat} {σ : L2.St} {H1 : Hp} {D : Addr} {Qd : Hp → Prop} (Pv : Nat → Hp → Prop) (h0 : Pv 0 (upd H1 D (.lst [])))
   (hl : ∀ i H, Pv i H → SqL K H a xs ∧ SqL K H b ys)
   (hs : ∀ i x y T H, xs[i]? = some x → ys[i]? = some y → H T = none → Pv i H → g (.ref T) (wipe σ vs) (upd H T (.tup [x, y])) fun σ2 H2 => wipe σ2 vs = wipe σ vs ∧ tt σ2 H2 fun b H3 =>
     if b = true then te σ2 H3 fun y H4 => ∃ acc, H4 D = some (.lst acc) ∧ acc.length < sizeLine ∧ Pv (i + 1) (upd H4 D (.lst (acc ++ [y]))) else Pv (i + 1) H3) (hd : ∀ i H, (xs.length ≤ i ∨ ys.length ≤ i) → i ≤ xs.length → i ≤ ys.length → Pv i H → Qd H) :
   ∃ W : Nat → Nat → Hp → Prop, (∃ m, W 0 m (upd H1 D (.lst []))) ∧ ∀ i m H, W i m H →
     ((Itz K a b).stop i H ∧ Qd H) ∨ ((Itz K a b).go i H ∧ ∃ Nx : Hp → Prop, (∀ H', Nx H' → ∃ m', m' < m ∧ W (i + 1) m' H') ∧ ∀ x H', (Itz K a b).yld i H x H' → g x (wipe σ vs) H' fun σ2 H2 => wipe σ2 vs = wipe σ vs ∧ tt σ2 H2 fun b H3 =>
       if b = true then te σ2 H3 fun y H4 => ∃ acc, H4 D = some (.lst acc) ∧ acc.length < sizeLine ∧ Nx (upd H4 D (.lst (acc ++ [y]))) else Nx H3) := by
 refine ⟨fun i m H => m = xs.length - i ∧ i ≤ xs.length ∧ i ≤ ys.length ∧ Pv i H, ⟨xs.length, by simp, Nat.zero_le _, Nat.zero_le _, h0⟩, ?_⟩
 rintro i m H ⟨rfl, hi, hj, p⟩
 obtain ⟨q1, q2⟩ := hl i H p
 by_cases hlt : i < xs.length ∧ i < ys.length
 · refine .inr ⟨⟨xs, ys, xs[i]'hlt.1, ys[i]'hlt.2, q1, q2, by simp [hlt.1], by simp [hlt.2]⟩, Pv (i + 1), fun H' p' => ⟨xs.length - (i + 1), by omega, rfl, hlt.1, hlt.2, p'⟩, fun x H' y => ?_⟩
   obtain ⟨T, u, v, rfl, hT, rfl, e1, e2⟩ := y
   exact hs i u v T H (e1 xs q1) (e2 ys q2) hT p
 · have z : xs.length ≤ i ∨ ys.length ≤ i := by omega
   exact .inl ⟨⟨xs, ys, q1, q2, z⟩, hd i H z hi hj p⟩
theorem eqI {a b : Int} : (V.int a = V.int b) ↔ a = b := ⟨fun e => V.int.inj e, fun e => by rw [e]⟩
theorem dp_ints {K : W.Frag} {H : Hp} : ∀ ns : List Int, DpAll K H (ns.map V.int) (ns.map PyData.int)
 | [] => .nil
 | n :: r => .cons (.int n) (dp_ints r)
theorem lay_ints : ∀ ns : List Int, PyData.canLayAll0 (ns.map PyData.int) = true
 | [] => by simp [PyData.canLayAll0]
 | n :: r => by simp [PyData.canLayAll0, PyData.canLay0, lay_ints r]
theorem depth_ints : ∀ ns : List Int, PyData.depthAll (ns.map PyData.int) = 0
 | [] => by simp [PyData.depthAll]
 | n :: r => by simp [PyData.depthAll, PyData.depth, depth_ints r]
theorem shaped_ints (ns : List Int) : SeqAt.shaped (.list (ns.map PyData.int)) = true := by
 unfold SeqAt.shaped
 rw [PyData.canLay0, PyData.depth, lay_ints, depth_ints]
 rfl
theorem eqv_ints : ∀ ns ms : List Int, PyData.eqvAll (ns.map PyData.int) (ms.map PyData.int) = decide (ns = ms)
 | [], [] => by simp [PyData.eqvAll]
 | [], _ :: _ => by simp [PyData.eqvAll]
 | _ :: _, [] => by simp [PyData.eqvAll]
 | n :: r, m :: s => by
   rw [List.map_cons, List.map_cons, PyData.eqvAll, PyData.eqv, eqv_ints r s]
   by_cases h : n = m
   · by_cases h2 : r = s
     · simp [h, h2]
     · simp [h, h2]
   · simp [h]
theorem eqv_list (ns ms : List Int) : PyData.eqv (.list (ns.map PyData.int)) (.list (ms.map PyData.int)) = decide (ns = ms) := by
 rw [PyData.eqv, eqv_ints]
theorem dp_list {K : W.Frag} {H : Hp} {a : Addr} {ns : List Int} (h : H a = some (.lst (ns.map V.int))) : Dp K H (.ref a) (.list (ns.map PyData.int)) := .lst (SqL.of h) (dp_ints ns)
end Km
set_option Elab.async false
set_option linter.all false
set_option maxRecDepth 100000
set_option maxHeartbeats 2000000
namespace Km
open PySem PySem.Spec PyProof.Rows L2
section
variable {X : Cx}
theorem pget_list : PGet X (fun x y H Q => ∃ p xs k v, x = .ref p ∧ y = .int (k : Nat) ∧ SqL X.K H p xs ∧ xs[k]? = some v ∧ Q v H) := by
 intro pins s σ H o i ov iv Q I ro ri h
 obtain ⟨p, xs, k, v, rfl, rfl, hq, hx, q⟩ := h
 cases ro
 obtain ⟨t, rfl⟩ := ri
 obtain ⟨its, r, pl, hz⟩ := I.list hq
 obtain ⟨u, hu, ru⟩ := r.get hx
 have hl := r.length
 have hn := line63
 have hk := lt_of_get hx
 refine wpAny_getItem_list pl.isList (by omega) (by omega) (x := u) ?_ ⟨v, H, I, ru, q⟩
 rw [Int.toNat_natCast]
 simpa using hu
end
def tF3 (lit : Str) (ta tb : TE) : TE := fun σ H Q => ta σ H fun x H1 => ∃ i : Int, x = .int i ∧ i.natAbs.log2 < 1920 ∧ ((Str.empty ++ (toString i : Str)) ++ lit).length ≤ sizeLine ∧
 tb σ H1 fun y H2 => ∃ z, y = .str z ∧ z.length ≤ sizeLine ∧ (((Str.empty ++ (toString i : Str)) ++ lit) ++ z).length ≤ sizeLine ∧ Q (.str (((Str.empty ++ (toString i : Str)) ++ lit) ++ z)) H2
theorem len_left {a b : Str} (h : (a ++ b).length ≤ sizeLine) : a.length ≤ sizeLine := by
 rw [strLen_append] at h
 omega
theorem pe_f3 {X : Cx} {a b : Expr} {ta tb : TE} {lit : Str} {k : Nat} {p1 p2 p3 pos : Pos} (ha : PE X a ta) (hb : PE X b tb) :
   PE X (.JoinedStr [.FormattedValue a (-1) none p1, .Constant (.str lit) k p3, .FormattedValue b (-1) none p2] pos) (tF3 lit ta tb) := by
 intro pins s σ H Q I h
 refine JoinedStr_many (joinParts_cons (FormattedValue_plain (thn (ha pins s σ H _ I h) fun u s1 ⟨x, H1, I1, rx, i, ex, hi, hz, q1⟩ => ?_)))
 subst ex
 obtain ⟨t, rfl⟩ := rx
 refine formatField_int_small hi ⟨len_left hz, joinParts_cons (Calls.Constant_str ⟨hz, joinParts_cons (FormattedValue_plain ?_)⟩)⟩
 refine thn (hb pins _ σ H1 _ ((I1.tok _).tok _) q1) fun u s2 ⟨y, H2, I2, ry, z, ey, hz1, hz2, q2⟩ => ?_
 subst ey
 obtain ⟨t', rfl⟩ := ry
 refine formatField_str (fun t2 tk => ⟨hz2, joinParts_nil ⟨.str _, H2, I2.tok _, ⟨_, rfl⟩, q2⟩ hz2⟩) hz1
end Km
namespace Km
open PySem PySem.Spec PyProof.Rows L2
section
variable {prog : Program} {w : World} {A : Around} {E : Value → Shared → Prop}
abbrev PairAt (I T : Addr) (a b : Value) (i : Nat) (h : Heap) : Prop := h.IsTupleIter I T i ∧ h.IsTuple T #[a, b]
theorem min_last {I T S : Addr} {a b v : Value} (hh : A.handled = none) (hIT : T ≠ I) (hSI : S ≠ I) (hST : S ≠ T) {s : Shared} {c : Nat} {R : Result → Shared → Prop} (st : PairAt I T a b 2 s.heap)
   (hS : s.heap.get? S = some { cls := .type "list", dict := none, data := .seq #[v, v] c, slots := #[] })
   (hR : ∀ h' tk, (∀ x o, x ≠ I → x ≠ S → s.heap.get? x = some o → h'.get? x = some o) → R (.ok (.ret v)) { s with heap := h', toks := tk }) :
   codeAny (model prog w) A (.builtin "min.loop" ⟨[.ref I, .none, .ref S], []⟩) R s := by
 have W := Walks.tuple (prog := prog) (w := w) (A := A.in1) hh I T hIT #[a, b]
 have hSw : S ∉ [I] := by simp [hSI]
 refine codeAny_builtin PySem.F.entry_min_loop ?_
 rw [Around.under_plainId PySem.F.plain_min_loop _]
 show wpAny _ A.in1 (seqItems? (Value.ref S) >>= _) _ _ s
 refine wpAny_bind (wpAny_seqItems hS rfl ?_)
 show wpAny _ A.in1 (tryCatch (pyNext (Value.ref I)) _ >>= _) _ _ s
 refine wpAny_bind (wpAny_tryCatch (W.done s _ _ st fun h' tk k => ?_))
 have hS' := k S _ hSw hS
 show wpAny _ A.in1 (updateSeq S (fun _ => (#[] : Array Value)) >>= _) _ _ _
 refine wpAny_bind (wpAny_updateSeq hS' rfl (wpAny_bind (wpAny_letGo (wpAny_pure ?_))))
 exact hR _ tk fun x o hx1 hx2 e => (Heap.get?_update_other _ _ (Ne.symm hx2)).trans (k x o (by simp [hx1]) e)
theorem min_next {I T S : Addr} {a b : Value} {c : Bool} (hh : A.handled = none) (hIT : T ≠ I) (hSI : S ≠ I) (hST : S ≠ T) {s : Shared} {n : Nat} {R : Result → Shared → Prop} (st : PairAt I T a b 1 s.heap)
   (hS : s.heap.get? S = some { cls := .type "list", dict := none, data := .seq #[a, a] n, slots := #[] })
   (hcmp : ∀ (s' : Shared) (Q' E' : Value → Shared → Prop), (∀ x o, x ≠ I → x ≠ S → s.heap.get? x = some o → s'.heap.get? x = some o) → Q' (.bool c) s' → wpAny (model prog w) A.in1 (richCompare .Lt b a) Q' E' s')
   (hR : ∀ h' tk, (∀ x o, x ≠ I → x ≠ S → s.heap.get? x = some o → h'.get? x = some o) → R (.ok (.ret (if c = true then b else a))) { s with heap := h', toks := tk }) :
   codeAny (model prog w) A (.builtin "min.loop" ⟨[.ref I, .none, .ref S], []⟩) R s := by
 have W := Walks.tuple (prog := prog) (w := w) (A := A.in1) hh I T hIT #[a, b]
 have hSw : S ∉ [I] := by simp [hSI]
 have hn : (toString "min" ++ toString ".loop" : String) = "min.loop" := by decide
 refine codeAny_builtin PySem.F.entry_min_loop ?_
 rw [Around.under_plainId PySem.F.plain_min_loop _]
 show wpAny _ A.in1 (seqItems? (Value.ref S) >>= _) _ _ s
 refine wpAny_bind (wpAny_seqItems hS rfl ?_)
 show wpAny _ A.in1 (tryCatch (pyNext (Value.ref I)) _ >>= _) _ _ s
 refine wpAny_bind (wpAny_tryCatch (W.item 1 s _ _ (by show 1 < 2; decide) st fun v h' tk hv st' k => ?_))
 have hv : b = v := by simpa using hv
 subst hv
 have hS' := k S _ hSw hS
 show wpAny _ A.in1 (tryCatch (holding [b, b] (richCompare .Lt b a >>= _)) _ >>= _) _ _ _
 refine wpAny_bind (wpAny_tryCatch (wpAny_holding (wpAny_bind (hcmp _ _ _ (fun x o hx1 hx2 e => k x o (by simp [hx1]) e) ?_))))
 refine wpAny_bind (wpAny_holding (wpAny_truthy_bool ?_))
 refine wpAny_bind (wpAny_letGo (wpAny_pure ?_))
 cases c with
 | true =>
   simp only [if_true]
   refine wpAny_bind (wpAny_updateSeq hS' rfl (wpAny_bind (wpAny_letGo ?_)))
   rw [hn]
   refine wpAny_pure ⟨plainId_quiet PySem.F.plain_min_loop _, min_last (a := a) (b := b) (v := b) hh hIT hSI hST ?_ (Heap.get?_update_self _ hS' rfl) fun h2 tk2 k2 => ?_⟩
   · exact W.frame 2 _ _ st' fun x hx o e => (Heap.get?_update_other _ _ (fun z : S = x => by
       have hx : x = I ∨ x = T := by simpa using hx
       rcases hx with y | y
       · exact hSI (z.trans y)
       · exact hST (z.trans y))).trans e
   · exact hR h2 tk2 fun x o hx1 hx2 e => k2 x o hx1 hx2 ((Heap.get?_update_other _ _ (Ne.symm hx2)).trans (k x o (by simp [hx1]) e))
 | false =>
   simp only [Bool.false_eq_true, if_false]
   refine wpAny_bind (wpAny_letGo ?_)
   rw [hn]
   refine wpAny_pure ⟨plainId_quiet PySem.F.plain_min_loop _, min_last (a := a) (b := b) (v := a) hh hIT hSI hST st' hS' fun h2 tk2 k2 => ?_⟩
   exact hR h2 tk2 fun x o hx1 hx2 e => k2 x o hx1 hx2 (k x o (by simp [hx1]) e)
theorem min_pair {s : Shared} {a b : Value} {c : Bool} {Q : Value → Shared → Prop} (hh : A.handled = none)
   (hcmp : ∀ (s' : Shared) (Q' E' : Value → Shared → Prop), (∀ x o, s.heap.get? x = some o → s'.heap.get? x = some o) → Q' (.bool c) s' → wpAny (model prog w) A.in1 (richCompare .Lt b a) Q' E' s')
   (h : ∀ h' tk, (∀ x o, s.heap.get? x = some o → h'.get? x = some o) → Q (if c = true then b else a) { s with heap := h', toks := tk }) :
   wpAny (model prog w) A (call (.builtin "min") [a, b]) Q E s := by
 have hn : (toString "min" ++ toString ".loop" : String) = "min.loop" := by decide
 refine call_function_tree (id := "min") PySem.F.kind_min PySem.F.plain_min PySem.F.entry_min (PySem.F.args_min2 a b) ?_
 show wpAny _ A.in1 (Builtin.Builtins.bindParams "min" ["key", "default"] 0 (⟨[], []⟩ : Args) >>= _) _ _ s
 refine wpAny_bind (wpAny_of_eq (show Builtin.Builtins.bindParams "min" ["key", "default"] 0 (⟨[], []⟩ : Args) = pure [none, none] from rfl) ?_)
 show wpAny _ A.in1 (newTuple [a, b] >>= _) _ _ _
 refine wpAny_bind (wpAny_newObj_type ?_)
 have hT : (s.heap.push { cls := .type "tuple", data := .seq #[a, b] }).IsTuple s.heap.objs.size #[a, b] := ⟨_, Heap.get?_push_size _ rfl, rfl, 0, rfl⟩
 have z1 : (s.heap.push { cls := .type "tuple", data := .seq #[a, b] }).objs.size = s.heap.objs.size + 1 := Heap.size_push ..
 refine wpAny_bind (wpAny_pyIter_tuple hT ?_)
 have hIT : s.heap.objs.size ≠ (s.heap.push { cls := .type "tuple", data := .seq #[a, b] }).objs.size := by rw [z1]; omega
 have W := Walks.tuple (prog := prog) (w := w) (A := A.in1) hh (s.heap.push { cls := .type "tuple", data := .seq #[a, b] }).objs.size s.heap.objs.size hIT #[a, b]
 generalize hh1 : (s.heap.push { cls := .type "tuple", data := .seq #[a, b] }) = h1 at hT z1 hIT W
 have k1 : ∀ x o, s.heap.get? x = some o → h1.get? x = some o := fun x o e => by rw [← hh1]; exact Heap.get?_push_of_some _ e
 have z2 : (h1.push { cls := .type "tuple_iterator", data := .fields #[.ref s.heap.objs.size, .int 0 0] }).objs.size = h1.objs.size + 1 := Heap.size_push ..
 have st0 : PairAt h1.objs.size s.heap.objs.size a b 0 (h1.push { cls := .type "tuple_iterator", data := .fields #[.ref s.heap.objs.size, .int 0 0] }) := ⟨⟨_, Heap.get?_push_size _ rfl, rfl, rfl⟩, hT.push _⟩
 have k2 : ∀ x o, h1.get? x = some o → (h1.push { cls := .type "tuple_iterator", data := .fields #[.ref s.heap.objs.size, .int 0 0] }).get? x = some o := fun x o e => Heap.get?_push_of_some _ e
 generalize (h1.push { cls := .type "tuple_iterator", data := .fields #[.ref s.heap.objs.size, .int 0 0] }) = h2 at z2 st0 k2
 refine wpAny_bind (wpAny_newObj_type ?_)
 have hSI : h2.objs.size ≠ h1.objs.size := by omega
 have hST : h2.objs.size ≠ s.heap.objs.size := by omega
 have hS : (h2.push { cls := .type "list", data := .seq #[] }).get? h2.objs.size = some { cls := .type "list", dict := none, data := .seq #[] 0, slots := #[] } := Heap.get?_push_size _ rfl
 have st3 := W.frame 0 _ (h2.push { cls := .type "list", data := .seq #[] }) st0 fun x hx o e => Heap.get?_push_of_some _ e
 have k3 : ∀ x o, h2.get? x = some o → (h2.push { cls := .type "list", data := .seq #[] }).get? x = some o := fun x o e => Heap.get?_push_of_some _ e
 rw [hn]
 refine wpAny_pure ⟨plainId_quiet PySem.F.plain_min_loop _, ?_⟩
 refine codeAny_builtin PySem.F.entry_min_loop ?_
 rw [Around.under_plainId PySem.F.plain_min_loop _]
 show wpAny _ A.in1 (seqItems? (Value.ref h2.objs.size) >>= _) _ _ _
 refine wpAny_bind (wpAny_seqItems hS rfl ?_)
 show wpAny _ A.in1 (tryCatch (pyNext (Value.ref h1.objs.size)) _ >>= _) _ _ _
 refine wpAny_bind (wpAny_tryCatch (W.item 0 _ _ _ (by show 0 < 2; decide) st3 fun v h' tk hv st' k => ?_))
 have hv : a = v := by simpa using hv
 subst hv
 have hS' := k h2.objs.size _ (by simp [hSI]) hS
 show wpAny _ A.in1 (updateSeq h2.objs.size (fun _ => (#[a, a] : Array Value)) >>= _) _ _ _
 refine wpAny_bind (wpAny_updateSeq hS' rfl ?_)
 rw [hn]
 have lt1 : ∀ x o, s.heap.get? x = some o → x ≠ h1.objs.size ∧ x ≠ h2.objs.size := fun x o e => by
   have hx := Heap.lt_size e
   exact ⟨Nat.ne_of_lt (by rw [z1]; exact Nat.lt_succ_of_lt hx), Nat.ne_of_lt (by rw [z2, z1]; exact Nat.lt_succ_of_lt (Nat.lt_succ_of_lt hx))⟩
 have kk : ∀ x o, s.heap.get? x = some o → (h'.update h2.objs.size (Obj.mapSeq fun _ => (#[a, a] : Array Value))).get? x = some o := fun x o e => by
   obtain ⟨n1, n2⟩ := lt1 x o e
   exact (Heap.get?_update_other _ _ (Ne.symm n2)).trans (k x o (by simp [n1]) (k3 x o (k2 x o (k1 x o e))))
 refine wpAny_pure ⟨plainId_quiet PySem.F.plain_min_loop _, min_next (a := a) (b := b) (c := c) hh hIT hSI hST ?_ (Heap.get?_update_self _ hS' rfl) (fun s' Q' E' kq q => hcmp s' Q' E' (fun x o e => ?_) q) fun h4 tk4 k4 => h h4 tk4 fun x o e => ?_⟩
 · exact W.frame 1 _ _ st' fun x hx o e => (Heap.get?_update_other _ _ (fun z : h2.objs.size = x => by
     have hx : x = h1.objs.size ∨ x = s.heap.objs.size := by simpa using hx
     rcases hx with y | y
     · exact hSI (z.trans y)
     · exact hST (z.trans y))).trans e
 · obtain ⟨n1, n2⟩ := lt1 x o e
   exact kq x o n1 n2 (kk x o e)
 · obtain ⟨n1, n2⟩ := lt1 x o e
   exact k4 x o n1 n2 (kk x o e)
end
inductive LtV : List Value → List Value → Bool → Prop
 | nil : LtV [] [] false
 | ieq (a : Int) (t u : Tok) {r q : List Value} {c : Bool} : LtV r q c → LtV (.int a t :: r) (.int a u :: q) c
 | ine (a b : Int) (t u : Tok) {r q : List Value} : a ≠ b → r.length = q.length → LtV (.int a t :: r) (.int b u :: q) (decide (a < b))
 | seq (x : Str) (t u : Tok) {r q : List Value} {c : Bool} : LtV r q c → LtV (.str x t :: r) (.str x u :: q) c
 | sne (x y : Str) (t u : Tok) {r q : List Value} : x ≠ y → r.length = q.length → LtV (.str x t :: r) (.str y u :: q) (decide (x.cps.toList < y.cps.toList))
theorem LtV.length {r q : List Value} {c : Bool} (h : LtV r q c) : r.length = q.length := by
 induction h with
 | nil => rfl
 | ieq _ _ _ _ ih => rw [List.length_cons, List.length_cons, ih]
 | ine _ _ _ _ _ h => rw [List.length_cons, List.length_cons, h]
 | seq _ _ _ _ ih => rw [List.length_cons, List.length_cons, ih]
 | sne _ _ _ _ _ h => rw [List.length_cons, List.length_cons, h]
end Km
set_option Elab.async false
set_option linter.all false
set_option maxRecDepth 100000
set_option maxHeartbeats 2000000
namespace Km
open PySem PySem.Spec PyProof.Rows L2
section
open PySem.SeqAt
open PySem.AutoSeq1 (wpAny_loadPart')
open PySem.MeetsSeq PySem.MeetsSeq2 PySem.MeetsSeq3
theorem tuple_lt_mix (l b : Addr) (items items2 : Array Value) (n n2 : Nat) (dd dd2 : Option Addr) (sl sl2 : Array (Option Value)) (c : Bool) (hc : LtV items.toList items2.toList c) :
   Meets (Builtin.«tuple.__lt__» ⟨[.ref l, .ref b], []⟩)
     (fun _ R s => s.heap.get? l = some { cls := .type "tuple", dict := dd, data := .seq items n, slots := sl } ∧ s.heap.get? b = some { cls := .type "tuple", dict := dd2, data := .seq items2 n2, slots := sl2 } ∧
       R (.ok (.ret (.bool c))) s) :=
 .of_wp fun prog w A R s h => by
   obtain ⟨hp, g, d, tk, os⟩ := s; obtain ⟨hl, hb, h⟩ := h
   have f2 := AutoSeq1.sub_tuple_tuple
   have z1 : items.size = items2.size := by simpa using hc.length
   wp_walk using wpAny_loadPart' hl, wpAny_loadPart' hb, wpAny_forIn_list _ (fun rest b s' => b.1 = none ∧ s' = ⟨hp, g, d, tk, os⟩ ∧ ∃ (vs ws : List Value) (c' : Bool), rest = vs.zip ws ∧ LtV vs ws c' ∧ R (.ok (.ret (.bool c'))) ⟨hp, g, d, tk, os⟩) _
   case turn =>
     rintro ⟨y, x⟩ rest b s' ⟨hb', rfl, vs, ws, c', hz, hv, hR⟩
     cases hv with
     | nil => rw [List.zip_nil_left] at hz; cases hz
     | ieq a t u hv' =>
       rw [List.zip_cons_cons] at hz
       injection hz with hyx hrest
       injection hyx with hy hx
       subst hy hx
       have he := EqAt.int_int (A := A.in1) (s := ⟨hp, g, d, tk, os⟩) a t a u
       rw [beq_self_eq_true] at he
       refine wpAny_bind (he prog w _ _ ?_)
       wp_walk
       exact ⟨rfl, rfl, _, _, _, hrest, hv', hR⟩
     | ine a a' t u hne hlen =>
       rw [List.zip_cons_cons] at hz
       injection hz with hyx hrest
       injection hyx with hy hx
       subst hy hx
       have he := EqAt.int_int (A := A.in1) (s := ⟨hp, g, d, tk, os⟩) a t a' u
       rw [beq_eq_false_iff_ne.mpr hne] at he
       refine wpAny_bind (he prog w _ _ ?_)
       have hri := HT.rcLt_int A.in1 ⟨hp, g, d, tk, os⟩ a t a' u prog w
       wp_walk using hri
       exact ⟨_, rfl, by simpa using hR⟩
     | seq a t u hv' =>
       rw [List.zip_cons_cons] at hz
       injection hz with hyx hrest
       injection hyx with hy hx
       subst hy hx
       have he := EqAt.str_str (A := A.in1) (s := ⟨hp, g, d, tk, os⟩) a t a u
       rw [beq_self_eq_true] at he
       refine wpAny_bind (he prog w _ _ ?_)
       wp_walk
       exact ⟨rfl, rfl, _, _, _, hrest, hv', hR⟩
     | sne a a' t u hne hlen =>
       rw [List.zip_cons_cons] at hz
       injection hz with hyx hrest
       injection hyx with hy hx
       subst hy hx
       have he := EqAt.str_str (A := A.in1) (s := ⟨hp, g, d, tk, os⟩) a t a' u
       rw [beq_eq_false_iff_ne.mpr hne] at he
       refine wpAny_bind (he prog w _ _ ?_)
       have hri : ∀ (E Q : Value → Shared → Prop), Q (.bool (decide (a.cps.toList < a'.cps.toList))) ⟨hp, g, d, tk, os⟩ → wpAny (model prog w) A.in1 (richCompare .Lt (.str a t) (.str a' u)) Q E ⟨hp, g, d, tk, os⟩ := fun E Q h =>
         (PyProof.Rows.lt_str h : wpAny (model prog w) A.in1 (compareOp .Lt (.str a t) (.str a' u)) Q E ⟨hp, g, d, tk, os⟩)
       wp_walk using hri
       exact ⟨_, rfl, by simpa using hR⟩
   case fin =>
     rintro ⟨b1, b2⟩ s' ⟨hb', rfl, vs, ws, c', hz, hv, hR⟩
     simp only at hb'
     subst hb'
     have hc' : c' = false := by
       cases hv with
       | nil => rfl
       | ieq a t u hv => rw [List.zip_cons_cons] at hz; cases hz
       | ine a b t u h1 h2 => rw [List.zip_cons_cons] at hz; cases hz
       | seq a t u hv => rw [List.zip_cons_cons] at hz; cases hz
       | sne a b t u h1 h2 => rw [List.zip_cons_cons] at hz; cases hz
     have hv2 : c' = decide (items.size < items2.size) := by rw [hc']; exact (decide_eq_false (by omega)).symm
     rw [hv2] at hR
     wp_walk
     exact ⟨_, rfl, by simpa [Builtin.Tuple.tupleCompareSizes] using hR⟩
   case h =>
     exact ⟨rfl, rfl, items.toList, items2.toList, c, rfl, hc, h⟩
end
section
variable {prog : Program} {w : World} {A : Around} {E : Value → Shared → Prop} {s : Shared}
theorem lt_tupMix {l b : Addr} {items items2 : Array Value} {c : Bool} {Q : Value → Shared → Prop} (hl : IsTup s.heap l items) (hb : IsTup s.heap b items2) (hc : LtV items.toList items2.toList c)
   (hu : A.units < cLine) (h : Q (.bool c) s) : wpAny (model prog w) A (richCompare .Lt (.ref l) (.ref b)) Q E s := by
 obtain ⟨⟨cls, dd, data, sl⟩, ho, hc1, n, hd⟩ := id hl
 obtain ⟨⟨cls2, dd2, data2, sl2⟩, ho2, hc2, n2, hd2⟩ := id hb
 simp only at hc1 hd hc2 hd2
 subst hc1 hd hc2 hd2
 exact richCompare_meets_room (op := .Lt) ⟨_, ho, rfl⟩ ⟨_, ho2, rfl⟩ PySem.F.slot_tuple_lt PySem.F.entry_tuple_lt (PySem.F.args_tuple_lt_2 _ _) (tuple_lt_mix l b items items2 n n2 dd dd2 sl sl2 c hc)
   ⟨ho, ho2, show Value.bool c ≠ Value.notImplemented ∧ Q (.bool c) s from ⟨(fun x => nomatch x), h⟩⟩ hu
end
abbrev Tri := Int × Int × Str
def triV (x : Tri) : List V := [.int x.1, .int x.2.1, .str x.2.2]
def ltT (y x : Tri) : Bool := if y.1 = x.1 then (if y.2.1 = x.2.1 then decide (y.2.2.cps.toList < x.2.2.cps.toList) else decide (y.2.1 < x.2.1)) else decide (y.1 < x.1)
def rMinT (K : W.Frag) : List V → Hp → VK → Prop := fun vs H Q => ∃ (a b : Addr) (x y : Tri), vs = [.ref a, .ref b] ∧ SqT K H a (triV x) ∧ SqT K H b (triV y) ∧ Q (if ltT y x = true then .ref b else .ref a) H
theorem ltV_of {x y : Tri} {us ws : List Value} (hx : Vals (triV x) us) (hy : Vals (triV y) ws) : LtV ws us (ltT y x) := by
 obtain ⟨x1, x2, x3⟩ := x
 obtain ⟨y1, y2, y3⟩ := y
 cases hx with
 | cons r1 hx =>
 cases hx with
 | cons r2 hx =>
 cases hx with
 | cons r3 hx =>
 cases hx
 cases hy with
 | cons q1 hy =>
 cases hy with
 | cons q2 hy =>
 cases hy with
 | cons q3 hy =>
 cases hy
 obtain ⟨t1, rfl⟩ := r1
 obtain ⟨t2, rfl⟩ := r2
 obtain ⟨t3, rfl⟩ := r3
 obtain ⟨u1, rfl⟩ := q1
 obtain ⟨u2, rfl⟩ := q2
 obtain ⟨u3, rfl⟩ := q3
 unfold ltT
 by_cases h1 : y1 = x1
 · subst h1
   rw [if_pos rfl]
   refine .ieq _ _ _ ?_
   by_cases h2 : y2 = x2
   · subst h2
     rw [if_pos rfl]
     refine .ieq _ _ _ ?_
     by_cases h3 : y3 = x3
     · subst h3
       have e : decide (y3.cps.toList < y3.cps.toList) = false := decide_eq_false (List.lt_irrefl _)
       show LtV _ _ (decide (y3.cps.toList < y3.cps.toList))
       rw [e]
       exact .seq _ _ _ .nil
     · exact .sne _ _ _ _ h3 rfl
   · rw [if_neg h2]
     exact .ine _ _ _ _ h2 rfl
 · rw [if_neg h1]
   exact .ine _ _ _ _ h1 rfl
theorem cr_minT {X : Cx} (hc : X.calm = true) (hu : X.A.units + 64 < cLine) : CallR X (.builtin "min") (rMinT X.K) := by
 intro pins s σ H xs us Q I r h
 obtain ⟨a, b, x, y, rfl, ha, hb, q⟩ := h
 obtain ⟨u, w', rfl, e1, e2⟩ := vals2 r
 cases e1
 cases e2
 obtain ⟨ia, ra, pa, _⟩ := I.tuple ha
 obtain ⟨ib, rb, pb, _⟩ := I.tuple hb
 have keep : ∀ {l : Addr} {its : Array Value} {s' : Shared}, IsTup s.heap l its → (∀ x o, s.heap.get? x = some o → s'.heap.get? x = some o) → IsTup s'.heap l its := fun ⟨o, ho, r⟩ k => ⟨o, k _ _ ho, r⟩
 refine min_pair (c := ltT y x) (I.ok.hd hc) (fun s' Q' E' k q' => lt_tupMix (keep pb k) (keep pa k) ?_ ?_ q') fun h' tk k => ⟨_, H, I.kept k, ?_, q⟩
 · have e := ltV_of ra rb
   simpa using e
 · show X.A.units + 1 < cLine
   omega
 · by_cases hl : ltT y x = true
   · rw [if_pos hl, if_pos hl]
     rfl
   · rw [if_neg hl, if_neg hl]
     rfl
theorem for_enum {K : W.Frag} {a : Addr} {xs : List V} {g : TG} {tb : TS} {D : Ends} {σ : L2.St} {H : Hp} (Pv : Nat → L2.St → Hp → Prop) (h0 : Pv 0 σ H) (hl : ∀ i σ H, i ≤ xs.length → Pv i σ H → SqL K H a xs)
   (hs : ∀ i x T σ H, xs[i]? = some x → H T = none → Pv i σ H → g (.ref T) σ (upd H T (.tup [.int (i : Nat), x])) fun σ2 H2 => tb { D with nx := Pv (i + 1), ct := Pv (i + 1), bk := D.nx } σ2 H2) (hd : ∀ σ H, Pv xs.length σ H → D.nx σ H) :
   ∃ W : Nat → Nat → L2.St → Hp → Prop, (∃ m, W 0 m σ H) ∧ ∀ i m σ H, W i m σ H →
     ((Ite K a).stop i H ∧ D.nx σ H) ∨ ((Ite K a).go i H ∧ ∃ N : L2.St → Hp → Prop, (∀ σ' H', N σ' H' → ∃ m', m' < m ∧ W (i + 1) m' σ' H') ∧ ∀ x H', (Ite K a).yld i H x H' → g x σ H' fun σ2 H2 => tb { D with nx := N, ct := N, bk := D.nx } σ2 H2) := by
 refine ⟨fun i m σ H => m = xs.length - i ∧ i ≤ xs.length ∧ Pv i σ H, ⟨xs.length, by simp, Nat.zero_le _, h0⟩, ?_⟩
 rintro i m σ H ⟨rfl, hi, p⟩
 have q := hl i σ H hi p
 by_cases hlt : i < xs.length
 · refine .inr ⟨⟨xs, xs[i], q, by simp [hlt]⟩, Pv (i + 1), fun σ' H' p' => ⟨xs.length - (i + 1), by omega, rfl, hlt, p'⟩, fun x H' y => ?_⟩
   obtain ⟨T, u, rfl, hT, rfl, e1⟩ := y
   exact hs i u T σ H (e1 xs q) hT p
 · have e : i = xs.length := by omega
   subst e
   exact .inl ⟨⟨xs, q, Nat.le_refl _⟩, hd σ H p⟩
theorem lc_enum {K : W.Frag} {a : Addr} {xs : List V} {g : TG} {tt : TT} {te : TE} {vs : List Nat} {σ : L2.St} {H1 : Hp} {D : Addr} {Qd : Hp → Prop} (Pv : Nat → Hp → Prop) (h0 : Pv 0 (upd H1 D (.lst [])))
   (hl : ∀ i H, i ≤ xs.length → Pv i H → SqL K H a xs)
   (hs : ∀ i x T H, xs[i]? = some x → H T = none → Pv i H → g (.ref T) (wipe σ vs) (upd H T (.tup [.int (i : Nat), x])) fun σ2 H2 => wipe σ2 vs = wipe σ vs ∧ tt σ2 H2 fun b H3 =>
     if b = true then te σ2 H3 fun y H4 => ∃ acc, H4 D = some (.lst acc) ∧ acc.length < sizeLine ∧ Pv (i + 1) (upd H4 D (.lst (acc ++ [y]))) else Pv (i + 1) H3) (hd : ∀ H, Pv xs.length H → Qd H) :
   ∃ W : Nat → Nat → Hp → Prop, (∃ m, W 0 m (upd H1 D (.lst []))) ∧ ∀ i m H, W i m H →
     ((Ite K a).stop i H ∧ Qd H) ∨ ((Ite K a).go i H ∧ ∃ Nx : Hp → Prop, (∀ H', Nx H' → ∃ m', m' < m ∧ W (i + 1) m' H') ∧ ∀ x H', (Ite K a).yld i H x H' → g x (wipe σ vs) H' fun σ2 H2 => wipe σ2 vs = wipe σ vs ∧ tt σ2 H2 fun b H3 =>
       if b = true then te σ2 H3 fun y H4 => ∃ acc, H4 D = some (.lst acc) ∧ acc.length < sizeLine ∧ Nx (upd H4 D (.lst (acc ++ [y]))) else Nx H3) := by
 refine ⟨fun i m H => m = xs.length - i ∧ i ≤ xs.length ∧ Pv i H, ⟨xs.length, by simp, Nat.zero_le _, h0⟩, ?_⟩
 rintro i m H ⟨rfl, hi, p⟩
 have q := hl i H hi p
 by_cases hlt : i < xs.length
 · refine .inr ⟨⟨xs, xs[i], q, by simp [hlt]⟩, Pv (i + 1), fun H' p' => ⟨xs.length - (i + 1), by omega, rfl, hlt, p'⟩, fun x H' y => ?_⟩
   obtain ⟨T, u, rfl, hT, rfl, e1⟩ := y
   exact hs i u T H (e1 xs q) hT p
 · have e : i = xs.length := by omega
   subst e
   exact .inl ⟨⟨xs, q, Nat.le_refl _⟩, hd H p⟩
theorem lc_str {x : Str} {g : TG} {tt : TT} {te : TE} {vs : List Nat} {σ : L2.St} {H1 : Hp} {D : Addr} {Qd : Hp → Prop} (Pv : Nat → Hp → Prop) (h0 : Pv 0 (upd H1 D (.lst [])))
   (hs : ∀ i c H, x.cps[i]? = some c → Pv i H → g (.str ⟨#[c]⟩) (wipe σ vs) H fun σ2 H2 => wipe σ2 vs = wipe σ vs ∧ tt σ2 H2 fun b H3 =>
     if b = true then te σ2 H3 fun y H4 => ∃ acc, H4 D = some (.lst acc) ∧ acc.length < sizeLine ∧ Pv (i + 1) (upd H4 D (.lst (acc ++ [y]))) else Pv (i + 1) H3) (hd : ∀ H, Pv x.cps.size H → Qd H) :
   ∃ W : Nat → Nat → Hp → Prop, (∃ m, W 0 m (upd H1 D (.lst []))) ∧ ∀ i m H, W i m H →
     ((Its x).stop i H ∧ Qd H) ∨ ((Its x).go i H ∧ ∃ Nx : Hp → Prop, (∀ H', Nx H' → ∃ m', m' < m ∧ W (i + 1) m' H') ∧ ∀ v H', (Its x).yld i H v H' → g v (wipe σ vs) H' fun σ2 H2 => wipe σ2 vs = wipe σ vs ∧ tt σ2 H2 fun b H3 =>
       if b = true then te σ2 H3 fun y H4 => ∃ acc, H4 D = some (.lst acc) ∧ acc.length < sizeLine ∧ Nx (upd H4 D (.lst (acc ++ [y]))) else Nx H3) := by
 refine ⟨fun i m H => m = x.cps.size - i ∧ i ≤ x.cps.size ∧ Pv i H, ⟨x.cps.size, by simp, Nat.zero_le _, h0⟩, ?_⟩
 rintro i m H ⟨rfl, hi, p⟩
 by_cases hlt : i < x.cps.size
 · refine .inr ⟨hlt, Pv (i + 1), fun H' p' => ⟨x.cps.size - (i + 1), by omega, rfl, hlt, p'⟩, fun v H' y => ?_⟩
   obtain ⟨rfl, c, hc, rfl⟩ := y
   exact hs i c _ hc p
 · have e : i = x.cps.size := by omega
   subst e
   exact .inl ⟨Nat.le_refl _, hd H p⟩
theorem for_keys {d : Addr} {o : Obj} {kvs : List (Key × V)} {g : TG} {tb : TS} {D : Ends} {σ : L2.St} {H : Hp} (Pv : Nat → L2.St → Hp → Prop) (h0 : Pv 0 σ H) (hl : ∀ i σ H, i ≤ kvs.length → Pv i σ H → H d = some (.frz o (.dK kvs)))
   (hs : ∀ i k v σ H, kvs[i]? = some (k, v) → Pv i σ H → g (kV k) σ H fun σ2 H2 => tb { D with nx := Pv (i + 1), ct := Pv (i + 1), bk := D.nx } σ2 H2) (hd : ∀ σ H, Pv kvs.length σ H → D.nx σ H) :
   ∃ W : Nat → Nat → L2.St → Hp → Prop, (∃ m, W 0 m σ H) ∧ ∀ i m σ H, W i m σ H →
     ((Itk d o kvs).stop i H ∧ D.nx σ H) ∨ ((Itk d o kvs).go i H ∧ ∃ N : L2.St → Hp → Prop, (∀ σ' H', N σ' H' → ∃ m', m' < m ∧ W (i + 1) m' σ' H') ∧ ∀ x H', (Itk d o kvs).yld i H x H' → g x σ H' fun σ2 H2 => tb { D with nx := N, ct := N, bk := D.nx } σ2 H2) := by
 refine ⟨fun i m σ H => m = kvs.length - i ∧ i ≤ kvs.length ∧ Pv i σ H, ⟨kvs.length, by simp, Nat.zero_le _, h0⟩, ?_⟩
 rintro i m σ H ⟨rfl, hi, p⟩
 have q := hl i σ H hi p
 by_cases hlt : i < kvs.length
 · refine .inr ⟨⟨q, hlt⟩, Pv (i + 1), fun σ' H' p' => ⟨kvs.length - (i + 1), by omega, rfl, hlt, p'⟩, fun x H' y => ?_⟩
   obtain ⟨rfl, k, v, hk, rfl⟩ := y
   exact hs i k v σ _ hk p
 · have e : i = kvs.length := by omega
   subst e
   exact .inl ⟨⟨q, Nat.le_refl _⟩, hd σ H p⟩
end Km
set_option Elab.async false
set_option linter.all false
set_option maxRecDepth 100000
set_option maxHeartbeats 2000000
namespace Kn
open PySem PySem.Spec PyProof.Rows L2 Km
def top (i : Nat) : Stmt := PySem.Challenge.pw_knotloom_s01_answers.main.body.getD i (.Pass ⟨0, 0, 0, 0⟩)
abbrev s_least_call : Stmt := top 1
abbrev s_make_call : Stmt := top 2
abbrev s_count_times : Stmt := top 3
abbrev s_find_firsts : Stmt := top 4
abbrev s_add_repeats : Stmt := top 5
abbrev s_choose_least : Stmt := top 6
abbrev s_is_colour : Stmt := top 9
abbrev s_are_colours : Stmt := top 10
abbrev s_colour_number : Stmt := top 11
abbrev s_count_colours : Stmt := top 12
abbrev s_as_signs : Stmt := top 13
abbrev s_read_chart : Stmt := top 19
abbrev s_split_rows : Stmt := top 20
abbrev s_write_rows : Stmt := top 21
abbrev s_is_size : Stmt := top 22
abbrev s_Tyings_init : Stmt := inClass (top 31) 0
abbrev s_Tyings_ask : Stmt := inClass (top 31) 1
abbrev s_tie_part : Stmt := top 32
abbrev s_tie_row : Stmt := top 33
abbrev s_wrong_columns : Stmt := top 34
abbrev s_count_wrong : Stmt := top 35
abbrev s_find_wrong : Stmt := top 36
abbrev s_are_shares : Stmt := top 43
abbrev s_Loom_init : Stmt := inClass (top 44) 0
abbrev s_Loom_begin : Stmt := inClass (top 44) 1
abbrev s_Loom_row : Stmt := inClass (top 44) 2
abbrev s_Loom_unpick : Stmt := inClass (top 44) 3
abbrev s_Loom_now : Stmt := inClass (top 44) 4
abbrev s_Loom_tied : Stmt := inClass (top 44) 5
abbrev s_Loom_wrong : Stmt := inClass (top 44) 6
abbrev s_Loom_wool : Stmt := inClass (top 44) 7
abbrev s_Loom_said : Stmt := inClass (top 44) 8
abbrev s_CallReader_init : Stmt := inClass (top 55) 0
abbrev s_CallReader_has_more : Stmt := inClass (top 55) 1
abbrev s_CallReader_take_number : Stmt := inClass (top 55) 2
abbrev s_CallReader_take_numbers : Stmt := inClass (top 55) 3
abbrev s_answer_next : Stmt := top 56
abbrev s_answers : Stmt := top 57
structure Ad where
 a_least_call : Addr
 a_make_call : Addr
 a_count_times : Addr
 a_find_firsts : Addr
 a_add_repeats : Addr
 a_choose_least : Addr
 a_is_colour : Addr
 a_are_colours : Addr
 a_colour_number : Addr
 a_count_colours : Addr
 a_as_signs : Addr
 a_read_chart : Addr
 a_split_rows : Addr
 a_write_rows : Addr
 a_is_size : Addr
 a_Tyings_init : Addr
 a_Tyings_ask : Addr
 a_tie_part : Addr
 a_tie_row : Addr
 a_wrong_columns : Addr
 a_count_wrong : Addr
 a_find_wrong : Addr
 a_are_shares : Addr
 a_Loom_init : Addr
 a_Loom_begin : Addr
 a_Loom_row : Addr
 a_Loom_unpick : Addr
 a_Loom_now : Addr
 a_Loom_tied : Addr
 a_Loom_wrong : Addr
 a_Loom_wool : Addr
 a_Loom_said : Addr
 a_CallReader_init : Addr
 a_CallReader_has_more : Addr
 a_CallReader_take_number : Addr
 a_CallReader_take_numbers : Addr
 a_answer_next : Addr
 a_answers : Addr
 a_Tyings : Addr
 a_Loom : Addr
 a_CallReader : Addr
structure Fds where
 d_least_call : FuncData
 d_make_call : FuncData
 d_count_times : FuncData
 d_find_firsts : FuncData
 d_add_repeats : FuncData
 d_choose_least : FuncData
 d_is_colour : FuncData
 d_are_colours : FuncData
 d_colour_number : FuncData
 d_count_colours : FuncData
 d_as_signs : FuncData
 d_read_chart : FuncData
 d_split_rows : FuncData
 d_write_rows : FuncData
 d_is_size : FuncData
 d_Tyings_init : FuncData
 d_Tyings_ask : FuncData
 d_tie_part : FuncData
 d_tie_row : FuncData
 d_wrong_columns : FuncData
 d_count_wrong : FuncData
 d_find_wrong : FuncData
 d_are_shares : FuncData
 d_Loom_init : FuncData
 d_Loom_begin : FuncData
 d_Loom_row : FuncData
 d_Loom_unpick : FuncData
 d_Loom_now : FuncData
 d_Loom_tied : FuncData
 d_Loom_wrong : FuncData
 d_Loom_wool : FuncData
 d_Loom_said : FuncData
 d_CallReader_init : FuncData
 d_CallReader_has_more : FuncData
 d_CallReader_take_number : FuncData
 d_CallReader_take_numbers : FuncData
 d_answer_next : FuncData
 d_answers : FuncData
structure Txt (K : W.Frag) (mg : Str → Option Value) (A : Ad) (D : Fds) : Prop where
 f_least_call : Fun K "least_call" "least_call" s_least_call A.a_least_call D.d_least_call
 b_least_call : Binds K D.d_least_call ["row"] []
 m_least_call : mg "least_call" = some (.ref A.a_least_call)
 k_least_call : W.keepIn K (.ref A.a_least_call) = true
 f_make_call : Fun K "make_call" "make_call" s_make_call A.a_make_call D.d_make_call
 b_make_call : Binds K D.d_make_call ["words", "text"] []
 m_make_call : mg "make_call" = some (.ref A.a_make_call)
 k_make_call : W.keepIn K (.ref A.a_make_call) = true
 f_count_times : Fun K "count_times" "count_times" s_count_times A.a_count_times D.d_count_times
 b_count_times : Binds K D.d_count_times ["row"] []
 m_count_times : mg "count_times" = some (.ref A.a_count_times)
 k_count_times : W.keepIn K (.ref A.a_count_times) = true
 f_find_firsts : Fun K "find_firsts" "find_firsts" s_find_firsts A.a_find_firsts D.d_find_firsts
 b_find_firsts : Binds K D.d_find_firsts ["times"] []
 m_find_firsts : mg "find_firsts" = some (.ref A.a_find_firsts)
 k_find_firsts : W.keepIn K (.ref A.a_find_firsts) = true
 f_add_repeats : Fun K "add_repeats" "add_repeats" s_add_repeats A.a_add_repeats D.d_add_repeats
 b_add_repeats : Binds K D.d_add_repeats ["first_items", "start", "size", "times", "words", "repeated"] []
 m_add_repeats : mg "add_repeats" = some (.ref A.a_add_repeats)
 k_add_repeats : W.keepIn K (.ref A.a_add_repeats) = true
 f_choose_least : Fun K "choose_least" "choose_least" s_choose_least A.a_choose_least D.d_choose_least
 b_choose_least : Binds K D.d_choose_least ["row", "end", "first_items", "known"] []
 m_choose_least : mg "choose_least" = some (.ref A.a_choose_least)
 k_choose_least : W.keepIn K (.ref A.a_choose_least) = true
 f_is_colour : Fun K "is_colour" "is_colour" s_is_colour A.a_is_colour D.d_is_colour
 b_is_colour : Binds K D.d_is_colour ["byte"] []
 m_is_colour : mg "is_colour" = some (.ref A.a_is_colour)
 k_is_colour : W.keepIn K (.ref A.a_is_colour) = true
 f_are_colours : Fun K "are_colours" "are_colours" s_are_colours A.a_are_colours D.d_are_colours
 b_are_colours : Binds K D.d_are_colours ["text"] []
 m_are_colours : mg "are_colours" = some (.ref A.a_are_colours)
 k_are_colours : W.keepIn K (.ref A.a_are_colours) = true
 f_colour_number : Fun K "colour_number" "colour_number" s_colour_number A.a_colour_number D.d_colour_number
 b_colour_number : Binds K D.d_colour_number ["colour"] []
 m_colour_number : mg "colour_number" = some (.ref A.a_colour_number)
 k_colour_number : W.keepIn K (.ref A.a_colour_number) = true
 f_count_colours : Fun K "count_colours" "count_colours" s_count_colours A.a_count_colours D.d_count_colours
 b_count_colours : Binds K D.d_count_colours ["rows"] []
 m_count_colours : mg "count_colours" = some (.ref A.a_count_colours)
 k_count_colours : W.keepIn K (.ref A.a_count_colours) = true
 f_as_signs : Fun K "as_signs" "as_signs" s_as_signs A.a_as_signs D.d_as_signs
 b_as_signs : Binds K D.d_as_signs ["colours"] []
 m_as_signs : mg "as_signs" = some (.ref A.a_as_signs)
 k_as_signs : W.keepIn K (.ref A.a_as_signs) = true
 f_read_chart : Fun K "read_chart" "read_chart" s_read_chart A.a_read_chart D.d_read_chart
 b_read_chart : Binds K D.d_read_chart ["text"] []
 m_read_chart : mg "read_chart" = some (.ref A.a_read_chart)
 k_read_chart : W.keepIn K (.ref A.a_read_chart) = true
 f_split_rows : Fun K "split_rows" "split_rows" s_split_rows A.a_split_rows D.d_split_rows
 b_split_rows : Binds K D.d_split_rows ["text"] []
 m_split_rows : mg "split_rows" = some (.ref A.a_split_rows)
 k_split_rows : W.keepIn K (.ref A.a_split_rows) = true
 f_write_rows : Fun K "write_rows" "write_rows" s_write_rows A.a_write_rows D.d_write_rows
 b_write_rows : Binds K D.d_write_rows ["rows"] []
 m_write_rows : mg "write_rows" = some (.ref A.a_write_rows)
 k_write_rows : W.keepIn K (.ref A.a_write_rows) = true
 f_is_size : Fun K "is_size" "is_size" s_is_size A.a_is_size D.d_is_size
 b_is_size : Binds K D.d_is_size ["width", "height"] []
 m_is_size : mg "is_size" = some (.ref A.a_is_size)
 k_is_size : W.keepIn K (.ref A.a_is_size) = true
 f_Tyings_init : Fun K "__init__" "Tyings.__init__" s_Tyings_init A.a_Tyings_init D.d_Tyings_init
 b_Tyings_init : Binds K D.d_Tyings_init ["self", "told"] []
 f_Tyings_ask : Fun K "ask" "Tyings.ask" s_Tyings_ask A.a_Tyings_ask D.d_Tyings_ask
 b_Tyings_ask : Binds K D.d_Tyings_ask ["self", "size"] []
 f_tie_part : Fun K "tie_part" "tie_part" s_tie_part A.a_tie_part D.d_tie_part
 b_tie_part : Binds K D.d_tie_part ["part", "tries", "tyings"] []
 m_tie_part : mg "tie_part" = some (.ref A.a_tie_part)
 k_tie_part : W.keepIn K (.ref A.a_tie_part) = true
 f_tie_row : Fun K "tie_row" "tie_row" s_tie_row A.a_tie_row D.d_tie_row
 b_tie_row : Binds K D.d_tie_row ["row", "shares", "tries", "tyings"] []
 m_tie_row : mg "tie_row" = some (.ref A.a_tie_row)
 k_tie_row : W.keepIn K (.ref A.a_tie_row) = true
 f_wrong_columns : Fun K "wrong_columns" "wrong_columns" s_wrong_columns A.a_wrong_columns D.d_wrong_columns
 b_wrong_columns : Binds K D.d_wrong_columns ["knots", "row"] []
 m_wrong_columns : mg "wrong_columns" = some (.ref A.a_wrong_columns)
 k_wrong_columns : W.keepIn K (.ref A.a_wrong_columns) = true
 f_count_wrong : Fun K "count_wrong" "count_wrong" s_count_wrong A.a_count_wrong D.d_count_wrong
 b_count_wrong : Binds K D.d_count_wrong ["done", "chart"] []
 m_count_wrong : mg "count_wrong" = some (.ref A.a_count_wrong)
 k_count_wrong : W.keepIn K (.ref A.a_count_wrong) = true
 f_find_wrong : Fun K "find_wrong" "find_wrong" s_find_wrong A.a_find_wrong D.d_find_wrong
 b_find_wrong : Binds K D.d_find_wrong ["done", "chart", "k"] []
 m_find_wrong : mg "find_wrong" = some (.ref A.a_find_wrong)
 k_find_wrong : W.keepIn K (.ref A.a_find_wrong) = true
 f_are_shares : Fun K "are_shares" "are_shares" s_are_shares A.a_are_shares D.d_are_shares
 b_are_shares : Binds K D.d_are_shares ["shares", "width"] []
 m_are_shares : mg "are_shares" = some (.ref A.a_are_shares)
 k_are_shares : W.keepIn K (.ref A.a_are_shares) = true
 f_Loom_init : Fun K "__init__" "Loom.__init__" s_Loom_init A.a_Loom_init D.d_Loom_init
 b_Loom_init : Binds K D.d_Loom_init ["self"] []
 f_Loom_begin : Fun K "begin" "Loom.begin" s_Loom_begin A.a_Loom_begin D.d_Loom_begin
 b_Loom_begin : Binds K D.d_Loom_begin ["self", "text", "shares"] []
 f_Loom_row : Fun K "row" "Loom.row" s_Loom_row A.a_Loom_row D.d_Loom_row
 b_Loom_row : Binds K D.d_Loom_row ["self", "tries", "told"] []
 f_Loom_unpick : Fun K "unpick" "Loom.unpick" s_Loom_unpick A.a_Loom_unpick D.d_Loom_unpick
 b_Loom_unpick : Binds K D.d_Loom_unpick ["self", "k"] []
 f_Loom_now : Fun K "now" "Loom.now" s_Loom_now A.a_Loom_now D.d_Loom_now
 b_Loom_now : Binds K D.d_Loom_now ["self"] []
 f_Loom_tied : Fun K "tied" "Loom.tied" s_Loom_tied A.a_Loom_tied D.d_Loom_tied
 b_Loom_tied : Binds K D.d_Loom_tied ["self"] []
 f_Loom_wrong : Fun K "wrong" "Loom.wrong" s_Loom_wrong A.a_Loom_wrong D.d_Loom_wrong
 b_Loom_wrong : Binds K D.d_Loom_wrong ["self", "k"] []
 f_Loom_wool : Fun K "wool" "Loom.wool" s_Loom_wool A.a_Loom_wool D.d_Loom_wool
 b_Loom_wool : Binds K D.d_Loom_wool ["self"] []
 f_Loom_said : Fun K "said" "Loom.said" s_Loom_said A.a_Loom_said D.d_Loom_said
 b_Loom_said : Binds K D.d_Loom_said ["self", "j"] []
 f_CallReader_init : Fun K "__init__" "CallReader.__init__" s_CallReader_init A.a_CallReader_init D.d_CallReader_init
 b_CallReader_init : Binds K D.d_CallReader_init ["self", "calls"] []
 f_CallReader_has_more : Fun K "has_more" "CallReader.has_more" s_CallReader_has_more A.a_CallReader_has_more D.d_CallReader_has_more
 b_CallReader_has_more : Binds K D.d_CallReader_has_more ["self"] []
 f_CallReader_take_number : Fun K "take_number" "CallReader.take_number" s_CallReader_take_number A.a_CallReader_take_number D.d_CallReader_take_number
 b_CallReader_take_number : Binds K D.d_CallReader_take_number ["self"] []
 f_CallReader_take_numbers : Fun K "take_numbers" "CallReader.take_numbers" s_CallReader_take_numbers A.a_CallReader_take_numbers D.d_CallReader_take_numbers
 b_CallReader_take_numbers : Binds K D.d_CallReader_take_numbers ["self"] []
 f_answer_next : Fun K "answer_next" "answer_next" s_answer_next A.a_answer_next D.d_answer_next
 b_answer_next : Binds K D.d_answer_next ["loom", "reader"] []
 m_answer_next : mg "answer_next" = some (.ref A.a_answer_next)
 k_answer_next : W.keepIn K (.ref A.a_answer_next) = true
 f_answers : Fun K "answers" "answers" s_answers A.a_answers D.d_answers
 b_answers : Binds K D.d_answers ["calls"] []
 m_answers : mg "answers" = some (.ref A.a_answers)
 k_answers : W.keepIn K (.ref A.a_answers) = true
 m_Tyings : mg "Tyings" = some (.ref A.a_Tyings)
 cl_Tyings : Cls K A.a_Tyings
 mk_Tyings : Mk K A.a_Tyings A.a_Tyings_init
 n_Tyings_told : NoAttr K A.a_Tyings "told"
 n_Tyings_place : NoAttr K A.a_Tyings "place"
 n_Tyings_asked : NoAttr K A.a_Tyings "asked"
 me_Tyings_ask : Meth K A.a_Tyings "ask" A.a_Tyings_ask
 m_Loom : mg "Loom" = some (.ref A.a_Loom)
 cl_Loom : Cls K A.a_Loom
 mk_Loom : Mk K A.a_Loom A.a_Loom_init
 n_Loom_chart : NoAttr K A.a_Loom "chart"
 n_Loom_shares : NoAttr K A.a_Loom "shares"
 n_Loom_done : NoAttr K A.a_Loom "done"
 n_Loom_asked : NoAttr K A.a_Loom "asked"
 n_Loom_least_calls : NoAttr K A.a_Loom "least_calls"
 me_Loom_begin : Meth K A.a_Loom "begin" A.a_Loom_begin
 me_Loom_row : Meth K A.a_Loom "row" A.a_Loom_row
 me_Loom_unpick : Meth K A.a_Loom "unpick" A.a_Loom_unpick
 me_Loom_now : Meth K A.a_Loom "now" A.a_Loom_now
 me_Loom_tied : Meth K A.a_Loom "tied" A.a_Loom_tied
 me_Loom_wrong : Meth K A.a_Loom "wrong" A.a_Loom_wrong
 me_Loom_wool : Meth K A.a_Loom "wool" A.a_Loom_wool
 me_Loom_said : Meth K A.a_Loom "said" A.a_Loom_said
 m_CallReader : mg "CallReader" = some (.ref A.a_CallReader)
 cl_CallReader : Cls K A.a_CallReader
 mk_CallReader : Mk K A.a_CallReader A.a_CallReader_init
 n_CallReader_calls : NoAttr K A.a_CallReader "calls"
 n_CallReader_place : NoAttr K A.a_CallReader "place"
 me_CallReader_has_more : Meth K A.a_CallReader "has_more" A.a_CallReader_has_more
 me_CallReader_take_number : Meth K A.a_CallReader "take_number" A.a_CallReader_take_number
 me_CallReader_take_numbers : Meth K A.a_CallReader "take_numbers" A.a_CallReader_take_numbers
 e_SIGNS : ∃ t, mg "SIGNS" = some (.str "abcdefghijklmnopqrstuvwxyzABCDEFGHIJKLMNOPQRSTUVWXYZ0123456789" t)
 e_WIDEST : ∃ t, mg "WIDEST" = some (.int (512) t)
 e_HIGHEST : ∃ t, mg "HIGHEST" = some (.int (512) t)
 e_MOST_KNOTS : ∃ t, mg "MOST_KNOTS" = some (.int (65536) t)
 e_ROW_END : ∃ t, mg "ROW_END" = some (.int (10) t)
 e_OUT_OF_RANGE : ∃ t, mg "OUT_OF_RANGE" = some (.int (-1) t)
 e_TOO_LONG : ∃ t, mg "TOO_LONG" = some (.int (-2) t)
 e_NO_SUCH_THING : ∃ t, mg "NO_SUCH_THING" = some (.int (-4) t)
 e_NO_ROW : ∃ t, mg "NO_ROW" = some (.int (-5) t)
 e_NO_CHART : ∃ t, mg "NO_CHART" = some (.int (-6) t)
 e_ROW_IS_LEFT : ∃ t, mg "ROW_IS_LEFT" = some (.int (-12) t)
 e_NOT_BEGUN : ∃ t, mg "NOT_BEGUN" = some (.int (-13) t)
 e_MOST_BYTES : ∃ t, mg "MOST_BYTES" = some (.int (66048) t)
 e_MOST_KNOTTERS : ∃ t, mg "MOST_KNOTTERS" = some (.int (8) t)
 e_WIDEST_SHARE : ∃ t, mg "WIDEST_SHARE" = some (.int (128) t)
 e_MOST_TRIES : ∃ t, mg "MOST_TRIES" = some (.int (9) t)
 e_ASKED_MODULO : ∃ t, mg "ASKED_MODULO" = some (.int (4294967296) t)
 e_BEGIN : ∃ t, mg "BEGIN" = some (.int (0) t)
 e_ROW : ∃ t, mg "ROW" = some (.int (1) t)
 e_UNPICK : ∃ t, mg "UNPICK" = some (.int (2) t)
 e_NOW : ∃ t, mg "NOW" = some (.int (3) t)
 e_TIED : ∃ t, mg "TIED" = some (.int (4) t)
 e_WRONG : ∃ t, mg "WRONG" = some (.int (5) t)
 e_WOOL : ∃ t, mg "WOOL" = some (.int (6) t)
 e_SAID : ∃ t, mg "SAID" = some (.int (7) t)
 g_all : mg "all" = none
 g_enumerate : mg "enumerate" = none
 g_len : mg "len" = none
 g_list : mg "list" = none
 g_min : mg "min" = none
 g_ord : mg "ord" = none
 g_range : mg "range" = none
 g_sum : mg "sum" = none
 g_zip : mg "zip" = none
theorem Txt.c_SIGNS {K : W.Frag} {mg : Str → Option Value} {A : Ad} {D : Fds} (T : Txt K mg A D) : mg "SIGNS" = some (.str "abcdefghijklmnopqrstuvwxyzABCDEFGHIJKLMNOPQRSTUVWXYZ0123456789" (Classical.choose T.e_SIGNS)) := Classical.choose_spec T.e_SIGNS
theorem Txt.c_WIDEST {K : W.Frag} {mg : Str → Option Value} {A : Ad} {D : Fds} (T : Txt K mg A D) : mg "WIDEST" = some (.int (512) (Classical.choose T.e_WIDEST)) := Classical.choose_spec T.e_WIDEST
theorem Txt.c_HIGHEST {K : W.Frag} {mg : Str → Option Value} {A : Ad} {D : Fds} (T : Txt K mg A D) : mg "HIGHEST" = some (.int (512) (Classical.choose T.e_HIGHEST)) := Classical.choose_spec T.e_HIGHEST
theorem Txt.c_MOST_KNOTS {K : W.Frag} {mg : Str → Option Value} {A : Ad} {D : Fds} (T : Txt K mg A D) : mg "MOST_KNOTS" = some (.int (65536) (Classical.choose T.e_MOST_KNOTS)) := Classical.choose_spec T.e_MOST_KNOTS
theorem Txt.c_ROW_END {K : W.Frag} {mg : Str → Option Value} {A : Ad} {D : Fds} (T : Txt K mg A D) : mg "ROW_END" = some (.int (10) (Classical.choose T.e_ROW_END)) := Classical.choose_spec T.e_ROW_END
theorem Txt.c_OUT_OF_RANGE {K : W.Frag} {mg : Str → Option Value} {A : Ad} {D : Fds} (T : Txt K mg A D) : mg "OUT_OF_RANGE" = some (.int (-1) (Classical.choose T.e_OUT_OF_RANGE)) := Classical.choose_spec T.e_OUT_OF_RANGE
theorem Txt.c_TOO_LONG {K : W.Frag} {mg : Str → Option Value} {A : Ad} {D : Fds} (T : Txt K mg A D) : mg "TOO_LONG" = some (.int (-2) (Classical.choose T.e_TOO_LONG)) := Classical.choose_spec T.e_TOO_LONG
theorem Txt.c_NO_SUCH_THING {K : W.Frag} {mg : Str → Option Value} {A : Ad} {D : Fds} (T : Txt K mg A D) : mg "NO_SUCH_THING" = some (.int (-4) (Classical.choose T.e_NO_SUCH_THING)) := Classical.choose_spec T.e_NO_SUCH_THING
theorem Txt.c_NO_ROW {K : W.Frag} {mg : Str → Option Value} {A : Ad} {D : Fds} (T : Txt K mg A D) : mg "NO_ROW" = some (.int (-5) (Classical.choose T.e_NO_ROW)) := Classical.choose_spec T.e_NO_ROW
theorem Txt.c_NO_CHART {K : W.Frag} {mg : Str → Option Value} {A : Ad} {D : Fds} (T : Txt K mg A D) : mg "NO_CHART" = some (.int (-6) (Classical.choose T.e_NO_CHART)) := Classical.choose_spec T.e_NO_CHART
theorem Txt.c_ROW_IS_LEFT {K : W.Frag} {mg : Str → Option Value} {A : Ad} {D : Fds} (T : Txt K mg A D) : mg "ROW_IS_LEFT" = some (.int (-12) (Classical.choose T.e_ROW_IS_LEFT)) := Classical.choose_spec T.e_ROW_IS_LEFT
theorem Txt.c_NOT_BEGUN {K : W.Frag} {mg : Str → Option Value} {A : Ad} {D : Fds} (T : Txt K mg A D) : mg "NOT_BEGUN" = some (.int (-13) (Classical.choose T.e_NOT_BEGUN)) := Classical.choose_spec T.e_NOT_BEGUN
theorem Txt.c_MOST_BYTES {K : W.Frag} {mg : Str → Option Value} {A : Ad} {D : Fds} (T : Txt K mg A D) : mg "MOST_BYTES" = some (.int (66048) (Classical.choose T.e_MOST_BYTES)) := Classical.choose_spec T.e_MOST_BYTES
theorem Txt.c_MOST_KNOTTERS {K : W.Frag} {mg : Str → Option Value} {A : Ad} {D : Fds} (T : Txt K mg A D) : mg "MOST_KNOTTERS" = some (.int (8) (Classical.choose T.e_MOST_KNOTTERS)) := Classical.choose_spec T.e_MOST_KNOTTERS
theorem Txt.c_WIDEST_SHARE {K : W.Frag} {mg : Str → Option Value} {A : Ad} {D : Fds} (T : Txt K mg A D) : mg "WIDEST_SHARE" = some (.int (128) (Classical.choose T.e_WIDEST_SHARE)) := Classical.choose_spec T.e_WIDEST_SHARE
theorem Txt.c_MOST_TRIES {K : W.Frag} {mg : Str → Option Value} {A : Ad} {D : Fds} (T : Txt K mg A D) : mg "MOST_TRIES" = some (.int (9) (Classical.choose T.e_MOST_TRIES)) := Classical.choose_spec T.e_MOST_TRIES
theorem Txt.c_ASKED_MODULO {K : W.Frag} {mg : Str → Option Value} {A : Ad} {D : Fds} (T : Txt K mg A D) : mg "ASKED_MODULO" = some (.int (4294967296) (Classical.choose T.e_ASKED_MODULO)) := Classical.choose_spec T.e_ASKED_MODULO
theorem Txt.c_BEGIN {K : W.Frag} {mg : Str → Option Value} {A : Ad} {D : Fds} (T : Txt K mg A D) : mg "BEGIN" = some (.int (0) (Classical.choose T.e_BEGIN)) := Classical.choose_spec T.e_BEGIN
theorem Txt.c_ROW {K : W.Frag} {mg : Str → Option Value} {A : Ad} {D : Fds} (T : Txt K mg A D) : mg "ROW" = some (.int (1) (Classical.choose T.e_ROW)) := Classical.choose_spec T.e_ROW
theorem Txt.c_UNPICK {K : W.Frag} {mg : Str → Option Value} {A : Ad} {D : Fds} (T : Txt K mg A D) : mg "UNPICK" = some (.int (2) (Classical.choose T.e_UNPICK)) := Classical.choose_spec T.e_UNPICK
theorem Txt.c_NOW {K : W.Frag} {mg : Str → Option Value} {A : Ad} {D : Fds} (T : Txt K mg A D) : mg "NOW" = some (.int (3) (Classical.choose T.e_NOW)) := Classical.choose_spec T.e_NOW
theorem Txt.c_TIED {K : W.Frag} {mg : Str → Option Value} {A : Ad} {D : Fds} (T : Txt K mg A D) : mg "TIED" = some (.int (4) (Classical.choose T.e_TIED)) := Classical.choose_spec T.e_TIED
theorem Txt.c_WRONG {K : W.Frag} {mg : Str → Option Value} {A : Ad} {D : Fds} (T : Txt K mg A D) : mg "WRONG" = some (.int (5) (Classical.choose T.e_WRONG)) := Classical.choose_spec T.e_WRONG
theorem Txt.c_WOOL {K : W.Frag} {mg : Str → Option Value} {A : Ad} {D : Fds} (T : Txt K mg A D) : mg "WOOL" = some (.int (6) (Classical.choose T.e_WOOL)) := Classical.choose_spec T.e_WOOL
theorem Txt.c_SAID {K : W.Frag} {mg : Str → Option Value} {A : Ad} {D : Fds} (T : Txt K mg A D) : mg "SAID" = some (.int (7) (Classical.choose T.e_SAID)) := Classical.choose_spec T.e_SAID
theorem sc_least_call : FnScope ["row", "times", "firsts", "known", "start", "first_items", "end", "piece", "call", "size"] ["row"] (defScope s_least_call) := ⟨rfl, rfl, rfl, by decide +kernel, rfl, by decide +kernel, by decide +kernel⟩
theorem sc_make_call : FnScope ["words", "text"] ["words", "text"] (defScope s_make_call) := ⟨rfl, rfl, rfl, by decide +kernel, rfl, by decide +kernel, by decide +kernel⟩
theorem sc_count_times : FnScope ["row", "alike", "times", "start", "size"] ["row"] (defScope s_count_times) := ⟨rfl, rfl, rfl, by decide +kernel, rfl, by decide +kernel, by decide +kernel⟩
theorem sc_find_firsts : FnScope ["times", "firsts", "start", "size"] ["times"] (defScope s_find_firsts) := ⟨rfl, rfl, rfl, by decide +kernel, rfl, by decide +kernel, by decide +kernel⟩
theorem sc_add_repeats : FnScope ["first_items", "start", "size", "times", "words", "repeated", "count", "item", "end"] ["first_items", "start", "size", "times", "words", "repeated"] (defScope s_add_repeats) := ⟨rfl, rfl, rfl, by decide +kernel, rfl, by decide +kernel, by decide +kernel⟩
theorem sc_choose_least : FnScope ["row", "end", "first_items", "known", "least", "stop", "item", "rest", "words", "call"] ["row", "end", "first_items", "known"] (defScope s_choose_least) := ⟨rfl, rfl, rfl, by decide +kernel, rfl, by decide +kernel, by decide +kernel⟩
theorem sc_is_colour : FnScope ["byte"] ["byte"] (defScope s_is_colour) := ⟨rfl, rfl, rfl, by decide +kernel, rfl, by decide +kernel, by decide +kernel⟩
theorem sc_are_colours : FnScope ["text", "byte"] ["text"] (defScope s_are_colours) := ⟨rfl, rfl, rfl, by decide +kernel, rfl, by decide +kernel, by decide +kernel⟩
theorem sc_colour_number : FnScope ["colour"] ["colour"] (defScope s_colour_number) := ⟨rfl, rfl, rfl, by decide +kernel, rfl, by decide +kernel, by decide +kernel⟩
theorem sc_count_colours : FnScope ["rows", "counts", "row", "colour"] ["rows"] (defScope s_count_colours) := ⟨rfl, rfl, rfl, by decide +kernel, rfl, by decide +kernel, by decide +kernel⟩
theorem sc_as_signs : FnScope ["colours", "colour"] ["colours"] (defScope s_as_signs) := ⟨rfl, rfl, rfl, by decide +kernel, rfl, by decide +kernel, by decide +kernel⟩
theorem sc_read_chart : FnScope ["text", "rows", "row"] ["text"] (defScope s_read_chart) := ⟨rfl, rfl, rfl, by decide +kernel, rfl, by decide +kernel, by decide +kernel⟩
theorem sc_split_rows : FnScope ["text", "rows", "row", "byte"] ["text"] (defScope s_split_rows) := ⟨rfl, rfl, rfl, by decide +kernel, rfl, by decide +kernel, by decide +kernel⟩
theorem sc_write_rows : FnScope ["rows", "text", "row"] ["rows"] (defScope s_write_rows) := ⟨rfl, rfl, rfl, by decide +kernel, rfl, by decide +kernel, by decide +kernel⟩
theorem sc_is_size : FnScope ["width", "height"] ["width", "height"] (defScope s_is_size) := ⟨rfl, rfl, rfl, by decide +kernel, rfl, by decide +kernel, by decide +kernel⟩
theorem sc_Tyings_init : FnScope ["self", "told"] ["self", "told"] (defScope s_Tyings_init) := ⟨rfl, rfl, rfl, by decide +kernel, rfl, by decide +kernel, by decide +kernel⟩
theorem sc_Tyings_ask : FnScope ["self", "size", "tying"] ["self", "size"] (defScope s_Tyings_ask) := ⟨rfl, rfl, rfl, by decide +kernel, rfl, by decide +kernel, by decide +kernel⟩
theorem sc_tie_part : FnScope ["part", "tries", "tyings", "tying", "been"] ["part", "tries", "tyings"] (defScope s_tie_part) := ⟨rfl, rfl, rfl, by decide +kernel, rfl, by decide +kernel, by decide +kernel⟩
theorem sc_tie_row : FnScope ["row", "shares", "tries", "tyings", "knots", "share", "start", "tying"] ["row", "shares", "tries", "tyings"] (defScope s_tie_row) := ⟨rfl, rfl, rfl, by decide +kernel, rfl, by decide +kernel, by decide +kernel⟩
theorem sc_wrong_columns : FnScope ["knots", "row", "x", "knot"] ["knots", "row"] (defScope s_wrong_columns) := ⟨rfl, rfl, rfl, by decide +kernel, rfl, by decide +kernel, by decide +kernel⟩
theorem sc_count_wrong : FnScope ["done", "chart", "knots", "row"] ["done", "chart"] (defScope s_count_wrong) := ⟨rfl, rfl, rfl, by decide +kernel, rfl, by decide +kernel, by decide +kernel⟩
theorem sc_find_wrong : FnScope ["done", "chart", "k", "before", "y", "knots", "columns"] ["done", "chart", "k"] (defScope s_find_wrong) := ⟨rfl, rfl, rfl, by decide +kernel, rfl, by decide +kernel, by decide +kernel⟩
theorem sc_are_shares : FnScope ["shares", "width", "share"] ["shares", "width"] (defScope s_are_shares) := ⟨rfl, rfl, rfl, by decide +kernel, rfl, by decide +kernel, by decide +kernel⟩
theorem sc_Loom_init : FnScope ["self"] ["self"] (defScope s_Loom_init) := ⟨rfl, rfl, rfl, by decide +kernel, rfl, by decide +kernel, by decide +kernel⟩
theorem sc_Loom_begin : FnScope ["self", "text", "shares", "chart"] ["self", "text", "shares"] (defScope s_Loom_begin) := ⟨rfl, rfl, rfl, by decide +kernel, rfl, by decide +kernel, by decide +kernel⟩
theorem sc_Loom_row : FnScope ["self", "tries", "told", "wanted", "tyings", "knots"] ["self", "tries", "told"] (defScope s_Loom_row) := ⟨rfl, rfl, rfl, by decide +kernel, rfl, by decide +kernel, by decide +kernel⟩
theorem sc_Loom_unpick : FnScope ["self", "k"] ["self", "k"] (defScope s_Loom_unpick) := ⟨rfl, rfl, rfl, by decide +kernel, rfl, by decide +kernel, by decide +kernel⟩
theorem sc_Loom_now : FnScope ["self", "sizes"] ["self"] (defScope s_Loom_now) := ⟨rfl, rfl, rfl, by decide +kernel, rfl, by decide +kernel, by decide +kernel⟩
theorem sc_Loom_tied : FnScope ["self", "text"] ["self"] (defScope s_Loom_tied) := ⟨rfl, rfl, rfl, by decide +kernel, rfl, by decide +kernel, by decide +kernel⟩
theorem sc_Loom_wrong : FnScope ["self", "k", "place", "x", "y"] ["self", "k"] (defScope s_Loom_wrong) := ⟨rfl, rfl, rfl, by decide +kernel, rfl, by decide +kernel, by decide +kernel⟩
theorem sc_Loom_wool : FnScope ["self"] ["self"] (defScope s_Loom_wool) := ⟨rfl, rfl, rfl, by decide +kernel, rfl, by decide +kernel, by decide +kernel⟩
theorem sc_Loom_said : FnScope ["self", "j", "start", "part", "call", "sign"] ["self", "j"] (defScope s_Loom_said) := ⟨rfl, rfl, rfl, by decide +kernel, rfl, by decide +kernel, by decide +kernel⟩
theorem sc_CallReader_init : FnScope ["self", "calls"] ["self", "calls"] (defScope s_CallReader_init) := ⟨rfl, rfl, rfl, by decide +kernel, rfl, by decide +kernel, by decide +kernel⟩
theorem sc_CallReader_has_more : FnScope ["self"] ["self"] (defScope s_CallReader_has_more) := ⟨rfl, rfl, rfl, by decide +kernel, rfl, by decide +kernel, by decide +kernel⟩
theorem sc_CallReader_take_number : FnScope ["self", "number"] ["self"] (defScope s_CallReader_take_number) := ⟨rfl, rfl, rfl, by decide +kernel, rfl, by decide +kernel, by decide +kernel⟩
theorem sc_CallReader_take_numbers : FnScope ["self", "size", "start"] ["self"] (defScope s_CallReader_take_numbers) := ⟨rfl, rfl, rfl, by decide +kernel, rfl, by decide +kernel, by decide +kernel⟩
theorem sc_answer_next : FnScope ["loom", "reader", "call", "text", "shares", "tries", "told"] ["loom", "reader"] (defScope s_answer_next) := ⟨rfl, rfl, rfl, by decide +kernel, rfl, by decide +kernel, by decide +kernel⟩
theorem sc_answers : FnScope ["calls", "loom", "reader", "given", "answer"] ["calls"] (defScope s_answers) := ⟨rfl, rfl, rfl, by decide +kernel, rfl, by decide +kernel, by decide +kernel⟩
end Kn
set_option Elab.async false
set_option linter.all false
set_option maxRecDepth 100000
set_option maxHeartbeats 2000000
namespace Km
open PySem PySem.Spec PyProof.Rows L2
open Rg (byteOf decimal bytesBefore)
def sB (b : List UInt8) : Str := ⟨(b.map UInt8.toNat).toArray⟩
theorem sB_len (b : List UInt8) : (sB b).length = b.length := by
 show ((b.map UInt8.toNat).toArray).size = _
 rw [List.size_toArray, List.length_map]
theorem str_eq {x y : Str} (h : x.cps.toList = y.cps.toList) : x = y := by
 obtain ⟨a⟩ := x
 obtain ⟨b⟩ := y
 have h : a.toList = b.toList := h
 rw [Array.toList_inj.mp h]
theorem cps_append (x y : Str) : (x ++ y).cps.toList = x.cps.toList ++ y.cps.toList := by
 show (x.cps ++ y.cps).toList = _
 rw [Array.toList_append]
theorem sB_cps (b : List UInt8) : (sB b).cps.toList = b.map UInt8.toNat := rfl
theorem sB_append (a b : List UInt8) : sB (a ++ b) = sB a ++ sB b := by
 refine str_eq ?_
 rw [cps_append, sB_cps, sB_cps, sB_cps, List.map_append]
theorem sB_inj {a b : List UInt8} (h : sB a = sB b) : a = b := by
 have h : (sB a).cps.toList = (sB b).cps.toList := by rw [h]
 rw [sB_cps, sB_cps] at h
 refine List.map_inj_right (fun x y e => ?_) |>.mp h
 exact UInt8.toNat_inj.mp e
theorem sB_lt : ∀ a b : List UInt8, decide (a.map UInt8.toNat < b.map UInt8.toNat) = bytesBefore a b
 | [], [] => by simp [bytesBefore]
 | [], _ :: _ => by simp [bytesBefore]
 | _ :: _, [] => by simp [bytesBefore]
 | x :: a, y :: b => by
   have ih := sB_lt a b
   rw [List.map_cons, List.map_cons, bytesBefore, ← ih]
   have e1 : decide (x.toNat < y.toNat) = decide (x < y) := decide_eq_decide.mpr UInt8.lt_iff_toNat_lt.symm
   have e2 : (x == y) = decide (x.toNat = y.toNat) := by
     rw [Bool.eq_iff_iff, beq_iff_eq, decide_eq_true_eq]
     exact UInt8.toNat_inj.symm
   rw [e2, ← e1]
   have e3 : (x.toNat :: a.map UInt8.toNat < y.toNat :: b.map UInt8.toNat) ↔ (x.toNat < y.toNat ∨ x.toNat = y.toNat ∧ a.map UInt8.toNat < b.map UInt8.toNat) := List.cons_lt_cons_iff
   rw [Bool.eq_iff_iff, Bool.or_eq_true, Bool.and_eq_true, decide_eq_true_eq, decide_eq_true_eq, decide_eq_true_eq, decide_eq_true_eq]
   exact e3
theorem sB_dec_all : ∀ n : Fin 200, sB (decimal n.val) = (toString ((n.val : Nat) : Int) : Str) := by decide +kernel
theorem sB_dec {n : Nat} (h : n < 200) : sB (decimal n) = (toString (n : Int) : Str) := sB_dec_all ⟨n, h⟩
theorem empty_app (x : Str) : Str.empty ++ x = x := by
 refine str_eq ?_
 rw [cps_append]
 rfl
def sC (u : List Nat) : Str := sB (u.map byteOf)
theorem sC_len (u : List Nat) : (sC u).length = u.length := by
 unfold sC
 rw [sB_len, List.length_map]
theorem map_byteOf_inj : ∀ {u v : List Nat}, (∀ k ∈ u, k < 62) → (∀ k ∈ v, k < 62) → u.map byteOf = v.map byteOf → u = v
 | [], [], _, _, _ => rfl
 | [], _ :: _, _, _, e => by cases e
 | _ :: _, [], _, _, e => by cases e
 | a :: u, b :: v, hu, hv, e => by
   obtain ⟨e1, e2⟩ := List.cons.inj e
   have h1 := Lm.colour_back (hu a List.mem_cons_self)
   rw [e1, Lm.colour_back (hv b List.mem_cons_self)] at h1
   have h1 := Option.some.inj h1
   rw [h1, map_byteOf_inj (fun k hk => hu k (List.mem_cons_of_mem _ hk)) (fun k hk => hv k (List.mem_cons_of_mem _ hk)) e2]
theorem sC_inj {u v : List Nat} (hu : ∀ k ∈ u, k < 62) (hv : ∀ k ∈ v, k < 62) (e : sC u = sC v) : u = v := map_byteOf_inj hu hv (sB_inj e)
theorem sC_cut (u : List Nat) {i j : Nat} (h1 : i ≤ j) (h2 : j ≤ u.length) : cutS (sC u) (some (i : Int)) (some (j : Int)) = sC (Lm.str u i (j - i)) := by
 refine str_eq ?_
 unfold cutS
 rw [HT.sIx_nat, HT.sIx_nat, sC_len, Nat.min_eq_left (show i ≤ u.length by omega), Nat.min_eq_left h2]
 show (((sC u).cps.toList.drop i).take (j - i)) = _
 unfold sC Lm.str
 rw [sB_cps, sB_cps, List.map_take, List.map_take, List.map_drop, List.map_drop]
theorem atN {α : Type} {xs : List α} {k : Nat} {c : α} (h : xs[k]? = some c) : atI xs (k : Int) = some c := by
 have hk := lt_of_get h
 unfold atI ixN
 rw [if_pos (by omega), if_pos (by omega), Int.toNat_natCast]
 exact h
theorem sC_at {u : List Nat} {k c : Nat} (h : u[k]? = some c) : atI (sC u).cps.toList (k : Int) = some (byteOf c).toNat := by
 refine atN ?_
 unfold sC
 rw [sB_cps, List.getElem?_map, List.getElem?_map, h]
 rfl
abbrev byteStr (c : Nat) : Str := ⟨#[(byteOf c).toNat]⟩
theorem byteStr_inj {a b : Nat} (ha : a < 62) (hb : b < 62) (e : byteStr a = byteStr b) : a = b := by
 have e : sB [byteOf a] = sB [byteOf b] := e
 have e := (List.cons.inj (sB_inj e)).1
 have h := Lm.colour_back ha
 rw [e, Lm.colour_back hb] at h
 exact (Option.some.inj h).symm
def triK (κ : Lm.Key) : Tri := ((κ.1 : Int), (κ.2.1 : Int), sB κ.2.2)
theorem ltT_key (a b : Lm.Key) : ltT (triK a) (triK b) = Lm.ltK a b := by
 obtain ⟨a1, a2, a3⟩ := a
 obtain ⟨b1, b2, b3⟩ := b
 show (if (a1 : Int) = (b1 : Int) then (if (a2 : Int) = (b2 : Int) then decide ((sB a3).cps.toList < (sB b3).cps.toList) else decide ((a2 : Int) < (b2 : Int))) else decide ((a1 : Int) < (b1 : Int))) = (decide (a1 < b1) || (a1 == b1 && (decide (a2 < b2) || (a2 == b2 && bytesBefore a3 b3))))
 have z : decide ((sB a3).cps.toList < (sB b3).cps.toList) = bytesBefore a3 b3 := sB_lt a3 b3
 rw [z]
 by_cases h1 : a1 = b1
 · subst h1
   rw [if_pos rfl, beq_self_eq_true, Bool.true_and, decide_eq_false (Nat.lt_irrefl _), Bool.false_or]
   by_cases h2 : a2 = b2
   · subst h2
     rw [if_pos rfl, beq_self_eq_true, Bool.true_and, decide_eq_false (Nat.lt_irrefl _), Bool.false_or]
   · rw [if_neg (by omega), beq_eq_false_iff_ne.mpr h2, Bool.false_and, Bool.or_false]
     exact decide_eq_decide.mpr (by omega)
 · rw [if_neg (by omega), beq_eq_false_iff_ne.mpr h1, Bool.false_and, Bool.or_false]
   exact decide_eq_decide.mpr (by omega)
theorem triK_inj {a b : Lm.Key} (h : triK a = triK b) : a = b := by
 obtain ⟨a1, a2, a3⟩ := a
 obtain ⟨b1, b2, b3⟩ := b
 have h1 : (a1 : Int) = (b1 : Int) := congrArg (fun x => x.1) h
 have h2 : (a2 : Int) = (b2 : Int) := congrArg (fun x => x.2.1) h
 have h3 : sB a3 = sB b3 := congrArg (fun x => x.2.2) h
 rw [sB_inj h3, show a1 = b1 by omega, show a2 = b2 by omega]
abbrev keyV (κ : Lm.Key) : List V := triV (triK κ)
structure DI (H : Hp) (kvs : List (L2.Key × V)) (f : Nat → Option Lm.Key) : Prop where
 non : ∀ e : Nat, f e = none → valV kvs (.inl (e : Int)) = none
 som : ∀ (e : Nat) (κ : Lm.Key), f e = some κ → ∃ q, valV kvs (.inl (e : Int)) = some (.ref q) ∧ H q = some (.tup (keyV κ))
 keys : ∀ k v, valV kvs k = some v → ∃ e : Nat, k = .inl (e : Int)
def Tups (H H' : Hp) : Prop := ∀ q xs, H q = some (.tup xs) → H' q = some (.tup xs)
theorem Tups.of_same {H H' : Hp} (s : Same H H') : Tups H H' := fun q xs e => s q _ e
theorem Tups.of_but {d : Addr} {o : HO} {H H' : Hp} (b : But [d] H H') (h : H d = some o) (n : ∀ xs, o ≠ .tup xs) : Tups H H' := fun q xs e => b q _ e fun z => by
 rw [List.mem_singleton.mp z, h] at e
 exact n xs (Option.some.inj e)
theorem Tups.upd {H H1 : Hp} {d : Addr} {o u : HO} (t : Tups H H1) (h : H d = some o) (n : ∀ xs, o ≠ .tup xs) : Tups H (upd H1 d u) := fun q xs e => by
 rw [upd_ne (fun z => by rw [z, h] at e; exact n xs (Option.some.inj e))]
 exact t q xs e
theorem DI.mono {H H' : Hp} {kvs : List (L2.Key × V)} {f : Nat → Option Lm.Key} (h : DI H kvs f) (t : Tups H H') : DI H' kvs f :=
 ⟨h.non, fun e κ z => let ⟨q, a, b⟩ := h.som e κ z; ⟨q, a, t _ _ b⟩, h.keys⟩
theorem DI.put {H : Hp} {kvs : List (L2.Key × V)} {f : Nat → Option Lm.Key} (h : DI H kvs f) {e : Nat} {q : Addr} {κ : Lm.Key} (hq : H q = some (.tup (keyV κ))) : DI H (putK kvs (.inl (e : Int)) (.ref q)) (Lm.putO f e κ) := by
 have hk : ∀ x : Nat, ((Sum.inl (x : Int) : L2.Key) = Sum.inl (e : Int)) ↔ x = e := fun x => ⟨fun z => by have := Sum.inl.inj z; omega, fun z => by rw [z]⟩
 refine ⟨fun x z => ?_, fun x κ' z => ?_, fun k v z => ?_⟩
 · unfold Lm.putO at z
   by_cases hx : x = e
   · rw [if_pos hx] at z
     cases z
   · rw [if_neg hx] at z
     rw [valV_put, if_neg (fun y => hx ((hk x).mp y))]
     exact h.non x z
 · unfold Lm.putO at z
   by_cases hx : x = e
   · rw [if_pos hx] at z
     cases z
     exact ⟨q, by rw [valV_put, if_pos ((hk x).mpr hx)], hq⟩
   · rw [if_neg hx] at z
     obtain ⟨q', a, b⟩ := h.som x κ' z
     exact ⟨q', by rw [valV_put, if_neg (fun y => hx ((hk x).mp y))]; exact a, b⟩
 · rw [valV_put] at z
   by_cases hk2 : k = .inl (e : Int)
   · exact ⟨e, hk2⟩
   · rw [if_neg hk2] at z
     exact h.keys k v z
def Kd (H : Hp) (kks : List (L2.Key × V)) : Prop := ∀ k v, valV kks k = some v → ∃ u q, k = .inr (sC u) ∧ u ≠ [] ∧ (∀ c ∈ u, c < 62) ∧ v = .ref q ∧ H q = some (.tup (keyV (Lm.lk u)))
theorem Kd.mono {H H' : Hp} {kks : List (L2.Key × V)} (h : Kd H kks) (t : Tups H H') : Kd H' kks := fun k v z =>
 let ⟨u, q, a, b, c, d, e⟩ := h k v z
 ⟨u, q, a, b, c, d, t _ _ e⟩
theorem Kd.get {H : Hp} {kks : List (L2.Key × V)} (h : Kd H kks) {u : List Nat} (hu : ∀ c ∈ u, c < 62) (hs : (valV kks (.inr (sC u))).isSome = true) : ∃ q, valV kks (.inr (sC u)) = some (.ref q) ∧ H q = some (.tup (keyV (Lm.lk u))) := by
 obtain ⟨v, hv⟩ := Option.isSome_iff_exists.mp hs
 obtain ⟨u', q, a, _, c, d, e⟩ := h _ _ hv
 have ea : u = u' := sC_inj hu c (Sum.inr.inj a)
 subst ea
 exact ⟨q, by rw [hv, d], e⟩
theorem Kd.put {H : Hp} {kks : List (L2.Key × V)} (h : Kd H kks) {u : List Nat} {q : Addr} (hne : u ≠ []) (hu : ∀ c ∈ u, c < 62) (hq : H q = some (.tup (keyV (Lm.lk u)))) : Kd H (putK kks (.inr (sC u)) (.ref q)) := fun k v z => by
 rw [valV_put] at z
 by_cases hk : k = .inr (sC u)
 · rw [if_pos hk] at z
   exact ⟨u, q, hk, hne, hu, (Option.some.inj z).symm, hq⟩
 · rw [if_neg hk] at z
   exact h k v z
theorem put_some {kks : List (L2.Key × V)} {k j : L2.Key} {v : V} (h : (valV kks j).isSome = true) : (valV (putK kks k v) j).isSome = true := by
 rw [valV_put]
 split
 · rfl
 · exact h
theorem str_mem {row : List Nat} {i n : Nat} (h : ∀ c ∈ row, c < 62) : ∀ c ∈ Lm.str row i n, c < 62 := fun c hc => h c (List.mem_of_mem_drop (List.mem_of_mem_take hc))
theorem lit_star : ("*" : Str) = sB [42] := by decide +kernel
theorem lit_blank : (" " : Str) = sB [32] := by decide +kernel
theorem lit_open : ("(" : Str) = sB [40] := by decide +kernel
theorem lit_close : (")" : Str) = sB [41] := by decide +kernel
theorem f3_eq {c : Nat} (h : c < 200) (r : List UInt8) : ((Str.empty ++ (toString (c : Int) : Str)) ++ ("*" : Str)) ++ sB r = sB (decimal c ++ (42 :: r)) := by
 rw [empty_app, ← sB_dec h, lit_star, ← sB_append, ← sB_append]
 congr 1
 simp
theorem log_small {n : Nat} (h : n < 1000) : ((n : Int)).natAbs.log2 < 1920 := by
 rw [Int.natAbs_natCast]
 have : n.log2 ≤ n := Nat.log2_le_self n
 omega
end Km
namespace Km
open PySem PySem.Spec PyProof.Rows L2
theorem Rws.reverse {H : Hp} {as : List Addr} {rs : List (List Int)} (h : Rws H as rs) : Rws H as.reverse rs.reverse := by
 induction h with
 | nil => exact .nil
 | cons q _ ih =>
   rw [List.reverse_cons, List.reverse_cons]
   exact ih.snoc q
theorem mapAt {α β : Type} {f : α → β} {l : List α} {i : Nat} {x : α} (h : l[i]? = some x) : (l.map f)[i]? = some (f x) := by rw [List.getElem?_map, h]; rfl
theorem ix_nat {n k : Nat} (h : k < n) : ixN n (k : Int) = some k := by
 unfold ixN
 rw [if_pos (by omega), if_pos (by omega), Int.toNat_natCast]
theorem down_at {n i : Nat} (h : i < n) : ((n : Int) - 1) + ((i : Nat) : Int) * (-1) = ((n - 1 - i : Nat) : Int) := by omega
theorem rgc_down (n : Nat) (h : n ≤ 1000) : RgC ((n : Int) - 1) (-1) (-1) n := by
 have := RgC.neg (i := (n : Int) - 1) (j := -1) (by omega) (by omega) (by omega) (by omega)
 have e : ((n : Int) - 1 - -1).toNat = n := by omega
 rw [e] at this
 exact this
end Km
namespace Kn
open PySem PySem.Spec PyProof.Rows L2 Km
abbrev natV (k : Nat) : V := V.int (k : Int)
end Kn
set_option Elab.async false
set_option linter.all false
set_option maxRecDepth 100000
set_option maxHeartbeats 2000000
namespace Kn
open PySem PySem.Spec PyProof.Rows L2 Km
section
variable {P : Program} {w : World} {K : W.Frag} {mg : Str → Option Value} {base : Heap} {A : Ad} {D : Fds}
def sp_make_call : Sp := fun vs H Q _ => ∃ (n : Int) (t : Str), vs = [.int n, .str t] ∧ t.length ≤ sizeLine ∧ ∀ p, H p = none → Q (.ref p) (upd H p (.tup [.int n, .int t.length, .str t]))
theorem ok_make_call (T : Txt K mg A D) : FnOk P w K mg base CX0 1 A.a_make_call D.d_make_call ["words", "text"] sp_make_call := by
 refine T.f_make_call.ok sc_make_call (fun vs H Q E h => ?_) (fun cdv Ar outer s H vs Q E hr h => ?_)
 · obtain ⟨n, t, rfl, _⟩ := h
   rfl
 · obtain ⟨n, t, rfl, hz, k⟩ := h
   refine ⟨_, (pss_one (ps_ret (pe_tup (pa_cons (pv 0) (pa_cons (pe_callB call_len_str rfl T.g_len PySem.boot_len (pa_cons (pv 1) pa_nil)) (pa_cons (pv 1) pa_nil)))))), ?_⟩
   exact ⟨_, rfl, _, rfl, t, rfl, hz, _, rfl, few' (by simp), k⟩
def sp_add_repeats : Sp := fun vs H Q _ => ∃ (d : Addr) (kvs : List (L2.Key × V)) (f : Nat → Option Lm.Key) (s p t n : Nat) (r : List UInt8) (g : Nat → Lm.Key), vs = [.ref d, .int s, .int p, .int t, .int n, .str (sB r)] ∧ H d = some (.dK kvs) ∧ DI H kvs f ∧
 kvs.length + t ≤ 1000000 ∧ r.length ≤ 100000 ∧ t < 200 ∧ (∀ c, 2 ≤ c → c ≤ t → g c = (n, (Rg.decimal c ++ (42 :: r)).length, Rg.decimal c ++ (42 :: r))) ∧
 ∀ H' kvs' f', H' d = some (.dK kvs') → DI H' kvs' f' → Lm.Added f f' s p g t → kvs'.length ≤ kvs.length + t → But [d] H H' → Q .non H'
theorem ok_add_repeats (T : Txt K mg A D) : FnOk P w K mg base CX0 2 A.a_add_repeats D.d_add_repeats ["first_items", "start", "size", "times", "words", "repeated"] sp_add_repeats := by
 refine T.f_add_repeats.ok sc_add_repeats (fun vs H Q E h => ?_) (fun cdv Ar outer s H vs Q E hr h => ?_)
 · obtain ⟨d, kvs, f, s, p, t, n, r, g, rfl, _⟩ := h
   rfl
 · obtain ⟨d, kvs, f, s, p, t, n, r, g, rfl, hd, hD, hz, hrl, ht, hg, k⟩ := h
   refine ⟨_, (pss_one (ps_for PassesOwn.never rfl (pi_range2 rfl T.g_range (pa_cons pe_int (pa_cons (pe_op op_add (pv 3) pe_int) pa_nil))) (pg_name (i := 6) sc_add_repeats.nd rfl (Or.inl rfl))
       (pss_cons (ps_set (i := 7) sc_add_repeats.nd rfl (Or.inl rfl) (pe_call (ok_make_call T) hr rfl T.m_make_call T.k_make_call T.b_make_call .nil pass0 (pa_cons (pv 4) (pa_cons (pe_f3 (pv 6) (pv 5)) pa_nil))))
     (pss_cons (ps_set (i := 8) sc_add_repeats.nd rfl (Or.inl rfl) (pe_op op_add (pv 1) (pe_op op_mul (pv 6) (pv 2))))
     (pss_one (ps_dput (hu_of hr) (pv 0) (pv 8) (pe_callB (cr_minT rfl hr.units) rfl T.g_min boot_min (pa_cons (pv 7) (pa_cons (pe_dget2 (hu_of hr) (pv 0) (pv 8) (pv 7) ⟨rfl, rfl, rfl, rfl⟩) pa_nil))) rfl)))))), ?_⟩
   have hn : (((t : Int) + 1) - 2).toNat = t - 1 := by omega
   refine ⟨_, rfl, _, _, rfl, rfl, 2, (t : Int) + 1, rfl, ⟨by decide, by decide, by omega, by omega⟩, ?_⟩
   rw [hn]
   refine for_range (lo := 2) (n := t - 1) (fun i σ H' => ∃ (v6 v7 v8 : Option V) (kvs' : List (L2.Key × V)) (f' : Nat → Option Lm.Key), σ = [some (.ref d), some (.int s), some (.int p), some (.int t), some (.int n), some (.str (sB r)), v6, v7, v8] ∧
     H' d = some (.dK kvs') ∧ DI H' kvs' f' ∧ Lm.Added f f' s p g (i + 1) ∧ kvs'.length ≤ kvs.length + i ∧ But [d] H H') ⟨none, none, none, kvs, f, rfl, hd, hD, Lm.Added.none (by omega), Nat.le_refl _, But.refl _ _⟩ ?_ ?_
   · rintro i σ H1 hi ⟨v6, v7, v8, kvs1, f1, rfl, hd1, hD1, hA, hl1, b1⟩
     have hc : (2 : Int) + (i : Int) = ((i + 2 : Nat) : Int) := by omega
     have hlt : i + 2 < 200 := by omega
     have hdl := Lm.decimal_le (n := i + 2) (by omega)
     have e3 := f3_eq (c := i + 2) hlt r
     have hll : (sB (Rg.decimal (i + 2) ++ (42 :: r))).length ≤ sizeLine := by
       rw [sB_len]
       refine few' ?_
       simp only [List.length_append, List.length_cons]
       omega
     refine ⟨_, rfl, _, rfl, _, rfl, log_small (n := i + 2) (by omega) |> (fun z => by rw [← hc] at z; exact z), ?_⟩
     rw [hc]
     refine ⟨?_, _, rfl, sB r, rfl, few' (by rw [sB_len]; omega), ?_⟩
     · have := hll
       rw [← e3] at this
       exact len_left this
     rw [e3]
     refine ⟨hll, n, _, rfl, hll, fun q hq => ?_⟩
     have hgk : g (i + 2) = (n, (Rg.decimal (i + 2) ++ (42 :: r)).length, Rg.decimal (i + 2) ++ (42 :: r)) := hg (i + 2) (by omega) (by omega)
     have hqt : upd H1 q (.tup [.int n, .int (((sB (Rg.decimal (i + 2) ++ (42 :: r))).length : Nat) : Int), .str (sB (Rg.decimal (i + 2) ++ (42 :: r)))]) q = some (.tup (keyV (g (i + 2)))) := by
       rw [upd_same, sB_len, hgk]
       rfl
     have ndq : d ≠ q := ne_of_none hd1 hq
     have tq : Tups H1 (upd H1 q (.tup [.int n, .int (((sB (Rg.decimal (i + 2) ++ (42 :: r))).length : Nat) : Int), .str (sB (Rg.decimal (i + 2) ++ (42 :: r)))])) := Tups.of_same (same_new hq)
     have hd2 := upd_at (o := .tup [.int n, .int (((sB (Rg.decimal (i + 2) ++ (42 :: r))).length : Nat) : Int), .str (sB (Rg.decimal (i + 2) ++ (42 :: r)))]) hd1 ndq
     have hD2 := hD1.mono tq
     have b2 : But [d] H (upd H1 q (.tup [.int n, .int (((sB (Rg.decimal (i + 2) ++ (42 :: r))).length : Nat) : Int), .str (sB (Rg.decimal (i + 2) ++ (42 :: r)))])) := b1.upd (.inr (by
       cases hh : H q with
       | none => rfl
       | some o =>
         rw [b1 q o hh (fun z => ndq (List.mem_singleton.mp z).symm)] at hq
         cases hq))
     generalize upd H1 q (.tup [.int n, .int (((sB (Rg.decimal (i + 2) ++ (42 :: r))).length : Nat) : Int), .str (sB (Rg.decimal (i + 2) ++ (42 :: r)))]) = H2 at hqt hd2 hD2 b2
     refine ⟨_, rfl, _, rfl, _, rfl, _, _, rfl, rfl, .inl ⟨by omega, by omega⟩, _, _, rfl, rfl, ?_⟩
     have he : (s : Int) + (((i + 2 : Nat) : Int)) * (p : Int) = ((s + (i + 2) * p : Nat) : Int) := by
       rw [Int.natCast_add s ((i + 2) * p), Int.natCast_mul (i + 2) p]
     dsimp only
     rw [he]
     refine ⟨_, rfl, _, rfl, d, rfl, .inl ⟨_, .inl hd2⟩, _, rfl, _, rfl, _, DGet.k (k := .inl ((s + (i + 2) * p : Nat) : Int)) hd2, ?_⟩
     have hstep := hA.step (by omega)
     have fin : ∀ (qm : Addr), H2 qm = some (.tup (keyV (Lm.minO (g (i + 2)) (f1 (s + (i + 2) * p))))) → ∃ (a : Addr) (H4 : Hp), V.ref d = .ref a ∧ DPut H2 a (.int ((s + (i + 2) * p : Nat) : Int)) (.ref qm) H4 ∧
         ∃ (v6 v7 v8 : Option V) (kvs' : List (L2.Key × V)) (f' : Nat → Option Lm.Key), [some (V.ref d), some (.int s), some (.int p), some (.int t), some (.int n), some (.str (sB r)), some (.int ((i + 2 : Nat) : Int)), some (.ref q), some (.int ((s + (i + 2) * p : Nat) : Int))] = [some (.ref d), some (.int s), some (.int p), some (.int t), some (.int n), some (.str (sB r)), v6, v7, v8] ∧
           H4 d = some (.dK kvs') ∧ DI H4 kvs' f' ∧ Lm.Added f f' s p g (i + 1 + 1) ∧ kvs'.length ≤ kvs.length + (i + 1) ∧ But [d] H H4 := fun qm hqm => by
       refine ⟨d, _, rfl, DPut.k (k := .inl ((s + (i + 2) * p : Nat) : Int)) hd2 (few (by omega)), _, _, _, _, _, rfl, upd_same, ?_, hstep, ?_, b2.upd (.inl List.mem_cons_self)⟩
       · exact (hD2.put (e := s + (i + 2) * p) hqm).mono (Tups.upd (fun _ _ z => z) hd2 (by intro xs z; cases z))
       · have := length_putK kvs1 (.inl ((s + (i + 2) * p : Nat) : Int)) (.ref qm)
         omega
     cases ho : f1 (s + (i + 2) * p) with
     | none =>
       rw [hD2.non _ ho]
       refine ⟨q, q, triK (g (i + 2)), triK (g (i + 2)), rfl, SqT.of hqt, SqT.of hqt, ?_⟩
       rw [ltT_key]
       have hm : Lm.minO (g (i + 2)) (f1 (s + (i + 2) * p)) = g (i + 2) := by rw [ho]; exact Lm.minK_self _
       have hv : (if Lm.ltK (g (i + 2)) (g (i + 2)) = true then V.ref q else V.ref q) = V.ref q := by split <;> rfl
       rw [hv]
       exact ⟨_, rfl, _, rfl, fin q (by rw [hm]; exact hqt)⟩
     | some κ =>
       obtain ⟨qo, hv1, hv2⟩ := hD2.som _ κ ho
       rw [hv1]
       refine ⟨q, qo, triK (g (i + 2)), triK κ, rfl, SqT.of hqt, SqT.of hv2, ?_⟩
       rw [ltT_key]
       have hm : Lm.minO (g (i + 2)) (f1 (s + (i + 2) * p)) = if Lm.ltK κ (g (i + 2)) = true then κ else g (i + 2) := by rw [ho]; rfl
       by_cases hlt : Lm.ltK κ (g (i + 2)) = true
       · rw [if_pos hlt] at hm ⊢
         exact ⟨_, rfl, _, rfl, fin qo (by rw [hm]; exact hv2)⟩
       · rw [if_neg hlt] at hm ⊢
         exact ⟨_, rfl, _, rfl, fin q (by rw [hm]; exact hqt)⟩
   · rintro σ H1 ⟨v6, v7, v8, kvs1, f1, rfl, hd1, hD1, hA, hl1, b1⟩
     refine k H1 kvs1 f1 hd1 hD1 ?_ (by omega) b1
     by_cases ht1 : t ≤ 1
     · have z : t - 1 = 0 := by omega
       rw [z] at hA
       refine ⟨hA.old, fun c h1 h2 => by omega, fun e κ h => ?_⟩
       rcases hA.src e κ h with y | ⟨c, y1, y2, _⟩
       · exact .inl y
       · omega
     · have z : t - 1 + 1 = t := by omega
       rw [z] at hA
       exact hA
end
end Kn
set_option Elab.async false
set_option linter.all false
set_option maxRecDepth 100000
set_option maxHeartbeats 2000000
namespace Kn
open PySem PySem.Spec PyProof.Rows L2 Km
section
variable {P : Program} {w : World} {K : W.Frag} {mg : Str → Option Value} {base : Heap} {A : Ad} {D : Fds}
theorem pick1 {κ : Lm.Key} : atI (keyV κ) (0 : Int) = some (V.int (κ.1 : Int)) := at_of (j := 0) rfl rfl
theorem pick3 {κ : Lm.Key} : atI (keyV κ) (2 : Int) = some (V.str (sB κ.2.2)) := at_of (j := 2) rfl rfl
structure SoFar (row : List Nat) (f : Nat → Option Lm.Key) (e : Nat) (ks : List (L2.Key × V)) (κ : Lm.Key) : Prop where
 own : f e = some κ ∨ ∃ t κ1, t < e ∧ f t = some κ1 ∧ κ = Lm.joinK κ1 (Lm.lk (Lm.str row t (e - t)))
 le1 : ∀ κ0, f e = some κ0 → Lm.le κ κ0
 le2 : ∀ (t : Nat) κ1 v, (Sum.inl (t : Int), v) ∈ ks → t < e → f t = some κ1 → Lm.le κ (Lm.joinK κ1 (Lm.lk (Lm.str row t (e - t))))
theorem snoc_key {ks : List (L2.Key × V)} {t t' : Nat} {v v' : V} (h : (Sum.inl (t' : Int), v') ∈ ks ++ [((Sum.inl (t : Int) : L2.Key), v)]) : (Sum.inl (t' : Int), v') ∈ ks ∨ t' = t := by
 rcases List.mem_append.mp h with z | z
 · exact .inl z
 · have z := List.mem_singleton.mp z
   have z : (Sum.inl (t' : Int) : L2.Key) = Sum.inl (t : Int) := congrArg Prod.fst z
   have z := Sum.inl.inj z
   exact .inr (by omega)
theorem SoFar.keep {row : List Nat} {f : Nat → Option Lm.Key} {e : Nat} {ks : List (L2.Key × V)} {κ : Lm.Key} (S : SoFar row f e ks κ) {t : Nat} {v : V} (h : ∀ κ1, t < e → f t = some κ1 → Lm.le κ (Lm.joinK κ1 (Lm.lk (Lm.str row t (e - t))))) : SoFar row f e (ks ++ [(.inl (t : Int), v)]) κ := by
 refine ⟨S.own, S.le1, fun t' κ1 v' hm hlt hf => ?_⟩
 rcases snoc_key hm with z | z
 · exact S.le2 t' κ1 v' z hlt hf
 · subst z
   exact h κ1 hlt hf
theorem SoFar.new {row : List Nat} {f : Nat → Option Lm.Key} {e : Nat} {ks : List (L2.Key × V)} {κ κ1 : Lm.Key} (S : SoFar row f e ks κ) {t : Nat} {v : V} (ht : t < e) (hf : f t = some κ1) (h : Lm.le (Lm.joinK κ1 (Lm.lk (Lm.str row t (e - t)))) κ) :
   SoFar row f e (ks ++ [(.inl (t : Int), v)]) (Lm.joinK κ1 (Lm.lk (Lm.str row t (e - t)))) := by
 refine ⟨.inr ⟨t, κ1, ht, hf, rfl⟩, fun κ0 z => Lm.le_trans h (S.le1 κ0 z), fun t' κ' v' hm hlt hf' => ?_⟩
 rcases snoc_key hm with z | z
 · exact Lm.le_trans h (S.le2 t' κ' v' z hlt hf')
 · subst z
   rw [hf] at hf'
   cases hf'
   exact Lm.le_refl _
theorem SoFar.first {row : List Nat} {f : Nat → Option Lm.Key} {e : Nat} {ks : List (L2.Key × V)} {κ1 : Lm.Key} (h0 : f e = none) (hno : ∀ (t : Nat) v, (Sum.inl (t : Int), v) ∈ ks → e ≤ t) {t : Nat} {v : V} (ht : t < e) (hf : f t = some κ1) :
   SoFar row f e (ks ++ [(.inl (t : Int), v)]) (Lm.joinK κ1 (Lm.lk (Lm.str row t (e - t)))) := by
 refine ⟨.inr ⟨t, κ1, ht, hf, rfl⟩, fun κ0 z => (by rw [h0] at z; cases z), fun t' κ' v' hm hlt hf' => ?_⟩
 rcases snoc_key hm with z | z
 · have := hno t' v' z
   omega
 · subst z
   rw [hf] at hf'
   cases hf'
   exact Lm.le_refl _
def Sofar (H : Hp) (row : List Nat) (f : Nat → Option Lm.Key) (e : Nat) (ks : List (L2.Key × V)) (v : V) : Prop :=
 (v = .non ∧ f e = none ∧ ∀ (t : Nat) v, (Sum.inl (t : Int), v) ∈ ks → e ≤ t) ∨ ∃ q κ, v = .ref q ∧ H q = some (.tup (keyV κ)) ∧ SoFar row f e ks κ
def sp_choose_least : Sp := fun vs H Q _ => ∃ (row : List Nat) (e : Nat) (d kn : Addr) (kvs kks : List (L2.Key × V)) (f : Nat → Option Lm.Key), vs = [.str (sC row), .int e, .ref d, .ref kn] ∧ row.length ≤ 128 ∧ e ≤ row.length ∧ (∀ c ∈ row, c < 62) ∧
 H d = some (.dK kvs) ∧ DI H kvs f ∧ (∀ t κ, f t = some κ → κ.2.1 ≤ 600 ∧ Lm.okK κ) ∧ H kn = some (.dK kks) ∧ Kd H kks ∧ d ≠ kn ∧ (∀ t κ, f t = some κ → t < e → (valV kks (.inr (sC (Lm.str row t (e - t))))).isSome = true) ∧
 (f e ≠ none ∨ ∃ t, t < e ∧ f t ≠ none) ∧ ∀ H' q κ, Same H H' → H' q = some (.tup (keyV κ)) → Lm.Chosen row f e κ → Q (.ref q) H'
theorem ok_choose_least (T : Txt K mg A D) : FnOk P w K mg base CX0 2 A.a_choose_least D.d_choose_least ["row", "end", "first_items", "known"] sp_choose_least := by
 refine T.f_choose_least.ok sc_choose_least (fun vs H Q E h => ?_) (fun cdv Ar outer s H vs Q E hr h => ?_)
 · obtain ⟨row, e, d, kn, kvs, kks, f, rfl, _⟩ := h
   rfl
 · obtain ⟨row, e, d, kn, kvs, kks, f, rfl, hl, he, hcol, hd, hD, hf, hk, hK, ndk, hpres, hsome, k⟩ := h
   refine ⟨_, (pss_cons (ps_set (i := 4) sc_choose_least.nd rfl (Or.inl rfl) (pe_dget1 (hu_of hr) (pv 2) (pv 1) ⟨rfl, rfl, rfl, rfl⟩))
     (pss_cons (ps_lock (ps_for PassesOwn.never rfl (pi_keys (pv 2)) (pg_name (i := 5) sc_choose_least.nd rfl (Or.inl rfl))
       (pss_one (ps_if (pt_cmpR op_lt (pv 5) (pv 1) (nomark _)) (pss_cons (ps_set (i := 6) sc_choose_least.nd rfl (Or.inl rfl) (pe_dget (hu_of hr) (pv 2) (pv 5) (fun _ _ => rfl)))
     (pss_cons (ps_set (i := 7) sc_choose_least.nd rfl (Or.inl rfl) (pe_dget (hu_of hr) (pv 3) (pe_slice sl_str (pv 0) (po_some (pv 5)) (po_some (pv 1))) (fun _ _ => rfl)))
     (pss_cons (ps_set (i := 8) sc_choose_least.nd rfl (Or.inl rfl) (pe_op op_add (pe_ix ix_tup (pv 6) pe_int (fun _ _ => rfl)) (pe_ix ix_tup (pv 7) pe_int (fun _ _ => rfl))))
     (pss_one (ps_if (PW.pt (pw_or (pt_cmpR op_isN (pv 4) pe_non (nomark _)) (pw_or1 (pt_cmpR op_le (pv 8) (pe_ix ix_tup (pv 4) pe_int (fun _ _ => rfl)) (nomark _))))) (pss_cons (ps_set (i := 9) sc_choose_least.nd rfl (Or.inl rfl) (pe_call (ok_make_call T) hr rfl T.m_make_call T.k_make_call T.b_make_call .nil pass0 (pa_cons (pv 8) (pa_cons (pe_op op_add_str (pe_op op_add_str (pe_ix ix_tup (pv 6) pe_int (fun _ _ => rfl)) pe_str) (pe_ix ix_tup (pv 7) pe_int (fun _ _ => rfl))) pa_nil))))
     (pss_one (ps_set (i := 4) sc_choose_least.nd rfl (Or.inl rfl) (pe_ifExp (pt_cmpR op_isN (pv 4) pe_non (nomark _)) (pv 9) (pe_callB (cr_minT rfl hr.units) rfl T.g_min boot_min (pa_cons (pv 4) (pa_cons (pv 9) pa_nil))))))) pss_nil))))) pss_nil))))
     (pss_one (ps_ret (pv 4))))), ?_⟩
   have hslen : (sC row).length ≤ sizeLine := few' (by rw [sC_len]; omega)
   refine ⟨_, rfl, d, rfl, .inl ⟨_, .inl hd⟩, _, rfl, _, DGet.k (k := .inl (e : Int)) hd, ?_⟩
   refine ⟨d, _, hd, True.intro, fun od => ?_⟩
   have hfz : (upd H d (.frz od (.dK kvs))) d = some (.frz od (.dK kvs)) := upd_same
   have tp0 : Tups H (upd H d (.frz od (.dK kvs))) := Tups.upd (fun _ _ z => z) hd (by intro xs z; cases z)
   have hk0 : (upd H d (.frz od (.dK kvs))) kn = some (.dK kks) := upd_at hk ndk.symm
   have init : Sofar (upd H d (.frz od (.dK kvs))) row f e [] ((valV kvs (.inl (e : Int))).getD .non) := by
     cases ho : f e with
     | none =>
       rw [hD.non _ ho]
       exact .inl ⟨rfl, ho, fun _ _ z => nomatch z⟩
     | some κ =>
       obtain ⟨q, h1, h2⟩ := hD.som _ _ ho
       rw [h1]
       exact .inr ⟨q, κ, rfl, tp0 _ _ h2, .inl ho, fun κ0 z => by rw [ho] at z; cases z; exact Lm.le_refl _, fun _ _ _ z => nomatch z⟩
   generalize hH0 : upd H d (.frz od (.dK kvs)) = H0 at hfz tp0 hk0 init
   refine ⟨_, rfl, d, od, rfl, .inl ⟨kvs, hfz, for_keys (d := d) (o := od) (kvs := kvs) (fun i σ H' => ∃ (v : V) (v5 v6 v7 v8 v9 : Option V), σ = [some (.str (sC row)), some (.int e), some (.ref d), some (.ref kn), some v, v5, v6, v7, v8, v9] ∧ Same H0 H' ∧ Sofar H' row f e (kvs.take i) v)
     ⟨_, none, none, none, none, none, rfl, Same.refl H0, init⟩ (fun i σ H' _ ⟨_, _, _, _, _, _, _, s1, _⟩ => s1 _ _ hfz) ?_ ?_⟩⟩
   · rintro i ky v0 σ H1 hi ⟨v, v5, v6, v7, v8, v9, rfl, s1, hso⟩
     have hmem : (ky, v0) ∈ kvs := List.mem_of_getElem? hi
     have htk := take_snoc hi
     have hin : (valV kvs ky).isSome = true := by
       rw [← valV_any]
       exact List.any_eq_true.mpr ⟨_, hmem, by simp⟩
     obtain ⟨vv, hvv⟩ := Option.isSome_iff_exists.mp hin
     obtain ⟨t, rfl⟩ := hD.keys _ _ hvv
     have hfz1 := s1 _ _ hfz
     have hk1 := s1 _ _ hk0
     have tp1 : Tups H H1 := fun q xs z => s1 _ _ (tp0 q xs z)
     have hDn : DGet H1 d (.int (t : Int)) (valV kvs (.inl (t : Int))) := .inl ⟨kvs, .inl (t : Int), .inr ⟨od, hfz1⟩, rfl, rfl⟩
     refine ⟨_, rfl, _, rfl, _, _, rfl, rfl, _, rfl, dcase (fun hlt => ?_) fun hlt => ?_⟩
     · have hlt : t < e := by omega
       cases hft : f t with
       | none =>
         rw [hD.non _ hft] at hvv
         cases hvv
       | some κ1 =>
         obtain ⟨q1, h1, h2⟩ := hD.som _ _ hft
         have h2' := tp1 _ _ h2
         obtain ⟨hsz, hok⟩ := hf t κ1 hft
         have hcu : ∀ c ∈ Lm.str row t (e - t), c < 62 := str_mem hcol
         obtain ⟨q2, h3, h4⟩ := hK.get hcu (hpres t κ1 hft hlt)
         have h4' := tp1 _ _ h4
         have hne : Lm.str row t (e - t) ≠ [] := Lm.str_ne (by omega) (by omega)
         have hlkl := Lm.lk_len hne (by rw [Lm.str_len (by omega)]; omega)
         have hlko := Lm.lk_ok (Lm.str row t (e - t))
         rw [h1] at hDn
         refine ⟨_, rfl, _, rfl, d, _, rfl, hDn, ?_⟩
         refine ⟨_, rfl, _, rfl, _, rfl, _, rfl, _, rfl, _, rfl, sC row, rfl, hslen, ?_⟩
         rw [sC_cut row (Nat.le_of_lt hlt) he]
         have hKn : DGet H1 kn (.str (sC (Lm.str row t (e - t)))) (some (.ref q2)) := by
           rw [← h3]
           exact DGet.k (k := .inr (sC (Lm.str row t (e - t)))) hk1
         refine ⟨kn, _, rfl, hKn, ?_⟩
         refine ⟨_, rfl, q1, _, _, _, rfl, rfl, SqT.of h2', pick1, _, rfl, q2, _, _, _, rfl, rfl, SqT.of h4', pick1, _, _, rfl, rfl, ?_⟩
         have hw : (κ1.1 : Int) + ((Lm.lk (Lm.str row t (e - t))).1 : Int) = ((κ1.1 + (Lm.lk (Lm.str row t (e - t))).1 : Nat) : Int) := by omega
         dsimp only
         rw [hw]
         have hb2 : κ1.2.2.length ≤ 600 := by unfold Lm.okK at hok; omega
         have hb3 : (Lm.lk (Lm.str row t (e - t))).2.2.length ≤ 512 := by unfold Lm.okK at hlko; omega
         have etx : (sB κ1.2.2 ++ (" " : Str)) ++ sB (Lm.lk (Lm.str row t (e - t))).2.2 = sB (κ1.2.2 ++ 32 :: (Lm.lk (Lm.str row t (e - t))).2.2) := by
           rw [lit_blank, ← sB_append, ← sB_append]
           congr 1
           simp
         have el1 : (sB κ1.2.2).length + ((" " : Str)).length ≤ sizeLine := few' (by rw [lit_blank, sB_len, sB_len]; simp only [List.length_cons, List.length_nil]; omega)
         have el2 : (sB κ1.2.2 ++ (" " : Str)).length + (sB (Lm.lk (Lm.str row t (e - t))).2.2).length ≤ sizeLine := few' (by rw [strLen_append, lit_blank, sB_len, sB_len, sB_len]; simp only [List.length_cons, List.length_nil]; omega)
         have el3 : (sB (κ1.2.2 ++ 32 :: (Lm.lk (Lm.str row t (e - t))).2.2)).length ≤ sizeLine := few' (by rw [sB_len]; simp only [List.length_append, List.length_cons]; omega)
         have ekey : ∀ H2 : Hp, ∀ p, upd H2 p (.tup [.int ((κ1.1 + (Lm.lk (Lm.str row t (e - t))).1 : Nat) : Int), .int (((sB (κ1.2.2 ++ 32 :: (Lm.lk (Lm.str row t (e - t))).2.2)).length : Nat) : Int), .str (sB (κ1.2.2 ++ 32 :: (Lm.lk (Lm.str row t (e - t))).2.2))]) p
             = some (.tup (keyV (Lm.joinK κ1 (Lm.lk (Lm.str row t (e - t)))))) := fun H2 p => by
           rw [upd_same, sB_len]
           have z : (κ1.2.2 ++ 32 :: (Lm.lk (Lm.str row t (e - t))).2.2).length = κ1.2.1 + 1 + (Lm.lk (Lm.str row t (e - t))).2.1 := by
             unfold Lm.okK at hok hlko
             simp only [List.length_append, List.length_cons]
             omega
           rw [z]
           rfl
         rcases hso with ⟨rfl, hn0, hno⟩ | ⟨q0, κ, rfl, hq0, hS⟩
         · -- the first
           refine ⟨_, rfl, rfl, _, rfl, dcase (fun _ => ?_) fun z => absurd rfl z⟩
           refine iteT ?_
           refine ⟨_, rfl, _, rfl, q1, _, _, _, rfl, rfl, SqT.of h2', pick3, _, _, rfl, rfl, el1, _, rfl, q2, _, _, _, rfl, rfl, SqT.of h4', pick3, _, _, rfl, rfl, el2, ?_⟩
           rw [etx]
           refine ⟨_, _, rfl, el3, fun p hp => ?_⟩
           refine ⟨_, rfl, rfl, _, rfl, dcase (fun _ => ?_) fun z => absurd rfl z⟩
           refine ⟨_, rfl, _, _, _, _, _, _, rfl, s1.trans (same_new hp), .inr ⟨p, _, rfl, ekey H1 p, ?_⟩⟩
           rw [htk]
           exact SoFar.first hn0 hno hlt hft
         · refine ⟨_, rfl, rfl, _, rfl, dcase (fun z => V.noConfusion z) fun _ => ?_⟩
           refine ⟨_, rfl, _, rfl, q0, _, _, _, rfl, rfl, SqT.of hq0, pick1, _, _, rfl, rfl, _, rfl, dcase (fun hle => ?_) fun hle => ?_⟩
           · refine ⟨_, rfl, _, rfl, q1, _, _, _, rfl, rfl, SqT.of h2', pick3, _, _, rfl, rfl, el1, _, rfl, q2, _, _, _, rfl, rfl, SqT.of h4', pick3, _, _, rfl, rfl, el2, ?_⟩
             rw [etx]
             refine ⟨_, _, rfl, el3, fun p hp => ?_⟩
             have hq0' := same_new (o := .tup [.int ((κ1.1 + (Lm.lk (Lm.str row t (e - t))).1 : Nat) : Int), .int (((sB (κ1.2.2 ++ 32 :: (Lm.lk (Lm.str row t (e - t))).2.2)).length : Nat) : Int), .str (sB (κ1.2.2 ++ 32 :: (Lm.lk (Lm.str row t (e - t))).2.2))]) hp _ _ hq0
             refine ⟨_, rfl, rfl, _, rfl, dcase (fun z => V.noConfusion z) fun _ => ?_⟩
             refine ⟨_, rfl, _, rfl, q0, p, triK κ, triK (Lm.joinK κ1 (Lm.lk (Lm.str row t (e - t)))), rfl, SqT.of hq0', SqT.of (ekey H1 p), ?_⟩
             rw [ltT_key]
             by_cases hb : Lm.ltK (Lm.joinK κ1 (Lm.lk (Lm.str row t (e - t)))) κ = true
             · rw [if_pos hb]
               refine ⟨_, _, _, _, _, _, rfl, s1.trans (same_new hp), .inr ⟨p, _, rfl, ekey H1 p, ?_⟩⟩
               rw [htk]
               exact hS.new hlt hft (.inl ((Lm.ltK_iff _ _).mp hb))
             · rw [if_neg hb]
               refine ⟨_, _, _, _, _, _, rfl, s1.trans (same_new hp), .inr ⟨q0, κ, rfl, hq0', ?_⟩⟩
               rw [htk]
               refine hS.keep fun κ' _ hf' => ?_
               rw [hft] at hf'
               cases hf'
               exact Lm.le_of_not fun z => hb ((Lm.ltK_iff _ _).mpr z)
           · refine ⟨_, _, _, _, _, _, rfl, s1, .inr ⟨q0, κ, rfl, hq0, ?_⟩⟩
             rw [htk]
             refine hS.keep fun κ' _ hf' => ?_
             rw [hft] at hf'
             cases hf'
             refine Lm.le_of_words ?_
             show κ.1 < κ1.1 + (Lm.lk (Lm.str row t (e - t))).1
             omega
     · refine ⟨_, _, _, _, _, _, rfl, s1, ?_⟩
       rw [htk]
       rcases hso with ⟨rfl, hn0, hno⟩ | ⟨q0, κ, rfl, hq0, hS⟩
       · refine .inl ⟨rfl, hn0, fun t' v' hm => ?_⟩
         rcases snoc_key hm with z | z
         · exact hno t' v' z
         · omega
       · exact .inr ⟨q0, κ, rfl, hq0, hS.keep fun κ' h _ => by omega⟩
   · rintro σ H1 ⟨v, v5, v6, v7, v8, v9, rfl, s1, hso⟩
     rw [List.take_length] at hso
     refine ⟨s1 _ _ hfz, ?_⟩
     have sm : Same H (upd H1 d (.dK kvs)) := fun b o eb => by
       by_cases hb : b = d
       · subst hb
         rw [upd_same, ← eb, hd]
       · rw [upd_ne hb]
         refine s1 b o ?_
         rw [← hH0, upd_ne hb]
         exact eb
     rcases hso with ⟨rfl, hn0, hno⟩ | ⟨q0, κ, rfl, hq0, hS⟩
     · rcases hsome with z | ⟨t, h1, h2⟩
       · exact absurd hn0 z
       · cases hft : f t with
         | none => exact absurd hft h2
         | some κ1 =>
           obtain ⟨q, h3, _⟩ := hD.som _ _ hft
           have hin : (Sum.inl (t : Int) : L2.Key) ∈ kvs.map (·.1) := valV_in h3
           obtain ⟨⟨k0, v0⟩, hm, hk0⟩ := List.mem_map.mp hin
           have hk0 : k0 = Sum.inl (t : Int) := hk0
           subst hk0
           have := hno t v0 hm
           omega
     · have nq : q0 ≠ d := fun z => by
         have := s1 _ _ hfz
         rw [← z, hq0] at this
         cases this
       refine ⟨_, rfl, k _ q0 κ sm (upd_at hq0 nq) ⟨hS.own, hS.le1, fun t κ1 hlt hft => ?_⟩⟩
       obtain ⟨q, h3, _⟩ := hD.som _ _ hft
       have hin : (Sum.inl (t : Int) : L2.Key) ∈ kvs.map (·.1) := valV_in h3
       obtain ⟨⟨k0, v0⟩, hm, hk0⟩ := List.mem_map.mp hin
       have hk0 : k0 = Sum.inl (t : Int) := hk0
       subst hk0
       exact hS.le2 t κ1 v0 hm hlt hft
end
end Kn
set_option Elab.async false
set_option linter.all false
set_option maxRecDepth 100000
set_option maxHeartbeats 2000000
namespace Kn
open PySem PySem.Spec PyProof.Rows L2 Km
def TimesOk (row : List Nat) (rows : List (List Int)) : Prop := rows.length = row.length ∧ ∀ s r, rows[s]? = some r → r.length = row.length + 1 ∧ ∀ q, 1 ≤ q → q ≤ row.length → ∃ t : Nat, r[q]? = some (t : Int) ∧ Lm.Tm row s q t
def AlikeAt (row : List Nat) (s : Nat) (al : List Nat) : Prop := al.length = row.length + 1 ∧ ∀ q k, 1 ≤ q → al[q]? = some k → Lm.Run row q s k
theorem run_zero {row : List Nat} {q s k : Nat} (R : Lm.Run row q s k) (h : row.length ≤ s + q) : k = 0 := by
 cases k with
 | zero => rfl
 | succ k =>
   have := (R.1 0 (by omega)).1
   omega
theorem run_back {row : List Nat} {q s k : Nat} (R : Lm.Run row q (s + 1) k) (h : row.length ≤ s + q) : Lm.Run row q s k := by
 rw [run_zero R (by omega)]
 exact Lm.run_end h
section
variable {P : Program} {w : World} {K : W.Frag} {mg : Str → Option Value} {base : Heap} {A : Ad} {D : Fds}
def sp_count_times : Sp := fun vs H Q _ => ∃ row : List Nat, vs = [.str (sC row)] ∧ row.length ≤ 128 ∧ (∀ c ∈ row, c < 62) ∧
 ∀ H' p as rows, Same H H' → H' p = some (.lst (as.map V.ref)) → Rws H' as rows → TimesOk row rows → Q (.ref p) H'
structure CtAt (H H' : Hp) (row : List Nat) (a b : Addr) (i : Nat) (al : List Nat) (as : List Addr) (rows : List (List Int)) : Prop where
 same : Same H H'
 na : H a = none
 nb : H b = none
 ab : a ≠ b
 alike : H' a = some (.lst (al.map natV))
 lst : H' b = some (.lst (as.map V.ref))
 rws : Rws H' as rows
 away : ∀ x ∈ as, x ≠ a ∧ x ≠ b
 len : rows.length = i
 ok : ∀ j r, rows[j]? = some r → r.length = row.length + 1 ∧ ∀ q, 1 ≤ q → q ≤ row.length → ∃ t : Nat, r[q]? = some (t : Int) ∧ Lm.Tm row (row.length - 1 - j) q t
theorem ok_count_times (T : Txt K mg A D) : FnOk P w K mg base CX0 1 A.a_count_times D.d_count_times ["row"] sp_count_times := by
 refine T.f_count_times.ok sc_count_times (fun vs H Q E h => ?_) (fun cdv Ar outer s H vs Q E hr h => ?_)
 · obtain ⟨row, rfl, _⟩ := h
   rfl
 · obtain ⟨row, rfl, hl, hcol, k⟩ := h
   refine ⟨_, (pss_cons (ps_set (i := 1) sc_count_times.nd rfl (Or.inr rfl) (pe_op op_rep (pe_lst (pa_cons pe_int pa_nil)) (pe_op op_add (pe_callB call_len_str rfl T.g_len PySem.boot_len (pa_cons (pv 0) pa_nil)) pe_int)))
     (pss_cons (ps_set (i := 2) sc_count_times.nd rfl (Or.inl rfl) (pe_lst pa_nil))
     (pss_cons (ps_for PassesOwn.never rfl (pi_range3 rfl T.g_range (pa_cons (pe_op op_sub (pe_callB call_len_str rfl T.g_len PySem.boot_len (pa_cons (pv 0) pa_nil)) pe_int) (pa_cons (pe_un un_neg pe_int) (pa_cons (pe_un un_neg pe_int) pa_nil)))) (pg_name (i := 3) sc_count_times.nd rfl (Or.inl rfl))
       (pss_cons (ps_for PassesOwn.never rfl (pi_range2 rfl T.g_range (pa_cons pe_int (pa_cons (pe_op op_sub (pe_callB call_len_str rfl T.g_len PySem.boot_len (pa_cons (pv 0) pa_nil)) (pv 3)) pa_nil))) (pg_name (i := 4) sc_count_times.nd rfl (Or.inl rfl))
       (pss_one (ps_asg (pe_ifExp (pt_cmpR op_eq (pe_ix ix_str (pv 0) (pv 3) (fun _ _ => rfl)) (pe_ix ix_str (pv 0) (pe_op op_add (pv 3) (pv 4)) (fun _ _ => rfl)) (nomark _)) (pe_op op_add (pe_ix ix_list (pv 1) (pv 4) (fun _ _ => rfl)) pe_int) pe_int) (pg_sub (pv 1) (pv 4) set_list))))
     (pss_one (ps_expr (pe_bm PySem.F.plainAttrs_list PySem.F.slot_list_append PySem.F.type_list_append mt_append (pv 2) (pa_cons (pe_op op_cat (pe_lst (pa_cons pe_int pa_nil)) (pe_lc (own := [("size", 4)]) rfl sc_count_times.nd (pi_range2 rfl T.g_range (pa_cons pe_int (pa_cons (pe_op op_add (pe_callB call_len_str rfl T.g_len PySem.boot_len (pa_cons (pv 0) pa_nil)) pe_int) pa_nil))) (blkOk_by (by show blkC ["row", "alike", "times", "start", "size"] (defScope s_count_times) _ _ = true; decide +kernel)) (fun _ _ _ _ _ => (pg_name (i := 4) sc_count_times.nd rfl (Or.inl rfl))) (fun _ _ _ _ _ => pts_nil) (fun _ _ _ _ _ => (pe_op op_add pe_int (pe_op op_fdiv (pe_ix (show IxR _ (rIxL K) from ix_list) (pv 1) (pv 4) (fun _ _ => rfl)) (pv 4)))))) pa_nil))))))
     (pss_cons (ps_expr (pe_bm0 PySem.F.plainAttrs_list PySem.F.slot_list_reverse PySem.F.type_list_reverse mt_reverse (pv 2)))
     (pss_one (ps_ret (pv 2))))))), ?_⟩
   have hsl : (sC row).length ≤ sizeLine := few' (by rw [sC_len]; omega)
   have hsn : (((sC row).length : Nat) : Int) = (row.length : Int) := by rw [sC_len]
   refine ⟨few' (by decide), fun l hl0 => ⟨_, rfl, sC row, rfl, hsl, _, _, rfl, rfl, l, _, [.int 0], rfl, rfl, upd_same, ?_, ?_, ?_, fun a ha => ?_⟩⟩
   · rw [hsn]; omega
   · rw [hsn]; omega
   · rw [hsn]
     have : ((row.length : Int) + 1).toNat = row.length + 1 := by omega
     rw [this]
     exact few' (by simp only [List.length_cons, List.length_nil]; omega)
   have er : (List.replicate ((((sC row).length : Nat) : Int) + 1).toNat [V.int 0]).flatten = (List.replicate (row.length + 1) 0).map natV := by
     have : ((((sC row).length : Nat) : Int) + 1).toNat = row.length + 1 := by rw [hsn]; omega
     rw [this, List.map_replicate]
     have z := Lm.rep_one (V.int 0) 1 (row.length + 1)
     rw [Nat.mul_one] at z
     exact z
   rw [er]
   have nla : l ≠ a := ne_of_none upd_same ha
   have ha0 : H a = none := by rw [upd_ne nla.symm] at ha; exact ha
   have s1 : Same H (upd (upd H l (.lst [.int 0])) a (.lst ((List.replicate (row.length + 1) 0).map natV))) := same_upd (same_new hl0) ha0
   refine ⟨Nat.zero_le _, fun b hb => ?_⟩
   have nab : a ≠ b := ne_of_none upd_same hb
   have hb0 : H b = none := s1.free hb
   refine ⟨_, rfl, sC row, rfl, hsl, _, _, rfl, rfl, _, rfl, _, rfl, (row.length : Int) - 1, -1, -1, row.length, by rw [hsn] <;> rfl, rgc_down _ (by omega), ?_⟩
   refine for_rangeC (lo := (row.length : Int) - 1) (c := -1) (n := row.length) (fun i σ H' => ∃ (v3 v4 : Option V) (al : List Nat) (as : List Addr) (rows : List (List Int)), σ = [some (.str (sC row)), some (.ref a), some (.ref b), v3, v4] ∧ AlikeAt row (row.length - i) al ∧ CtAt H H' row a b i al as rows)
     ⟨none, none, List.replicate (row.length + 1) 0, [], [], rfl, ⟨List.length_replicate, fun q kk h1 h2 => ?_⟩, same_upd s1 hb0, ha0, hb0, nab, upd_at upd_same nab, upd_same, .nil, (fun _ z => nomatch z), rfl, fun j r z => by simp at z⟩ ?_ ?_
   · have : kk = 0 := by
       rw [List.getElem?_replicate] at h2
       split at h2
       · exact (Option.some.inj h2).symm
       · cases h2
     subst this
     exact Lm.run_end (by omega)
   · rintro i σ H1 hi ⟨v3, v4, al, as, rows, rfl, hal, C⟩
     rw [down_at hi]
     generalize hst : row.length - 1 - i = st
     have hst1 : row.length - i = st + 1 := by omega
     rw [hst1] at hal
     have hstl : st < row.length := by omega
     have hcount : ((row.length : Int) - (st : Int) - 1).toNat = row.length - st - 1 := by omega
     refine ⟨_, rfl, sC row, rfl, hsl, _, rfl, _, _, rfl, rfl, 1, (row.length : Int) - (st : Int), by rw [hsn] <;> rfl, ⟨by decide, by decide, by omega, by omega⟩, ?_⟩
     rw [hcount]
     refine for_range (lo := 1) (n := row.length - st - 1) (fun j σ H' => ∃ (v4 : Option V) (al' : List Nat), σ = [some (.str (sC row)), some (.ref a), some (.ref b), some (.int (st : Int)), v4] ∧ al'.length = row.length + 1 ∧ (∀ q kk, 1 ≤ q → al'[q]? = some kk → if q ≤ j then Lm.Run row q st kk else Lm.Run row q (st + 1) kk) ∧ CtAt H H' row a b i al' as rows)
       ⟨_, al, rfl, hal.1, fun q kk h1 h2 => by rw [if_neg (by omega)]; exact hal.2 q kk h1 h2, C⟩ ?_ ?_
     · rintro j σ H2 hj ⟨v4', al', rfl, hlen', hrun', C'⟩
       have hq : (1 : Int) + (j : Int) = ((j + 1 : Nat) : Int) := by omega
       rw [hq]
       obtain ⟨c1, hc1⟩ : ∃ c, row[st]? = some c := ⟨_, List.getElem?_eq_getElem hstl⟩
       obtain ⟨c2, hc2⟩ : ∃ c, row[st + (j + 1)]? = some c := ⟨_, List.getElem?_eq_getElem (by omega)⟩
       obtain ⟨kk, hkk⟩ : ∃ kk, al'[j + 1]? = some kk := ⟨_, List.getElem?_eq_getElem (by omega)⟩
       have hrk := hrun' (j + 1) kk (by omega) hkk
       rw [if_neg (by omega)] at hrk
       have hadd : (st : Int) + ((j + 1 : Nat) : Int) = ((st + (j + 1) : Nat) : Int) := by omega
       have hset : ∀ m : Nat, Lm.Run row (j + 1) st m → ∃ (v4 : Option V) (al2 : List Nat), [some (V.str (sC row)), some (.ref a), some (.ref b), some (.int (st : Int)), some (.int ((j + 1 : Nat) : Int))] = [some (.str (sC row)), some (.ref a), some (.ref b), some (.int (st : Int)), v4] ∧ al2.length = row.length + 1 ∧
           (∀ q kk, 1 ≤ q → al2[q]? = some kk → if q ≤ j + 1 then Lm.Run row q st kk else Lm.Run row q (st + 1) kk) ∧ CtAt H (upd H2 a (.lst ((al'.map natV).set (j + 1) (natV m)))) row a b i al2 as rows := fun m hm => by
         refine ⟨_, al'.set (j + 1) m, rfl, by rw [List.length_set]; exact hlen', fun q kk' h1 h2 => ?_, ?_⟩
         · by_cases hqj : q = j + 1
           · subst hqj
             rw [List.getElem?_set_self (by omega)] at h2
             cases h2
             rw [if_pos (Nat.le_refl _)]
             exact hm
           · rw [List.getElem?_set_ne (by omega)] at h2
             have := hrun' q kk' h1 h2
             by_cases hle : q ≤ j
             · rw [if_pos hle] at this
               rw [if_pos (by omega)]
               exact this
             · rw [if_neg hle] at this
               rw [if_neg (by omega)]
               exact this
         · refine ⟨same_upd C'.same C'.na, C'.na, C'.nb, C'.ab, ?_, upd_at C'.lst C'.ab.symm, C'.rws.mono fun x hx o e => upd_at e (C'.away x hx).1, C'.away, C'.len, C'.ok⟩
           rw [upd_same, List.map_set]
       have hix : ixN ((al'.map natV).length) (((j + 1 : Nat)) : Int) = some (j + 1) := ix_nat (by rw [List.length_map]; omega)
       refine ⟨_, rfl, _, rfl, sC row, _, _, rfl, rfl, hsl, sC_at hc1, _, rfl, _, rfl, _, rfl, _, _, rfl, rfl, ?_⟩
       dsimp only
       rw [hadd]
       refine ⟨sC row, _, _, rfl, rfl, hsl, sC_at hc2, rfl, _, rfl, dcase (fun e => ?_) fun e => ?_⟩
       · have e : (byteStr c1) = byteStr c2 := by
           have := V.str.inj e
           exact this
         have hcc : c1 = c2 := byteStr_inj (hcol _ (List.mem_of_getElem? hc1)) (hcol _ (List.mem_of_getElem? hc2)) e
         refine ⟨_, rfl, _, rfl, a, _, _, natV kk, rfl, rfl, SqL.of C'.alike, at_of (j := j + 1) rfl (mapAt hkk), _, _, rfl, rfl, ?_⟩
         refine ⟨_, rfl, _, rfl, a, _, _, _, rfl, rfl, C'.alike, hix, ?_⟩
         have hv : V.int ((kk : Int) + 1) = natV (kk + 1) := by
           show V.int _ = V.int _
           congr 1
         exact hset (kk + 1) (Lm.run_yes hrk (by omega) (by rw [hc1, hc2, hcc]))
       · refine ⟨_, rfl, _, rfl, a, _, _, _, rfl, rfl, C'.alike, hix, ?_⟩
         refine hset 0 (Lm.run_no ?_)
         rw [hc1, hc2]
         intro z
         have z := Option.some.inj z
         exact e (by rw [z])
     · rintro σ H2 ⟨v4', al', rfl, hlen', hrun', C'⟩
       have hrun : ∀ q kk, 1 ≤ q → al'[q]? = some kk → Lm.Run row q st kk := fun q kk h1 h2 => by
         have := hrun' q kk h1 h2
         by_cases hle : q ≤ row.length - st - 1
         · rw [if_pos hle] at this
           exact this
         · rw [if_neg hle] at this
           exact run_back this (by omega)
       refine ⟨_, rfl, .inl ⟨rfl, _, SqL.of C'.lst⟩, few' (by decide), fun z hz => ?_⟩
       have hcount2 : ((row.length : Int) + 1 - 1).toNat = row.length := by omega
       refine ⟨_, rfl, sC row, rfl, hsl, _, _, rfl, rfl, 1, (row.length : Int) + 1, by rw [hsn] <;> rfl, ⟨by decide, by decide, by omega, by omega⟩, fun y hy => ?_⟩
       rw [hcount2]
       have hz0 : H z = none := C'.same.free hz
       have nyz : z ≠ y := ne_of_none upd_same hy
       have hy1 : H2 y = none := by rw [upd_ne nyz.symm] at hy; exact hy
       have hy0 : H y = none := C'.same.free hy1
       have s2 : Same H2 (upd (upd H2 z (.lst [.int 0])) y (.lst [])) := same_upd (same_new hz) hy1
       refine lc_range (lo := 1) (n := row.length) (fun j H' => Same (upd H2 z (.lst [.int 0])) H' ∧ H' y = some (.lst (((al'.drop 1).take j).zipIdx 1 |>.map fun (x : Nat × Nat) => natV (1 + x.1 / x.2)))) ⟨same_new hy, upd_same⟩ ?_ ?_
       · rintro j H3 hj ⟨s3, hy3⟩
         have hq : (1 : Int) + (j : Int) = ((j + 1 : Nat) : Int) := by omega
         rw [hq]
         obtain ⟨kk, hkk⟩ : ∃ kk, al'[j + 1]? = some kk := ⟨_, List.getElem?_eq_getElem (by omega)⟩
         have hkd : (al'.drop 1)[j]? = some kk := by rw [List.getElem?_drop, Nat.add_comm]; exact hkk
         have hal3 := s3 _ _ (same_new (o := .lst [.int 0]) hz _ _ C'.alike)
         refine ⟨rfl, yes_if ⟨_, rfl, _, rfl, a, _, _, natV kk, rfl, rfl, SqL.of hal3, at_of (j := j + 1) rfl (mapAt hkk), _, rfl, _, _, rfl, rfl, ⟨by omega, by omega⟩, _, _, rfl, rfl, ?_⟩⟩
         have hv : V.int (1 + (kk : Int) / ((j + 1 : Nat) : Int)) = natV (1 + kk / (j + 1)) := by
           show V.int _ = V.int _
           congr 1
         dsimp only
         rw [hv]
         refine ⟨_, hy3, few (by rw [List.length_map, List.length_zipIdx, List.length_take]; omega), same_upd s3 (by exact hy), ?_⟩
         rw [upd_same, take_snoc hkd, List.zipIdx_append, List.map_append]
         have : ((al'.drop 1).take j).length = j := by rw [List.length_take, List.length_drop]; omega
         rw [this]
         show _ = some (HO.lst (_ ++ [natV (1 + kk / (1 + j))]))
         rw [Nat.add_comm 1 j]
       · rintro H3 ⟨s3, hy3⟩
         have htk : (al'.drop 1).take row.length = al'.drop 1 := List.take_of_length_le (by rw [List.length_drop]; omega)
         rw [htk] at hy3
         generalize hxs : ((al'.drop 1).zipIdx 1).map (fun (x : Nat × Nat) => natV (1 + x.1 / x.2)) = xs at hy3
         have hxl : xs.length = row.length := by rw [← hxs, List.length_map, List.length_zipIdx, List.length_drop]; omega
         have hz3 : H3 z = some (.lst [.int 0]) := s3 _ _ upd_same
         refine ⟨z, y, _, _, rfl, rfl, hz3, hy3, few' (by rw [hxl]; simp only [List.length_cons, List.length_nil]; omega), fun x hx => ?_⟩
         have s23 : Same H2 H3 := fun b o e => s3 b o (same_new hz b o e)
         have hx2 : H2 x = none := s23.free hx
         have hlst3 := s23 _ _ C'.lst
         have nbx : b ≠ x := ne_of_none hlst3 hx
         have nax : a ≠ x := ne_of_none (s23 _ _ C'.alike) hx
         refine ⟨b, _, _, rfl, rfl, upd_at hlst3 nbx, few (by rw [List.length_map, C'.rws.length, C'.len]; omega), ?_⟩
         have hrr : ([V.int 0] ++ xs) = (((0 : Int) :: ((al'.drop 1).zipIdx 1).map (fun (x : Nat × Nat) => ((1 + x.1 / x.2 : Nat) : Int)))).map V.int := by
           rw [← hxs, List.map_cons, List.map_map]
           rfl
         refine ⟨_, _, al', as ++ [x], rows ++ [(0 : Int) :: ((al'.drop 1).zipIdx 1).map (fun (x : Nat × Nat) => ((1 + x.1 / x.2 : Nat) : Int))], rfl, ⟨hlen', ?_⟩, ?_⟩
         · rw [show row.length - (i + 1) = st by omega]
           exact hrun
         · have hxH : H x = none := C'.same.free hx2
           have keep : ∀ q o, H2 q = some o → q ≠ b → (upd (upd H3 x (.lst ([V.int 0] ++ xs))) b (.lst (as.map V.ref ++ [V.ref x]))) q = some o := fun q o e n => upd_at (upd_at (s23 q o e) (ne_of_none e hx2)) n
           refine ⟨?_, C'.na, C'.nb, C'.ab, keep _ _ C'.alike C'.ab, ?_, ?_, ?_, ?_, ?_⟩
           · exact same_upd (same_upd (C'.same.trans s23) hxH) C'.nb
           · rw [upd_same, List.map_append]
             rfl
           · refine (C'.rws.mono fun q hq o e => keep q o e (C'.away q hq).2).snoc ?_
             rw [upd_at upd_same nbx.symm, hrr]
           · intro q hq
             rcases List.mem_append.mp hq with z | z
             · exact C'.away q z
             · rw [List.mem_singleton.mp z]
               exact ⟨nax.symm, nbx.symm⟩
           · rw [List.length_append, C'.len]
             rfl
           · intro j r hj
             by_cases hji : j < rows.length
             · rw [List.getElem?_append_left hji] at hj
               exact C'.ok j r hj
             · rw [List.getElem?_append_right (by omega)] at hj
               have hj0 : j = i := by
                 have := C'.len
                 have h2 : j - rows.length < 1 := by
                   have := lt_of_get hj
                   simpa using this
                 omega
               have hjj : j - rows.length = 0 := by have := C'.len; omega
               rw [hjj] at hj
               have hj := Option.some.inj hj
               subst hj
               refine ⟨by rw [List.length_cons, List.length_map, List.length_zipIdx, List.length_drop]; omega, fun q h1 h2 => ?_⟩
               obtain ⟨m, rfl⟩ : ∃ m, q = m + 1 := ⟨q - 1, by omega⟩
               obtain ⟨kk, hkk⟩ : ∃ kk, al'[m + 1]? = some kk := ⟨_, List.getElem?_eq_getElem (by omega)⟩
               refine ⟨1 + kk / (m + 1), ?_, ?_⟩
               · rw [List.getElem?_cons_succ, List.getElem?_map, List.getElem?_zipIdx, List.getElem?_drop, Nat.add_comm 1 m, hkk]
                 rfl
               · have := Lm.run_tm (by omega) (hrun (m + 1) kk (by omega) hkk)
                 rw [hj0, hst]
                 exact this
   · rintro σ H1 ⟨v3, v4, al, as, rows, rfl, hal, C⟩
     refine ⟨_, rfl, .inl ⟨rfl, _, SqL.of C.lst⟩, b, _, rfl, rfl, C.lst, ?_⟩
     refine ⟨_, rfl, k _ b as.reverse rows.reverse (same_upd C.same C.nb) (by rw [upd_same, List.map_reverse]) ((C.rws.mono fun x hx o e => upd_at e (C.away x hx).2).reverse) ⟨by rw [List.length_reverse, C.len], fun s0 r hr0 => ?_⟩⟩
     have hlt := lt_of_get hr0
     rw [List.length_reverse] at hlt
     rw [List.getElem?_reverse hlt] at hr0
     have z := C.ok _ r hr0
     have e : row.length - 1 - (rows.length - 1 - s0) = s0 := by have := C.len; omega
     rw [e] at z
     exact z
end
end Kn
set_option Elab.async false
set_option linter.all false
set_option maxRecDepth 100000
set_option maxHeartbeats 2000000
namespace Kn
open PySem PySem.Spec PyProof.Rows L2 Km
def FirstsOk (row : List Nat) (fs : List Nat) : Prop := fs.length = row.length + 1 ∧ fs[row.length]? = some 0 ∧ ∀ s q v, 2 ≤ q → s + q < row.length → Lm.Rep row s q 2 → fs[s + q]? = some v → v ≤ s
section
variable {P : Program} {w : World} {K : W.Frag} {mg : Str → Option Value} {base : Heap} {A : Ad} {D : Fds}
def sp_find_firsts : Sp := fun vs H Q _ => ∃ (row : List Nat) (p : Addr) (as : List Addr) (rows : List (List Int)), vs = [.ref p] ∧ row.length ≤ 128 ∧ H p = some (.lst (as.map V.ref)) ∧ Rws H as rows ∧ TimesOk row rows ∧
 ∀ H' q fs, Same H H' → H' q = some (.lst (fs.map natV)) → FirstsOk row fs → Q (.ref q) H'
theorem ok_find_firsts (T : Txt K mg A D) : FnOk P w K mg base CX0 1 A.a_find_firsts D.d_find_firsts ["times"] sp_find_firsts := by
 refine T.f_find_firsts.ok sc_find_firsts (fun vs H Q E h => ?_) (fun cdv Ar outer s H vs Q E hr h => ?_)
 · obtain ⟨row, p, as, rows, rfl, _⟩ := h
   rfl
 · obtain ⟨row, p, as, rows, rfl, hl, hp, hR, ⟨hT1, hT2⟩, k⟩ := h
   refine ⟨_, (pss_cons (ps_set (i := 1) sc_find_firsts.nd rfl (Or.inl rfl) (pe_op op_cat (pe_op op_rep (pe_lst (pa_cons (pe_callB call_len_seq rfl T.g_len PySem.boot_len (pa_cons (pv 0) pa_nil)) pa_nil)) (pe_callB call_len_seq rfl T.g_len PySem.boot_len (pa_cons (pv 0) pa_nil))) (pe_lst (pa_cons pe_int pa_nil))))
     (pss_cons (ps_for PassesOwn.never rfl (pi_range3 rfl T.g_range (pa_cons (pe_op op_sub (pe_callB call_len_seq rfl T.g_len PySem.boot_len (pa_cons (pv 0) pa_nil)) pe_int) (pa_cons (pe_un un_neg pe_int) (pa_cons (pe_un un_neg pe_int) pa_nil)))) (pg_name (i := 2) sc_find_firsts.nd rfl (Or.inl rfl))
       (pss_one (ps_for PassesOwn.never rfl (pi_range2 rfl T.g_range (pa_cons pe_int (pa_cons (pe_op op_sub (pe_callB call_len_seq rfl T.g_len PySem.boot_len (pa_cons (pv 0) pa_nil)) (pv 2)) pa_nil))) (pg_name (i := 3) sc_find_firsts.nd rfl (Or.inl rfl))
       (pss_one (ps_if (pt_cmpR op_gt (pe_ix ix_list (pe_ix ix_list (pv 0) (pv 2) (fun _ _ => rfl)) (pv 3) (fun _ _ => rfl)) pe_int (nomark _)) (pss_one (ps_asg (pv 2) (pg_sub (pv 1) (pe_op op_add (pv 2) (pv 3)) set_list))) pss_nil)))))
     (pss_one (ps_ret (pv 1))))), ?_⟩
   have hal : (as.map V.ref).length = row.length := by rw [List.length_map, hR.length, hT1]
   refine ⟨_, rfl, p, _, rfl, .inl (SqL.of hp), few' (by simp), fun l hl0 => ?_⟩
   have hp1 := same_new (o := .lst [V.int (((as.map V.ref).length : Nat) : Int)]) hl0 _ _ hp
   refine ⟨_, rfl, p, _, rfl, .inl (SqL.of hp1), l, _, _, rfl, rfl, upd_same, by omega, by rw [hal]; omega, few' (by rw [Int.toNat_natCast, hal]; simp only [List.length_cons, List.length_nil]; omega), fun l2 hl2 => ?_⟩
   have er : (List.replicate ((((as.map V.ref).length : Nat) : Int)).toNat [V.int (((as.map V.ref).length : Nat) : Int)]).flatten = (List.replicate row.length row.length).map natV := by
     rw [Int.toNat_natCast, hal, List.map_replicate]
     have z := Lm.rep_one (natV row.length) 1 row.length
     rw [Nat.mul_one] at z
     exact z
   rw [er]
   have nl2 : l ≠ l2 := ne_of_none upd_same hl2
   have hl20 : H l2 = none := (same_new hl0).free hl2
   have s2 : Same H (upd (upd H l (.lst [V.int (((as.map V.ref).length : Nat) : Int)])) l2 (.lst ((List.replicate row.length row.length).map natV))) := same_upd (same_new hl0) hl20
   refine ⟨few' (by decide), fun l3 hl3 => ?_⟩
   have hl30 : H l3 = none := s2.free hl3
   have n23 : l2 ≠ l3 := ne_of_none upd_same hl3
   have s3 := same_upd (o := .lst [V.int 0]) s2 hl30
   refine ⟨l2, l3, _, _, rfl, rfl, upd_at upd_same n23, upd_same, few' (by rw [List.length_map, List.length_replicate]; simp only [List.length_cons, List.length_nil]; omega), fun f hf => ?_⟩
   have hf0 : H f = none := s3.free hf
   have ef : (List.replicate row.length row.length).map natV ++ [V.int 0] = (List.replicate row.length row.length ++ [0]).map natV := by
     rw [List.map_append]
     rfl
   rw [ef]
   have s4 := same_upd (o := .lst ((List.replicate row.length row.length ++ [0]).map natV)) s3 hf0
   refine ⟨_, rfl, p, _, rfl, .inl (SqL.of (s4 _ _ hp)), _, _, rfl, rfl, _, rfl, _, rfl, (row.length : Int) - 1, -1, -1, row.length, by rw [hal] <;> rfl, rgc_down _ (by omega), ?_⟩
   refine for_rangeC (lo := (row.length : Int) - 1) (c := -1) (n := row.length) (fun i σ H' => ∃ (v2 v3 : Option V) (fs : List Nat), σ = [some (.ref p), some (.ref f), v2, v3] ∧ Same H H' ∧ H' f = some (.lst (fs.map natV)) ∧ fs.length = row.length + 1 ∧ fs[row.length]? = some 0 ∧
     ∀ s q v, 2 ≤ q → s + q < row.length → row.length - i ≤ s → Lm.Rep row s q 2 → fs[s + q]? = some v → v ≤ s)
     ⟨none, none, _, rfl, s4, upd_same, by simp, by rw [List.getElem?_append_right (by simp)]; simp, fun s q v h1 h2 h3 => by omega⟩ ?_ ?_
   · rintro i σ H1 hi ⟨v2, v3, fs, rfl, s1, hf1, hfl, hf0', hfo⟩
     rw [down_at hi]
     generalize hst : row.length - 1 - i = st
     have hstl : st < row.length := by omega
     have hcount : ((row.length : Int) - (st : Int) - 2).toNat = row.length - st - 2 := by omega
     refine ⟨_, rfl, p, _, rfl, .inl (SqL.of (s1 _ _ hp)), _, rfl, _, _, rfl, rfl, 2, (row.length : Int) - (st : Int), by rw [hal] <;> rfl, ⟨by decide, by decide, by omega, by omega⟩, ?_⟩
     rw [hcount]
     obtain ⟨r, hrr⟩ : ∃ r, rows[st]? = some r := ⟨_, List.getElem?_eq_getElem (by omega)⟩
     obtain ⟨ra, hra, hre⟩ := hR.get' hrr
     obtain ⟨hr1, hr2⟩ := hT2 st r hrr
     refine for_range (lo := 2) (n := row.length - st - 2) (fun j σ H' => ∃ (v3 : Option V) (fs : List Nat), σ = [some (.ref p), some (.ref f), some (.int (st : Int)), v3] ∧ Same H H' ∧ H' f = some (.lst (fs.map natV)) ∧ fs.length = row.length + 1 ∧ fs[row.length]? = some 0 ∧
       ∀ s q v, 2 ≤ q → s + q < row.length → (st + 1 ≤ s ∨ (s = st ∧ q ≤ j + 1)) → Lm.Rep row s q 2 → fs[s + q]? = some v → v ≤ s)
       ⟨_, fs, rfl, s1, hf1, hfl, hf0', fun s q v h1 h2 h3 => hfo s q v h1 h2 (by omega)⟩ ?_ ?_
     · rintro j σ H2 hj ⟨v3', fs', rfl, s2', hf2, hfl2, hf02, hfo2⟩
       have hq : (2 : Int) + (j : Int) = ((j + 2 : Nat) : Int) := by omega
       rw [hq]
       obtain ⟨t, ht1, ht2⟩ := hr2 (j + 2) (by omega) (by omega)
       refine ⟨_, rfl, _, rfl, p, _, _, V.ref ra, rfl, rfl, SqL.of (s2' _ _ hp), at_of (j := st) rfl (mapAt hra), _, rfl, ra, _, _, _, rfl, rfl, SqL.of (s2' _ _ hre), at_of (j := j + 2) rfl (mapAt ht1), _, _, rfl, rfl, _, rfl, dcase (fun e => ?_) fun e => ?_⟩
       · have hadd : (st : Int) + ((j + 2 : Nat) : Int) = ((st + (j + 2) : Nat) : Int) := by omega
         refine ⟨_, rfl, _, rfl, _, rfl, _, rfl, _, _, rfl, rfl, ?_⟩
         dsimp only
         rw [hadd]
         refine ⟨f, _, _, st + (j + 2), rfl, rfl, hf2, ix_nat (by rw [List.length_map]; omega), ?_⟩
         refine ⟨_, fs'.set (st + (j + 2)) st, rfl, same_upd s2' hf0, by rw [upd_same, List.map_set], by rw [List.length_set]; exact hfl2, by rw [List.getElem?_set_ne (by omega)]; exact hf02, fun s q v h1 h2 h3 h4 h5 => ?_⟩
         by_cases hsq : s + q = st + (j + 2)
         · rw [hsq, List.getElem?_set_self (by omega)] at h5
           cases h5
           omega
         · rw [List.getElem?_set_ne (by omega)] at h5
           exact hfo2 s q v h1 h2 (by omega) h4 h5
       · refine ⟨_, fs', rfl, s2', hf2, hfl2, hf02, fun s q v h1 h2 h3 h4 h5 => ?_⟩
         by_cases hsq : s = st ∧ q = j + 2
         · obtain ⟨rfl, rfl⟩ := hsq
           have := (ht2 2 (Nat.le_refl _)).mpr h4
           omega
         · exact hfo2 s q v h1 h2 (by omega) h4 h5
     · rintro σ H2 ⟨v3', fs', rfl, s2', hf2, hfl2, hf02, hfo2⟩
       exact ⟨_, _, fs', rfl, s2', hf2, hfl2, hf02, fun s q v h1 h2 h3 => hfo2 s q v h1 h2 (by omega)⟩
   · rintro σ H1 ⟨v2, v3, fs, rfl, s1, hf1, hfl, hf0', hfo⟩
     exact ⟨_, rfl, k H1 f fs s1 hf1 ⟨hfl, hf0', fun s q v h1 h2 => hfo s q v h1 h2 (by omega)⟩⟩
end
end Kn
set_option Elab.async false
set_option linter.all false
set_option maxRecDepth 100000
set_option maxHeartbeats 4000000
namespace Km
open PySem PySem.Spec PyProof.Rows L2
def triD (x : Tri) : PyData := .tuple [.int x.1, .int x.2.1, .str x.2.2]
theorem dp_tri {K : W.Frag} {H : Hp} {a : Addr} {x : Tri} (h : H a = some (.tup (triV x))) : Dp K H (.ref a) (triD x) := .tup (SqT.of h) (.cons (.int _) (.cons (.int _) (.cons (.str _) .nil)))
theorem strOk_sB (b : List UInt8) : PyData.strOk (sB b) = true := by
 unfold PyData.strOk
 rw [← Array.all_toList, sB_cps, List.all_map, List.all_eq_true]
 intro x _
 have := x.toNat_lt
 show decide (x.toNat < 0x110000) = true
 rw [decide_eq_true_eq]
 omega
theorem shaped_tri (κ : Lm.Key) : SeqAt.shaped (triD (triK κ)) = true := by
 unfold SeqAt.shaped triD triK
 rw [PyData.canLay0, PyData.depth]
 simp [PyData.canLayAll0, PyData.canLay0, PyData.depthAll, PyData.depth, strOk_sB]
theorem eqv_tri (x y : Tri) : PyData.eqv (triD x) (triD y) = decide (x = y) := by
 obtain ⟨x1, x2, x3⟩ := x
 obtain ⟨y1, y2, y3⟩ := y
 unfold triD
 rw [PyData.eqv, PyData.eqvAll, PyData.eqvAll, PyData.eqvAll, PyData.eqvAll, PyData.eqv, PyData.eqv, PyData.eqv]
 rw [Bool.eq_iff_iff]
 simp only [Bool.and_eq_true, Bool.and_true, decide_eq_true_eq, beq_iff_eq, Prod.mk.injEq]
theorem eqv_triN (x : Tri) : PyData.eqv (triD x) .none = false := by
 unfold triD
 simp [PyData.eqv]
theorem shaped_none : SeqAt.shaped .none = true := by
 unfold SeqAt.shaped
 simp [PyData.canLay0, PyData.depth]
end Km
namespace Kn
open PySem PySem.Spec PyProof.Rows L2 Km
theorem join2 {c : Bool} {A' : Prop} {B R : Hp → Prop} {H : Hp} (hc : ∀ H7, R H7 → B H7) (h1 : c = true → (∀ H7, R H7 → B H7) → A') (h2 : c = false → R H) : if c = true then A' else B H := by
 cases c with
 | true => rw [if_pos rfl]; exact h1 rfl hc
 | false => rw [if_neg Bool.false_ne_true]; exact hc H (h2 rfl)
section
variable {P : Program} {w : World} {K : W.Frag} {mg : Str → Option Value} {base : Heap} {A : Ad} {D : Fds}
def Pres (row fs : List Nat) (kks : List (L2.Key × V)) (s E : Nat) : Prop := ∀ e v, s < e → e < E → fs[e]? = some v → v ≤ s → (valV kks (.inr (sC (Lm.str row s (e - s))))).isSome = true
structure LcAt (H H' : Hp) (row : List Nat) (tp : Addr) (as : List Addr) (rows : List (List Int)) (fp : Addr) (fs : List Nat) (kn : Addr) (kks : List (L2.Key × V)) (s E : Nat) : Prop where
 same : Same H H'
 times : H' tp = some (.lst (as.map V.ref))
 rws : Rws H' as rows
 firsts : H' fp = some (.lst (fs.map natV))
 nkn : H kn = none
 known : H' kn = some (.dK kks)
 kd : Kd H' kks
 old : ∀ s', s < s' → Pres row fs kks s' (row.length + 1)
 now : Pres row fs kks s E
theorem LcAt.but {H H1 H2 : Hp} {row : List Nat} {tp : Addr} {as : List Addr} {rows : List (List Int)} {fp : Addr} {fs : List Nat} {kn : Addr} {kks : List (L2.Key × V)} {s E : Nat} (L : LcAt H H1 row tp as rows fp fs kn kks s E) {d : Addr} {kvs : List (L2.Key × V)} (hd : H1 d = some (.dK kvs))
   (hd0 : H d = none) (ndk : d ≠ kn) (b : But [d] H1 H2) : LcAt H H2 row tp as rows fp fs kn kks s E := by
 have kp : ∀ q o, H1 q = some o → q ≠ d → H2 q = some o := fun q o e n => b q o e fun z => n (List.mem_singleton.mp z)
 have kl : ∀ q xs, H1 q = some (.lst xs) → H2 q = some (.lst xs) := fun q xs e => kp q _ e (ne_of e hd (by intro z; cases z))
 have tps : Tups H1 H2 := Tups.of_but b hd (by intro xs z; cases z)
 refine ⟨fun q o e => kp q o (L.same q o e) (fun z => by rw [z, hd0] at e; cases e), kl _ _ L.times, ?_, kl _ _ L.firsts, L.nkn, kp _ _ L.known ndk.symm, L.kd.mono tps, L.old, L.now⟩
 have R := L.rws
 generalize as = as' at R
 generalize rows = rows' at R
 induction R with
 | nil => exact .nil
 | cons q _ ih => exact .cons (kl _ _ q) ih
theorem LcAt.grow {H H1 H2 : Hp} {row : List Nat} {tp : Addr} {as : List Addr} {rows : List (List Int)} {fp : Addr} {fs : List Nat} {kn : Addr} {kks : List (L2.Key × V)} {s E : Nat} (L : LcAt H H1 row tp as rows fp fs kn kks s E) (b : Same H1 H2) : LcAt H H2 row tp as rows fp fs kn kks s E :=
 ⟨L.same.trans b, b _ _ L.times, L.rws.same b, b _ _ L.firsts, L.nkn, b _ _ L.known, L.kd.mono (Tups.of_same b), L.old, L.now⟩
def sp_least_call : Sp := fun vs H Q _ => ∃ row : List Nat, vs = [.str (sC row)] ∧ row ≠ [] ∧ row.length ≤ 128 ∧ (∀ c ∈ row, c < 62) ∧ ∀ H', Same H H' → Q (.str (sB (Lm.lk row).2.2)) H'
theorem one_words {c m : Nat} (h : 2 ≤ m) : Lm.oneK c m = (2, (Rg.decimal m ++ (42 :: [Rg.byteOf c])).length, Rg.decimal m ++ (42 :: [Rg.byteOf c])) := by
 unfold Lm.oneK
 rw [Lm.one_key, if_neg (by omega), if_neg (by omega)]
 have e : (Rg.decimal m ++ [42]) ++ [Rg.byteOf c] = Rg.decimal m ++ (42 :: [Rg.byteOf c]) := by simp
 rw [e]
theorem tm_small {row : List Nat} {s q t : Nat} (hq : 1 ≤ q) (hl : row.length ≤ 128) (T : Lm.Tm row s q t) : t < 200 := by
 rcases Nat.lt_or_ge t 2 with h | h
 · omega
 · have := Lm.rep_bound hq ((T t h).mp (Nat.le_refl _))
   omega
theorem ok_least_call (T : Txt K mg A D) : FnOk P w K mg base CX0 3 A.a_least_call D.d_least_call ["row"] sp_least_call := by
 refine T.f_least_call.ok sc_least_call (fun vs H Q E h => ?_) (fun cdv Ar outer s H vs Q E hr h => ?_)
 · obtain ⟨row, rfl, _⟩ := h
   rfl
 · obtain ⟨row, rfl, hne, hl, hcol, k⟩ := h
   refine ⟨_, (pss_cons (ps_set (i := 1) sc_least_call.nd rfl (Or.inl rfl) (pe_call (ok_count_times T) (hr.mono (by decide)) rfl T.m_count_times T.k_count_times T.b_count_times .nil pass0 (pa_cons (pv 0) pa_nil)))
     (pss_cons (ps_set (i := 2) sc_least_call.nd rfl (Or.inl rfl) (pe_call (ok_find_firsts T) (hr.mono (by decide)) rfl T.m_find_firsts T.k_find_firsts T.b_find_firsts .nil pass0 (pa_cons (pv 1) pa_nil)))
     (pss_cons (ps_set (i := 3) sc_least_call.nd rfl (Or.inl rfl) pe_dnewK)
     (pss_cons (ps_for PassesOwn.never rfl (pi_range3 rfl T.g_range (pa_cons (pe_op op_sub (pe_callB call_len_str rfl T.g_len PySem.boot_len (pa_cons (pv 0) pa_nil)) pe_int) (pa_cons (pe_un un_neg pe_int) (pa_cons (pe_un un_neg pe_int) pa_nil)))) (pg_name (i := 4) sc_least_call.nd rfl (Or.inl rfl))
       (pss_cons (ps_set (i := 5) sc_least_call.nd rfl (Or.inl rfl) (pe_disp (pps_cons (pe_op op_add (pv 4) pe_int) (pe_call (ok_make_call T) (hr.mono (by decide)) rfl T.m_make_call T.k_make_call T.b_make_call .nil pass0 (pa_cons pe_int (pa_cons (pe_ix ix_str (pv 0) (pv 4) (fun _ _ => rfl)) pa_nil))) pps_nil) rfl rfl (by intro z; cases z) (by decide)))
     (pss_cons (ps_expr (pe_call (ok_add_repeats T) hr rfl T.m_add_repeats T.k_add_repeats T.b_add_repeats .nil pass0 (pa_cons (pv 5) (pa_cons (pv 4) (pa_cons pe_int (pa_cons (pe_ix ix_list (pe_ix ix_list (pv 1) (pv 4) (fun _ _ => rfl)) pe_int (fun _ _ => rfl)) (pa_cons pe_int (pa_cons (pe_ix ix_str (pv 0) (pv 4) (fun _ _ => rfl)) pa_nil))))))))
     (pss_one (ps_for PassesOwn.never rfl (pi_range2 rfl T.g_range (pa_cons (pe_op op_add (pv 4) pe_int) (pa_cons (pe_op op_add (pe_callB call_len_str rfl T.g_len PySem.boot_len (pa_cons (pv 0) pa_nil)) pe_int) pa_nil))) (pg_name (i := 6) sc_least_call.nd rfl (Or.inl rfl))
       (pss_one (ps_if (pt_cmpR op_le (pe_ix ix_list (pv 2) (pv 6) (fun _ _ => rfl)) (pv 4) (nomark _)) (pss_cons (ps_set (i := 7) sc_least_call.nd rfl (Or.inl rfl) (pe_slice sl_str (pv 0) (po_some (pv 4)) (po_some (pv 6))))
     (pss_cons (ps_if (pt_cmp (pc_dnotin (hu_of hr) (pv 7) (pv 3))) (pss_one (ps_dput (hu_of hr) (pv 3) (pv 7) (pe_call (ok_choose_least T) hr rfl T.m_choose_least T.k_choose_least T.b_choose_least .nil pass0 (pa_cons (pv 0) (pa_cons (pv 6) (pa_cons (pv 5) (pa_cons (pv 3) pa_nil))))) rfl)) pss_nil)
     (pss_cons (ps_set (i := 8) sc_least_call.nd rfl (Or.inl rfl) (pe_dget (hu_of hr) (pv 3) (pv 7) (fun _ _ => rfl)))
     (pss_one (ps_if (pt_cmpR (op_neD hr.units) (pv 8) (pe_dget1 (hu_of hr) (pv 5) (pv 6) ⟨rfl, rfl, rfl, rfl⟩) (nomark _)) (pss_cons (ps_set (i := 9) sc_least_call.nd rfl (Or.inl rfl) (pe_op op_sub (pv 6) (pv 4)))
     (pss_one (ps_expr (pe_call (ok_add_repeats T) hr rfl T.m_add_repeats T.k_add_repeats T.b_add_repeats .nil pass0 (pa_cons (pv 5) (pa_cons (pv 4) (pa_cons (pv 9) (pa_cons (pe_ix ix_list (pe_ix ix_list (pv 1) (pv 4) (fun _ _ => rfl)) (pv 9) (fun _ _ => rfl)) (pa_cons (pe_op op_add pe_int (pe_ix ix_tup (pv 8) pe_int (fun _ _ => rfl))) (pa_cons (pe_op op_add_str (pe_op op_add_str pe_str (pe_ix ix_tup (pv 8) pe_int (fun _ _ => rfl))) pe_str) pa_nil)))))))))) pss_nil))))) pss_nil)))))))
     (pss_one (ps_ret (pe_ix ix_tup (pe_dget (hu_of hr) (pv 3) (pv 0) (fun _ _ => rfl)) pe_int (fun _ _ => rfl)))))))), ?_⟩
   have hsl : (sC row).length ≤ sizeLine := few' (by rw [sC_len]; omega)
   have hsn : (((sC row).length : Nat) : Int) = (row.length : Int) := by rw [sC_len]
   have hpos : 1 ≤ row.length := List.length_pos_iff.mpr hne
   refine ⟨_, rfl, row, rfl, hl, hcol, fun H1 tp as rows s1 htp hR hT => ?_⟩
   refine ⟨_, rfl, row, tp, as, rows, rfl, hl, htp, hR, hT, fun H2 fp fs s2 hfp hF => ?_⟩
   intro kn hkn
   have hkn0 : H kn = none := s1.free (s2.free hkn)
   obtain ⟨hT1, hT2⟩ := hT
   obtain ⟨hF1, hF2, hF3⟩ := hF
   refine ⟨_, rfl, sC row, rfl, hsl, _, _, rfl, rfl, _, rfl, _, rfl, (row.length : Int) - 1, -1, -1, row.length, by rw [hsn] <;> rfl, rgc_down _ (by omega), ?_⟩
   refine for_rangeC (lo := (row.length : Int) - 1) (c := -1) (n := row.length) (fun i σ H' => ∃ (v4 v5 v6 v7 v8 v9 : Option V) (kks : List (L2.Key × V)), σ = [some (.str (sC row)), some (.ref tp), some (.ref fp), some (.ref kn), v4, v5, v6, v7, v8, v9] ∧ kks.length ≤ i * 200 ∧
     LcAt H H' row tp as rows fp fs kn kks (row.length - 1 - i) 0 ∧ Pres row fs kks (row.length - i) (row.length + 1))
     ⟨none, none, none, none, none, none, [], rfl, Nat.zero_le _, ⟨?_, ?_, ?_, ?_, hkn0, upd_same, (fun _ _ z => nomatch z), fun s' h1 e v h2 h3 => by omega, fun e v h1 h2 => by omega⟩, fun e v h1 h2 => by omega⟩ ?_ ?_
   · exact same_upd (s1.trans s2) hkn0
   · exact same_new hkn _ _ (s2 _ _ htp)
   · exact (hR.same s2).same (same_new hkn)
   · exact same_new hkn _ _ hfp
   · rintro i σ H3 hi ⟨v4, v5, v6, v7, v8, v9, kks, rfl, hkl, L, hPr⟩
     rw [down_at hi]
     have hold : ∀ s', row.length - 1 - i < s' → Pres row fs kks s' (row.length + 1) := L.old
     generalize hst : row.length - 1 - i = st at L hold
     have hstl : st < row.length := by omega
     have hsti : row.length - i = st + 1 := by omega
     obtain ⟨c, hc⟩ : ∃ c, row[st]? = some c := ⟨_, List.getElem?_eq_getElem hstl⟩
     have hgc : row.getD st 0 = c := by rw [List.getD_eq_getElem?_getD, hc]; rfl
     intro fi hfi
     refine ⟨_, rfl, _, _, rfl, rfl, _, rfl, _, rfl, sC row, _, _, rfl, rfl, hsl, sC_at hc, 1, _, rfl, few' (by show 1 ≤ 10000000; decide), fun q hq => ?_⟩
     have nfq : fi ≠ q := ne_of_none upd_same hq
     refine ⟨upd_at upd_same nfq, [(.inl ((st : Int) + 1), .ref q)], rfl, by simp, ?_⟩
     have hq3 : H3 q = none := by rw [upd_ne nfq.symm] at hq; exact hq
     have hfi0 : H fi = none := L.same.free hfi
     have hst1 : (st : Int) + 1 = ((st + 1 : Nat) : Int) := by omega
     have s4 : Same H3 (upd (upd (upd H3 fi (.dK [])) q (.tup [.int 1, .int (((⟨#[(Rg.byteOf c).toNat]⟩ : Str).length : Nat) : Int), .str ⟨#[(Rg.byteOf c).toNat]⟩])) fi (.dK (mergeK [] [(.inl ((st : Int) + 1), .ref q)]))) := same_upd (same_upd (same_new hfi) hq3) hfi
     have hd4 : (upd (upd (upd H3 fi (.dK [])) q (.tup [.int 1, .int (((⟨#[(Rg.byteOf c).toNat]⟩ : Str).length : Nat) : Int), .str ⟨#[(Rg.byteOf c).toNat]⟩])) fi (.dK (mergeK [] [(.inl ((st : Int) + 1), .ref q)]))) fi = some (.dK (putK [] (.inl ((st + 1 : Nat) : Int)) (.ref q))) := upd_same
     have hq4 : (upd (upd (upd H3 fi (.dK [])) q (.tup [.int 1, .int (((⟨#[(Rg.byteOf c).toNat]⟩ : Str).length : Nat) : Int), .str ⟨#[(Rg.byteOf c).toNat]⟩])) fi (.dK (mergeK [] [(.inl ((st : Int) + 1), .ref q)]))) q = some (.tup (keyV (Lm.oneK c 1))) := by
       rw [upd_at upd_same nfq.symm]
       unfold Lm.oneK
       rw [Lm.one_key]
       rfl
     generalize (upd (upd (upd H3 fi (.dK [])) q (.tup [.int 1, .int (((⟨#[(Rg.byteOf c).toNat]⟩ : Str).length : Nat) : Int), .str ⟨#[(Rg.byteOf c).toNat]⟩])) fi (.dK (mergeK [] [(.inl ((st : Int) + 1), .ref q)]))) = H4 at s4 hd4 hq4
     have L4 := L.grow s4
     have hD4 : DI H4 (putK [] (.inl ((st + 1 : Nat) : Int)) (.ref q)) (Lm.putO (fun _ => none) (st + 1) (Lm.oneK c 1)) := DI.put ⟨fun _ _ => rfl, (fun _ _ z => by cases z), (fun _ _ z => by cases z)⟩ hq4
     have nfk : fi ≠ kn := fun z => by
       have := L.known
       rw [← z, hfi] at this
       cases this
     obtain ⟨r, hrr⟩ : ∃ r, rows[st]? = some r := ⟨_, List.getElem?_eq_getElem (by omega)⟩
     obtain ⟨ra, hra, hre⟩ := L4.rws.get' hrr
     obtain ⟨hr1, hr2⟩ := hT2 st r hrr
     obtain ⟨t1, ht1, ht2⟩ := hr2 1 (Nat.le_refl _) hpos
     have ht1s := tm_small (Nat.le_refl _) hl ht2
     refine ⟨_, rfl, _, rfl, _, rfl, _, rfl, tp, _, _, V.ref ra, rfl, rfl, SqL.of L4.times, at_of (j := st) rfl (mapAt hra), ra, _, _, _, rfl, rfl, SqL.of hre, at_of (j := 1) rfl (mapAt ht1), _, rfl, _, rfl, sC row, _, _, rfl, rfl, hsl, sC_at hc,
       fi, _, _, st, 1, t1, 2, [Rg.byteOf c], Lm.oneK c, rfl, hd4, hD4, by have : (putK [] (.inl ((st + 1 : Nat) : Int)) (V.ref q) : List (L2.Key × V)).length = 1 := rfl; omega, by simp, ht1s, fun m h1 _ => one_words h1, fun H5 kvs5 f5 hd5 hD5 hA5 hl5 b5 => ?_⟩
     have L5 := L4.but hd4 hfi0 nfk b5
     have F5 : Lm.Fst row st (st + 1) f5 := Lm.fst_begin hstl hl ht2 (by rw [hgc]; exact hA5)
     have hl5 : kvs5.length ≤ 200 := by
       have : (putK [] (.inl ((st + 1 : Nat) : Int)) (V.ref q) : List (L2.Key × V)).length = 1 := rfl
       omega
     have hcount : ((row.length : Int) + 1 - ((st : Int) + 1)).toNat = row.length - st := by omega
     refine ⟨_, rfl, _, _, rfl, rfl, _, rfl, sC row, rfl, hsl, _, _, rfl, rfl, (st : Int) + 1, (row.length : Int) + 1, by rw [hsn] <;> rfl, ⟨by omega, by omega, by omega, by omega⟩, ?_⟩
     rw [hcount]
     refine for_range (lo := (st : Int) + 1) (n := row.length - st) (fun j σ H' => ∃ (v6 v7 v8 v9 : Option V) (kks' kvs : List (L2.Key × V)) (f : Nat → Option Lm.Key), σ = [some (.str (sC row)), some (.ref tp), some (.ref fp), some (.ref kn), some (.int (st : Int)), some (.ref fi), v6, v7, v8, v9] ∧ kks'.length ≤ i * 200 + j ∧
       LcAt H H' row tp as rows fp fs kn kks' st (st + 1 + j) ∧ H' fi = some (.dK kvs) ∧ DI H' kvs f ∧ kvs.length ≤ 200 * (j + 1) ∧ Lm.Fst row st (st + 1 + j) f)
       ⟨_, _, _, _, kks, kvs5, f5, rfl, hkl, ⟨L5.same, L5.times, L5.rws, L5.firsts, L5.nkn, L5.known, L5.kd, L5.old, fun e v h1 h2 => by omega⟩, hd5, hD5, by omega, F5⟩ ?_ ?_
     · rintro j σ H6 hj ⟨v6', v7', v8', v9', kks6, kvs6, f6, rfl, hkl6, L6, hd6, hD6, hl6, F6⟩
       have hev : (st : Int) + 1 + (j : Int) = ((st + 1 + j : Nat) : Int) := by omega
       rw [hev]
       generalize he : st + 1 + j = e at L6 F6
       have hej : st + 1 + (j + 1) = e + 1 := by omega
       have hes : st < e := by omega
       have hel : e ≤ row.length := by omega
       obtain ⟨v, hv⟩ : ∃ v, fs[e]? = some v := ⟨_, List.getElem?_eq_getElem (by omega)⟩
       rw [hej]
       refine ⟨_, rfl, _, rfl, fp, _, _, natV v, rfl, rfl, SqL.of L6.firsts, at_of (j := e) rfl (mapAt hv), _, rfl, _, _, rfl, rfl, _, rfl, dcase (fun hle => ?_) fun hle => ?_⟩
       · have hle : v ≤ st := by omega
         have hu62 : ∀ x ∈ Lm.str row st (e - st), x < 62 := str_mem hcol
         have hune : Lm.str row st (e - st) ≠ [] := Lm.str_ne (by omega) (by omega)
         refine ⟨_, rfl, _, rfl, _, rfl, _, rfl, _, rfl, sC row, rfl, hsl, ?_⟩
         rw [sC_cut row (Nat.le_of_lt hes) hel]
         have hget6 : DGet H6 kn (.str (sC (Lm.str row st (e - st)))) (valV kks6 (.inr (sC (Lm.str row st (e - st))))) := DGet.k (k := .inr (sC (Lm.str row st (e - st)))) L6.known
         refine ⟨_, rfl, _, rfl, kn, _, rfl, hget6, _, rfl, join2 (R := fun H7 => ∃ kks7 : List (L2.Key × V), kks7.length ≤ i * 200 + (j + 1) ∧ LcAt H H7 row tp as rows fp fs kn kks7 st (e + 1) ∧ H7 fi = some (.dK kvs6) ∧ DI H7 kvs6 f6 ∧ (valV kks7 (.inr (sC (Lm.str row st (e - st))))).isSome = true)
           (fun H7 hR7 => ?_) (fun hno cont => ?_) fun hyes => ?_⟩
         · obtain ⟨kks7, hkl7, L7, hd7, hD7, hs7⟩ := hR7
           obtain ⟨q7, hq7, hq7'⟩ := L7.kd.get hu62 hs7
           have hget7 : DGet H7 kn (.str (sC (Lm.str row st (e - st)))) (some (.ref q7)) := by
             rw [← hq7]
             exact DGet.k (k := .inr (sC (Lm.str row st (e - st)))) L7.known
           refine ⟨_, rfl, _, rfl, kn, _, rfl, hget7, ?_⟩
           refine ⟨_, rfl, _, rfl, fi, rfl, .inl ⟨_, .inl hd7⟩, _, rfl, _, DGet.k (k := .inl (e : Int)) hd7, ?_⟩
           have same : f6 e = some (Lm.lk (Lm.str row st (e - st))) → ∃ (v6 v7 v8 v9 : Option V) (kks' kvs : List (L2.Key × V)) (f : Nat → Option Lm.Key), [some (V.str (sC row)), some (.ref tp), some (.ref fp), some (.ref kn), some (.int (st : Int)), some (.ref fi), some (.int (e : Int)), some (.str (sC (Lm.str row st (e - st)))), some (.ref q7), v9'] = [some (.str (sC row)), some (.ref tp), some (.ref fp), some (.ref kn), some (.int (st : Int)), some (.ref fi), v6, v7, v8, v9] ∧ kks'.length ≤ i * 200 + (j + 1) ∧
               LcAt H H7 row tp as rows fp fs kn kks' st (e + 1) ∧ H7 fi = some (.dK kvs) ∧ DI H7 kvs f ∧ kvs.length ≤ 200 * (j + 1 + 1) ∧ Lm.Fst row st (e + 1) f := fun hs =>
             ⟨_, _, _, _, kks7, kvs6, f6, rfl, hkl7, L7, hd7, hD7, by omega, Lm.fst_same F6 hs⟩
           have hnek : f6 e ≠ some (Lm.lk (Lm.str row st (e - st))) → ∀ (H8 : Hp) (kvs8 : List (L2.Key × V)) (f8 : Nat → Option Lm.Key) (tt : Nat), Lm.Tm row st (e - st) tt → tt < 200 → H8 fi = some (.dK kvs8) → DI H8 kvs8 f8 → Lm.Added f6 f8 st (e - st) (fun m => Lm.groupK m (Lm.lk (Lm.str row st (e - st)))) tt → kvs8.length ≤ kvs6.length + tt → But [fi] H7 H8 →
               ∃ (v6 v7 v8 v9 : Option V) (kks' kvs : List (L2.Key × V)) (f : Nat → Option Lm.Key), [some (V.str (sC row)), some (.ref tp), some (.ref fp), some (.ref kn), some (.int (st : Int)), some (.ref fi), some (.int (e : Int)), some (.str (sC (Lm.str row st (e - st)))), some (.ref q7), some (.int ((e - st : Nat) : Int))] = [some (.str (sC row)), some (.ref tp), some (.ref fp), some (.ref kn), some (.int (st : Int)), some (.ref fi), v6, v7, v8, v9] ∧ kks'.length ≤ i * 200 + (j + 1) ∧
               LcAt H H8 row tp as rows fp fs kn kks' st (e + 1) ∧ H8 fi = some (.dK kvs) ∧ DI H8 kvs f ∧ kvs.length ≤ 200 * (j + 1 + 1) ∧ Lm.Fst row st (e + 1) f := fun hneq H8 kvs8 f8 tt hTm htt hd8 hD8 hA8 hl8 b8 =>
             ⟨_, _, _, _, kks7, kvs8, f8, rfl, hkl7, L7.but hd7 hfi0 nfk b8, hd8, hD8, by omega, Lm.fst_groups F6 hl hes hel hneq hTm hA8⟩
           obtain ⟨dy, hdy, hsh, hev⟩ : ∃ dy, Dp K H7 ((valV kvs6 (.inl (e : Int))).getD .non) dy ∧ SeqAt.shaped dy = true ∧ PyData.eqv (triD (triK (Lm.lk (Lm.str row st (e - st))))) dy = decide (f6 e = some (Lm.lk (Lm.str row st (e - st)))) := by
             cases ho : f6 e with
             | none =>
               rw [hD7.non _ ho]
               exact ⟨.none, .non, shaped_none, by rw [eqv_triN]; exact (decide_eq_false (by intro z; cases z)).symm⟩
             | some κ0 =>
               obtain ⟨qo, h1, h2⟩ := hD7.som _ _ ho
               rw [h1]
               refine ⟨triD (triK κ0), dp_tri h2, shaped_tri _, ?_⟩
               rw [eqv_tri]
               refine decide_eq_decide.mpr ⟨fun z => by rw [triK_inj z], fun z => by rw [Option.some.inj z]⟩
           refine ⟨_, dy, dp_tri hq7', hdy, shaped_tri _, hsh, _, rfl, ?_⟩
           rw [hev]
           refine ncase (fun hneq => ?_) fun heq => same heq
           refine ⟨_, rfl, _, rfl, _, _, rfl, rfl, ?_⟩
           have hsz : (e : Int) - (st : Int) = ((e - st : Nat) : Int) := by omega
           dsimp only
           rw [hsz]
           obtain ⟨tt, htt1, htt2⟩ := hr2 (e - st) (by omega) (by omega)
           have htts := tm_small (by omega) hl htt2
           obtain ⟨ra7, hra7, hre7⟩ := L7.rws.get' hrr
           have hlkl := Lm.lk_len hune (by rw [Lm.str_len (by omega)]; omega)
           have hlko := Lm.lk_ok (Lm.str row st (e - st))
           have hbt : (Lm.lk (Lm.str row st (e - st))).2.2.length ≤ 512 := by unfold Lm.okK at hlko; omega
           have el1 : (("(" : Str)).length + (sB (Lm.lk (Lm.str row st (e - st))).2.2).length ≤ sizeLine := few' (by rw [lit_open, sB_len, sB_len]; simp only [List.length_cons, List.length_nil]; omega)
           have el2 : ((("(" : Str)) ++ sB (Lm.lk (Lm.str row st (e - st))).2.2).length + ((")" : Str)).length ≤ sizeLine := few' (by rw [strLen_append, lit_open, lit_close, sB_len, sB_len, sB_len]; simp only [List.length_cons, List.length_nil]; omega)
           have etx : ((("(" : Str)) ++ sB (Lm.lk (Lm.str row st (e - st))).2.2) ++ (")" : Str) = sB (40 :: ((Lm.lk (Lm.str row st (e - st))).2.2 ++ [41])) := by
             rw [lit_open, lit_close, ← sB_append, ← sB_append]
             rfl
           refine ⟨_, rfl, _, rfl, _, rfl, _, rfl, _, rfl, tp, _, _, V.ref ra7, rfl, rfl, SqL.of L7.times, at_of (j := st) rfl (mapAt hra7), _, rfl, ra7, _, _, _, rfl, rfl, SqL.of hre7, at_of (j := e - st) rfl (mapAt htt1),
             _, rfl, q7, _, _, _, rfl, rfl, SqT.of hq7', pick1, _, _, rfl, rfl, _, rfl, q7, _, _, _, rfl, rfl, SqT.of hq7', pick3, _, _, rfl, rfl, el1, _, _, rfl, rfl, el2,
             fi, kvs6, f6, st, e - st, tt, 2 + (Lm.lk (Lm.str row st (e - st))).1, 40 :: ((Lm.lk (Lm.str row st (e - st))).2.2 ++ [41]), fun m => Lm.groupK m (Lm.lk (Lm.str row st (e - st))), by rw [etx] <;> rfl, hd7, hD7, by omega, by simp only [List.length_cons, List.length_append, List.length_nil]; omega, htts, fun m _ _ => rfl,
             fun H8 kvs8 f8 hd8 hD8 hA8 hl8 b8 => hnek hneq H8 kvs8 f8 tt htt2 htts hd8 hD8 hA8 hl8 b8⟩
         · -- it is not known yet
           refine ⟨_, rfl, _, rfl, _, rfl, _, rfl, row, e, fi, kn, kvs6, kks6, f6, rfl, hl, hel, hcol, hd6, hD6, fun t κ hf => ?_, L6.known, L6.kd, nfk, fun t κ hf hlt => ?_, ?_, fun H7 q7 κ s7 hq7 hch => ?_⟩
           · have S := F6.snd _ _ hf
             obtain ⟨x, _, _, hx⟩ := S.it
             exact ⟨S.small, by rw [hx]; exact Lm.okK_keyOf _⟩
           · exact L6.old t (F6.snd _ _ hf).lo e v hlt (by omega) hv (by have := (F6.snd _ _ hf).lo; omega)
           · obtain ⟨κ, h1, _⟩ := F6.one 1 (Nat.le_refl _) (by omega) (Lm.str_one hstl)
             by_cases hee : e = st + 1
             · exact .inl (by rw [hee, h1]; intro z; cases z)
             · exact .inr ⟨st + 1, by omega, by rw [h1]; intro z; cases z⟩
           · have hκ := Lm.chosen_eq F6 hes hel hch
             subst hκ
             have L7 := L6.grow s7
             refine ⟨_, rfl, _, rfl, kn, _, rfl, DPut.k (k := .inr (sC (Lm.str row st (e - st)))) L7.known (few (by omega)), cont _ ⟨putK kks6 (.inr (sC (Lm.str row st (e - st)))) (.ref q7), ?_, ?_, ?_, ?_, ?_⟩⟩
             · have := length_putK kks6 (.inr (sC (Lm.str row st (e - st)))) (.ref q7)
               omega
             · have tps : Tups H7 (upd H7 kn (.dK (putK kks6 (.inr (sC (Lm.str row st (e - st)))) (.ref q7)))) := Tups.upd (fun _ _ z => z) L7.known (by intro xs z; cases z)
               have kl : ∀ x xs, H7 x = some (.lst xs) → (upd H7 kn (.dK (putK kks6 (.inr (sC (Lm.str row st (e - st)))) (.ref q7)))) x = some (.lst xs) := fun x xs z => upd_at z (ne_of z L7.known (by intro y; cases y))
               refine ⟨same_upd L7.same L7.nkn, kl _ _ L7.times, ?_, kl _ _ L7.firsts, L7.nkn, upd_same, (L7.kd.put hune hu62 hq7).mono tps, fun s' h1 e' v' h2 h3 h4 h5 => put_some (L7.old s' h1 e' v' h2 h3 h4 h5), fun e' v' h1 h2 h3 h4 => ?_⟩
               · have R := L7.rws
                 exact R.mono fun x hx o z => upd_at z fun y => by
                   obtain ⟨n0, hn0⟩ := List.getElem?_of_mem hx
                   obtain ⟨r0, _, z2⟩ := R.get hn0
                   rw [y, L7.known] at z2
                   cases z2
               · by_cases hee : e' = e
                 · rw [hee, valV_put, if_pos rfl]
                   rfl
                 · exact put_some (L7.now e' v' h1 (by omega) h3 h4)
             · exact upd_at (s7 _ _ hd6) nfk
             · exact hD6.mono (Tups.upd (Tups.of_same s7) L6.known (by intro xs z; cases z))
             · rw [valV_put, if_pos rfl]
               rfl
         · refine ⟨kks6, by omega, ⟨L6.same, L6.times, L6.rws, L6.firsts, L6.nkn, L6.known, L6.kd, L6.old, fun e' v' h1 h2 h3 h4 => ?_⟩, hd6, hD6, by simpa using hyes⟩
           by_cases hee : e' = e
           · rw [hee]
             simpa using hyes
           · exact L6.now e' v' h1 (by omega) h3 h4
       · refine ⟨_, _, _, _, kks6, kvs6, f6, rfl, by omega, ⟨L6.same, L6.times, L6.rws, L6.firsts, L6.nkn, L6.known, L6.kd, L6.old, fun e' v' h1 h2 h3 h4 => ?_⟩, hd6, hD6, by omega, Lm.fst_skip F6 fun h2 hrep => ?_⟩
         · by_cases hee : e' = e
           · rw [hee, hv] at h3
             have := Option.some.inj h3
             omega
           · exact L6.now e' v' h1 (by omega) h3 h4
         · have r1 := hrep.1
           have hlt : st + (e - st) < row.length := by omega
           have := hF3 st (e - st) v h2 hlt hrep (by rw [show st + (e - st) = e by omega]; exact hv)
           omega
     · rintro σ H6 ⟨v6', v7', v8', v9', kks6, kvs6, f6, rfl, hkl6, L6, hd6, hD6, hl6, F6⟩
       have he : st + 1 + (row.length - st) = row.length + 1 := by omega
       rw [he] at L6
       refine ⟨_, _, _, _, _, _, kks6, rfl, by omega, ⟨L6.same, L6.times, L6.rws, L6.firsts, L6.nkn, L6.known, L6.kd, fun s' h1 => ?_, fun e v h1 h2 => by omega⟩, ?_⟩
       · by_cases hs' : s' = st
         · rw [hs']
           exact L6.now
         · exact L6.old s' (by omega)
       · rw [show row.length - (i + 1) = st by omega]
         exact L6.now
   · rintro σ H3 ⟨v4, v5, v6, v7, v8, v9, kks, rfl, hkl, L, hPr⟩
     have hall := hPr row.length 0 (by omega) (by omega) hF2 (by omega)
     have e0 : Lm.str row (row.length - row.length) (row.length - (row.length - row.length)) = row := by
       rw [Nat.sub_self]
       unfold Lm.str
       rw [List.drop_zero, Nat.sub_zero, List.take_length]
     rw [e0] at hall
     obtain ⟨q, hq1, hq2⟩ := L.kd.get hcol hall
     refine ⟨_, rfl, _, rfl, kn, _, rfl, by rw [← hq1]; exact DGet.k (k := .inr (sC row)) L.known, q, _, _, _, rfl, rfl, SqT.of hq2, pick3, ?_⟩
     exact k H3 L.same
end
end Kn
set_option Elab.async false
set_option linter.all false
set_option maxRecDepth 100000
set_option maxHeartbeats 2000000
namespace Kn
open PySem PySem.Spec PyProof.Rows L2 Km
section
variable {P : Program} {w : World} {K : W.Frag} {mg : Str → Option Value} {base : Heap} {A : Ad} {D : Fds}
def sp_is_colour : Sp := fun vs H Q _ => ∃ b : Int, vs = [.int b] ∧ Q (.bl (Lm.isCol b)) H
theorem ok_is_colour (T : Txt K mg A D) : FnOk P w K mg base CX0 1 A.a_is_colour D.d_is_colour ["byte"] sp_is_colour := by
 refine T.f_is_colour.ok sc_is_colour (fun vs H Q E h => ?_) (fun cdv Ar outer s H vs Q E hr h => ?_)
 · obtain ⟨b, rfl, _⟩ := h
   rfl
 · obtain ⟨b, rfl, k⟩ := h
   refine ⟨_, (pss_one (ps_ret (pe_or (pe_chain op_le op_le pe_int (pv 0) pe_int) (pe_or (pe_chain op_le op_le pe_int (pv 0) pe_int) (pe_one (pe_chain op_le op_le pe_int (pv 0) pe_int)))))), ?_⟩
   refine ⟨_, rfl, _, _, rfl, rfl, _, rfl, chain_if ⟨_, rfl, bcase (fun e1 => ?_) fun e1 => ?_⟩⟩
   · unfold Lm.isCol at k
     rw [e1, Bool.true_or] at k
     exact k
   · refine ⟨_, rfl, _, _, rfl, rfl, _, rfl, chain_if ⟨_, rfl, bcase (fun e2 => ?_) fun e2 => ?_⟩⟩
     · unfold Lm.isCol at k
       rw [e1, e2, Bool.true_or, Bool.or_true] at k
       exact k
     · refine ⟨_, rfl, _, _, rfl, rfl, _, rfl, chain_if ?_⟩
       unfold Lm.isCol at k
       rw [e1, e2, Bool.false_or, Bool.false_or] at k
       exact k
def sp_are_colours (K : W.Frag) : Sp := fun vs H Q _ => ∃ (a : Addr) (ns : List Int), vs = [.ref a] ∧ SqL K H a (ns.map V.int) ∧ ns.length ≤ 100000 ∧ ∀ H', Same H H' → Q (.bl (ns.all Lm.isCol)) H'
theorem ok_are_colours (T : Txt K mg A D) : FnOk P w K mg base CX0 2 A.a_are_colours D.d_are_colours ["text"] (sp_are_colours K) := by
 refine T.f_are_colours.ok sc_are_colours (fun vs H Q E h => ?_) (fun cdv Ar outer s H vs Q E hr h => ?_)
 · obtain ⟨a, ns, rfl, _⟩ := h
   rfl
 · obtain ⟨a, ns, rfl, hS, hl, k⟩ := h
   refine ⟨_, (pss_one (ps_ret (pe_callB (cr_all rfl) rfl T.g_all boot_all (pa_cons (pe_lc (own := [("byte", 1)]) rfl sc_are_colours.nd (pi_list (pv 0)) (blkOk_by (by show blkC ["text", "byte"] (defScope s_are_colours) _ _ = true; decide +kernel)) (fun _ _ _ _ _ => (pg_name (i := 1) sc_are_colours.nd rfl (Or.inl rfl))) (fun _ _ _ _ _ => pts_nil) (fun _ _ _ _ _ => (pe_call (ok_is_colour T) hr rfl T.m_is_colour T.k_is_colour T.b_is_colour .nil pass0 (pa_cons (pv 1) pa_nil)))) pa_nil)))), ?_⟩
   refine ⟨_, rfl, a, rfl, ⟨_, hS⟩, fun d hd => lc_list (K := K) (a := a) (xs := ns.map V.int) (fun i H' => Same H H' ∧ H' d = some (.lst (((ns.take i).map Lm.isCol).map V.bl))) ⟨same_new hd, upd_same⟩ (fun i H' _ p => p.1.seq hS) ?_ ?_⟩
   · rintro i x H' hx ⟨s1, h1⟩
     obtain ⟨b, hb, rfl⟩ := map_get hx
     have hi := lt_of_get hb
     refine ⟨rfl, yes_if ⟨_, rfl, b, rfl, _, h1, few (by rw [List.length_map, List.length_map, List.length_take]; omega), same_upd s1 hd, ?_⟩⟩
     rw [upd_same, take_snoc hb, List.map_append, List.map_append]
     rfl
   · rintro H' ⟨s1, h1⟩
     rw [List.length_map, List.take_length] at h1
     refine ⟨d, ns.map Lm.isCol, rfl, SqL.of h1, ?_⟩
     have e : (ns.map Lm.isCol).all id = ns.all Lm.isCol := by rw [List.all_map]; rfl
     rw [e]
     exact k H' s1
def sp_is_size : Sp := fun vs H Q _ => ∃ w h : Nat, vs = [.int w, .int h] ∧ w < 1000000 ∧ Q (.bl (Lm.sized w h)) H
theorem ok_is_size (T : Txt K mg A D) : FnOk P w K mg base CX0 1 A.a_is_size D.d_is_size ["width", "height"] sp_is_size := by
 refine T.f_is_size.ok sc_is_size (fun vs H Q E h => ?_) (fun cdv Ar outer s H vs Q E hr h => ?_)
 · obtain ⟨w, h, rfl, _⟩ := h
   rfl
 · obtain ⟨w, h, rfl, hw, k⟩ := h
   refine ⟨_, (pss_one (ps_ret (pe_and (pe_chain op_le op_le pe_int (pv 0) (pe_glob (v := .int (512)) rfl T.c_WIDEST ⟨_, rfl⟩)) (pe_and (pe_chain op_le op_le pe_int (pv 1) (pe_glob (v := .int (512)) rfl T.c_HIGHEST ⟨_, rfl⟩)) (pe_one (pe_cmpR op_le (pe_op op_mul (pv 0) (pv 1)) (pe_glob (v := .int (65536)) rfl T.c_MOST_KNOTS ⟨_, rfl⟩) (nomark _))))))), ?_⟩
   have e : Lm.sized w h = ((decide ((1 : Int) ≤ (w : Int)) && decide ((w : Int) ≤ 512)) && ((decide ((1 : Int) ≤ (h : Int)) && decide ((h : Int) ≤ 512)) && decide ((w : Int) * (h : Int) ≤ 65536))) := by
     have z : ((w : Int) * (h : Int) ≤ 65536) ↔ w * h ≤ 65536 := by
       rw [← Int.natCast_mul]
       exact Int.ofNat_le
     have z1 : ((1 : Int) ≤ (w : Int)) ↔ 1 ≤ w := by omega
     have z2 : ((w : Int) ≤ 512) ↔ w ≤ 512 := by omega
     have z3 : ((1 : Int) ≤ (h : Int)) ↔ 1 ≤ h := by omega
     have z4 : ((h : Int) ≤ 512) ↔ h ≤ 512 := by omega
     unfold Lm.sized
     simp only [z, z1, z2, z3, z4, Bool.and_assoc]
   rw [e] at k
   refine ⟨_, rfl, _, _, rfl, rfl, _, rfl, chain_if ⟨_, rfl, bcase (fun e1 => ?_) fun e1 => ?_⟩⟩
   · rw [e1, Bool.true_and] at k
     refine ⟨_, rfl, _, _, rfl, rfl, _, rfl, chain_if ⟨_, rfl, bcase (fun e2 => ?_) fun e2 => ?_⟩⟩
     · rw [e2, Bool.true_and] at k
       exact ⟨_, rfl, _, rfl, _, _, rfl, rfl, .inl ⟨by omega, by omega⟩, _, _, rfl, rfl, k⟩
     · rw [e2, Bool.false_and] at k
       exact k
   · rw [e1, Bool.false_and] at k
     exact k
def sp_split_rows (K : W.Frag) : Sp := fun vs H Q _ => ∃ (a : Addr) (ns : List Int), vs = [.ref a] ∧ SqL K H a (ns.map V.int) ∧ ns.length ≤ 100000 ∧
 ∀ (H' : Hp) (p : Addr) (as : List Addr), Same H H' → H p = none → (∀ b ∈ as, H b = none) → H' p = some (.lst (as.map V.ref)) → p ∉ as → Rws H' as (Lm.split [] ns) → Q (.ref p) H'
structure SplitAt (H H' : Hp) (p q : Addr) (ns : List Int) (i : Nat) (as : List Addr) (done : List (List Int)) (cur : List Int) : Prop where
 same : Same H H'
 np : H p = none
 nq : H q = none
 nas : ∀ b ∈ as, H b = none
 lst : H' p = some (.lst (as.map V.ref))
 curr : H' q = some (.lst (cur.map V.int))
 rws : Rws H' as done
 pq : p ≠ q
 pas : p ∉ as
 qas : q ∉ as
 eq : done ++ Lm.split cur (ns.drop i) = Lm.split [] ns
 l1 : done.length ≤ i
 l2 : cur.length ≤ i
theorem ok_split_rows (T : Txt K mg A D) : FnOk P w K mg base CX0 1 A.a_split_rows D.d_split_rows ["text"] (sp_split_rows K) := by
 refine T.f_split_rows.ok sc_split_rows (fun vs H Q E h => ?_) (fun cdv Ar outer s H vs Q E hr h => ?_)
 · obtain ⟨a, ns, rfl, _⟩ := h
   rfl
 · obtain ⟨a, ns, rfl, hS, hl, k⟩ := h
   refine ⟨_, (pss_cons (ps_set (i := 1) sc_split_rows.nd rfl (Or.inl rfl) (pe_lst pa_nil))
     (pss_cons (ps_set (i := 2) sc_split_rows.nd rfl (Or.inl rfl) (pe_lst pa_nil))
     (pss_cons (ps_for PassesOwn.never rfl (pi_list (pv 0)) (pg_name (i := 3) sc_split_rows.nd rfl (Or.inl rfl))
       (pss_one (ps_if (pt_cmpR op_eq (pv 3) (pe_glob (v := .int (10)) rfl T.c_ROW_END ⟨_, rfl⟩) (nomark _)) (pss_cons (ps_expr (pe_bm PySem.F.plainAttrs_list PySem.F.slot_list_append PySem.F.type_list_append mt_append (pv 1) (pa_cons (pv 2) pa_nil)))
     (pss_one (ps_set (i := 2) sc_split_rows.nd rfl (Or.inl rfl) (pe_lst pa_nil)))) (pss_one (ps_expr (pe_bm PySem.F.plainAttrs_list PySem.F.slot_list_append PySem.F.type_list_append mt_append (pv 2) (pa_cons (pv 3) pa_nil)))))))
     (pss_one (ps_ret (pv 1)))))), ?_⟩
   refine ⟨Nat.zero_le _, fun p hp => ⟨Nat.zero_le _, fun q hq => ?_⟩⟩
   have npq : p ≠ q := ne_of_none upd_same hq
   have hq0 : H q = none := by rw [upd_ne npq.symm] at hq; exact hq
   have s0 : Same H (upd (upd H p (.lst [])) q (.lst [])) := same_upd (same_new hp) hq0
   refine ⟨_, rfl, a, rfl, ⟨_, s0.seq hS⟩, for_list (K := K) (a := a) (xs := ns.map V.int) (fun i σ H' => ∃ (v : Option V) (r : Addr) (as : List Addr) (done : List (List Int)) (cur : List Int), σ = [some (.ref a), some (.ref p), some (.ref r), v] ∧ SplitAt H H' p r ns i as done cur)
     ⟨none, q, [], [], [], rfl, s0, hp, hq0, (fun _ z => nomatch z), upd_at upd_same npq, upd_same, .nil, npq, (fun z => nomatch z), (fun z => nomatch z), rfl, Nat.le_refl _, Nat.le_refl _⟩ (fun i σ H' _ ⟨_, _, _, _, _, _, S⟩ => S.same.seq hS) ?_ ?_⟩
   · rintro i x σ H' hx ⟨v, r, as, done, cur, rfl, S⟩
     obtain ⟨b, hb, rfl⟩ := map_get hx
     have hi := lt_of_get hb
     have hd := S.eq
     rw [drop_cons hb] at hd
     refine ⟨_, rfl, rfl, _, rfl, dcase (fun e => ?_) fun e => ?_⟩
     · have e := eqI.mp e
       rw [Lm.split, if_pos e] at hd
       refine ⟨_, rfl, .inl ⟨rfl, _, SqL.of S.lst⟩, _, rfl, p, _, _, rfl, rfl, S.lst, few (by have := S.l1; have := S.rws.length; rw [List.length_map]; omega), Nat.zero_le _, fun q2 hq2 => ?_⟩
       have npq2 : p ≠ q2 := ne_of_none upd_same hq2
       have hq2' : H' q2 = none := by rw [upd_ne npq2.symm] at hq2; exact hq2
       have hq3 : H q2 = none := S.same.free hq2'
       refine ⟨_, q2, as ++ [r], done ++ [cur], [], rfl, same_upd (same_upd S.same S.np) hq3, S.np, hq3, ?_, ?_, upd_same, ?_, npq2, ?_, ?_, ?_, ?_, Nat.zero_le _⟩
       · intro b hb
         rcases List.mem_append.mp hb with z | z
         · exact S.nas b z
         · rw [List.mem_singleton.mp z]; exact S.nq
       · rw [upd_ne npq2, upd_same, List.map_append]
         rfl
       · have rk : ∀ b, b ∈ as ++ [r] → ∀ o, H' b = some o → (upd (upd H' p (.lst (as.map V.ref ++ [V.ref r]))) q2 (.lst [])) b = some o := fun b hb o e => by
           have h1 : b ≠ q2 := ne_of_none e hq2'
           have h2 : b ≠ p := fun z => by
             rcases List.mem_append.mp hb with y | y
             · exact S.pas (z ▸ y)
             · exact S.pq (z.symm.trans (List.mem_singleton.mp y))
           rw [upd_ne h1, upd_ne h2]
           exact e
         exact (S.rws.snoc S.curr).mono rk
       · intro z
         rcases List.mem_append.mp z with y | y
         · exact S.pas y
         · exact S.pq (List.mem_singleton.mp y)
       · intro z
         rcases List.mem_append.mp z with y | y
         · obtain ⟨o, ho⟩ := S.rws.there q2 y
           rw [hq2'] at ho
           cases ho
         · have := List.mem_singleton.mp y
           rw [this] at hq2'
           rw [S.curr] at hq2'
           cases hq2'
       · rw [List.append_assoc]
         exact hd
       · rw [List.length_append]
         have := S.l1
         show done.length + 1 ≤ i + 1
         omega
     · have e : ¬ b = 10 := fun z => e (eqI.mpr z)
       rw [Lm.split, if_neg e] at hd
       refine ⟨_, rfl, .inl ⟨rfl, _, SqL.of S.curr⟩, _, rfl, r, _, _, rfl, rfl, S.curr, few (by have := S.l2; rw [List.length_map]; omega), ?_⟩
       refine ⟨_, r, as, done, cur ++ [b], rfl, same_upd S.same S.nq, S.np, S.nq, S.nas, upd_at S.lst S.pq, ?_, S.rws.mono fun b hb o e => upd_at e fun z => S.qas (z ▸ hb), S.pq, S.pas, S.qas, hd, Nat.le_succ_of_le S.l1, ?_⟩
       · rw [upd_same, List.map_append]
         rfl
       · rw [List.length_append]
         have := S.l2
         show cur.length + 1 ≤ i + 1
         omega
   · rintro σ H' ⟨v, r, as, done, cur, rfl, S⟩
     have hd := S.eq
     rw [List.length_map, List.drop_length] at hd
     have hd : done ++ [] = Lm.split [] ns := hd
     rw [List.append_nil] at hd
     have rw' := S.rws
     rw [hd] at rw'
     exact ⟨_, rfl, k H' p as S.same S.np S.nas S.lst S.pas rw'⟩
def sp_read_chart (K : W.Frag) : Sp := fun vs H Q _ => ∃ (a : Addr) (ns : List Int), vs = [.ref a] ∧ SqL K H a (ns.map V.int) ∧ ns.length ≤ 100000 ∧ (Lm.readZ ns = none → ∀ H', Same H H' → Q .non H') ∧
 ∀ (rows : List (List Int)), Lm.readZ ns = some rows → ∀ (H' : Hp) (p : Addr) (as : List Addr), Same H H' → H p = none → (∀ b ∈ as, H b = none) → H' p = some (.lst (as.map V.ref)) → p ∉ as → Rws H' as rows → Q (.ref p) H'
theorem split_small : ∀ (ns w : List Int), (Lm.split w ns).length ≤ ns.length ∧ ∀ r ∈ Lm.split w ns, r.length ≤ w.length + ns.length
 | [], w => ⟨Nat.le_refl _, fun _ z => nomatch z⟩
 | b :: ns, w => by
   unfold Lm.split
   by_cases h : b = 10
   · rw [if_pos h]
     obtain ⟨h1, h2⟩ := split_small ns []
     refine ⟨Nat.succ_le_succ h1, fun r hr => ?_⟩
     rcases List.mem_cons.mp hr with rfl | hr
     · exact Nat.le_add_right _ _
     · have := h2 r hr
       simp only [List.length_nil, List.length_cons] at *
       omega
   · rw [if_neg h]
     obtain ⟨h1, h2⟩ := split_small ns (w ++ [b])
     refine ⟨Nat.le_succ_of_le h1, fun r hr => ?_⟩
     have := h2 r hr
     simp only [List.length_append, List.length_nil, List.length_cons] at *
     omega
theorem split_ne : ∀ (ns w : List Int), ns.getLast? = some 10 → Lm.split w ns ≠ []
 | [], _, h => by simp at h
 | [b], w, h => by
   have e : b = 10 := by simpa using h
   subst e
   exact List.cons_ne_nil _ _
 | b :: c :: ns, w, h => by
   have h' : (c :: ns).getLast? = some 10 := by rw [← h, List.getLast?_cons_cons]
   rw [Lm.split]
   split
   · exact List.cons_ne_nil _ _
   · exact split_ne (c :: ns) (w ++ [b]) h'
theorem ok_read_chart (T : Txt K mg A D) : FnOk P w K mg base CX0 3 A.a_read_chart D.d_read_chart ["text"] (sp_read_chart K) := by
 refine T.f_read_chart.ok sc_read_chart (fun vs H Q E h => ?_) (fun cdv Ar outer s H vs Q E hr h => ?_)
 · obtain ⟨a, ns, rfl, _⟩ := h
   rfl
 · obtain ⟨a, ns, rfl, hS, hl, k1, k2⟩ := h
   refine ⟨_, (pss_cons (ps_if (PW.pt (pw_or (pt_not (pt_truth (pv 0) (fun _ => rfl))) (pw_or1 (pt_cmpR op_ne (pe_ix ix_list (pv 0) (pe_un un_neg pe_int) (fun _ _ => rfl)) (pe_glob (v := .int (10)) rfl T.c_ROW_END ⟨_, rfl⟩) (nomark _))))) (pss_one (ps_ret pe_non)) pss_nil)
     (pss_cons (ps_set (i := 1) sc_read_chart.nd rfl (Or.inl rfl) (pe_call (ok_split_rows T) (hr.mono (by decide)) rfl T.m_split_rows T.k_split_rows T.b_split_rows .nil pass0 (pa_cons (pv 0) pa_nil)))
     (pss_cons (ps_if (pt_not (pt_val (pe_call (ok_is_size T) (hr.mono (by decide)) rfl T.m_is_size T.k_is_size T.b_is_size .nil pass0 (pa_cons (pe_callB call_len_seq rfl T.g_len PySem.boot_len (pa_cons (pe_ix ix_list (pv 1) pe_int (fun _ _ => rfl)) pa_nil)) (pa_cons (pe_callB call_len_seq rfl T.g_len PySem.boot_len (pa_cons (pv 1) pa_nil)) pa_nil))))) (pss_one (ps_ret pe_non)) pss_nil)
     (pss_cons (ps_for PassesOwn.never rfl (pi_list (pv 1)) (pg_name (i := 2) sc_read_chart.nd rfl (Or.inl rfl))
       (pss_one (ps_if (PW.pt (pw_or (pt_cmpR op_ne (pe_callB call_len_seq rfl T.g_len PySem.boot_len (pa_cons (pv 2) pa_nil)) (pe_callB call_len_seq rfl T.g_len PySem.boot_len (pa_cons (pe_ix ix_list (pv 1) pe_int (fun _ _ => rfl)) pa_nil)) (nomark _)) (pw_or1 (pt_not (pt_val (pe_call (ok_are_colours T) hr rfl T.m_are_colours T.k_are_colours T.b_are_colours .nil pass0 (pa_cons (pv 2) pa_nil))))))) (pss_one (ps_ret pe_non)) pss_nil)))
     (pss_one (ps_ret (pv 1))))))), ?_⟩
   refine ⟨_, rfl, _, .inl ⟨_, hS, rfl⟩, bcase (fun e => ?_) fun e => ?_⟩
   · -- an empty text
     have e : ns = [] := by
       cases ns with
       | nil => rfl
       | cons _ _ => cases e
     subst e
     exact iteT (k1 (by rfl) H (Same.refl H))
   · have hne : ns ≠ [] := fun z => by
       rw [z] at e
       cases e
     obtain ⟨init, last, hnl⟩ : ∃ i l, ns = i ++ [l] := ⟨_, _, (List.dropLast_concat_getLast hne).symm⟩
     have hlast : ns.getLast? = some last := by rw [hnl]; simp
     refine ⟨_, rfl, _, rfl, a, _, _, V.int last, rfl, rfl, hS, (by rw [hnl, List.map_append]; exact atI_last _ _), rfl, _, rfl, ncase (fun e2 => ?_) fun e2 => ?_⟩
     · -- no row's end
       have e2 : ¬ last = 10 := fun z => e2 (eqI.mpr z)
       refine k1 ?_ H (Same.refl H)
       unfold Lm.readZ
       rw [if_neg fun z => e2 (by have := z.1; rw [hlast] at this; exact Option.some.inj this)]
     · have e2 := eqI.mp e2
       subst e2
       refine ⟨_, rfl, a, ns, rfl, hS, hl, fun H1 p as s1 np nas lst pas rws => ?_⟩
       have hsne := split_ne ns [] hlast
       obtain ⟨hs1, hs2⟩ := split_small ns []
       obtain ⟨r0, rest, hsp⟩ : ∃ r0 rest, Lm.split [] ns = r0 :: rest := by
         cases q : Lm.split [] ns with
         | nil => exact absurd q hsne
         | cons r0 rest => exact ⟨r0, rest, rfl⟩
       obtain ⟨a0, ha0, hr0⟩ := rws.get' (i := 0) (r := r0) (by rw [hsp]; rfl)
       have hr0l : r0.length ≤ ns.length := by
         have := hs2 r0 (by rw [hsp]; exact List.mem_cons_self)
         simpa using this
       have hhead : (Lm.split [] ns).headD [] = r0 := by rw [hsp]; rfl
       have hat0 : atI (as.map V.ref) (0 : Int) = some (V.ref a0) := at_of (j := 0) rfl (by rw [List.getElem?_map, ha0]; rfl)
       have hasl : as.length = (Lm.split [] ns).length := rws.length
       refine ⟨_, rfl, p, _, _, V.ref a0, rfl, rfl, SqL.of lst, hat0, a0, _, rfl, .inl (SqL.of hr0), _, rfl, p, _, rfl, .inl (SqL.of lst), r0.length, (Lm.split [] ns).length, by rw [List.length_map, List.length_map, hasl] <;> rfl, by omega, _, rfl, bcase (fun e3 => ?_) fun e3 => ?_⟩
       · -- the size
         refine k1 ?_ H1 s1
         unfold Lm.readZ Lm.goodRows
         rw [hhead]
         have e3 : Lm.sized r0.length (Lm.split [] ns).length = false := by simpa using e3
         rw [e3, Bool.false_and]
         exact if_neg fun z => Bool.false_ne_true z.2
       · have e3 : Lm.sized r0.length (Lm.split [] ns).length = true := by simpa using e3
         refine ⟨_, rfl, p, rfl, ⟨_, SqL.of lst⟩, for_list (K := K) (a := p) (xs := as.map V.ref) (fun i σ H' => ∃ v : Option V, σ = [some (.ref a), some (.ref p), v] ∧ Same H1 H' ∧ ∀ r ∈ (Lm.split [] ns).take i, r.length = r0.length ∧ ∀ b ∈ r, Lm.isCol b = true)
           ⟨none, rfl, Same.refl H1, fun _ z => nomatch z⟩ (fun i σ H' _ ⟨_, _, s2, _⟩ => SqL.of (s2 _ _ lst)) ?_ ?_⟩
         · rintro i x σ H' hx ⟨v, rfl, s2, hall⟩
           obtain ⟨b, hb, rfl⟩ := map_get hx
           obtain ⟨r, hr, hbr⟩ := rws.get hb
           have hrl : r.length ≤ ns.length := by
             have := hs2 r (List.mem_of_getElem? hr)
             simpa using this
           refine ⟨_, rfl, b, _, rfl, .inl (SqL.of (s2 _ _ hbr)), _, rfl, _, _, _, V.ref a0, rfl, rfl, SqL.of (s2 _ _ lst), hat0, a0, _, rfl, .inl (SqL.of (s2 _ _ hr0)), rfl, _, rfl, ncase (fun e4 => ?_) fun e4 => ?_⟩
           · -- another length
             refine iteT (k1 ?_ H' (s1.trans s2))
             unfold Lm.readZ
             refine if_neg fun z => ?_
             obtain ⟨_, z2⟩ := (Lm.good_iff _).mp z.2
             have z3 := (z2 r (List.mem_of_getElem? hr)).1
             rw [hhead] at z3
             exact e4 (eqI.mpr (by rw [List.length_map, List.length_map, z3]))
           · have e4 := eqI.mp e4
             rw [List.length_map, List.length_map] at e4
             have e4 : r.length = r0.length := by omega
             refine ⟨_, rfl, b, r, rfl, SqL.of (s2 _ _ hbr), by omega, fun H2 s3 => ⟨_, rfl, bcase (fun e5 => ?_) fun e5 => ?_⟩⟩
             · refine k1 ?_ H2 ((s1.trans s2).trans s3)
               have e5 : r.all Lm.isCol = false := by simpa using e5
               unfold Lm.readZ
               refine if_neg fun z => ?_
               obtain ⟨_, z2⟩ := (Lm.good_iff _).mp z.2
               have z3 := (z2 r (List.mem_of_getElem? hr)).2
               rw [List.all_eq_true.mpr z3] at e5
               cases e5
             · have e5 : r.all Lm.isCol = true := by simpa using e5
               refine ⟨_, rfl, s2.trans s3, fun q hq => ?_⟩
               rw [take_snoc hr] at hq
               rcases List.mem_append.mp hq with z | z
               · exact hall q z
               · rw [List.mem_singleton.mp z]
                 exact ⟨e4, List.all_eq_true.mp e5⟩
         · rintro σ H' ⟨v, rfl, s2, hall⟩
           rw [List.length_map, hasl, List.take_length] at hall
           refine ⟨_, rfl, k2 (Lm.split [] ns) ?_ H' p as (s1.trans s2) np nas (s2 _ _ lst) pas (rws.same s2)⟩
           unfold Lm.readZ
           refine if_pos ⟨hlast, (Lm.good_iff _).mpr ?_⟩
           rw [hhead]
           exact ⟨e3, hall⟩
end
end Kn
set_option Elab.async false
set_option linter.all false
set_option maxRecDepth 100000
set_option maxHeartbeats 2000000
namespace Kn
open PySem PySem.Spec PyProof.Rows L2 Km
open Lm (bytesZ byteZ)
section
variable {P : Program} {w : World} {K : W.Frag} {mg : Str → Option Value} {base : Heap} {A : Ad} {D : Fds}
def sp_colour_number : Sp := fun vs H Q _ => ∃ b : Int, vs = [.int b] ∧ Lm.isCol b = true ∧ Q (natV (Lm.colN b)) H
theorem ok_colour_number (T : Txt K mg A D) : FnOk P w K mg base CX0 1 A.a_colour_number D.d_colour_number ["colour"] sp_colour_number := by
 refine T.f_colour_number.ok sc_colour_number (fun vs H Q E h => ?_) (fun cdv Ar outer s H vs Q E hr h => ?_)
 · obtain ⟨b, rfl, _⟩ := h
   rfl
 · obtain ⟨b, rfl, hb, k⟩ := h
   refine ⟨_, (pss_cons (ps_if (pt_cmpR op_ge (pv 0) pe_int (nomark _)) (pss_one (ps_ret (pe_op op_sub (pv 0) pe_int))) pss_nil)
     (pss_cons (ps_if (pt_cmpR op_ge (pv 0) pe_int (nomark _)) (pss_one (ps_ret (pe_op op_add (pe_op op_sub (pv 0) pe_int) pe_int))) pss_nil)
     (pss_one (ps_ret (pe_op op_add (pe_op op_sub (pv 0) pe_int) pe_int))))), ?_⟩
   have hb : (97 ≤ b ∧ b ≤ 122) ∨ (65 ≤ b ∧ b ≤ 90) ∨ (48 ≤ b ∧ b ≤ 57) := by
     unfold Lm.isCol at hb
     simpa only [Bool.or_eq_true, Bool.and_eq_true, decide_eq_true_eq] using hb
   refine ⟨_, rfl, _, _, rfl, rfl, _, rfl, dcase (fun e1 => ?_) fun e1 => ?_⟩
   · refine ⟨_, rfl, _, _, rfl, rfl, ?_⟩
     have e : natV (Lm.colN b) = V.int (b - 97) := by
       unfold Lm.colN
       rw [if_pos e1]
       show V.int _ = V.int _
       congr 1
       omega
     rw [e] at k
     exact k
   · refine ⟨_, rfl, _, _, rfl, rfl, _, rfl, dcase (fun e2 => ?_) fun e2 => ?_⟩
     · refine ⟨_, rfl, _, _, rfl, rfl, _, _, rfl, rfl, ?_⟩
       have e : natV (Lm.colN b) = V.int (b - 65 + 26) := by
         unfold Lm.colN
         rw [if_neg e1, if_pos e2]
         show V.int _ = V.int _
         congr 1
         omega
       rw [e] at k
       exact k
     · refine ⟨_, rfl, _, _, rfl, rfl, _, _, rfl, rfl, ?_⟩
       have e : natV (Lm.colN b) = V.int (b - 48 + 52) := by
         unfold Lm.colN
         rw [if_neg e1, if_neg e2]
         show V.int _ = V.int _
         congr 1
         omega
       rw [e] at k
       exact k
abbrev SIGNS : Str := "abcdefghijklmnopqrstuvwxyzABCDEFGHIJKLMNOPQRSTUVWXYZ0123456789"
theorem signs_all : ∀ k : Fin 62, SIGNS.cps.toList[k.val]? = some (Rg.byteOf k.val).toNat := by decide +kernel
theorem signs_len : SIGNS.length = 62 := by decide +kernel
theorem join_aux : ∀ u : List Nat, (Str.join (Str.ofString "") (u.map byteStr)).cps.toList = (u.map Rg.byteOf).map UInt8.toNat
 | [] => rfl
 | [a] => rfl
 | a :: b :: u => by
   have ih := join_aux (b :: u)
   show (byteStr a ++ Str.ofString "" ++ Str.join (Str.ofString "") ((b :: u).map byteStr)).cps.toList = _
   rw [cps_append, cps_append, ih]
   have e : (Str.ofString "").cps.toList = [] := by decide +kernel
   rw [e, List.append_nil]
   rfl
theorem join_signs (u : List Nat) : Txt.join (Str.ofString "") (u.map byteStr) = sC u := by
 rw [TL.join_eq]
 exact str_eq (join_aux u)
def sp_as_signs (K : W.Frag) : Sp := fun vs H Q _ => ∃ (a : Addr) (u : List Nat), vs = [.ref a] ∧ SqL K H a ((bytesZ u).map V.int) ∧ u.length ≤ 1000 ∧ (∀ c ∈ u, c < 62) ∧ ∀ H', Same H H' → Q (.str (sC u)) H'
theorem ok_as_signs (T : Txt K mg A D) : FnOk P w K mg base CX0 2 A.a_as_signs D.d_as_signs ["colours"] (sp_as_signs K) := by
 refine T.f_as_signs.ok sc_as_signs (fun vs H Q E h => ?_) (fun cdv Ar outer s H vs Q E hr h => ?_)
 · obtain ⟨a, u, rfl, _⟩ := h
   rfl
 · obtain ⟨a, u, rfl, hS, hl, hcol, k⟩ := h
   refine ⟨_, (pss_one (ps_ret (pe_join pe_str (pe_lc (own := [("colour", 1)]) rfl sc_as_signs.nd (pi_list (pv 0)) (blkOk_by (by show blkC ["colours", "colour"] (defScope s_as_signs) _ _ = true; decide +kernel)) (fun _ _ _ _ _ => (pg_name (i := 1) sc_as_signs.nd rfl (Or.inl rfl))) (fun _ _ _ _ _ => pts_nil) (fun _ _ _ _ _ => (pe_ix ix_str (pe_glob (v := .str "abcdefghijklmnopqrstuvwxyzABCDEFGHIJKLMNOPQRSTUVWXYZ0123456789") rfl T.c_SIGNS ⟨_, rfl⟩) (pe_call (ok_colour_number T) hr rfl T.m_colour_number T.k_colour_number T.b_colour_number .nil pass0 (pa_cons (pv 1) pa_nil)) (fun _ _ => rfl))))))), ?_⟩
   refine ⟨⟨_, rfl⟩, _, rfl, a, rfl, ⟨_, hS⟩, fun d hd => lc_list (K := K) (a := a) (xs := (bytesZ u).map V.int) (fun i H' => Same H H' ∧ H' d = some (.lst (((u.take i).map byteStr).map V.str))) ⟨same_new hd, upd_same⟩ (fun i H' _ p => p.1.seq hS) ?_ ?_⟩
   · rintro i x H' hx ⟨s1, h1⟩
     obtain ⟨b, hb, rfl⟩ := map_get hx
     obtain ⟨c, hc, rfl⟩ := map_get hb
     have hi := lt_of_get hc
     have h62 := hcol c (List.mem_of_getElem? hc)
     refine ⟨rfl, yes_if ⟨_, rfl, _, rfl, Lm.isCol_byteZ h62, ?_⟩⟩
     rw [Lm.colN_byteZ h62]
     refine ⟨SIGNS, _, _, rfl, rfl, few' (by rw [signs_len]; decide), atI_nat (signs_all ⟨c, h62⟩), _, h1, few (by rw [List.length_map, List.length_map, List.length_take]; omega), same_upd s1 hd, ?_⟩
     rw [upd_same, take_snoc hc, List.map_append, List.map_append]
     rfl
   · rintro H' ⟨s1, h1⟩
     have e : (bytesZ u).length = u.length := Lm.bytesZ_len u
     rw [List.length_map, e, List.take_length] at h1
     refine ⟨_, d, u.map byteStr, rfl, rfl, .inl (SqL.of h1), ?_, ?_⟩
     · have e1 : ((u.map byteStr).map (·.length)).sum = u.length := by
         rw [List.map_map]
         have : ((fun x : Str => x.length) ∘ byteStr) = fun _ => 1 := by funext c; rfl
         rw [this, Lm.sum_const (fun _ : Nat => 1) 1 u fun _ _ => rfl, Nat.mul_one]
       rw [e1, List.length_map]
       have e2 : (Str.ofString "").length = 0 := by decide +kernel
       show u.length + u.length * (Str.ofString "").length ≤ 16777216
       rw [e2]
       omega
     · rw [join_signs]
       exact k H' s1
def Counts (cs : List Nat) (g : Nat → Nat) : Prop := cs.length = 62 ∧ ∀ k, k < 62 → cs[k]? = some (g k)
theorem Counts.eq {cs : List Nat} {g : Nat → Nat} (h : Counts cs g) : cs = (List.range 62).map g := by
 refine List.ext_getElem? fun k => ?_
 by_cases hk : k < 62
 · rw [h.2 k hk, List.getElem?_map, List.getElem?_range hk]
   rfl
 · rw [List.getElem?_eq_none (by rw [h.1]; omega), List.getElem?_eq_none (by rw [List.length_map, List.length_range]; omega)]
def sp_count_colours (K : W.Frag) : Sp := fun vs H Q _ => ∃ (p : Addr) (as : List Addr) (rows : List (List Nat)), vs = [.ref p] ∧ H p = some (.lst (as.map V.ref)) ∧ Rws H as (rows.map bytesZ) ∧ (∀ r ∈ rows, ∀ c ∈ r, c < 62) ∧
 ∀ H' q, Same H H' → H' q = some (.lst (((List.range 62).map (Lm.wl rows)).map natV)) → H q = none → Q (.ref q) H'
theorem ok_count_colours (T : Txt K mg A D) : FnOk P w K mg base CX0 2 A.a_count_colours D.d_count_colours ["rows"] (sp_count_colours K) := by
 refine T.f_count_colours.ok sc_count_colours (fun vs H Q E h => ?_) (fun cdv Ar outer s H vs Q E hr h => ?_)
 · obtain ⟨p, as, rows, rfl, _⟩ := h
   rfl
 · obtain ⟨p, as, rows, rfl, hp, hR, hcol, k⟩ := h
   refine ⟨_, (pss_cons (ps_set (i := 1) sc_count_colours.nd rfl (Or.inl rfl) (pe_op op_rep (pe_lst (pa_cons pe_int pa_nil)) (pe_callB call_len_str rfl T.g_len PySem.boot_len (pa_cons (pe_glob (v := .str "abcdefghijklmnopqrstuvwxyzABCDEFGHIJKLMNOPQRSTUVWXYZ0123456789") rfl T.c_SIGNS ⟨_, rfl⟩) pa_nil))))
     (pss_cons (ps_for PassesOwn.never rfl (pi_list (pv 0)) (pg_name (i := 2) sc_count_colours.nd rfl (Or.inl rfl))
       (pss_one (ps_for PassesOwn.never rfl (pi_list (pv 2)) (pg_name (i := 3) sc_count_colours.nd rfl (Or.inl rfl))
       (pss_one (ps_augS (pv 1) (pe_call (ok_colour_number T) hr rfl T.m_colour_number T.k_colour_number T.b_colour_number .nil pass0 (pa_cons (pv 3) pa_nil)) pget_list pe_int ip_add set_list)))))
     (pss_one (ps_ret (pv 1))))), ?_⟩
   refine ⟨few' (by decide), fun l hl => ⟨SIGNS, rfl, few' (by rw [signs_len]; decide), l, _, _, rfl, rfl, upd_same, by rw [signs_len]; decide, by rw [signs_len]; decide, by rw [signs_len]; decide, fun q hq => ?_⟩⟩
   have hl0 : H q = none := (same_new hl).free hq
   have er : (List.replicate ((SIGNS.length : Nat) : Int).toNat [V.int 0]).flatten = (List.replicate 62 0).map natV := by
     rw [signs_len]
     rfl
   rw [er]
   have s0 : Same H (upd (upd H l (.lst [V.int 0])) q (.lst ((List.replicate 62 0).map natV))) := same_upd (same_new hl) hl0
   have hral : (as.map V.ref).length = rows.length := by rw [List.length_map, hR.length, List.length_map]
   refine ⟨_, rfl, p, rfl, ⟨_, SqL.of (s0 _ _ hp)⟩, for_list (K := K) (a := p) (xs := as.map V.ref) (fun i σ H' => ∃ (v2 v3 : Option V) (cs : List Nat), σ = [some (.ref p), some (.ref q), v2, v3] ∧ Same H H' ∧ H' q = some (.lst (cs.map natV)) ∧ Counts cs (Lm.wl (rows.take i)))
     ⟨none, none, List.replicate 62 0, rfl, s0, upd_same, List.length_replicate, fun k hk => by rw [List.getElem?_replicate, if_pos hk]; rfl⟩ (fun i σ H' _ ⟨_, _, _, _, s1, _⟩ => SqL.of (s1 _ _ hp)) ?_ ?_⟩
   · rintro i x σ H1 hx ⟨v2, v3, cs, rfl, s1, hq1, hC⟩
     obtain ⟨ra, hra, rfl⟩ := map_get hx
     obtain ⟨rz, hrz, hre⟩ := hR.get hra
     obtain ⟨r, hr0, rfl⟩ := map_get hrz
     have nrq : ra ≠ q := fun z => by
       rw [z, hl0] at hre
       cases hre
     refine ⟨_, rfl, ra, rfl, ⟨_, SqL.of (s1 _ _ hre)⟩, for_list (K := K) (a := ra) (xs := (bytesZ r).map V.int) (fun j σ H' => ∃ (v3 : Option V) (cs : List Nat), σ = [some (.ref p), some (.ref q), some (.ref ra), v3] ∧ Same H H' ∧ H' q = some (.lst (cs.map natV)) ∧ Counts cs (fun k => Lm.wl (rows.take i) k + Lm.cn (r.take j) k))
       ⟨_, cs, rfl, s1, hq1, hC⟩ (fun j σ H' _ ⟨_, _, _, s2, _⟩ => SqL.of (s2 _ _ hre)) ?_ ?_⟩
     · rintro j y σ H2 hy ⟨v3', cs2, rfl, s2, hq2, hC2⟩
       obtain ⟨b, hb, rfl⟩ := map_get hy
       obtain ⟨c, hc, rfl⟩ := map_get hb
       have h62 := hcol r (List.mem_of_getElem? hr0) c (List.mem_of_getElem? hc)
       refine ⟨_, rfl, _, rfl, _, rfl, Lm.isCol_byteZ h62, ?_⟩
       rw [Lm.colN_byteZ h62]
       have hcs := hC2.2 c h62
       refine ⟨q, _, c, _, rfl, rfl, SqL.of hq2, mapAt hcs, _, _, rfl, rfl, q, _, _, c, rfl, rfl, hq2, ix_nat (by rw [List.length_map, hC2.1]; exact h62), ?_⟩
       refine ⟨_, cs2.set c (Lm.wl (rows.take i) c + Lm.cn (r.take j) c + 1), rfl, same_upd s2 hl0, ?_, by rw [List.length_set]; exact hC2.1, fun k' hk' => ?_⟩
       · rw [upd_same, List.map_set]
         rfl
       · show (cs2.set c (Lm.wl (rows.take i) c + Lm.cn (r.take j) c + 1))[k']? = some (Lm.wl (rows.take i) k' + Lm.cn (r.take (j + 1)) k')
         rw [take_snoc hc, Lm.cn_snoc]
         by_cases hkc : c = k'
         · subst hkc
           rw [List.getElem?_set_self (by rw [hC2.1]; exact h62), if_pos rfl, Nat.add_assoc]
         · rw [List.getElem?_set_ne hkc, if_neg hkc, Nat.add_zero]
           exact hC2.2 k' hk'
     · rintro σ H2 ⟨v3', cs2, rfl, s2, hq2, hC2⟩
       have e : (bytesZ r).length = r.length := Lm.bytesZ_len r
       rw [List.length_map, e, List.take_length] at hC2
       refine ⟨_, _, cs2, rfl, s2, hq2, hC2.1, fun k' hk' => ?_⟩
       rw [take_snoc hr0, Lm.wl_snoc]
       exact hC2.2 k' hk'
   · rintro σ H1 ⟨v2, v3, cs, rfl, s1, hq1, hC⟩
     rw [hral, List.take_length] at hC
     rw [hC.eq] at hq1
     exact ⟨_, rfl, k H1 q s1 hq1 hl0⟩
def sp_write_rows (K : W.Frag) : Sp := fun vs H Q _ => ∃ (p : Addr) (as : List Addr) (rows : List (List Int)), vs = [.ref p] ∧ H p = some (.lst (as.map V.ref)) ∧ Rws H as rows ∧ (rows.flatMap fun r => r ++ [10]).length ≤ 100000 ∧
 ∀ H' q, Same H H' → H q = none → H' q = some (.lst ((rows.flatMap fun r => r ++ [10]).map V.int)) → Q (.ref q) H'
theorem flat_take_le {rows : List (List Int)} {i : Nat} : ((rows.take i).flatMap fun r => r ++ [10]).length ≤ (rows.flatMap fun r => r ++ [10]).length := by
 conv => rhs; rw [← List.take_append_drop i rows]
 rw [List.flatMap_append, List.length_append]
 omega
theorem ok_write_rows (T : Txt K mg A D) : FnOk P w K mg base CX0 1 A.a_write_rows D.d_write_rows ["rows"] (sp_write_rows K) := by
 refine T.f_write_rows.ok sc_write_rows (fun vs H Q E h => ?_) (fun cdv Ar outer s H vs Q E hr h => ?_)
 · obtain ⟨p, as, rows, rfl, _⟩ := h
   rfl
 · obtain ⟨p, as, rows, rfl, hp, hR, hlen, k⟩ := h
   refine ⟨_, (pss_cons (ps_set (i := 1) sc_write_rows.nd rfl (Or.inl rfl) (pe_lst pa_nil))
     (pss_cons (ps_for PassesOwn.never rfl (pi_list (pv 0)) (pg_name (i := 2) sc_write_rows.nd rfl (Or.inl rfl))
       (pss_cons (ps_expr (pe_bm PySem.F.plainAttrs_list PySem.F.slot_list_extend PySem.F.type_list_extend mt_extend (pv 1) (pa_cons (pv 2) pa_nil)))
     (pss_one (ps_expr (pe_bm PySem.F.plainAttrs_list PySem.F.slot_list_append PySem.F.type_list_append mt_append (pv 1) (pa_cons (pe_glob (v := .int (10)) rfl T.c_ROW_END ⟨_, rfl⟩) pa_nil))))))
     (pss_one (ps_ret (pv 1))))), ?_⟩
   refine ⟨Nat.zero_le _, fun q hq => ?_⟩
   refine ⟨_, rfl, p, rfl, ⟨_, SqL.of (same_new hq _ _ hp)⟩, for_list (K := K) (a := p) (xs := as.map V.ref) (fun i σ H' => ∃ v2 : Option V, σ = [some (.ref p), some (.ref q), v2] ∧ Same H H' ∧ H' q = some (.lst (((rows.take i).flatMap fun r => r ++ [10]).map V.int)))
     ⟨none, rfl, same_new hq, upd_same⟩ (fun i σ H' _ ⟨_, _, s1, _⟩ => SqL.of (s1 _ _ hp)) ?_ ?_⟩
   · rintro i x σ H1 hx ⟨v2, rfl, s1, hq1⟩
     obtain ⟨ra, hra, rfl⟩ := map_get hx
     obtain ⟨r, hr0, hre⟩ := hR.get hra
     have nrq : ra ≠ q := fun z => by
       rw [z, hq] at hre
       cases hre
     have htk : (rows.take (i + 1)).flatMap (fun r => r ++ [10]) = ((rows.take i).flatMap fun r => r ++ [10]) ++ (r ++ [10]) := by
       rw [take_snoc hr0, List.flatMap_append]
       simp
     have hle := flat_take_le (rows := rows) (i := i + 1)
     rw [htk, List.length_append, List.length_append] at hle
     refine ⟨_, rfl, .inl ⟨rfl, _, SqL.of hq1⟩, _, rfl, q, ra, _, _, rfl, rfl, hq1, s1 _ _ hre, few' (by rw [List.length_map, List.length_map]; omega), ?_⟩
     refine ⟨_, rfl, .inl ⟨rfl, _, SqL.of upd_same⟩, q, _, _, rfl, rfl, upd_same, few (by simp only [List.length_append, List.length_map]; omega), ?_⟩
     rw [upd_upd]
     refine ⟨_, rfl, same_upd s1 hq, ?_⟩
     rw [upd_same, htk, List.map_append, List.map_append, List.append_assoc]
     rfl
   · rintro σ H1 ⟨v2, rfl, s1, hq1⟩
     have e : (as.map V.ref).length = rows.length := by rw [List.length_map, hR.length]
     rw [e, List.take_length] at hq1
     exact ⟨_, rfl, k H1 q s1 hq hq1⟩
end
end Kn
set_option Elab.async false
set_option linter.all false
set_option maxRecDepth 100000
set_option maxHeartbeats 2000000
namespace Km
open PySem PySem.Spec PyProof.Rows L2
theorem look_eq {f : Str} {v : V} {r : List (Str × V)} : ((f, v) :: r).lookup f = some v := by
 rw [List.lookup_cons, beq_self_eq_true]
theorem look_ne {f g : Str} {v : V} {r : List (Str × V)} (h : ¬ f = g) : ((g, v) :: r).lookup f = r.lookup f := by
 rw [List.lookup_cons, beq_eq_false_iff_ne.mpr h]
theorem put_eq {f : Str} {v x : V} {r : List (Str × V)} : putF f v ((f, x) :: r) = (f, v) :: r := if_pos rfl
theorem put_ne {f g : Str} {v x : V} {r : List (Str × V)} (h : ¬ g = f) : putF f v ((g, x) :: r) = (g, x) :: putF f v r := if_neg h
theorem seq_ins {K : W.Frag} {H : Hp} {a t C dx : Addr} {fs : List (Str × V)} {xs : List V} {o : HO} (h : SqL K H a xs) (e : H t = some (.ins C dx fs)) : SqL K (upd H t o) a xs := by
 rcases h with (h | ⟨ob, h⟩) | h
 · exact .inl (.inl (upd_at h (ne_of h e (by intro z; cases z))))
 · exact .inl (.inr ⟨ob, upd_at h (ne_of h e (by intro z; cases z))⟩)
 · exact .inr h
end Km
namespace Lm
def cont (part : List Int) (g : Nat) (k r : List Int) : Nat × Option (List Int × List Int) := if k ≠ part ∧ 0 < g then tieP part g r else (0, some (k, r))
theorem tieP_bad {part b : List Int} {g : Nat} (h : (b.take part.length).length < part.length ∨ (b.take part.length).all isCol = false) : tieP part (g + 1) b = (1, none) := by
 rw [tieP, if_pos h]
theorem tieP_good {part b : List Int} {g : Nat} (h : ¬ ((b.take part.length).length < part.length ∨ (b.take part.length).all isCol = false)) :
   tieP part (g + 1) b = ((cont part g (b.take part.length) (b.drop part.length)).1 + 1, (cont part g (b.take part.length) (b.drop part.length)).2) := by
 rw [tieP, if_neg h]
 unfold cont
 split
 · rfl
 · rfl
end Lm
namespace Kn
open PySem PySem.Spec PyProof.Rows L2 Km
section
variable {P : Program} {w : World} {K : W.Frag} {mg : Str → Option Value} {base : Heap} {A : Ad} {D : Fds}
def tyF (tl : Addr) (p n : Nat) : List (Str × V) := [("told", .ref tl), ("place", .int p), ("asked", .int n)]
theorem ty_told (tl : Addr) (p n : Nat) : (tyF tl p n).lookup ("told" : Str) = some (.ref tl) := look_eq
theorem ty_place (tl : Addr) (p n : Nat) : (tyF tl p n).lookup ("place" : Str) = some (.int p) := (look_ne (by decide +kernel)).trans look_eq
theorem ty_asked (tl : Addr) (p n : Nat) : (tyF tl p n).lookup ("asked" : Str) = some (.int n) := (look_ne (by decide +kernel)).trans ((look_ne (by decide +kernel)).trans look_eq)
theorem ty_ask (tl : Addr) (p n : Nat) : (tyF tl p n).lookup ("ask" : Str) = none := (look_ne (by decide +kernel)).trans ((look_ne (by decide +kernel)).trans ((look_ne (by decide +kernel)).trans rfl))
theorem ty_put_asked (tl : Addr) (p n m : Nat) : putF "asked" (.int m) (tyF tl p n) = tyF tl p m := by
 unfold tyF
 rw [put_ne (by decide +kernel), put_ne (by decide +kernel), put_eq]
theorem ty_put_place (tl : Addr) (p n m : Nat) : putF "place" (.int m) (tyF tl p n) = tyF tl m n := by
 unfold tyF
 rw [put_ne (by decide +kernel), put_eq]
def sp_Tyings_init (C : Addr) : Sp := fun vs H Q _ => ∃ (p dx tl : Addr), vs = [.ref p, .ref tl] ∧ H p = some (.ins C dx []) ∧ ∀ H' : Hp, H' p = some (.ins C dx (tyF tl 0 0)) → But [p] H H' → Q .non H'
theorem ok_Tyings_init (T : Txt K mg A D) : FnOk P w K mg base CX0 1 A.a_Tyings_init D.d_Tyings_init ["self", "told"] (sp_Tyings_init A.a_Tyings) := by
 refine T.f_Tyings_init.ok sc_Tyings_init (fun vs H Q E h => ?_) (fun cdv Ar outer s H vs Q E hr h => ?_)
 · obtain ⟨p, dx, tl, rfl, _⟩ := h
   rfl
 · obtain ⟨p, dx, tl, rfl, hp, k⟩ := h
   refine ⟨_, (pss_cons (ps_fld (pv 0) (pv 1) rfl)
     (pss_cons (ps_fld (pv 0) pe_int rfl)
     (pss_one (ps_fld (pv 0) pe_int rfl)))), ?_⟩
   refine ⟨_, rfl, _, rfl, p, _, dx, _, rfl, hp, T.cl_Tyings, T.n_Tyings_told, (by show 0 < 1000; decide), ?_⟩
   refine ⟨_, rfl, p, _, dx, _, rfl, upd_same, T.cl_Tyings, T.n_Tyings_place, (by show 1 < 1000; decide), ?_⟩
   refine ⟨_, rfl, p, _, dx, _, rfl, upd_same, T.cl_Tyings, T.n_Tyings_asked, (by show 2 < 1000; decide), ?_⟩
   refine k _ ?_ ?_
   · rw [upd_same]
     have e : putF "asked" (.int 0) (putF "place" (.int 0) (putF "told" (.ref tl) [])) = tyF tl 0 0 := by
       show putF "asked" (.int 0) (putF "place" (.int 0) [("told", V.ref tl)]) = _
       rw [put_ne (by decide +kernel)]
       show putF "asked" (.int 0) [("told", V.ref tl), ("place", .int 0)] = _
       rw [put_ne (by decide +kernel), put_ne (by decide +kernel)]
       rfl
     exact congrArg (fun q => some (HO.ins _ dx q)) e
   · exact (((But.refl [p] H).upd (.inl List.mem_cons_self)).upd (.inl List.mem_cons_self)).upd (.inl List.mem_cons_self)
def AskEnd (H H' : Hp) (b : List Int) (size : Nat) (v : V) : Prop :=
 ((b.length < size ∨ b.all Lm.isCol = false) ∧ v = .non) ∨ (¬ (b.length < size ∨ b.all Lm.isCol = false) ∧ ∃ q, v = .ref q ∧ H q = none ∧ H' q = some (.lst (b.map V.int)))
def sp_Tyings_ask (C : Addr) : Sp := fun vs H Q _ => ∃ (t dx tl : Addr) (p n size : Nat) (ns : List Int), vs = [.ref t, .int size] ∧ H t = some (.ins C dx (tyF tl p n)) ∧ H tl = some (.lst (ns.map V.int)) ∧ ns.length ≤ 100000 ∧
 ∀ H' v, But [t] H H' → H' t = some (.ins C dx (tyF tl (p + size) (n + 1))) → AskEnd H H' ((ns.drop p).take size) size v → Q v H'
theorem ok_Tyings_ask (T : Txt K mg A D) : FnOk P w K mg base CX0 3 A.a_Tyings_ask D.d_Tyings_ask ["self", "size"] (sp_Tyings_ask A.a_Tyings) := by
 refine T.f_Tyings_ask.ok sc_Tyings_ask (fun vs H Q E h => ?_) (fun cdv Ar outer s H vs Q E hr h => ?_)
 · obtain ⟨t, dx, tl, p, n, size, ns, rfl, _⟩ := h
   rfl
 · obtain ⟨t, dx, tl, p, n, size, ns, rfl, ht, htl, hl, k⟩ := h
   refine ⟨_, (pss_cons (ps_fldaug (pv 0) pe_int in_add)
     (pss_cons (ps_set (i := 2) sc_Tyings_ask.nd rfl (Or.inl rfl) (pe_slice sl_list (pe_fld (pv 0) rfl) (po_some (pe_fld (pv 0) rfl)) (po_some (pe_op op_add (pe_fld (pv 0) rfl) (pv 1)))))
     (pss_cons (ps_fldaug (pv 0) (pv 1) in_add)
     (pss_cons (ps_if (PW.pt (pw_or (pt_cmpR op_lt (pe_callB call_len_seq rfl T.g_len PySem.boot_len (pa_cons (pv 2) pa_nil)) (pv 1) (nomark _)) (pw_or1 (pt_not (pt_val (pe_call (ok_are_colours T) hr rfl T.m_are_colours T.k_are_colours T.b_are_colours .nil pass0 (pa_cons (pv 2) pa_nil))))))) (pss_one (ps_ret pe_non)) pss_nil)
     (pss_one (ps_ret (pv 2))))))), ?_⟩
   have ntl : tl ≠ t := ne_of htl ht (by intro z; cases z)
   refine ⟨_, rfl, t, _, dx, _, _, rfl, ht, T.cl_Tyings, T.n_Tyings_asked, ty_asked _ _ _, _, _, rfl, rfl, dx, _, ht, (by show 3 < 1000; decide), ?_⟩
   have e1 : putF "asked" (V.int ((n : Int) + 1)) (tyF tl p n) = tyF tl p (n + 1) := ty_put_asked tl p n (n + 1)
   generalize hH1 : upd H t (.ins A.a_Tyings dx (putF "asked" (V.int ((n : Int) + 1)) (tyF tl p n))) = H1
   have ht1 : H1 t = some (.ins A.a_Tyings dx (tyF tl p (n + 1))) := by rw [← hH1, upd_same, e1]
   have htl1 : H1 tl = some (.lst (ns.map V.int)) := by rw [← hH1]; exact upd_at htl ntl
   have b1 : But [t] H H1 := by rw [← hH1]; exact (But.refl _ _).upd (.inl List.mem_cons_self)
   have fr1 : ∀ q, H1 q = none → H q = none := fun q hq => by
     rw [← hH1] at hq
     unfold upd at hq
     split at hq
     · cases hq
     · exact hq
   refine ⟨_, rfl, t, _, dx, _, _, rfl, ht1, T.cl_Tyings, T.n_Tyings_told, ty_told _ _ _, _, rfl, t, _, dx, _, _, rfl, ht1, T.cl_Tyings, T.n_Tyings_place, ty_place _ _ _, _, rfl, _, rfl, t, _, dx, _, _, rfl, ht1, T.cl_Tyings, T.n_Tyings_place, ty_place _ _ _, _, rfl, _, _, rfl, rfl, _, rfl, tl, _, rfl, SqL.of htl1, fun q hq => ?_⟩
   have ec : cutV (ns.map V.int) (some (p : Int)) (some ((p : Int) + (size : Int))) = ((ns.drop p).take size).map V.int := by
     have := cut_ints ns p (p + size)
     rw [Nat.add_sub_cancel_left] at this
     exact this
   rw [ec]
   have nqt : t ≠ q := ne_of_none ht1 hq
   refine ⟨_, rfl, t, _, dx, _, _, rfl, upd_at ht1 nqt, T.cl_Tyings, T.n_Tyings_place, ty_place _ _ _, _, rfl, _, _, rfl, rfl, dx, _, upd_at ht1 nqt, (by show 3 < 1000; decide), ?_⟩
   have e2 : putF "place" (V.int ((p : Int) + (size : Int))) (tyF tl p (n + 1)) = tyF tl (p + size) (n + 1) := ty_put_place tl p (n + 1) (p + size)
   rw [e2]
   generalize hH2 : upd (upd H1 q (.lst (((ns.drop p).take size).map V.int))) t (.ins A.a_Tyings dx (tyF tl (p + size) (n + 1))) = H2
   have ht2 : H2 t = some (.ins A.a_Tyings dx (tyF tl (p + size) (n + 1))) := by rw [← hH2, upd_same]
   have hq2 : H2 q = some (.lst (((ns.drop p).take size).map V.int)) := by rw [← hH2]; exact upd_at upd_same nqt.symm
   have b2 : But [t] H H2 := by rw [← hH2]; exact (b1.upd (.inr (fr1 q hq))).upd (.inl List.mem_cons_self)
   have htk : ((ns.drop p).take size).length ≤ ns.length := by
     rw [List.length_take, List.length_drop]
     omega
   refine ⟨_, rfl, q, _, rfl, .inl (SqL.of hq2), _, rfl, _, _, rfl, rfl, _, rfl, dcase (fun e => ?_) fun e => ?_⟩
   · rw [List.length_map] at e
     exact iteT (k H2 _ b2 ht2 (.inl ⟨.inl (by omega), rfl⟩))
   · rw [List.length_map] at e
     refine ⟨_, rfl, q, _, rfl, SqL.of hq2, by omega, fun H3 s3 => ⟨_, rfl, bcase (fun e3 => ?_) fun e3 => ?_⟩⟩
     · exact k H3 _ (fun b o eo nb => s3 b o (b2 b o eo nb)) (s3 _ _ ht2) (.inl ⟨.inr (by simpa using e3), rfl⟩)
     · have e3 : ((ns.drop p).take size).all Lm.isCol = true := by simpa using e3
       refine ⟨_, rfl, k H3 _ (fun b o eo nb => s3 b o (b2 b o eo nb)) (s3 _ _ ht2) (.inr ⟨?_, q, rfl, fr1 q hq, s3 _ _ hq2⟩)⟩
       rintro (z | z)
       · omega
       · rw [e3] at z
         cases z
def PartEnd (C : Addr) (H H' : Hp) (t dx tl : Addr) (n : Nat) (ns : List Int) (z : Nat × Option (List Int × List Int)) (v : V) : Prop :=
 ∃ p', H' t = some (.ins C dx (tyF tl p' (n + z.1))) ∧ ((z.2 = none ∧ v = .non) ∨ ∃ q k, z.2 = some (k, ns.drop p') ∧ v = .ref q ∧ H q = none ∧ H' q = some (.lst (k.map V.int)))
def sp_tie_part (C : Addr) : Sp := fun vs H Q _ => ∃ (t dx tl pa : Addr) (p n tries : Nat) (part ns : List Int), vs = [.ref pa, .int tries, .ref t] ∧ H t = some (.ins C dx (tyF tl p n)) ∧ H tl = some (.lst (ns.map V.int)) ∧ H pa = some (.lst (part.map V.int)) ∧
 ns.length ≤ 100000 ∧ 1 ≤ tries ∧ ∀ H' v, But [t] H H' → PartEnd C H H' t dx tl n ns (Lm.tieP part tries (ns.drop p)) v → Q v H'
theorem ok_tie_part (T : Txt K mg A D) : FnOk P w K mg base CX0 4 A.a_tie_part D.d_tie_part ["part", "tries", "tyings"] (sp_tie_part A.a_Tyings) := by
 refine T.f_tie_part.ok sc_tie_part (fun vs H Q E h => ?_) (fun cdv Ar outer s H vs Q E hr h => ?_)
 · obtain ⟨t, dx, tl, pa, p, n, tries, part, ns, rfl, _⟩ := h
   rfl
 · obtain ⟨t, dx, tl, pa, p, n, tries, part, ns, rfl, ht, htl, hpa, hl, htr, k⟩ := h
   refine ⟨_, (pss_cons (ps_set (i := 3) sc_tie_part.nd rfl (Or.inl rfl) (pe_meth (pv 2) T.cl_Tyings T.me_Tyings_ask (ok_Tyings_ask T) hr T.b_Tyings_ask .nil pass0 (pa_cons (pe_callB call_len_seq rfl T.g_len PySem.boot_len (pa_cons (pv 0) pa_nil)) pa_nil)))
     (pss_cons (ps_set (i := 4) sc_tie_part.nd rfl (Or.inl rfl) pe_int)
     (pss_cons (ps_while PassesOwn.never (PW.pt (pw_and (pt_cmpR op_notN (pv 3) pe_non (nomark _)) (pw_and (pt_cmpR (op_neD hr.units) (pv 3) (pv 0) (nomark _)) (pw_and1 (pt_cmpR op_lt (pv 4) (pv 1) (nomark _))))))
       (pss_cons (ps_set (i := 3) sc_tie_part.nd rfl (Or.inl rfl) (pe_meth (pv 2) T.cl_Tyings T.me_Tyings_ask (ok_Tyings_ask T) hr T.b_Tyings_ask .nil pass0 (pa_cons (pe_callB call_len_seq rfl T.g_len PySem.boot_len (pa_cons (pv 0) pa_nil)) pa_nil)))
     (pss_one (ps_aug (i := 4) sc_tie_part.nd rfl (Or.inl rfl) pe_int ip_add))))
     (pss_one (ps_ret (pv 3)))))), ?_⟩
   have ntl : tl ∉ [t] := fun z => ne_of htl ht (by intro z; cases z) (List.mem_singleton.mp z)
   have npa : pa ∉ [t] := fun z => ne_of hpa ht (by intro z; cases z) (List.mem_singleton.mp z)
   obtain ⟨g0, rfl⟩ : ∃ g, tries = g + 1 := ⟨tries - 1, by omega⟩
   have hlp : (part.map V.int).length = part.length := List.length_map _
   refine ⟨_, rfl, t, dx, _, rfl, ht, ty_ask _ _ _, _, rfl, pa, _, rfl, .inl (SqL.of hpa), t, dx, tl, p, n, part.length, ns, by rw [hlp] <;> rfl, ht, htl, hl, fun H1 v1 b1 ht1 end1 => ?_⟩
   refine ⟨fun m σ H' => ∃ (v : V) (been : Nat), σ = [some (.ref pa), some (.int ((g0 + 1 : Nat) : Int)), some (.ref t), some v, some (.int been)] ∧ m = g0 + 1 - been ∧ 1 ≤ been ∧ been ≤ g0 + 1 ∧ But [t] H H' ∧ ∃ p', H' t = some (.ins A.a_Tyings dx (tyF tl p' (n + been))) ∧
     ((Lm.tieP part (g0 + 1) (ns.drop p) = (been, none) ∧ v = .non) ∨ ∃ q kk, Lm.tieP part (g0 + 1) (ns.drop p) = (been + (Lm.cont part (g0 + 1 - been) kk (ns.drop p')).1, (Lm.cont part (g0 + 1 - been) kk (ns.drop p')).2) ∧ v = .ref q ∧ H q = none ∧ H' q = some (.lst (kk.map V.int))), ?_, ?_⟩
   · refine ⟨_, v1, 1, rfl, rfl, Nat.le_refl _, by omega, b1, p + part.length, ht1, ?_⟩
     rcases end1 with ⟨hb, e⟩ | ⟨hb, q, e, hq, hq1⟩
     · exact .inl ⟨Lm.tieP_bad hb, e⟩
     · refine .inr ⟨q, _, ?_, e, hq, hq1⟩
       rw [Lm.tieP_good hb, List.drop_drop, Nat.add_comm]
       rfl
   · rintro m σ H' ⟨v, been, rfl, rfl, hb1, hb2, b2, p', ht2, st⟩
     rcases st with ⟨ez, rfl⟩ | ⟨q, kk, ez, rfl, hq, hq2⟩
     · -- the row is left
       refine ⟨_, rfl, rfl, _, rfl, ncase (fun z => absurd rfl z) fun _ => iteF ⟨_, rfl, k H' _ b2 ⟨p', ?_, ?_⟩⟩⟩
       · rw [ez]
         exact ht2
       · rw [ez]
         exact .inl ⟨rfl, rfl⟩
     · have hpa2 := b2 _ _ hpa npa
       have htl2 := b2 _ _ htl ntl
       refine ⟨_, rfl, rfl, _, rfl, ncase (fun _ => ?_) fun z => V.noConfusion z⟩
       refine ⟨_, rfl, _, rfl, _, _, dp_list hq2, dp_list hpa2, shaped_ints _, shaped_ints _, _, rfl, ?_⟩
       rw [eqv_list]
       refine ncase (fun e1 => ?_) fun e1 => ?_
       · refine ⟨_, rfl, _, rfl, _, _, rfl, rfl, _, rfl, dcase (fun e2 => ?_) fun e2 => ?_⟩
         · -- asked again
           have e2 : been < g0 + 1 := by omega
           obtain ⟨g1, hg1⟩ : ∃ g1, g0 + 1 - been = g1 + 1 := ⟨g0 - been, by omega⟩
           have ec : Lm.cont part (g0 + 1 - been) kk (ns.drop p') = Lm.tieP part (g1 + 1) (ns.drop p') := by
             unfold Lm.cont
             rw [if_pos ⟨e1, by omega⟩, hg1]
           rw [ec] at ez
           refine ⟨fun σ' H'' => ∃ v', σ' = [some (.ref pa), some (.int ((g0 + 1 : Nat) : Int)), some (.ref t), some v', some (.int ((been + 1 : Nat) : Int))] ∧ But [t] H H'' ∧ ∃ p'', H'' t = some (.ins A.a_Tyings dx (tyF tl p'' (n + (been + 1)))) ∧
             ((Lm.tieP part (g0 + 1) (ns.drop p) = (been + 1, none) ∧ v' = .non) ∨ ∃ q kk, Lm.tieP part (g0 + 1) (ns.drop p) = (been + 1 + (Lm.cont part (g0 + 1 - (been + 1)) kk (ns.drop p'')).1, (Lm.cont part (g0 + 1 - (been + 1)) kk (ns.drop p'')).2) ∧ v' = .ref q ∧ H q = none ∧ H'' q = some (.lst (kk.map V.int))), ?_, ?_⟩
           · rintro σ' H'' ⟨v', rfl, b3, p'', ht3, st⟩
             exact ⟨g0 + 1 - (been + 1), by omega, v', been + 1, rfl, rfl, by omega, e2, b3, p'', ht3, st⟩
           · refine ⟨_, rfl, t, dx, _, rfl, ht2, ty_ask _ _ _, _, rfl, pa, _, rfl, .inl (SqL.of hpa2), t, dx, tl, p', n + been, part.length, ns, by rw [hlp] <;> rfl, ht2, htl2, hl, fun H3 v3 b3 ht3 end3 => ?_⟩
             refine ⟨_, rfl, _, _, rfl, rfl, v3, rfl, b2.trans b3, p' + part.length, ht3, ?_⟩
             rcases end3 with ⟨hb, e⟩ | ⟨hb, q3, e, hq3, hq4⟩
             · refine .inl ⟨?_, e⟩
               rw [ez, Lm.tieP_bad hb]
             · refine .inr ⟨q3, _, ?_, e, ?_, hq4⟩
               · rw [ez, Lm.tieP_good hb, List.drop_drop, Nat.add_comm p', show g0 + 1 - (been + 1) = g1 by omega]
                 dsimp only
                 rw [Nat.add_comm _ 1, ← Nat.add_assoc]
               · -- new against H: what H tracked but t is still there
                 cases hh : H q3 with
                 | none => rfl
                 | some o =>
                   by_cases hqt : q3 = t
                   · rw [hqt, ht2] at hq3
                     cases hq3
                   · rw [b2 q3 o hh (fun z => hqt (List.mem_singleton.mp z))] at hq3
                     cases hq3
         · refine ⟨_, rfl, k H' _ b2 ⟨p', ?_, ?_⟩⟩
           · have ec : Lm.cont part (g0 + 1 - been) kk (ns.drop p') = (0, some (kk, ns.drop p')) := by
               unfold Lm.cont
               rw [if_neg fun z => by have := z.2; omega]
             rw [ez, ec]
             exact ht2
           · have ec : Lm.cont part (g0 + 1 - been) kk (ns.drop p') = (0, some (kk, ns.drop p')) := by
               unfold Lm.cont
               rw [if_neg fun z => by have := z.2; omega]
             rw [ez, ec]
             exact .inr ⟨q, kk, rfl, rfl, hq, hq2⟩
       · have ec : Lm.cont part (g0 + 1 - been) kk (ns.drop p') = (0, some (kk, ns.drop p')) := by
           unfold Lm.cont
           rw [if_neg fun z => z.1 e1]
         refine iteF ⟨_, rfl, k H' _ b2 ⟨p', ?_, ?_⟩⟩
         · rw [ez, ec]
           exact ht2
         · rw [ez, ec]
           exact .inr ⟨q, kk, rfl, rfl, hq, hq2⟩
end
end Kn
set_option Elab.async false
set_option linter.all false
set_option maxRecDepth 100000
set_option maxHeartbeats 2000000
namespace Lm
theorem tieR_no {tries s : Nat} {r : List Nat} {row b : List Int} {a : Nat} (h : tieP (row.take s) tries b = (a, none)) : tieR tries (s :: r) row b = (a, none) := by
 rw [tieR, h]
theorem tieR_yes {tries s : Nat} {r : List Nat} {row b t b' : List Int} {a : Nat} (h : tieP (row.take s) tries b = (a, some (t, b'))) :
   tieR tries (s :: r) row b = (a + (tieR tries r (row.drop s) b').1, (tieR tries r (row.drop s) b').2.map fun q => t ++ q) := by
 rw [tieR, h]
theorem sum_take : ∀ {l : List Nat} {i s : Nat}, l[i]? = some s → (l.take (i + 1)).sum = (l.take i).sum + s
 | [], i, s, h => by simp at h
 | a :: l, 0, s, h => by
   have e : a = s := Option.some.inj h
   subst e
   simp
 | a :: l, i + 1, s, h => by
   have ih := sum_take (l := l) (i := i) (s := s) h
   rw [List.take_succ_cons, List.take_succ_cons, List.sum_cons, List.sum_cons, ih]
   omega
theorem sum_take_le : ∀ (l : List Nat) (i : Nat), (l.take i).sum ≤ l.sum
 | [], i => by rw [List.take_nil]; exact Nat.le_refl _
 | a :: l, 0 => by simp
 | a :: l, i + 1 => by
   have ih := sum_take_le l i
   rw [List.take_succ_cons, List.sum_cons, List.sum_cons]
   omega
end Lm
namespace Km
open PySem PySem.Spec PyProof.Rows L2
theorem But.free1 {t q : Addr} {H H1 : Hp} {o : HO} (b : But [t] H H1) (ht : H1 t = some o) (hq : H1 q = none) : H q = none := by
 cases hh : H q with
 | none => rfl
 | some u =>
   by_cases hqt : q = t
   · rw [hqt, ht] at hq
     cases hq
   · rw [b q u hh (fun z => hqt (List.mem_singleton.mp z))] at hq
     cases hq
end Km
namespace Kn
open PySem PySem.Spec PyProof.Rows L2 Km
section
variable {P : Program} {w : World} {K : W.Frag} {mg : Str → Option Value} {base : Heap} {A : Ad} {D : Fds}
def RowEnd (C : Addr) (H H' : Hp) (t dx tl : Addr) (n : Nat) (z : Nat × Option (List Int)) (v : V) : Prop :=
 ∃ p', H' t = some (.ins C dx (tyF tl p' (n + z.1))) ∧ ((z.2 = none ∧ v = .non) ∨ ∃ q k, z.2 = some k ∧ v = .ref q ∧ H q = none ∧ H' q = some (.lst (k.map V.int)))
def sp_tie_row (C : Addr) : Sp := fun vs H Q _ => ∃ (t dx tl ra sa : Addr) (p n tries : Nat) (row ns : List Int) (sh : List Nat), vs = [.ref ra, .ref sa, .int tries, .ref t] ∧ H t = some (.ins C dx (tyF tl p n)) ∧ H tl = some (.lst (ns.map V.int)) ∧
 H ra = some (.lst (row.map V.int)) ∧ H sa = some (.lst (sh.map natV)) ∧ ns.length ≤ 100000 ∧ row.length ≤ 100000 ∧ sh.sum ≤ row.length ∧ 1 ≤ tries ∧ ∀ H' v, But [t] H H' → RowEnd C H H' t dx tl n (Lm.tieR tries sh row (ns.drop p)) v → Q v H'
theorem ok_tie_row (T : Txt K mg A D) : FnOk P w K mg base CX0 5 A.a_tie_row D.d_tie_row ["row", "shares", "tries", "tyings"] (sp_tie_row A.a_Tyings) := by
 refine T.f_tie_row.ok sc_tie_row (fun vs H Q E h => ?_) (fun cdv Ar outer s H vs Q E hr h => ?_)
 · obtain ⟨t, dx, tl, ra, sa, p, n, tries, row, ns, sh, rfl, _⟩ := h
   rfl
 · obtain ⟨t, dx, tl, ra, sa, p, n, tries, row, ns, sh, rfl, ht, htl, hra, hsa, hl, hlr, hsum, htr, k⟩ := h
   refine ⟨_, (pss_cons (ps_set (i := 4) sc_tie_row.nd rfl (Or.inl rfl) (pe_lst pa_nil))
     (pss_cons (ps_for PassesOwn.never rfl (pi_list (pv 1)) (pg_name (i := 5) sc_tie_row.nd rfl (Or.inl rfl))
       (pss_cons (ps_set (i := 6) sc_tie_row.nd rfl (Or.inl rfl) (pe_callB call_len_seq rfl T.g_len PySem.boot_len (pa_cons (pv 4) pa_nil)))
     (pss_cons (ps_set (i := 7) sc_tie_row.nd rfl (Or.inl rfl) (pe_call (ok_tie_part T) hr rfl T.m_tie_part T.k_tie_part T.b_tie_part .nil pass0 (pa_cons (pe_slice sl_list (pv 0) (po_some (pv 6)) (po_some (pe_op op_add (pv 6) (pv 5)))) (pa_cons (pv 2) (pa_cons (pv 3) pa_nil)))))
     (pss_cons (ps_if (pt_cmpR op_isN (pv 7) pe_non (nomark _)) (pss_one (ps_ret pe_non)) pss_nil)
     (pss_one (ps_expr (pe_bm PySem.F.plainAttrs_list PySem.F.slot_list_extend PySem.F.type_list_extend mt_extend (pv 4) (pa_cons (pv 7) pa_nil))))))))
     (pss_one (ps_ret (pv 4))))), ?_⟩
   have ntl : tl ∉ [t] := fun z => ne_of htl ht (by intro z; cases z) (List.mem_singleton.mp z)
   have nra : ra ∉ [t] := fun z => ne_of hra ht (by intro z; cases z) (List.mem_singleton.mp z)
   have nsa : sa ∉ [t] := fun z => ne_of hsa ht (by intro z; cases z) (List.mem_singleton.mp z)
   refine ⟨Nat.zero_le _, fun kn hkn => ?_⟩
   have ntk : t ≠ kn := ne_of_none ht hkn
   refine ⟨_, rfl, sa, rfl, ⟨_, SqL.of (same_new hkn _ _ hsa)⟩, for_list (K := K) (a := sa) (xs := sh.map natV) (fun i σ H' => ∃ (v5 v6 v7 : Option V) (had : List Int) (m p' : Nat), σ = [some (.ref ra), some (.ref sa), some (.int tries), some (.ref t), some (.ref kn), v5, v6, v7] ∧ But [t] H H' ∧
     H' kn = some (.lst (had.map V.int)) ∧ H' t = some (.ins A.a_Tyings dx (tyF tl p' (n + m))) ∧ had.length = (sh.take i).sum ∧
     Lm.tieR tries sh row (ns.drop p) = (m + (Lm.tieR tries (sh.drop i) (row.drop had.length) (ns.drop p')).1, (Lm.tieR tries (sh.drop i) (row.drop had.length) (ns.drop p')).2.map fun q => had ++ q))
     ⟨none, none, none, [], 0, p, rfl, But.same (same_new hkn) _, upd_same, upd_at ht ntk, rfl, ?_⟩ (fun i σ H' _ ⟨_, _, _, _, _, _, _, b, _⟩ => SqL.of (b _ _ hsa nsa)) ?_ ?_⟩
   · show _ = (0 + (Lm.tieR tries sh row (ns.drop p)).1, (Lm.tieR tries sh row (ns.drop p)).2.map fun q => [] ++ q)
     generalize Lm.tieR tries sh row (ns.drop p) = z
     obtain ⟨a, o⟩ := z
     cases o <;> simp
   · rintro i x σ H' hx ⟨v5, v6, v7, had, m, p', rfl, b1, hk1, ht1, hlen, ez⟩
     obtain ⟨sv, hsv, rfl⟩ := map_get hx
     have hd := drop_cons hsv
     have hst := Lm.sum_take hsv
     have hsl := Lm.sum_take_le sh (i + 1)
     have hhl : (had.map V.int).length = had.length := List.length_map _
     refine ⟨_, rfl, kn, _, rfl, .inl (SqL.of hk1), ?_⟩
     refine ⟨_, rfl, _, rfl, _, rfl, _, rfl, _, rfl, _, _, rfl, rfl, _, rfl, ra, _, rfl, SqL.of (b1 _ _ hra nra), fun pa hpa => ?_⟩
     have ec : cutV (row.map V.int) (some (((had.map V.int).length : Nat) : Int)) (some (((had.map V.int).length : Nat) + (sv : Int) : Int)) = ((row.drop had.length).take sv).map V.int := by
       have := cut_ints row had.length (had.length + sv)
       rw [Nat.add_sub_cancel_left] at this
       rw [hhl]
       exact this
     rw [ec]
     have ntp : t ≠ pa := ne_of_none ht1 hpa
     have hpa0 : H pa = none := b1.free1 ht1 hpa
     have npt : pa ∉ [t] := fun z => ntp (List.mem_singleton.mp z).symm
     have nkp : kn ≠ pa := ne_of_none hk1 hpa
     have nkt : kn ∉ [t] := fun z => ntk (List.mem_singleton.mp z).symm
     refine ⟨_, rfl, _, rfl, t, dx, tl, pa, p', n + m, tries, _, ns, rfl, upd_at ht1 ntp, upd_at (b1 _ _ htl ntl) (ne_of_none (b1 _ _ htl ntl) hpa), upd_same, hl, htr, fun H2 v b2 pe => ?_⟩
     have b3 : But [t] H H2 := fun b o e nb => b2 b o (by rw [upd_ne (ne_of_none e hpa0)]; exact b1 b o e nb) nb
     have hk2 : H2 kn = some (.lst (had.map V.int)) := b2 _ _ (upd_at hk1 nkp) nkt
     obtain ⟨p2, ht2, st⟩ := pe
     rcases st with ⟨hz, rfl⟩ | ⟨q, kk, hz, rfl, hq, hq2⟩
     · -- the row is left
       refine ⟨_, rfl, rfl, _, rfl, dcase (fun _ => ?_) fun z => absurd rfl z⟩
       refine k H2 _ b3 ⟨p2, ?_, .inl ⟨?_, rfl⟩⟩
       · rw [ez, hd, Lm.tieR_no (a := (Lm.tieP ((row.drop had.length).take sv) tries (ns.drop p')).1) (by rw [← hz])]
         rw [← Nat.add_assoc]
         exact ht2
       · rw [ez, hd, Lm.tieR_no (a := (Lm.tieP ((row.drop had.length).take sv) tries (ns.drop p')).1) (by rw [← hz])]
         rfl
     · refine ⟨_, rfl, rfl, _, rfl, dcase (fun z => V.noConfusion z) fun _ => ?_⟩
       have hz2 : Lm.tieP ((row.drop had.length).take sv) tries (ns.drop p') = ((Lm.tieP ((row.drop had.length).take sv) tries (ns.drop p')).1, some (kk, ns.drop p2)) := by rw [← hz]
       obtain ⟨hkl, _, _⟩ := Lm.tieP_some _ _ _ _ _ hz
       have hkl : kk.length = sv := by
         rw [hkl, List.length_take, List.length_drop]
         omega
       have hq0 : H q = none := by
         by_cases hqp : q = pa
         · rw [hqp]; exact hpa0
         · rw [upd_ne hqp] at hq
           exact b1.free1 ht1 hq
       refine ⟨_, rfl, .inl ⟨rfl, _, SqL.of hk2⟩, _, rfl, kn, q, _, _, rfl, rfl, hk2, hq2, few' (by rw [List.length_map, List.length_map]; omega), ?_⟩
       refine ⟨_, _, _, had ++ kk, m + (Lm.tieP ((row.drop had.length).take sv) tries (ns.drop p')).1, p2, rfl, b3.upd (.inr hkn), ?_, ?_, ?_, ?_⟩
       · rw [upd_same, List.map_append]
       · rw [← Nat.add_assoc]
         exact upd_at ht2 ntk
       · rw [List.length_append, hkl, hst, hlen]
       · rw [ez, hd, Lm.tieR_yes hz2, List.length_append, hkl, List.drop_drop]
         generalize Lm.tieR tries (sh.drop (i + 1)) (row.drop (had.length + sv)) (ns.drop p2) = y
         obtain ⟨c, o⟩ := y
         dsimp only
         rw [Nat.add_assoc]
         cases o with
         | none => rfl
         | some u =>
           dsimp only [Option.map_some]
           rw [List.append_assoc]
   · rintro σ H' ⟨v5, v6, v7, had, m, p', rfl, b1, hk1, ht1, hlen, ez⟩
     rw [List.length_map, List.drop_length] at ez
     have ez : Lm.tieR tries sh row (ns.drop p) = (m + 0, some (had ++ [])) := ez
     rw [List.append_nil] at ez
     refine ⟨_, rfl, k H' _ b1 ⟨p', ?_, .inr ⟨kn, had, ?_, rfl, hkn, hk1⟩⟩⟩
     · rw [ez]
       exact ht1
     · rw [ez]
theorem zip_get {α β : Type} : ∀ {xs : List α} {ys : List β} {i : Nat} {x : α} {y : β}, xs[i]? = some x → ys[i]? = some y → (xs.zip ys)[i]? = some (x, y)
 | [], _, i, _, _, h, _ => by simp at h
 | _ :: _, [], i, _, _, _, h => by simp at h
 | a :: xs, b :: ys, 0, x, y, h1, h2 => by
   have e1 : a = x := Option.some.inj h1
   have e2 : b = y := Option.some.inj h2
   subst e1 e2
   rfl
 | a :: xs, b :: ys, i + 1, x, y, h1, h2 => zip_get (xs := xs) (ys := ys) (i := i) h1 h2
def sp_wrong_columns (K : W.Frag) : Sp := fun vs H Q _ => ∃ (ka ra : Addr) (knots row : List Int), vs = [.ref ka, .ref ra] ∧ SqL K H ka (knots.map V.int) ∧ SqL K H ra (row.map V.int) ∧ knots.length ≤ 100000 ∧ knots.length ≤ row.length ∧
 ∀ H' q, Same H H' → H q = none → H' q = some (.lst ((Lm.wcol knots row 0).map natV)) → Q (.ref q) H'
theorem ok_wrong_columns (T : Txt K mg A D) : FnOk P w K mg base CX0 1 A.a_wrong_columns D.d_wrong_columns ["knots", "row"] (sp_wrong_columns K) := by
 refine T.f_wrong_columns.ok sc_wrong_columns (fun vs H Q E h => ?_) (fun cdv Ar outer s H vs Q E hr h => ?_)
 · obtain ⟨ka, ra, knots, row, rfl, _⟩ := h
   rfl
 · obtain ⟨ka, ra, knots, row, rfl, hk, hrw, hl, hlr, k⟩ := h
   refine ⟨_, (pss_one (ps_ret (pe_lc (own := [("x", 2), ("knot", 3)]) rfl sc_wrong_columns.nd (pi_enum rfl T.g_enumerate (pa_cons (pv 0) pa_nil)) (blkOk_by (by show blkC ["knots", "row", "x", "knot"] (defScope s_wrong_columns) _ _ = true; decide +kernel)) (fun _ _ _ _ _ => (show PG _ _ (gTup K 2 (gCons (gName 2) (gCons (gName 3) gNil))) from pg_tup (n := 2) rfl (pgs_cons (pg_name (i := 2) sc_wrong_columns.nd rfl (Or.inl rfl) (Or.inr rfl)) (pgs_cons (pg_name (i := 3) sc_wrong_columns.nd rfl (Or.inl rfl) (Or.inr rfl)) pgs_nil)))) (fun _ _ _ _ _ => (pts_one (pt_cmpR op_ne (pv 3) (pe_ix (show IxR _ (rIxL K) from ix_list) (pv 1) (pv 2) (fun _ _ => rfl)) (nomark _)))) (fun _ _ _ _ _ => (pv 2))))), ?_⟩
   refine ⟨_, rfl, ka, _, rfl, hk, fun d hd => lc_enum (K := K) (a := ka) (xs := knots.map V.int) (fun i H' => Same H H' ∧ H' d = some (.lst ((Lm.wcol (knots.take i) row 0).map natV))) ⟨same_new hd, upd_same⟩ (fun i H' _ p => p.1.seq hk) ?_ ?_⟩
   · rintro i x tp H' hx htp ⟨s1, h1⟩
     obtain ⟨a, ha, rfl⟩ := map_get hx
     have hi := lt_of_get ha
     obtain ⟨b, hb⟩ : ∃ b, row[i]? = some b := ⟨_, List.getElem?_eq_getElem (by omega)⟩
     have htp0 : H tp = none := s1.free htp
     have ndt : d ≠ tp := ne_of_none h1 htp
     have s2 : Same H (upd H' tp (.tup [V.int ((i : Nat) : Int), V.int a])) := same_upd s1 htp0
     have hsn := Lm.wcol_snoc (x0 := 0) ha hb
     have hwl : (Lm.wcol (knots.take i) row 0).length ≤ 100000 := by
       rw [Lm.wcol_len]
       unfold Lm.wrongZ
       have h1 := List.length_filter_le (fun x : Int × Int => x.1 != x.2) ((knots.take i).zip row)
       rw [List.length_zip, List.length_take] at h1
       omega
     refine ⟨tp, _, rfl, SqT.of upd_same, rfl, _, _, rfl, _, _, rfl, rfl, rfl, _, rfl, _, rfl, _, rfl, ra, _, _, V.int b, rfl, rfl, s2.seq hrw, at_of (j := i) rfl (mapAt hb), rfl, _, rfl, ncase (fun e => ?_) fun e => ?_⟩
     · have e : ¬ a = b := fun z => e (eqI.mpr z)
       refine ⟨_, rfl, _, upd_at h1 ndt, few (by rw [List.length_map]; omega), same_upd s2 hd, ?_⟩
       rw [upd_same, hsn, if_neg e, List.map_append, Nat.zero_add]
       rfl
     · have e := eqI.mp e
       refine ⟨s2, ?_⟩
       rw [upd_at h1 ndt, hsn, if_pos e, List.append_nil]
   · rintro H' ⟨s1, h1⟩
     rw [List.length_map, List.take_length] at h1
     exact k H' d s1 hd h1
def sp_count_wrong (K : W.Frag) : Sp := fun vs H Q _ => ∃ (da ca : Addr) (ds cs : List Addr) (done chart : List (List Int)), vs = [.ref da, .ref ca] ∧ H da = some (.lst (ds.map V.ref)) ∧ H ca = some (.lst (cs.map V.ref)) ∧ Rws H ds done ∧ Rws H cs chart ∧ ds.length ≤ 100000 ∧
 (∀ kn ∈ done, ∀ rw ∈ chart, kn.length ≤ rw.length ∧ kn.length ≤ 100000) ∧ ∀ H', Same H H' → Q (.int (Lm.wrongsZ done chart)) H'
theorem sum_natCast : ∀ l : List Nat, (l.map fun (k : Nat) => (k : Int)).sum = ((l.sum : Nat) : Int)
 | [] => rfl
 | a :: l => by
   rw [List.map_cons, List.sum_cons, List.sum_cons, sum_natCast l]
   omega
theorem ok_count_wrong (T : Txt K mg A D) : FnOk P w K mg base CX0 2 A.a_count_wrong D.d_count_wrong ["done", "chart"] (sp_count_wrong K) := by
 refine T.f_count_wrong.ok sc_count_wrong (fun vs H Q E h => ?_) (fun cdv Ar outer s H vs Q E hr h => ?_)
 · obtain ⟨da, ca, ds, cs, done, chart, rfl, _⟩ := h
   rfl
 · obtain ⟨da, ca, ds, cs, done, chart, rfl, hda, hca, hD, hC, hl, hlen, k⟩ := h
   refine ⟨_, (pss_one (ps_ret (pe_callB (cr_sum rfl) rfl T.g_sum boot_sum (pa_cons (pe_lc (own := [("knots", 2), ("row", 3)]) rfl sc_count_wrong.nd (pi_zip rfl T.g_zip (pa_cons (pv 0) (pa_cons (pv 1) pa_nil))) (blkOk_by (by show blkC ["done", "chart", "knots", "row"] (defScope s_count_wrong) _ _ = true; decide +kernel)) (fun _ _ _ _ _ => (show PG _ _ (gTup K 2 (gCons (gName 2) (gCons (gName 3) gNil))) from pg_tup (n := 2) rfl (pgs_cons (pg_name (i := 2) sc_count_wrong.nd rfl (Or.inl rfl) (Or.inr rfl)) (pgs_cons (pg_name (i := 3) sc_count_wrong.nd rfl (Or.inl rfl) (Or.inr rfl)) pgs_nil)))) (fun _ _ _ _ _ => pts_nil) (fun _ _ _ _ _ => (pe_callB (show CallR _ _ (fun xs H Q => ∃ p ys, xs = [V.ref p] ∧ (SqL K H p ys ∨ SqT K H p ys) ∧ Q (V.int ys.length) H) from call_len_seq) rfl T.g_len PySem.boot_len (pa_cons (pe_call (ok_wrong_columns T) hr rfl T.m_wrong_columns T.k_wrong_columns T.b_wrong_columns .nil pass0 (pa_cons (pv 2) (pa_cons (pv 3) pa_nil))) pa_nil)))) pa_nil)))), ?_⟩
   refine ⟨_, rfl, _, rfl, da, ca, _, _, rfl, SqL.of hda, SqL.of hca, fun D0 hD0 => lc_zip (K := K) (a := da) (b := ca) (xs := ds.map V.ref) (ys := cs.map V.ref) (fun i H' => Same H H' ∧ H' D0 = some (.lst (((((done.zip chart).take i).map fun z => Lm.wrongZ z.1 z.2).map fun (k : Nat) => (k : Int)).map V.int)))
     ⟨same_new hD0, upd_same⟩ (fun i H' p => ⟨SqL.of (p.1 _ _ hda), SqL.of (p.1 _ _ hca)⟩) ?_ ?_⟩
   · rintro i x y tp H' hx hy htp ⟨s1, h1⟩
     obtain ⟨ka, hka, rfl⟩ := map_get hx
     obtain ⟨ra, hra, rfl⟩ := map_get hy
     obtain ⟨kn, hkn, hek⟩ := hD.get hka
     obtain ⟨rw1, hrw1, her⟩ := hC.get hra
     have hz := zip_get hkn hrw1
     have htp0 : H tp = none := s1.free htp
     have ndt : D0 ≠ tp := ne_of_none h1 htp
     have hi := lt_of_get hka
     have s2 : Same H (upd H' tp (.tup [V.ref ka, V.ref ra])) := same_upd s1 htp0
     obtain ⟨hl1, hl2⟩ := hlen kn (List.mem_of_getElem? hkn) rw1 (List.mem_of_getElem? hrw1)
     refine ⟨tp, _, rfl, SqT.of upd_same, rfl, _, _, rfl, _, _, rfl, rfl, rfl, yes_if ⟨_, rfl, _, rfl, ka, ra, kn, rw1, rfl, SqL.of (s2 _ _ hek), SqL.of (s2 _ _ her), hl2, hl1, fun H2 q s3 hq0 hq => ?_⟩⟩
     refine ⟨q, _, rfl, .inl (SqL.of hq), _, s3 _ _ (upd_at h1 ndt), few ?_, same_upd (s2.trans s3) hD0, ?_⟩
     · rw [List.length_map, List.length_map, List.length_map, List.length_take]
       omega
     · rw [upd_same, take_snoc hz, List.map_append, List.map_append, List.map_append, List.length_map, Lm.wcol_len]
       rfl
   · rintro i H' hend hi hj ⟨s1, h1⟩
     rw [List.length_map] at hend hi
     rw [List.length_map] at hend hj
     rw [List.take_of_length_le (by rw [List.length_zip, ← hD.length, ← hC.length]; omega)] at h1
     refine ⟨D0, _, rfl, SqL.of h1, ?_⟩
     rw [sum_natCast]
     exact k H' s1
def sp_find_wrong (K : W.Frag) : Sp := fun vs H Q _ => ∃ (da ca : Addr) (ds cs : List Addr) (done rows : List (List Nat)) (k : Nat), vs = [.ref da, .ref ca, .int k] ∧ H da = some (.lst (ds.map V.ref)) ∧ H ca = some (.lst (cs.map V.ref)) ∧ Rws H ds (done.map Lm.bytesZ) ∧ Rws H cs (rows.map Lm.bytesZ) ∧ done.length ≤ rows.length ∧
 (∀ kn ∈ done, (∀ c ∈ kn, c < 62) ∧ kn.length ≤ 100000) ∧ (∀ rw ∈ rows, ∀ c ∈ rw, c < 62) ∧ (∀ kn ∈ done, ∀ rw ∈ rows, kn.length = rw.length) ∧ done.length ≤ 1000 ∧
 ((Lm.wrongFrom (done.zip rows) 0)[k]? = none → ∀ H', Same H H' → Q .non H') ∧
 ∀ x y c r, (Lm.wrongFrom (done.zip rows) 0)[k]? = some (x, y, c) → done[y]? = some r → r[x]? = some c → ∀ H' q, Same H H' → H' q = some (.tup [natV x, natV y]) → Q (.ref q) H'
theorem ok_find_wrong (T : Txt K mg A D) : FnOk P w K mg base CX0 2 A.a_find_wrong D.d_find_wrong ["done", "chart", "k"] (sp_find_wrong K) := by
 refine T.f_find_wrong.ok sc_find_wrong (fun vs H Q E h => ?_) (fun cdv Ar outer s H vs Q E hr h => ?_)
 · obtain ⟨da, ca, ds, cs, done, rows, k, rfl, _⟩ := h
   rfl
 · obtain ⟨da, ca, ds, cs, done, rows, k, rfl, hda, hca, hD, hC, hdl, hd62, hr62, hlen, hdl2, k1, k2⟩ := h
   refine ⟨_, (pss_cons (ps_set (i := 3) sc_find_wrong.nd rfl (Or.inl rfl) pe_int)
     (pss_cons (ps_for PassesOwn.never rfl (pi_enum rfl T.g_enumerate (pa_cons (pv 0) pa_nil)) (show PG _ _ (gTup K 2 (gCons (gName 4) (gCons (gName 5) gNil))) from pg_tup (n := 2) rfl (pgs_cons (pg_name (i := 4) sc_find_wrong.nd rfl (Or.inl rfl) (Or.inr rfl)) (pgs_cons (pg_name (i := 5) sc_find_wrong.nd rfl (Or.inl rfl) (Or.inr rfl)) pgs_nil)))
       (pss_cons (ps_set (i := 6) sc_find_wrong.nd rfl (Or.inl rfl) (pe_call (ok_wrong_columns T) hr rfl T.m_wrong_columns T.k_wrong_columns T.b_wrong_columns .nil pass0 (pa_cons (pv 5) (pa_cons (pe_ix ix_list (pv 1) (pv 4) (fun _ _ => rfl)) pa_nil))))
     (pss_cons (ps_if (pt_cmpR op_lt (pv 2) (pe_op op_add (pv 3) (pe_callB call_len_seq rfl T.g_len PySem.boot_len (pa_cons (pv 6) pa_nil))) (nomark _)) (pss_one (ps_ret (pe_tup (pa_cons (pe_ix ix_list (pv 6) (pe_op op_sub (pv 2) (pv 3)) (fun _ _ => rfl)) (pa_cons (pv 4) pa_nil))))) pss_nil)
     (pss_one (ps_aug (i := 3) sc_find_wrong.nd rfl (Or.inl rfl) (pe_callB call_len_seq rfl T.g_len PySem.boot_len (pa_cons (pv 6) pa_nil)) ip_add)))))
     (pss_one (ps_ret pe_non)))), ?_⟩
   have hdsl : ds.length = done.length := by rw [hD.length, List.length_map]
   refine ⟨_, rfl, da, _, rfl, SqL.of hda, for_enum (K := K) (a := da) (xs := ds.map V.ref) (fun i σ H' => ∃ (v4 v5 v6 : Option V), σ = [some (.ref da), some (.ref ca), some (.int (k : Int)), some (natV (Lm.wrongFrom ((done.zip rows).take i) 0).length), v4, v5, v6] ∧ Same H H' ∧ (Lm.wrongFrom ((done.zip rows).take i) 0).length ≤ k)
     ⟨none, none, none, rfl, Same.refl H, Nat.zero_le _⟩ (fun i σ H' _ ⟨_, _, _, _, s1, _⟩ => SqL.of (s1 _ _ hda)) ?_ ?_⟩
   · rintro i x tp σ H1 hx htp ⟨v4, v5, v6, rfl, s1, hle⟩
     obtain ⟨ka, hka, rfl⟩ := map_get hx
     have hi := lt_of_get hka
     obtain ⟨kz, hkz, hek⟩ := hD.get hka
     obtain ⟨kn, hkn, rfl⟩ := map_get hkz
     obtain ⟨rw1, hrw1⟩ : ∃ r, rows[i]? = some r := ⟨_, List.getElem?_eq_getElem (by omega)⟩
     obtain ⟨ra, hra, her⟩ := hC.get' (i := i) (r := Lm.bytesZ rw1) (mapAt hrw1)
     have hz := zip_get hkn hrw1
     have hl1 := hlen kn (List.mem_of_getElem? hkn) rw1 (List.mem_of_getElem? hrw1)
     obtain ⟨hk62, hkl⟩ := hd62 kn (List.mem_of_getElem? hkn)
     have hw62 := hr62 rw1 (List.mem_of_getElem? hrw1)
     have htp0 : H tp = none := s1.free htp
     have s2 : Same H (upd H1 tp (.tup [V.int ((i : Nat) : Int), V.ref ka])) := same_upd s1 htp0
     have hwc := Lm.wcol_bytes (r := kn) (q := rw1) 0 hk62 hw62
     refine ⟨tp, _, rfl, SqT.of upd_same, rfl, _, _, rfl, _, _, rfl, rfl, ?_⟩
     refine ⟨_, rfl, _, rfl, _, rfl, ca, _, _, V.ref ra, rfl, rfl, SqL.of (s2 _ _ hca), at_of (j := i) rfl (mapAt hra), ka, ra, Lm.bytesZ kn, Lm.bytesZ rw1, rfl, SqL.of (s2 _ _ hek), SqL.of (s2 _ _ her), by rw [Lm.bytesZ_len]; exact hkl, by rw [Lm.bytesZ_len, Lm.bytesZ_len, hl1]; exact Nat.le_refl _, fun H2 q s3 hq0 hq => ?_⟩
     rw [hwc] at hq
     have s4 := s2.trans s3
     have hql : ((Lm.wcol kn rw1 0).map natV).length = (Lm.wcol kn rw1 0).length := List.length_map _
     refine ⟨_, rfl, _, rfl, _, rfl, q, _, rfl, .inl (SqL.of hq), _, _, rfl, rfl, _, _, rfl, rfl, _, rfl, dcase (fun e => ?_) fun e => ?_⟩
     · rw [hql] at e
       have e : k < (Lm.wrongFrom ((done.zip rows).take i) 0).length + (Lm.wcol kn rw1 0).length := by omega
       obtain ⟨x, hx1, hx2⟩ := Lm.wrong_at hz hle e
       have hxl := (Lm.wcol_ge _ _ _ _ (List.mem_of_getElem? hx1)).2
       have hsub : (k : Int) - (((Lm.wrongFrom ((done.zip rows).take i) 0).length : Nat) : Int) = ((k - (Lm.wrongFrom ((done.zip rows).take i) 0).length : Nat) : Int) := by omega
       refine ⟨_, rfl, _, rfl, _, rfl, _, _, rfl, rfl, ?_⟩
       dsimp only
       rw [hsub]
       refine ⟨q, _, _, natV x, rfl, rfl, SqL.of hq, at_of (j := k - (Lm.wrongFrom ((done.zip rows).take i) 0).length) rfl (mapAt hx1), _, rfl, few' (by simp), fun p hp => ?_⟩
       refine k2 x i (kn.getD x 0) kn hx2 hkn ?_ _ p (same_upd s4 (s4.free hp)) upd_same
       rw [List.getD_eq_getElem?_getD, List.getElem?_eq_getElem (by omega)]
       rfl
     · rw [hql] at e
       refine ⟨_, rfl, _, rfl, q, _, rfl, .inl (SqL.of hq), _, _, rfl, rfl, some (natV i), some (.ref ka), some (.ref q), ?_, s4, ?_⟩
       · have e2 : V.int ((((Lm.wrongFrom ((done.zip rows).take i) 0).length : Nat) : Int) + ((((Lm.wcol kn rw1 0).map natV).length : Nat) : Int)) = natV (Lm.wrongFrom ((done.zip rows).take (i + 1)) 0).length := by
           show V.int _ = V.int _
           rw [Lm.wrong_take hz, hql]
           congr 1
         rw [e2]
         rfl
       · rw [Lm.wrong_take hz]
         omega
   · rintro σ H1 ⟨v4, v5, v6, rfl, s1, hle⟩
     have e : (ds.map V.ref).length = done.length := by rw [List.length_map, hdsl]
     rw [e, List.take_of_length_le (by rw [List.length_zip]; omega)] at hle
     exact k1 (List.getElem?_eq_none hle) H1 s1
def sp_are_shares (K : W.Frag) : Sp := fun vs H Q _ => ∃ (sa : Addr) (sh : List Int) (wd : Int), vs = [.ref sa, .int wd] ∧ SqL K H sa (sh.map V.int) ∧ Q (.bl (Lm.sharesZ sh wd)) H
theorem ok_are_shares (T : Txt K mg A D) : FnOk P w K mg base CX0 1 A.a_are_shares D.d_are_shares ["shares", "width"] (sp_are_shares K) := by
 refine T.f_are_shares.ok sc_are_shares (fun vs H Q E h => ?_) (fun cdv Ar outer s H vs Q E hr h => ?_)
 · obtain ⟨sa, sh, wd, rfl, _⟩ := h
   rfl
 · obtain ⟨sa, sh, wd, rfl, hsa, k⟩ := h
   refine ⟨_, (pss_cons (ps_for PassesOwn.never rfl (pi_list (pv 0)) (pg_name (i := 2) sc_are_shares.nd rfl (Or.inl rfl))
       (pss_one (ps_if (PW.pt (pw_or (pt_cmpR op_lt (pv 2) pe_int (nomark _)) (pw_or1 (pt_cmpR op_gt (pv 2) (pe_glob (v := .int (128)) rfl T.c_WIDEST_SHARE ⟨_, rfl⟩) (nomark _))))) (pss_one (ps_ret pe_bl)) pss_nil)))
     (pss_one (ps_ret (pe_cmpR op_eq (pe_callB (cr_sum rfl) rfl T.g_sum boot_sum (pa_cons (pv 0) pa_nil)) (pv 1) (nomark _))))), ?_⟩
   refine ⟨_, rfl, sa, rfl, ⟨_, hsa⟩, for_list (K := K) (a := sa) (xs := sh.map V.int) (fun i σ H' => ∃ v : Option V, σ = [some (.ref sa), some (.int wd), v] ∧ H' = H ∧ (sh.take i).all (fun k => decide (1 ≤ k) && decide (k ≤ 128)) = true)
     ⟨none, rfl, rfl, rfl⟩ (fun i σ H' _ ⟨_, _, e, _⟩ => by rw [e]; exact hsa) ?_ ?_⟩
   · rintro i x σ H' hx ⟨v, rfl, rfl, hall⟩
     obtain ⟨a, ha, rfl⟩ := map_get hx
     have no : ¬ (1 ≤ a ∧ a ≤ 128) → Lm.sharesZ sh wd = false := fun h => by
       unfold Lm.sharesZ
       rw [Bool.and_eq_false_iff]
       refine .inl ?_
       rw [List.all_eq_false]
       refine ⟨a, List.mem_of_getElem? ha, ?_⟩
       rw [Bool.and_eq_true, decide_eq_true_eq, decide_eq_true_eq]
       exact h
     refine ⟨_, rfl, _, _, rfl, rfl, _, rfl, dcase (fun e1 => ?_) fun e1 => ?_⟩
     · refine iteT ?_
       rw [no (by omega)] at k
       exact k
     · refine ⟨_, rfl, _, _, rfl, rfl, _, rfl, dcase (fun e2 => ?_) fun e2 => ?_⟩
       · rw [no (by omega)] at k
         exact k
       · refine ⟨_, rfl, rfl, ?_⟩
         rw [take_snoc ha, List.all_append, hall, Bool.true_and, List.all_cons, List.all_nil, Bool.and_true, Bool.and_eq_true, decide_eq_true_eq, decide_eq_true_eq]
         omega
   · rintro σ H' ⟨v, rfl, rfl, hall⟩
     rw [List.length_map, List.take_length] at hall
     refine ⟨_, rfl, sa, sh, rfl, hsa, _, rfl, rfl, ?_⟩
     unfold Lm.sharesZ at k
     rw [hall, Bool.true_and] at k
     have e : decide (V.int sh.sum = V.int wd) = decide (sh.sum = wd) := decide_eq_decide.mpr eqI
     rw [e]
     exact k
end
end Kn
set_option Elab.async false
set_option linter.all false
set_option maxRecDepth 100000
set_option maxHeartbeats 2000000
namespace Kn
open PySem PySem.Spec PyProof.Rows L2 Km
open Rg (Loom Chart)
open Lm (bytesZ colsOf LoomOk)
section
variable {P : Program} {w : World} {K : W.Frag} {mg : Str → Option Value} {base : Heap} {A : Ad} {D : Fds}
def lmF (c : V) (s d : Addr) (n : Nat) (lc : Addr) : List (Str × V) := [("chart", c), ("shares", .ref s), ("done", .ref d), ("asked", .int n), ("least_calls", .ref lc)]
theorem lm_chart (c : V) (s d : Addr) (n : Nat) (lc : Addr) : (lmF c s d n lc).lookup ("chart" : Str) = some c := look_eq
theorem lm_shares (c : V) (s d : Addr) (n : Nat) (lc : Addr) : (lmF c s d n lc).lookup ("shares" : Str) = some (.ref s) := (look_ne (by decide +kernel)).trans look_eq
theorem lm_done (c : V) (s d : Addr) (n : Nat) (lc : Addr) : (lmF c s d n lc).lookup ("done" : Str) = some (.ref d) := (look_ne (by decide +kernel)).trans ((look_ne (by decide +kernel)).trans look_eq)
theorem lm_asked (c : V) (s d : Addr) (n : Nat) (lc : Addr) : (lmF c s d n lc).lookup ("asked" : Str) = some (.int n) := (look_ne (by decide +kernel)).trans ((look_ne (by decide +kernel)).trans ((look_ne (by decide +kernel)).trans look_eq))
theorem lm_least (c : V) (s d : Addr) (n : Nat) (lc : Addr) : (lmF c s d n lc).lookup ("least_calls" : Str) = some (.ref lc) := (look_ne (by decide +kernel)).trans ((look_ne (by decide +kernel)).trans ((look_ne (by decide +kernel)).trans ((look_ne (by decide +kernel)).trans look_eq)))
theorem lm_no {m : Str} (c : V) (s d : Addr) (n : Nat) (lc : Addr) (h1 : ¬ m = "chart") (h2 : ¬ m = "shares") (h3 : ¬ m = "done") (h4 : ¬ m = "asked") (h5 : ¬ m = "least_calls") : (lmF c s d n lc).lookup m = none := by
 unfold lmF
 rw [look_ne h1, look_ne h2, look_ne h3, look_ne h4, look_ne h5]
 rfl
theorem lm_put_chart (c c' : V) (s d : Addr) (n : Nat) (lc : Addr) : putF "chart" c' (lmF c s d n lc) = lmF c' s d n lc := put_eq
theorem lm_put_shares (c : V) (s s' d : Addr) (n : Nat) (lc : Addr) : putF "shares" (.ref s') (lmF c s d n lc) = lmF c s' d n lc := by
 unfold lmF
 rw [put_ne (by decide +kernel), put_eq]
theorem lm_put_done (c : V) (s d d' : Addr) (n : Nat) (lc : Addr) : putF "done" (.ref d') (lmF c s d n lc) = lmF c s d' n lc := by
 unfold lmF
 rw [put_ne (by decide +kernel), put_ne (by decide +kernel), put_eq]
theorem lm_put_asked (c : V) (s d : Addr) (n m : Nat) (lc : Addr) : putF "asked" (.int m) (lmF c s d n lc) = lmF c s d m lc := by
 unfold lmF
 rw [put_ne (by decide +kernel), put_ne (by decide +kernel), put_ne (by decide +kernel), put_eq]
def LcOk (H : Hp) (lc : Addr) (N : Nat) : Prop := ∃ kvs : List (L2.Key × V), H lc = some (.dK kvs) ∧ kvs.length ≤ N ∧ ∀ k v, valV kvs k = some v → ∃ u, k = .inr (sC u) ∧ u ≠ [] ∧ (∀ c ∈ u, c < 62) ∧ u.length ≤ 128 ∧ v = .str (sB (Lm.lk u).2.2)
theorem LcOk.keep {H H' : Hp} {lc : Addr} {N : Nat} (h : LcOk H lc N) (e : ∀ o, H lc = some o → H' lc = some o) : LcOk H' lc N := let ⟨kvs, a, b⟩ := h; ⟨kvs, e _ a, b⟩
theorem LcOk.more {H : Hp} {lc : Addr} {N : Nat} (h : LcOk H lc N) : LcOk H lc (N + 1) := let ⟨kvs, a, b, c⟩ := h; ⟨kvs, a, Nat.le_succ_of_le b, c⟩
theorem LcOk.ne {H : Hp} {lc : Addr} {N : Nat} (h : LcOk H lc N) {b : Addr} {o : HO} (e : H b = some o) (n : ∀ kvs, o ≠ .dK kvs) : lc ≠ b := fun z => by
 obtain ⟨kvs, a, _⟩ := h
 rw [z, e] at a
 exact n _ (Option.some.inj a)
structure Begun (C : Addr) (H : Hp) (l dx c s d lc : Addr) (as ds : List Addr) (N : Nat) (L : Loom) : Prop where
 obj : H l = some (.ins C dx (lmF (.ref c) s d L.asked lc))
 chart : H c = some (.lst (as.map V.ref))
 rows : Rws H as (L.chart.rows.map bytesZ)
 shares : H s = some (.lst (L.shares.map natV))
 dlst : H d = some (.lst (ds.map V.ref))
 drows : Rws H ds (L.done.map bytesZ)
 apart : d ∉ c :: s :: (as ++ ds)
 ok : LoomOk L
 small : (L.chart.wide + 1) * L.chart.high ≤ 30000
 lcs : LcOk H lc N
def LoomAt (C : Addr) (H : Hp) (l : Addr) (fp : List Addr) (N : Nat) : RugH.State → Prop
 | none => ∃ dx s d n lc, fp = [l, lc] ∧ H l = some (.ins C dx (lmF .non s d n lc)) ∧ LcOk H lc N
 | some L => ∃ dx c s d lc as ds, fp = l :: d :: c :: s :: lc :: (as ++ ds) ∧ Begun C H l dx c s d lc as ds N L
theorem LoomAt.stay {C : Addr} {H H' : Hp} {l : Addr} {fp : List Addr} {N : Nat} {st : RugH.State} (h : LoomAt C H l fp N st) (k : ∀ b ∈ fp, ∀ o, H b = some o → H' b = some o) : LoomAt C H' l fp N st := by
 cases st with
 | none =>
   obtain ⟨dx, s, d, n, lc, rfl, e, hc⟩ := h
   exact ⟨dx, s, d, n, lc, rfl, k _ (by simp) _ e, hc.keep (k _ (by simp))⟩
 | some L =>
   obtain ⟨dx, c, s, d, lc, as, ds, rfl, B⟩ := h
   refine ⟨dx, c, s, d, lc, as, ds, rfl, ⟨k _ (by simp) _ B.obj, k _ (by simp) _ B.chart, B.rows.mono fun b hb => k b (by simp [hb]), k _ (by simp) _ B.shares, k _ (by simp) _ B.dlst, B.drows.mono fun b hb => k b (by simp [hb]), B.apart, B.ok, B.small, B.lcs.keep (k _ (by simp))⟩⟩
theorem LoomAt.more {C : Addr} {H : Hp} {l : Addr} {fp : List Addr} {N : Nat} {st : RugH.State} (h : LoomAt C H l fp N st) : LoomAt C H l fp (N + 1) st := by
 cases st with
 | none =>
   obtain ⟨dx, s, d, n, lc, rfl, e, hc⟩ := h
   exact ⟨dx, s, d, n, lc, rfl, e, hc.more⟩
 | some L =>
   obtain ⟨dx, c, s, d, lc, as, ds, rfl, B⟩ := h
   exact ⟨dx, c, s, d, lc, as, ds, rfl, ⟨B.obj, B.chart, B.rows, B.shares, B.dlst, B.drows, B.apart, B.ok, B.small, B.lcs.more⟩⟩
theorem LoomAt.mem {C : Addr} {H : Hp} {l : Addr} {fp : List Addr} {N : Nat} {st : RugH.State} (h : LoomAt C H l fp N st) : l ∈ fp := by
 cases st with
 | none => obtain ⟨dx, s, d, n, lc, rfl, _⟩ := h; exact List.mem_cons_self
 | some L => obtain ⟨dx, c, s, d, lc, as, ds, rfl, B⟩ := h; exact List.mem_cons_self
theorem LoomAt.obj {C : Addr} {H : Hp} {l : Addr} {fp : List Addr} {N : Nat} {st : RugH.State} (h : LoomAt C H l fp N st) : ∃ dx c s d n lc, H l = some (.ins C dx (lmF c s d n lc)) ∧ (c = .non ↔ st = none) ∧ lc ∈ fp ∧ LcOk H lc N := by
 cases st with
 | none =>
   obtain ⟨dx, s, d, n, lc, rfl, e, hc⟩ := h
   exact ⟨dx, .non, s, d, n, lc, e, by simp, by simp, hc⟩
 | some L =>
   obtain ⟨dx, c, s, d, lc, as, ds, rfl, B⟩ := h
   exact ⟨dx, .ref c, s, d, L.asked, lc, B.obj, by simp, by simp, B.lcs⟩
theorem LoomAt.small {C : Addr} {H : Hp} {l : Addr} {fp : List Addr} {N : Nat} {st : RugH.State} (h : LoomAt C H l fp N st) : ∀ L, st = some L → Lm.Small L := fun L e => by
 subst e
 obtain ⟨dx, c, s, d, lc, as, ds, _, B⟩ := h
 exact ⟨B.ok, B.small⟩
def MEnd (C : Addr) (H H' : Hp) (l : Addr) (fp : List Addr) (N : Nat) (st : RugH.State) (p : Addr) (ans : List Int) : Prop :=
 ∃ fp', LoomAt C H' l fp' (N + 1) st ∧ (∀ b ∈ fp', b ∈ fp ∨ H b = none) ∧ But fp H H' ∧ H p = none ∧ H' p = some (.lst (ans.map V.int))
theorem MEnd.plain {C : Addr} {H H1 : Hp} {l : Addr} {fp : List Addr} {N : Nat} {st : RugH.State} {p : Addr} {ans : List Int} (h : LoomAt C H l fp N st) (s1 : Same H H1) (hp : H1 p = none) : MEnd C H (upd H1 p (.lst (ans.map V.int))) l fp N st p ans :=
 ⟨fp, (h.stay fun b _ o e => same_upd s1 (s1.free hp) b o e).more, fun b hb => .inl hb, But.same (same_upd s1 (s1.free hp)) _, s1.free hp, upd_same⟩
def sp_Loom_init (C : Addr) : Sp := fun vs H Q _ => ∃ (p dx : Addr), vs = [.ref p] ∧ H p = some (.ins C dx []) ∧ ∀ (H' : Hp) (lc : Addr), LoomAt C H' p [p, lc] 0 none → H lc = none → But [p] H H' → Q .non H'
theorem ok_Loom_init (T : Txt K mg A D) : FnOk P w K mg base CX0 1 A.a_Loom_init D.d_Loom_init ["self"] (sp_Loom_init A.a_Loom) := by
 refine T.f_Loom_init.ok sc_Loom_init (fun vs H Q E h => ?_) (fun cdv Ar outer s H vs Q E hr h => ?_)
 · obtain ⟨p, dx, rfl, _⟩ := h
   rfl
 · obtain ⟨p, dx, rfl, hp, k⟩ := h
   refine ⟨_, (pss_cons (ps_fld (pv 0) pe_non rfl)
     (pss_cons (ps_fld (pv 0) (pe_lst pa_nil) rfl)
     (pss_cons (ps_fld (pv 0) (pe_lst pa_nil) rfl)
     (pss_cons (ps_fld (pv 0) pe_int rfl)
     (pss_one (ps_fld (pv 0) pe_dnewK rfl)))))), ?_⟩
   refine ⟨_, rfl, p, _, dx, _, rfl, hp, T.cl_Loom, T.n_Loom_chart, (by show 0 < 1000; decide), Nat.zero_le _, fun s1 hs1 => ?_⟩
   have n1 : p ≠ s1 := ne_of_none upd_same hs1
   refine ⟨_, rfl, p, _, dx, _, rfl, upd_at upd_same n1, T.cl_Loom, T.n_Loom_shares, (by show 1 < 1000; decide), Nat.zero_le _, fun d1 hd1 => ?_⟩
   have n2 : p ≠ d1 := ne_of_none upd_same hd1
   refine ⟨_, rfl, p, _, dx, _, rfl, upd_at upd_same n2, T.cl_Loom, T.n_Loom_done, (by show 2 < 1000; decide), ?_⟩
   refine ⟨_, rfl, p, _, dx, _, rfl, upd_same, T.cl_Loom, T.n_Loom_asked, (by show 3 < 1000; decide), fun l1 hl1 => ?_⟩
   have n3 : p ≠ l1 := ne_of_none upd_same hl1
   refine ⟨_, rfl, p, _, dx, _, rfl, upd_at upd_same n3, T.cl_Loom, T.n_Loom_least_calls, (by show 4 < 1000; decide), ?_⟩
   have fr : ∀ {H1 : Hp} {o : HO} {q : Addr}, upd H1 p o q = none → H1 q = none := fun {H1 o q} z => by
     unfold upd at z
     split at z
     · cases z
     · exact z
   have fr2 : ∀ {H1 : Hp} {o : HO} {q b : Addr}, upd H1 b o q = none → H1 q = none := fun {H1 o q b} z => by
     unfold upd at z
     split at z
     · cases z
     · exact z
   have hs0 : H s1 = none := fr hs1
   have hd0 : H d1 = none := fr (fr2 (fr hd1))
   have hl0 : H l1 = none := fr (fr2 (fr (fr2 (fr (fr hl1)))))
   refine k _ l1 ⟨dx, s1, d1, 0, l1, rfl, ?_, [], upd_at upd_same n3.symm, Nat.le_refl _, fun _ _ z => nomatch z⟩ hl0 ?_
   · rw [upd_same]
     have e : putF "least_calls" (.ref l1) (putF "asked" (.int 0) (putF "done" (.ref d1) (putF "shares" (.ref s1) (putF "chart" .non [])))) = lmF .non s1 d1 0 l1 := by
       show putF "least_calls" (.ref l1) (putF "asked" (.int 0) (putF "done" (.ref d1) (putF "shares" (.ref s1) [("chart", V.non)]))) = _
       rw [put_ne (by decide +kernel)]
       show putF "least_calls" (.ref l1) (putF "asked" (.int 0) (putF "done" (.ref d1) [("chart", V.non), ("shares", .ref s1)])) = _
       rw [put_ne (by decide +kernel), put_ne (by decide +kernel)]
       show putF "least_calls" (.ref l1) (putF "asked" (.int 0) [("chart", V.non), ("shares", .ref s1), ("done", .ref d1)]) = _
       rw [put_ne (by decide +kernel), put_ne (by decide +kernel), put_ne (by decide +kernel)]
       show putF "least_calls" (.ref l1) [("chart", V.non), ("shares", .ref s1), ("done", .ref d1), ("asked", .int 0)] = _
       rw [put_ne (by decide +kernel), put_ne (by decide +kernel), put_ne (by decide +kernel), put_ne (by decide +kernel)]
       rfl
     exact congrArg (fun q => some (HO.ins _ dx q)) e
   · have m : p ∈ [p] := List.mem_cons_self
     exact ((((((((But.refl [p] H).upd (.inl m)).upd (.inr hs0)).upd (.inl m)).upd (.inr hd0)).upd (.inl m)).upd (.inl m)).upd (.inr hl0)).upd (.inl m)
def sp_Loom_unpick (C : Addr) : Sp := fun vs H Q _ => ∃ (l : Addr) (fp : List Addr) (N : Nat) (st : RugH.State) (k : Nat), vs = [.ref l, .int k] ∧ LoomAt C H l fp N st ∧
 ∀ H' p, MEnd C H H' l fp N (RugH.step st (.unpick k)).1 p (RugHNeutral.shown (RugH.step st (.unpick k)).2) → Q (.ref p) H'
theorem ok_Loom_unpick (T : Txt K mg A D) : FnOk P w K mg base CX0 1 A.a_Loom_unpick D.d_Loom_unpick ["self", "k"] (sp_Loom_unpick A.a_Loom) := by
 refine T.f_Loom_unpick.ok sc_Loom_unpick (fun vs H Q E h => ?_) (fun cdv Ar outer s H vs Q E hr h => ?_)
 · obtain ⟨l, fp, N, st, k, rfl, _⟩ := h
   rfl
 · obtain ⟨l, fp, N, st, k, rfl, hL, q⟩ := h
   refine ⟨_, (pss_cons (ps_if (pt_cmpR op_isN (pe_fld (pv 0) rfl) pe_non (nomark _)) (pss_one (ps_ret (pe_lst (pa_cons (pe_glob (v := .int (-13)) rfl T.c_NOT_BEGUN ⟨_, rfl⟩) pa_nil)))) pss_nil)
     (pss_cons (ps_if (pt_cmpR op_gt (pv 1) (pe_callB call_len_seq rfl T.g_len PySem.boot_len (pa_cons (pe_fld (pv 0) rfl) pa_nil)) (nomark _)) (pss_one (ps_ret (pe_lst (pa_cons (pe_glob (v := .int (-4)) rfl T.c_NO_SUCH_THING ⟨_, rfl⟩) pa_nil)))) pss_nil)
     (pss_cons (ps_fld (pv 0) (pe_slice sl_list (pe_fld (pv 0) rfl) po_none (po_some (pe_op op_sub (pe_callB call_len_seq rfl T.g_len PySem.boot_len (pa_cons (pe_fld (pv 0) rfl) pa_nil)) (pv 1)))) rfl)
     (pss_one (ps_ret (pe_lst (pa_cons pe_int pa_nil))))))), ?_⟩
   cases st with
   | none =>
     obtain ⟨dx, c, s0, d, n, lc, e, hc, _⟩ := hL.obj
     have hc : c = .non := hc.mpr rfl
     subst hc
     refine ⟨_, rfl, l, _, dx, _, _, rfl, e, T.cl_Loom, T.n_Loom_chart, lm_chart _ _ _ _ _, rfl, _, rfl, dcase (fun _ => ?_) fun z => absurd rfl z⟩
     exact ⟨few' (by decide), fun p hp => q _ p (MEnd.plain (ans := [-13]) hL (Same.refl H) hp)⟩
   | some L =>
     have hL0 := hL
     obtain ⟨dx, c, s0, d, lc, as, ds, rfl, B⟩ := hL
     have hdl : (ds.map V.ref).length = L.done.length := by rw [List.length_map, B.drows.length, List.length_map]
     refine ⟨_, rfl, l, _, dx, _, _, rfl, B.obj, T.cl_Loom, T.n_Loom_chart, lm_chart _ _ _ _ _, rfl, _, rfl, dcase (fun z => V.noConfusion z) fun _ => ?_⟩
     refine ⟨_, rfl, _, rfl, l, _, dx, _, _, rfl, B.obj, T.cl_Loom, T.n_Loom_done, lm_done _ _ _ _ _, d, _, rfl, .inl (SqL.of B.dlst), _, _, rfl, rfl, _, rfl, dcase (fun e => ?_) fun e => ?_⟩
     · rw [hdl] at e
       have e : L.done.length < k := by omega
       have es : RugH.step (some L) (.unpick k) = (some L, Rg.NO) := by
         show (if L.done.length < k then (some L, Rg.NO) else (some (L.unpicked k), Rg.says 0)) = _
         rw [if_pos e]
       rw [es] at q
       exact ⟨few' (by decide), fun p hp => q _ p (MEnd.plain (ans := [-4]) hL0 (Same.refl H) hp)⟩
     · rw [hdl] at e
       have e : ¬ L.done.length < k := by omega
       have es : RugH.step (some L) (.unpick k) = (some (L.unpicked k), Rg.says 0) := by
         show (if L.done.length < k then (some L, Rg.NO) else (some (L.unpicked k), Rg.says 0)) = _
         rw [if_neg e]
       rw [es] at q
       refine ⟨_, rfl, l, _, dx, _, _, rfl, B.obj, T.cl_Loom, T.n_Loom_done, lm_done _ _ _ _ _, _, rfl, l, _, dx, _, _, rfl, B.obj, T.cl_Loom, T.n_Loom_done, lm_done _ _ _ _ _, d, _, rfl, .inl (SqL.of B.dlst), _, rfl, _, _, rfl, rfl, _, rfl, d, _, rfl, SqL.of B.dlst, fun d' hd' => ?_⟩
       have ec : cutV (ds.map V.ref) none (some ((((ds.map V.ref).length : Nat) : Int) - (k : Int))) = (ds.take (L.done.length - k)).map V.ref := by
         have e1 : (((ds.map V.ref).length : Nat) : Int) - (k : Int) = ((L.done.length - k : Nat) : Int) := by rw [hdl]; omega
         rw [e1, cut_to, List.map_take]
       rw [ec]
       have nld : l ≠ d' := ne_of_none B.obj hd'
       refine ⟨_, rfl, l, _, dx, _, rfl, upd_at B.obj nld, T.cl_Loom, T.n_Loom_done, (by show 5 < 1000; decide), few' (by decide), fun p hp => ?_⟩
       rw [lm_put_done] at hp ⊢
       generalize hH1 : upd (upd H d' (.lst ((ds.take (L.done.length - k)).map V.ref))) l (.ins A.a_Loom dx (lmF (.ref c) s0 d' L.asked lc)) = H1 at hp
       have b1 : But [l] H H1 := by rw [← hH1]; exact ((But.refl [l] H).upd (.inr hd')).upd (.inl List.mem_cons_self)
       have hl1 : H1 l = some (.ins A.a_Loom dx (lmF (.ref c) s0 d' L.asked lc)) := by rw [← hH1, upd_same]
       have hd1 : H1 d' = some (.lst ((ds.take (L.done.length - k)).map V.ref)) := by rw [← hH1]; exact upd_at upd_same nld.symm
       have hp0 : H p = none := b1.free1 hl1 hp
       have kp : ∀ b o, H b = some o → b ≠ l → (upd H1 p (.lst [V.int 0])) b = some o := fun b o e n => upd_at (b1 b o e fun z => n (List.mem_singleton.mp z)) (ne_of_none e hp0)
       have lk : ∀ {b : Addr} {xs : List V}, H b = some (.lst xs) → b ≠ l := fun e => ne_of e B.obj (by intro z; cases z)
       have rk : ∀ {bs : List Addr} {rs : List (List Int)}, Rws H bs rs → Rws (upd H1 p (.lst [V.int 0])) bs rs := fun {bs rs} R => by
         induction R with
         | nil => exact .nil
         | cons a _ ih => exact .cons (kp _ _ a (lk a)) ih
       have fresh : ∀ b ∈ c :: s0 :: (as ++ ds), ∃ o, H b = some o := fun b hb => by
         rcases List.mem_cons.mp hb with rfl | hb
         · exact ⟨_, B.chart⟩
         rcases List.mem_cons.mp hb with rfl | hb
         · exact ⟨_, B.shares⟩
         rcases List.mem_append.mp hb with hb | hb
         · exact B.rows.there b hb
         · exact B.drows.there b hb
       refine q _ p ⟨l :: d' :: c :: s0 :: lc :: (as ++ ds.take (L.done.length - k)), ⟨dx, c, s0, d', lc, as, ds.take (L.done.length - k), rfl, ?_⟩, ?_, ?_, hp0, upd_same⟩
       · refine ⟨upd_at hl1 (ne_of_none hl1 hp), kp _ _ B.chart (lk B.chart), rk B.rows, kp _ _ B.shares (lk B.shares), upd_at hd1 (ne_of_none hd1 hp), ?_, ?_, ?_, B.small, (B.lcs.keep fun o e => kp _ _ e (B.lcs.ne B.obj (by intro kvs z; cases z))).more⟩
         · have := (rk B.drows).take (L.done.length - k)
           rw [← List.map_take] at this
           exact this
         · intro z
           have z : d' ∈ c :: s0 :: (as ++ ds) := by
             rcases List.mem_cons.mp z with y | y
             · exact List.mem_cons.mpr (.inl y)
             rcases List.mem_cons.mp y with y | y
             · exact List.mem_cons_of_mem _ (List.mem_cons.mpr (.inl y))
             rcases List.mem_append.mp y with y | y
             · exact List.mem_cons_of_mem _ (List.mem_cons_of_mem _ (List.mem_append_left _ y))
             · exact List.mem_cons_of_mem _ (List.mem_cons_of_mem _ (List.mem_append_right _ (List.mem_of_mem_take y)))
           obtain ⟨o, ho⟩ := fresh d' z
           rw [hd'] at ho
           cases ho
         · have O := B.ok
           refine ⟨O.right, O.shares, O.most, O.some, ?_, fun r hr => O.wide r (List.mem_of_mem_take hr)⟩
           show (L.done.take _).length ≤ L.chart.rows.length
           rw [List.length_take]
           have := O.done
           omega
       · intro b hb
         rcases List.mem_cons.mp hb with rfl | hb
         · exact .inl List.mem_cons_self
         rcases List.mem_cons.mp hb with rfl | hb
         · exact .inr hd'
         refine .inl (List.mem_cons_of_mem _ (List.mem_cons_of_mem _ ?_))
         have sub : ∀ x ∈ ds.take (L.done.length - k), x ∈ ds := fun x hx => List.mem_of_mem_take hx
         simp only [List.mem_cons, List.mem_append] at hb ⊢
         rcases hb with y | y | y | y | y
         · exact .inl y
         · exact .inr (.inl y)
         · exact .inr (.inr (.inl y))
         · exact .inr (.inr (.inr (.inl y)))
         · exact .inr (.inr (.inr (.inr (sub b y))))
       · exact (b1.mono fun b hb => by rw [List.mem_singleton.mp hb]; exact List.mem_cons_self).upd (.inr hp0)
end
end Kn
set_option Elab.async false
set_option linter.all false
set_option maxRecDepth 100000
set_option maxHeartbeats 2000000
namespace Kn
open PySem PySem.Spec PyProof.Rows L2 Km
open Rg (Loom Chart)
open Lm (bytesZ colsOf LoomOk)
section
variable {P : Program} {w : World} {K : W.Frag} {mg : Str → Option Value} {base : Heap} {A : Ad} {D : Fds}
theorem Begun.lens {C : Addr} {H : Hp} {l dx c s d lc : Addr} {as ds : List Addr} {N : Nat} {L : Loom} (B : Begun C H l dx c s d lc as ds N L) : as.length = L.chart.high ∧ ds.length = L.done.length ∧ L.done.length ≤ 512 ∧ L.chart.high ≤ 512 ∧ 1 ≤ L.chart.high := by
 obtain ⟨⟨_, _, h1, h2⟩, _, h3, _⟩ := B.ok.rows
 have e1 := B.rows.length
 have e2 := B.drows.length
 have e3 := B.ok.done
 rw [List.length_map] at e1 e2
 exact ⟨by omega, by omega, by omega, by omega, by omega⟩
theorem Begun.row {C : Addr} {H : Hp} {l dx c s d lc : Addr} {as ds : List Addr} {N : Nat} {L : Loom} (B : Begun C H l dx c s d lc as ds N L) {y : Nat} (h : y < L.chart.high) : ∃ (a : Addr) (r : List Nat), as[y]? = some a ∧ L.chart.rows[y]? = some r ∧ H a = some (.lst ((bytesZ r).map V.int)) ∧ r.length = L.chart.wide ∧ ∀ k ∈ r, k < 62 := by
 obtain ⟨_, _, h3, h4⟩ := B.ok.rows
 obtain ⟨r, hr⟩ : ∃ r, L.chart.rows[y]? = some r := ⟨_, List.getElem?_eq_getElem (by omega)⟩
 obtain ⟨a, ha, e⟩ := B.rows.get' (i := y) (r := bytesZ r) (by rw [List.getElem?_map, hr]; rfl)
 obtain ⟨q1, q2⟩ := h4 r (List.mem_of_getElem? hr)
 exact ⟨a, r, ha, hr, e, q1, q2⟩
def sp_Loom_now (C : Addr) : Sp := fun vs H Q _ => ∃ (l : Addr) (fp : List Addr) (N : Nat) (st : RugH.State), vs = [.ref l] ∧ LoomAt C H l fp N st ∧
 ∀ H' p, MEnd C H H' l fp N (RugH.step st .now).1 p (RugHNeutral.shown (RugH.step st .now).2) → Q (.ref p) H'
theorem ok_Loom_now (T : Txt K mg A D) : FnOk P w K mg base CX0 3 A.a_Loom_now D.d_Loom_now ["self"] (sp_Loom_now A.a_Loom) := by
 refine T.f_Loom_now.ok sc_Loom_now (fun vs H Q E h => ?_) (fun cdv Ar outer s H vs Q E hr h => ?_)
 · obtain ⟨l, fp, N, st, rfl, _⟩ := h
   rfl
 · obtain ⟨l, fp, N, st, rfl, hL, q⟩ := h
   refine ⟨_, (pss_cons (ps_if (pt_cmpR op_isN (pe_fld (pv 0) rfl) pe_non (nomark _)) (pss_one (ps_ret (pe_lst (pa_cons (pe_glob (v := .int (-13)) rfl T.c_NOT_BEGUN ⟨_, rfl⟩) pa_nil)))) pss_nil)
     (pss_cons (ps_set (i := 1) sc_Loom_now.nd rfl (Or.inl rfl) (pe_lst (pa_cons (pe_callB call_len_seq rfl T.g_len PySem.boot_len (pa_cons (pe_ix ix_list (pe_fld (pv 0) rfl) pe_int (fun _ _ => rfl)) pa_nil)) (pa_cons (pe_callB call_len_seq rfl T.g_len PySem.boot_len (pa_cons (pe_fld (pv 0) rfl) pa_nil)) (pa_cons (pe_callB call_len_seq rfl T.g_len PySem.boot_len (pa_cons (pe_fld (pv 0) rfl) pa_nil)) pa_nil)))))
     (pss_one (ps_ret (pe_op op_cat (pe_op op_cat (pe_lst (pa_cons pe_int pa_nil)) (pv 1)) (pe_lst (pa_cons (pe_callB call_len_seq rfl T.g_len PySem.boot_len (pa_cons (pe_fld (pv 0) rfl) pa_nil)) (pa_cons (pe_call (ok_count_wrong T) hr rfl T.m_count_wrong T.k_count_wrong T.b_count_wrong .nil pass0 (pa_cons (pe_fld (pv 0) rfl) (pa_cons (pe_fld (pv 0) rfl) pa_nil))) (pa_cons (pe_op op_mod (pe_fld (pv 0) rfl) (pe_glob (v := .int (4294967296)) rfl T.c_ASKED_MODULO ⟨_, rfl⟩)) pa_nil))))))))), ?_⟩
   cases st with
   | none =>
     obtain ⟨dx, c, s0, d, n, lc, e, hc, _⟩ := hL.obj
     have hc : c = .non := hc.mpr rfl
     subst hc
     refine ⟨_, rfl, l, _, dx, _, _, rfl, e, T.cl_Loom, T.n_Loom_chart, lm_chart _ _ _ _ _, rfl, _, rfl, dcase (fun _ => ?_) fun z => absurd rfl z⟩
     exact ⟨few' (by decide), fun p hp => q _ p (MEnd.plain (ans := [-13]) hL (Same.refl H) hp)⟩
   | some L =>
     have hL0 := hL
     obtain ⟨dx, c, s0, d, lc, as, ds, rfl, B⟩ := hL
     obtain ⟨l1, l2, l3, l4, l5⟩ := B.lens
     obtain ⟨a0, r0, ha0, hr0, he0, hw0, _⟩ := B.row l5
     have O := B.ok
     obtain ⟨_, hks, hrl, hrw⟩ := O.rows
     refine ⟨_, rfl, l, _, dx, _, _, rfl, B.obj, T.cl_Loom, T.n_Loom_chart, lm_chart _ _ _ _ _, rfl, _, rfl, dcase (fun z => V.noConfusion z) fun _ => ?_⟩
     refine ⟨_, rfl, l, _, dx, _, _, rfl, B.obj, T.cl_Loom, T.n_Loom_chart, lm_chart _ _ _ _ _, c, _, _, V.ref a0, rfl, rfl, SqL.of B.chart, at_of (j := 0) rfl (by rw [List.getElem?_map, ha0]; rfl), a0, _, rfl, .inl (SqL.of he0),
       _, rfl, l, _, dx, _, _, rfl, B.obj, T.cl_Loom, T.n_Loom_chart, lm_chart _ _ _ _ _, c, _, rfl, .inl (SqL.of B.chart),
       _, rfl, l, _, dx, _, _, rfl, B.obj, T.cl_Loom, T.n_Loom_shares, lm_shares _ _ _ _ _, s0, _, rfl, .inl (SqL.of B.shares), few' (by simp), fun z hz => ?_⟩
     have s2 := same_new (o := .lst [V.int ((((bytesZ r0).map V.int).length : Nat) : Int), V.int (((as.map V.ref).length : Nat) : Int), V.int (((L.shares.map natV).length : Nat) : Int)]) hz
     refine ⟨few' (by decide), fun p0 hp0 => ⟨_, rfl, p0, z, _, _, rfl, rfl, upd_same, upd_at upd_same (ne_of_none upd_same hp0), few' (by simp), fun p1 hp1 => ?_⟩⟩
     have s3 := same_upd (o := .lst [V.int 0]) s2 (s2.free hp0)
     have s4 := same_upd (o := .lst ([V.int 0] ++ [V.int ((((bytesZ r0).map V.int).length : Nat) : Int), V.int (((as.map V.ref).length : Nat) : Int), V.int (((L.shares.map natV).length : Nat) : Int)])) s3 (s3.free hp1)
     refine ⟨_, rfl, l, _, dx, _, _, rfl, s4 _ _ B.obj, T.cl_Loom, T.n_Loom_done, lm_done _ _ _ _ _, d, _, rfl, .inl (SqL.of (s4 _ _ B.dlst)),
       _, rfl, l, _, dx, _, _, rfl, s4 _ _ B.obj, T.cl_Loom, T.n_Loom_done, lm_done _ _ _ _ _, _, rfl, l, _, dx, _, _, rfl, s4 _ _ B.obj, T.cl_Loom, T.n_Loom_chart, lm_chart _ _ _ _ _,
       d, c, ds, as, L.done.map bytesZ, L.chart.rows.map bytesZ, rfl, s4 _ _ B.dlst, s4 _ _ B.chart, B.drows.same s4, B.rows.same s4, by omega, ?_, fun H5 s5 => ?_⟩
     · intro kn hkn rw1 hrw1
       obtain ⟨k0, hk0, rfl⟩ := List.mem_map.mp hkn
       obtain ⟨r1, hr1, rfl⟩ := List.mem_map.mp hrw1
       rw [Lm.bytesZ_len, Lm.bytesZ_len, (O.wide k0 hk0).1, (hrw r1 hr1).1]
       have := O.rows.1
       omega
     have s6 := s4.trans s5
     have ew : ((Lm.wrongsZ (L.done.map bytesZ) (L.chart.rows.map bytesZ) : Nat) : Int) = ((L.wrong.length : Nat) : Int) := by rw [O.wrongs]
     rw [ew]
     have hp1' : H5 p1 = some (.lst ([V.int 0] ++ [V.int ((((bytesZ r0).map V.int).length : Nat) : Int), V.int (((as.map V.ref).length : Nat) : Int), V.int (((L.shares.map natV).length : Nat) : Int)])) := s5 _ _ upd_same
     refine ⟨_, rfl, l, _, dx, _, _, rfl, s6 _ _ B.obj, T.cl_Loom, T.n_Loom_asked, lm_asked _ _ _ _ _, _, _, rfl, rfl, (by show (0 : Int) < 4294967296; decide), few' (by simp), fun p2 hp2 => ?_⟩
     refine ⟨p1, p2, _, _, rfl, rfl, upd_at hp1' (ne_of_none hp1' hp2), upd_same, few' (by simp), fun p3 hp3 => ?_⟩
     have s7 := same_upd (o := .lst [V.int (((ds.map V.ref).length : Nat) : Int), V.int ((L.wrong.length : Nat) : Int), V.int ((L.asked : Int) % 4294967296)]) s6 (s6.free hp2)
     have e : (([V.int 0] ++ [V.int ((((bytesZ r0).map V.int).length : Nat) : Int), V.int (((as.map V.ref).length : Nat) : Int), V.int (((L.shares.map natV).length : Nat) : Int)]) ++ [V.int (((ds.map V.ref).length : Nat) : Int), V.int ((L.wrong.length : Nat) : Int), V.int ((L.asked : Int) % 4294967296)])
         = (RugHNeutral.shown (RugH.step (some L) .now).2).map V.int := by
       have em : ((L.asked : Int) % 4294967296) = ((L.asked % 2 ^ 32 : Nat) : Int) := by
         rw [Int.natCast_emod]
         rfl
       show _ = [V.int 0, V.int (L.chart.wide : Int), V.int (L.chart.high : Int), V.int (L.shares.length : Int), V.int (L.done.length : Int), V.int (L.wrong.length : Int), V.int ((L.asked % 2 ^ 32 : Nat) : Int)]
       rw [List.length_map, List.length_map, List.length_map, List.length_map, Lm.bytesZ_len, hw0, l1, l2, em]
       rfl
     rw [e]
     exact q _ p3 (MEnd.plain hL0 s7 hp3)
def sp_Loom_begin (K : W.Frag) (C : Addr) : Sp := fun vs H Q _ => ∃ (l : Addr) (fp : List Addr) (N : Nat) (st : RugH.State) (ta sa : Addr) (t sh : List Int), vs = [.ref l, .ref ta, .ref sa] ∧ LoomAt C H l fp N st ∧ SqL K H ta (t.map V.int) ∧ SqL K H sa (sh.map V.int) ∧ t.length ≤ 30000 ∧
 (∀ b ∈ t, Lm.isByte b) ∧ (∀ k ∈ sh, 0 ≤ k) ∧
 ∀ H' p, MEnd C H H' l fp N (RugH.step st (.begin_ (t.map Lm.u8) (sh.map Int.toNat))).1 p (RugHNeutral.shown (RugH.step st (.begin_ (t.map Lm.u8) (sh.map Int.toNat))).2) → Q (.ref p) H'
theorem ok_Loom_begin (T : Txt K mg A D) : FnOk P w K mg base CX0 4 A.a_Loom_begin D.d_Loom_begin ["self", "text", "shares"] (sp_Loom_begin K A.a_Loom) := by
 refine T.f_Loom_begin.ok sc_Loom_begin (fun vs H Q E h => ?_) (fun cdv Ar outer s H vs Q E hr h => ?_)
 · obtain ⟨l, fp, N, st, ta, sa, t, sh, rfl, _⟩ := h
   rfl
 · obtain ⟨l, fp, N, st, ta, sa, t, sh, rfl, hL, hta, hsa, htl, hby, hnn, q⟩ := h
   rw [Lm.step_begin st hby hnn] at q
   refine ⟨_, (pss_cons (ps_if (PW.pt (pw_or (pt_cmpR op_gt (pe_callB call_len_seq rfl T.g_len PySem.boot_len (pa_cons (pv 1) pa_nil)) (pe_glob (v := .int (66048)) rfl T.c_MOST_BYTES ⟨_, rfl⟩) (nomark _)) (pw_or1 (pt_cmpR op_gt (pe_callB call_len_seq rfl T.g_len PySem.boot_len (pa_cons (pv 2) pa_nil)) (pe_glob (v := .int (8)) rfl T.c_MOST_KNOTTERS ⟨_, rfl⟩) (nomark _))))) (pss_one (ps_ret (pe_lst (pa_cons (pe_glob (v := .int (-2)) rfl T.c_TOO_LONG ⟨_, rfl⟩) pa_nil)))) pss_nil)
     (pss_cons (ps_if (pt_not (pt_truth (pv 2) (fun _ => rfl))) (pss_one (ps_ret (pe_lst (pa_cons (pe_glob (v := .int (-1)) rfl T.c_OUT_OF_RANGE ⟨_, rfl⟩) pa_nil)))) pss_nil)
     (pss_cons (ps_set (i := 3) sc_Loom_begin.nd rfl (Or.inl rfl) (pe_call (ok_read_chart T) hr rfl T.m_read_chart T.k_read_chart T.b_read_chart .nil pass0 (pa_cons (pv 1) pa_nil)))
     (pss_cons (ps_if (pt_cmpR op_isN (pv 3) pe_non (nomark _)) (pss_one (ps_ret (pe_lst (pa_cons (pe_glob (v := .int (-6)) rfl T.c_NO_CHART ⟨_, rfl⟩) pa_nil)))) pss_nil)
     (pss_cons (ps_if (pt_not (pt_val (pe_call (ok_are_shares T) (hr.mono (by decide)) rfl T.m_are_shares T.k_are_shares T.b_are_shares .nil pass0 (pa_cons (pv 2) (pa_cons (pe_callB call_len_seq rfl T.g_len PySem.boot_len (pa_cons (pe_ix ix_list (pv 3) pe_int (fun _ _ => rfl)) pa_nil)) pa_nil))))) (pss_one (ps_ret (pe_lst (pa_cons (pe_glob (v := .int (-1)) rfl T.c_OUT_OF_RANGE ⟨_, rfl⟩) pa_nil)))) pss_nil)
     (pss_cons (ps_fld (pv 0) (pv 3) rfl)
     (pss_cons (ps_fld (pv 0) (pe_callTy call_list_of rfl T.g_list boot_list (pa_cons (pv 2) pa_nil)) rfl)
     (pss_cons (ps_fld (pv 0) (pe_lst pa_nil) rfl)
     (pss_cons (ps_fld (pv 0) pe_int rfl)
     (pss_one (ps_ret (pe_lst (pa_cons pe_int pa_nil))))))))))))), ?_⟩
   have lt : (t.map V.int).length = t.length := List.length_map _
   have ls : (sh.map V.int).length = sh.length := List.length_map _
   refine ⟨_, rfl, ta, _, rfl, .inl hta, _, _, rfl, rfl, _, rfl, dcase (fun e1 => ?_) fun e1 => ?_⟩
   · rw [lt] at e1
     rw [if_pos (.inl (by omega))] at q
     exact iteT ⟨few' (by decide), fun p hp => q _ p (MEnd.plain (ans := [-2]) hL (Same.refl H) hp)⟩
   refine ⟨_, rfl, sa, _, rfl, .inl hsa, _, _, rfl, rfl, _, rfl, dcase (fun e2 => ?_) fun e2 => ?_⟩
   · rw [ls] at e2
     rw [if_pos (.inr (by omega))] at q
     exact ⟨few' (by decide), fun p hp => q _ p (MEnd.plain (ans := [-2]) hL (Same.refl H) hp)⟩
   rw [lt] at e1
   rw [ls] at e2
   rw [if_neg (by omega)] at q
   refine ⟨_, rfl, _, .inl ⟨_, hsa, rfl⟩, bcase (fun e3 => ?_) fun e3 => ?_⟩
   · have e3 : sh = [] := by
       cases sh with
       | nil => rfl
       | cons _ _ => cases e3
     rw [if_pos e3] at q
     exact ⟨few' (by decide), fun p hp => q _ p (MEnd.plain (ans := [-1]) hL (Same.refl H) hp)⟩
   have e3 : sh ≠ [] := fun z => by
     rw [z] at e3
     cases e3
   rw [if_neg e3] at q
   refine ⟨_, rfl, ta, t, rfl, hta, by omega, fun hz H1 s1 => ?_, fun rows hz H1 c as s1 nc nas lst cas rws => ?_⟩
   · rw [hz] at q
     refine ⟨_, rfl, rfl, _, rfl, dcase (fun _ => ?_) fun z => absurd rfl z⟩
     exact ⟨few' (by decide), fun p hp => q _ p (MEnd.plain (ans := [-6]) hL s1 hp)⟩
   · rw [hz] at q
     obtain ⟨hright, hback, hne⟩ := Lm.read_right hz
     obtain ⟨r0, rest, er⟩ : ∃ r0 rest, rows = r0 :: rest := by
       cases rows with
       | nil => exact absurd rfl hne
       | cons r0 rest => exact ⟨r0, rest, rfl⟩
     obtain ⟨a0, ha0, hr0⟩ := rws.get' (i := 0) (r := r0) (by rw [er]; rfl)
     have hhead : rows.headD [] = r0 := by rw [er]; rfl
     refine ⟨_, rfl, rfl, _, rfl, dcase (fun z => V.noConfusion z) fun _ => ?_⟩
     refine ⟨_, rfl, _, rfl, c, _, _, V.ref a0, rfl, rfl, SqL.of lst, at_of (j := 0) rfl (by rw [List.getElem?_map, ha0]; rfl), a0, _, rfl, .inl (SqL.of hr0), sa, sh, (r0.length : Int), by rw [List.length_map] <;> rfl, s1.seq hsa, _, rfl, bcase (fun e4 => ?_) fun e4 => ?_⟩
     · have e4 : Lm.sharesZ sh (r0.length : Int) = false := by simpa using e4
       simp only [hhead] at q
       rw [if_neg (by rw [e4]; exact Bool.false_ne_true)] at q
       exact ⟨few' (by decide), fun p hp => q _ p (MEnd.plain (ans := [-1]) hL s1 hp)⟩
     · have e4 : Lm.sharesZ sh (r0.length : Int) = true := by simpa using e4
       simp only [hhead] at q
       rw [if_pos e4] at q
       obtain ⟨dx, c0, s0, d0, n0, lc, hl, _, hlcm, hlc⟩ := hL.obj
       have hlm := hL.mem
       have hl1 := s1 _ _ hl
       refine ⟨_, rfl, _, rfl, l, _, dx, _, rfl, hl1, T.cl_Loom, T.n_Loom_chart, (by show 5 < 1000; decide), ?_⟩
       rw [lm_put_chart]
       have b1 : But [l] H (upd H1 l (.ins A.a_Loom dx (lmF (.ref c) s0 d0 n0 lc))) := (But.same s1 _).upd (.inl List.mem_cons_self)
       refine ⟨_, rfl, sa, _, rfl, .inl (seq_ins (s1.seq hsa) hl1), fun s2 hs2 => ?_⟩
       have hs2H : H s2 = none := b1.free1 upd_same hs2
       have nls : l ≠ s2 := ne_of_none upd_same hs2
       refine ⟨_, rfl, l, _, dx, _, rfl, upd_at upd_same nls, T.cl_Loom, T.n_Loom_shares, (by show 5 < 1000; decide), ?_⟩
       rw [lm_put_shares]
       have b2 := (b1.upd (o := .lst (sh.map V.int)) (.inr hs2H)).upd (o := .ins A.a_Loom dx (lmF (.ref c) s2 d0 n0 lc)) (p := l) (.inl List.mem_cons_self)
       refine ⟨Nat.zero_le _, fun d2 hd2 => ?_⟩
       have hd2H : H d2 = none := b2.free1 upd_same hd2
       have nld : l ≠ d2 := ne_of_none upd_same hd2
       have nsd : s2 ≠ d2 := ne_of_none (show _ = some (HO.lst (sh.map V.int)) by rw [upd_ne nls.symm, upd_same]) hd2
       refine ⟨_, rfl, l, _, dx, _, rfl, upd_at upd_same nld, T.cl_Loom, T.n_Loom_done, (by show 5 < 1000; decide), ?_⟩
       rw [lm_put_done]
       have b3 := (b2.upd (o := .lst []) (.inr hd2H)).upd (o := .ins A.a_Loom dx (lmF (.ref c) s2 d2 n0 lc)) (p := l) (.inl List.mem_cons_self)
       refine ⟨_, rfl, l, _, dx, _, rfl, upd_same, T.cl_Loom, T.n_Loom_asked, (by show 5 < 1000; decide), few' (by decide), fun p hp => ?_⟩
       have ea : putF "asked" (V.int 0) (lmF (.ref c) s2 d2 n0 lc) = lmF (.ref c) s2 d2 0 lc := lm_put_asked _ _ _ _ 0 _
       rw [ea] at hp ⊢
       have b4 := b3.upd (o := .ins A.a_Loom dx (lmF (.ref c) s2 d2 0 lc)) (p := l) (.inl List.mem_cons_self)
       have hpH : H p = none := b4.free1 upd_same hp
       have kp : ∀ b o, H1 b = some o → b ≠ l → (upd (upd (upd (upd (upd (upd (upd H1 l (.ins A.a_Loom dx (lmF (.ref c) s0 d0 n0 lc))) s2 (.lst (sh.map V.int))) l (.ins A.a_Loom dx (lmF (.ref c) s2 d0 n0 lc))) d2 (.lst [])) l (.ins A.a_Loom dx (lmF (.ref c) s2 d2 n0 lc))) l (.ins A.a_Loom dx (lmF (.ref c) s2 d2 0 lc))) p (.lst [V.int 0])) b = some o := fun b o e n => by
         have h1 := upd_at (o := .ins A.a_Loom dx (lmF (.ref c) s0 d0 n0 lc)) e n
         have h2 := upd_at (o := .lst (sh.map V.int)) h1 (ne_of_none h1 hs2)
         have h3 := upd_at (o := .ins A.a_Loom dx (lmF (.ref c) s2 d0 n0 lc)) h2 n
         have h4 := upd_at (o := .lst []) h3 (ne_of_none h3 hd2)
         have h5 := upd_at (o := .ins A.a_Loom dx (lmF (.ref c) s2 d2 n0 lc)) h4 n
         have h6 := upd_at (o := .ins A.a_Loom dx (lmF (.ref c) s2 d2 0 lc)) h5 n
         exact upd_at h6 (ne_of_none h6 hp)
       have lk : ∀ {b : Addr} {xs : List V}, H1 b = some (.lst xs) → b ≠ l := fun e => ne_of e hl1 (by intro z; cases z)
       have rk : ∀ {bs : List Addr} {rs : List (List Int)}, Rws H1 bs rs → Rws (upd (upd (upd (upd (upd (upd (upd H1 l (.ins A.a_Loom dx (lmF (.ref c) s0 d0 n0 lc))) s2 (.lst (sh.map V.int))) l (.ins A.a_Loom dx (lmF (.ref c) s2 d0 n0 lc))) d2 (.lst [])) l (.ins A.a_Loom dx (lmF (.ref c) s2 d2 n0 lc))) l (.ins A.a_Loom dx (lmF (.ref c) s2 d2 0 lc))) p (.lst [V.int 0])) bs rs := fun {bs rs} R => by
         induction R with
         | nil => exact .nil
         | cons a _ ih => exact .cons (kp _ _ a (lk a)) ih
       have hd2' : H1 d2 = none := by
         cases hh : H1 d2 with
         | none => rfl
         | some o =>
           have h1 := upd_at (o := .ins A.a_Loom dx (lmF (.ref c) s0 d0 n0 lc)) hh nld.symm
           have h2 := upd_at (o := .lst (sh.map V.int)) h1 (ne_of_none h1 hs2)
           have h3 := upd_at (o := .ins A.a_Loom dx (lmF (.ref c) s2 d0 n0 lc)) h2 nld.symm
           rw [h3] at hd2
           cases hd2
       refine q _ p ⟨l :: d2 :: c :: s2 :: lc :: (as ++ []), ⟨dx, c, s2, d2, lc, as, [], rfl, ?_⟩, ?_, ?_, hpH, upd_same⟩
       · refine ⟨?_, kp _ _ lst (lk lst), ?_, ?_, ?_, .nil, ?_, Lm.begun_ok hnn hz (by omega) e3 (by rw [hhead]; exact e4), ?_, (hlc.keep fun o e => kp _ _ (s1 _ _ e) (hlc.ne hl (by intro kvs z; cases z))).more⟩
         · exact upd_at upd_same (ne_of_none upd_same hp)
         · show Rws _ as ((rows.map colsOf).map bytesZ)
           rw [List.map_map]
           have : rows.map (bytesZ ∘ colsOf) = rows := hback
           rw [this]
           exact rk rws
         · have e5 : ((sh.map Int.toNat).map natV) = sh.map V.int := by
             rw [List.map_map]
             refine List.map_congr_left fun k hk => ?_
             show V.int ((k.toNat : Nat) : Int) = V.int k
             rw [Int.toNat_of_nonneg (hnn k hk)]
           show _ = some (HO.lst ((sh.map Int.toNat).map natV))
           rw [e5]
           have h2 : (upd (upd H1 l (.ins A.a_Loom dx (lmF (.ref c) s0 d0 n0 lc))) s2 (.lst (sh.map V.int))) s2 = some (.lst (sh.map V.int)) := upd_same
           have h3 := upd_at (o := .ins A.a_Loom dx (lmF (.ref c) s2 d0 n0 lc)) h2 nls.symm
           have h4 := upd_at (o := .lst []) h3 nsd
           have h5 := upd_at (o := .ins A.a_Loom dx (lmF (.ref c) s2 d2 n0 lc)) h4 nls.symm
           have h6 := upd_at (o := .ins A.a_Loom dx (lmF (.ref c) s2 d2 0 lc)) h5 nls.symm
           exact upd_at h6 (ne_of_none h6 hp)
         · have h4 : (upd (upd (upd (upd H1 l (.ins A.a_Loom dx (lmF (.ref c) s0 d0 n0 lc))) s2 (.lst (sh.map V.int))) l (.ins A.a_Loom dx (lmF (.ref c) s2 d0 n0 lc))) d2 (.lst [])) d2 = some (.lst []) := upd_same
           have h5 := upd_at (o := .ins A.a_Loom dx (lmF (.ref c) s2 d2 n0 lc)) h4 nld.symm
           have h6 := upd_at (o := .ins A.a_Loom dx (lmF (.ref c) s2 d2 0 lc)) h5 nld.symm
           exact upd_at h6 (ne_of_none h6 hp)
         · intro z
           rcases List.mem_cons.mp z with y | y
           · rw [← y, hd2'] at lst
             cases lst
           rcases List.mem_cons.mp y with y | y
           · exact nsd y.symm
           · rw [List.append_nil] at y
             obtain ⟨o, ho⟩ := rws.there d2 y
             rw [hd2'] at ho
             cases ho
         · have := Lm.read_len hz
           show ((Lm.chartZ rows).wide + 1) * (Lm.chartZ rows).high ≤ 30000
           omega
       · intro b hb
         rcases List.mem_cons.mp hb with rfl | hb
         · exact .inl hlm
         rcases List.mem_cons.mp hb with rfl | hb
         · exact .inr hd2H
         rcases List.mem_cons.mp hb with rfl | hb
         · exact .inr nc
         rcases List.mem_cons.mp hb with rfl | hb
         · exact .inr hs2H
         rcases List.mem_cons.mp hb with rfl | hb
         · exact .inl hlcm
         · rw [List.append_nil] at hb
           exact .inr (nas b hb)
       · exact (b4.mono fun b hb => by rw [List.mem_singleton.mp hb]; exact hlm).upd (.inr hpH)
end
end Kn
set_option Elab.async false
set_option linter.all false
set_option maxRecDepth 100000
set_option maxHeartbeats 2000000
namespace Kn
open PySem PySem.Spec PyProof.Rows L2 Km
open Rg (Loom Chart)
open Lm (bytesZ colsOf LoomOk)
section
variable {P : Program} {w : World} {K : W.Frag} {mg : Str → Option Value} {base : Heap} {A : Ad} {D : Fds}
theorem made_same {H : Hp} {x dx : Addr} (nx : H x = none) (nd : H dx = none) {o : HO} : Same H (upd (upd H dx (.own x)) x o) := same_upd (same_new nd) nx
def sp_Loom_row (C : Addr) : Sp := fun vs H Q _ => ∃ (l : Addr) (fp : List Addr) (N : Nat) (st : RugH.State) (tla : Addr) (tries : Nat) (tied : List Int), vs = [.ref l, .int tries, .ref tla] ∧ LoomAt C H l fp N st ∧ H tla = some (.lst (tied.map V.int)) ∧ tied.length ≤ 100000 ∧ (∀ b ∈ tied, Lm.isByte b) ∧
 ∀ H' p, MEnd C H H' l fp N (RugH.step st (.row tries (tied.map Lm.u8))).1 p (RugHNeutral.shown (RugH.step st (.row tries (tied.map Lm.u8))).2) → Q (.ref p) H'
theorem ok_Loom_row (T : Txt K mg A D) : FnOk P w K mg base CX0 6 A.a_Loom_row D.d_Loom_row ["self", "tries", "told"] (sp_Loom_row A.a_Loom) := by
 refine T.f_Loom_row.ok sc_Loom_row (fun vs H Q E h => ?_) (fun cdv Ar outer s H vs Q E hr h => ?_)
 · obtain ⟨l, fp, N, st, tla, tries, tied, rfl, _⟩ := h
   rfl
 · obtain ⟨l, fp, N, st, tla, tries, tied, rfl, hL, htl, hlen, hby, q⟩ := h
   refine ⟨_, (pss_cons (ps_if (PW.pt (pw_or (pt_cmpR op_lt (pv 1) pe_int (nomark _)) (pw_or1 (pt_cmpR op_gt (pv 1) (pe_glob (v := .int (9)) rfl T.c_MOST_TRIES ⟨_, rfl⟩) (nomark _))))) (pss_one (ps_ret (pe_lst (pa_cons (pe_glob (v := .int (-1)) rfl T.c_OUT_OF_RANGE ⟨_, rfl⟩) pa_nil)))) pss_nil)
     (pss_cons (ps_if (pt_cmpR op_isN (pe_fld (pv 0) rfl) pe_non (nomark _)) (pss_one (ps_ret (pe_lst (pa_cons (pe_glob (v := .int (-13)) rfl T.c_NOT_BEGUN ⟨_, rfl⟩) pa_nil)))) pss_nil)
     (pss_cons (ps_if (pt_cmpR op_eq (pe_callB call_len_seq rfl T.g_len PySem.boot_len (pa_cons (pe_fld (pv 0) rfl) pa_nil)) (pe_callB call_len_seq rfl T.g_len PySem.boot_len (pa_cons (pe_fld (pv 0) rfl) pa_nil)) (nomark _)) (pss_one (ps_ret (pe_lst (pa_cons (pe_glob (v := .int (-5)) rfl T.c_NO_ROW ⟨_, rfl⟩) pa_nil)))) pss_nil)
     (pss_cons (ps_set (i := 3) sc_Loom_row.nd rfl (Or.inl rfl) (pe_ix ix_list (pe_fld (pv 0) rfl) (pe_callB call_len_seq rfl T.g_len PySem.boot_len (pa_cons (pe_fld (pv 0) rfl) pa_nil)) (fun _ _ => rfl)))
     (pss_cons (ps_set (i := 4) sc_Loom_row.nd rfl (Or.inl rfl) (pe_make T.mk_Tyings (ok_Tyings_init T) (hr.mono (by decide)) rfl T.m_Tyings T.b_Tyings_init .nil pass0 (pa_cons (pv 2) pa_nil)))
     (pss_cons (ps_set (i := 5) sc_Loom_row.nd rfl (Or.inl rfl) (pe_call (ok_tie_row T) hr rfl T.m_tie_row T.k_tie_row T.b_tie_row .nil pass0 (pa_cons (pv 3) (pa_cons (pe_fld (pv 0) rfl) (pa_cons (pv 1) (pa_cons (pv 4) pa_nil))))))
     (pss_cons (ps_fldaug (pv 0) (pe_fld (pv 4) rfl) in_add)
     (pss_cons (ps_if (pt_cmpR op_isN (pv 5) pe_non (nomark _)) (pss_one (ps_ret (pe_lst (pa_cons (pe_glob (v := .int (-12)) rfl T.c_ROW_IS_LEFT ⟨_, rfl⟩) pa_nil)))) pss_nil)
     (pss_cons (ps_expr (pe_bm PySem.F.plainAttrs_list PySem.F.slot_list_append PySem.F.type_list_append mt_append (pe_fld (pv 0) rfl) (pa_cons (pv 5) pa_nil)))
     (pss_one (ps_ret (pe_lst (pa_cons (pe_callB call_len_seq rfl T.g_len PySem.boot_len (pa_cons (pe_call (ok_wrong_columns T) (hr.mono (by decide)) rfl T.m_wrong_columns T.k_wrong_columns T.b_wrong_columns .nil pass0 (pa_cons (pv 5) (pa_cons (pv 3) pa_nil))) pa_nil)) (pa_cons (pe_fld (pv 4) rfl) pa_nil)))))))))))))), ?_⟩
   have q : ∀ H' p, MEnd A.a_Loom H H' l fp N (if tries = 0 ∨ 9 < tries then (st, Rg.BAD) else RugH.ofLoom st fun l => (some (RugH.rowOf l tries (tied.map Lm.u8)).1, (RugH.rowOf l tries (tied.map Lm.u8)).2)).1 p
     (RugHNeutral.shown (if tries = 0 ∨ 9 < tries then (st, Rg.BAD) else RugH.ofLoom st fun l => (some (RugH.rowOf l tries (tied.map Lm.u8)).1, (RugH.rowOf l tries (tied.map Lm.u8)).2)).2) → Q (.ref p) H' := q
   refine ⟨_, rfl, _, _, rfl, rfl, _, rfl, dcase (fun e1 => ?_) fun e1 => ?_⟩
   · rw [if_pos (.inl (by omega))] at q
     exact iteT ⟨few' (by decide), fun p hp => q _ p (MEnd.plain (ans := [-1]) hL (Same.refl H) hp)⟩
   refine ⟨_, rfl, _, _, rfl, rfl, _, rfl, dcase (fun e2 => ?_) fun e2 => ?_⟩
   · rw [if_pos (.inr (by omega))] at q
     exact ⟨few' (by decide), fun p hp => q _ p (MEnd.plain (ans := [-1]) hL (Same.refl H) hp)⟩
   rw [if_neg (by omega)] at q
   cases st with
   | none =>
     obtain ⟨dx, c, s0, d, n, lc, e, hc, _⟩ := hL.obj
     have hc : c = .non := hc.mpr rfl
     subst hc
     refine ⟨_, rfl, l, _, dx, _, _, rfl, e, T.cl_Loom, T.n_Loom_chart, lm_chart _ _ _ _ _, rfl, _, rfl, dcase (fun _ => ?_) fun z => absurd rfl z⟩
     exact ⟨few' (by decide), fun p hp => q _ p (MEnd.plain (ans := [-13]) hL (Same.refl H) hp)⟩
   | some L =>
     have hL0 := hL
     obtain ⟨dx, c, s0, d, lc, as, ds, rfl, B⟩ := hL
     obtain ⟨l1, l2, l3, l4, l5⟩ := B.lens
     have O := B.ok
     have hrl := O.rows.2.2.1
     have hal : (as.map V.ref).length = L.chart.high := by rw [List.length_map, l1]
     have hdl : (ds.map V.ref).length = L.done.length := by rw [List.length_map, l2]
     refine ⟨_, rfl, l, _, dx, _, _, rfl, B.obj, T.cl_Loom, T.n_Loom_chart, lm_chart _ _ _ _ _, rfl, _, rfl, dcase (fun z => V.noConfusion z) fun _ => ?_⟩
     refine ⟨_, rfl, l, _, dx, _, _, rfl, B.obj, T.cl_Loom, T.n_Loom_done, lm_done _ _ _ _ _, d, _, rfl, .inl (SqL.of B.dlst), _, rfl, l, _, dx, _, _, rfl, B.obj, T.cl_Loom, T.n_Loom_chart, lm_chart _ _ _ _ _, c, _, rfl, .inl (SqL.of B.chart), rfl, _, rfl, dcase (fun e3 => ?_) fun e3 => ?_⟩
     · have e3 := eqI.mp e3
       rw [hal, hdl] at e3
       have er := Lm.row_none (L := L) (by omega) tries (tied.map Lm.u8)
       have q : ∀ H' p, MEnd A.a_Loom H H' l _ N (some (RugH.rowOf L tries (tied.map Lm.u8)).1) p (RugHNeutral.shown (RugH.rowOf L tries (tied.map Lm.u8)).2) → Q (.ref p) H' := q
       rw [er] at q
       exact ⟨few' (by decide), fun p hp => q _ p (MEnd.plain (ans := [-5]) hL0 (Same.refl H) hp)⟩
     have hlt : L.done.length < L.chart.high := by
       have e3 : ¬ (((ds.map V.ref).length : Nat) : Int) = (((as.map V.ref).length : Nat) : Int) := fun z => e3 (eqI.mpr z)
       rw [hal, hdl] at e3
       have := O.done
       omega
     obtain ⟨ra, r, hra, hrr, hre, hrw, hr62⟩ := B.row hlt
     have er := Lm.row_some O hrr (tries := tries) (by omega) hby
     have q : ∀ H' p, MEnd A.a_Loom H H' l _ N (some (RugH.rowOf L tries (tied.map Lm.u8)).1) p (RugHNeutral.shown (RugH.rowOf L tries (tied.map Lm.u8)).2) → Q (.ref p) H' := q
     rw [er] at q
     refine ⟨_, rfl, l, _, dx, _, _, rfl, B.obj, T.cl_Loom, T.n_Loom_chart, lm_chart _ _ _ _ _, _, rfl, l, _, dx, _, _, rfl, B.obj, T.cl_Loom, T.n_Loom_done, lm_done _ _ _ _ _, d, _, rfl, .inl (SqL.of B.dlst), c, _, _, V.ref ra, rfl, rfl, SqL.of B.chart, at_of (j := L.done.length) (by rw [hdl]) (by rw [List.getElem?_map, hra]; rfl), ?_⟩
     refine ⟨_, rfl, fun ty dy nty ndy ndt => ⟨ty, dy, tla, rfl, upd_same, fun H1 ht1 b1 => ⟨rfl, ?_⟩⟩⟩
     have s1 : Same H H1 := fun b o e => b1 b o (made_same nty ndy b o e) fun z => by
       have z := List.mem_singleton.mp z
       rw [z, nty] at e
       cases e
     have hsum := ((Lm.shares_iff _ _).mp O.shares).2
     have hwd := O.rows.1
     refine ⟨_, rfl, _, rfl, l, _, dx, _, _, rfl, s1 _ _ B.obj, T.cl_Loom, T.n_Loom_shares, lm_shares _ _ _ _ _, _, rfl, _, rfl, ty, dy, tla, ra, s0, 0, 0, tries, bytesZ r, tied, L.shares, rfl, ht1, s1 _ _ htl, s1 _ _ hre, s1 _ _ B.shares, hlen, by rw [Lm.bytesZ_len]; omega, by rw [Lm.bytesZ_len, hrw, hsum]; exact Nat.le_refl _, by omega, fun H2 v b2 re => ?_⟩
     obtain ⟨p', ht2, st⟩ := re
     rw [List.drop_zero, Nat.zero_add] at ht2
     rw [List.drop_zero] at st
     have s2 : Same H H2 := fun b o e => b2 b o (s1 b o e) fun z => by
       have z := List.mem_singleton.mp z
       rw [z, nty] at e
       cases e
     have nlt : l ≠ ty := ne_of_none B.obj nty
     refine ⟨_, rfl, l, _, dx, _, _, rfl, s2 _ _ B.obj, T.cl_Loom, T.n_Loom_asked, lm_asked _ _ _ _ _, _, rfl, ty, _, dy, _, _, rfl, ht2, T.cl_Tyings, T.n_Tyings_asked, ty_asked _ _ _, _, _, rfl, rfl, dx, _, s2 _ _ B.obj, (by show 5 < 1000; decide), ?_⟩
     have ea : putF "asked" (V.int ((L.asked : Int) + ((Lm.tieR tries L.shares (bytesZ r) tied).1 : Int))) (lmF (.ref c) s0 d L.asked lc) = lmF (.ref c) s0 d (L.asked + (Lm.tieR tries L.shares (bytesZ r) tied).1) lc := lm_put_asked _ _ _ _ _ _
     rw [ea]
     generalize hH3 : upd H2 l (.ins A.a_Loom dx (lmF (.ref c) s0 d (L.asked + (Lm.tieR tries L.shares (bytesZ r) tied).1) lc)) = H3
     have hl3 : H3 l = some (.ins A.a_Loom dx (lmF (.ref c) s0 d (L.asked + (Lm.tieR tries L.shares (bytesZ r) tied).1) lc)) := by rw [← hH3, upd_same]
     have b3 : But [l] H H3 := by rw [← hH3]; exact (But.same s2 _).upd (.inl List.mem_cons_self)
     have k3 : ∀ {b : Addr} {o : HO}, H2 b = some o → b ≠ l → H3 b = some o := fun {b o} e n => by rw [← hH3]; exact upd_at e n
     have lk : ∀ {b : Addr} {xs : List V}, H b = some (.lst xs) → b ≠ l := fun e => ne_of e B.obj (by intro z; cases z)
     have ty3 := k3 ht2 nlt.symm
     rcases st with ⟨hz, rfl⟩ | ⟨kn, kk, hz, rfl, hkn, hkn2⟩
     · -- the row is left
       rw [hz] at q
       refine ⟨_, rfl, rfl, _, rfl, dcase (fun _ => ?_) fun z => absurd rfl z⟩
       refine ⟨few' (by decide), fun p hp => ?_⟩
       have hp0 : H p = none := b3.free1 hl3 hp
       have kp : ∀ {b : Addr} {xs : List V}, H b = some (.lst xs) → (upd H3 p (.lst [V.int (-12)])) b = some (.lst xs) := fun e => upd_at (k3 (s2 _ _ e) (lk e)) (ne_of_none e hp0)
       have rk : ∀ {bs : List Addr} {rs : List (List Int)}, Rws H bs rs → Rws (upd H3 p (.lst [V.int (-12)])) bs rs := fun {bs rs} R => by
         induction R with
         | nil => exact .nil
         | cons a _ ih => exact .cons (kp a) ih
       refine q _ p ⟨l :: d :: c :: s0 :: lc :: (as ++ ds), ⟨dx, c, s0, d, lc, as, ds, rfl, ⟨upd_at hl3 (ne_of_none hl3 hp), kp B.chart, rk B.rows, kp B.shares, kp B.dlst, rk B.drows, B.apart, ⟨O.right, O.shares, O.most, O.some, O.done, O.wide⟩, B.small, (B.lcs.keep fun o e => upd_at (k3 (s2 _ _ e) (B.lcs.ne B.obj (by intro kvs z; cases z))) (ne_of_none e hp0)).more⟩⟩, fun b hb => .inl hb, (b3.mono fun b hb => by rw [List.mem_singleton.mp hb]; exact List.mem_cons_self).upd (.inr hp0), hp0, upd_same⟩
     · rw [hz] at q
       obtain ⟨O2, ebk⟩ := Lm.with_ok O hrr hz (Lm.tieR tries L.shares (bytesZ r) tied).1
       obtain ⟨hkl, hkc⟩ := Lm.tieR_some tries L.shares (bytesZ r) tied kk (by rw [Lm.bytesZ_len, hrw, hsum]; exact Nat.le_refl _) hz
       refine ⟨_, rfl, rfl, _, rfl, dcase (fun z => V.noConfusion z) fun _ => ?_⟩
       have hkn0 : H kn = none := s1.free hkn
       have nkl : kn ≠ l := fun z => by rw [z, B.obj] at hkn0; cases hkn0
       have kn3 := k3 hkn2 nkl
       have d3 := k3 (s2 _ _ B.dlst) (lk B.dlst)
       refine ⟨_, rfl, l, _, dx, _, _, rfl, hl3, T.cl_Loom, T.n_Loom_done, lm_done _ _ _ _ _, .inl ⟨rfl, _, SqL.of d3⟩, _, rfl, d, _, _, rfl, rfl, d3, few (by rw [List.length_map]; omega), ?_⟩
       have nkd : kn ≠ d := fun z => by rw [z, B.dlst] at hkn0; cases hkn0
       have nld : l ≠ d := (lk B.dlst).symm
       have nrd : ra ≠ d := fun z => B.apart (z ▸ List.mem_cons_of_mem _ (List.mem_cons_of_mem _ (List.mem_append_left _ (List.mem_of_getElem? hra))))
       have ntd : ty ≠ d := fun z => by rw [z, B.dlst] at nty; cases nty
       refine ⟨_, rfl, _, rfl, kn, ra, kk, bytesZ r, rfl, SqL.of (upd_at kn3 nkd), SqL.of (upd_at (k3 (s2 _ _ hre) (lk hre)) nrd), by omega, by rw [Lm.bytesZ_len, hkl, hrw, hsum]; exact Nat.le_refl _, fun H4 wq s4 hwq0 hwq => ?_⟩
       refine ⟨wq, _, rfl, .inl (SqL.of hwq), _, rfl, ty, _, dy, _, _, rfl, s4 _ _ (upd_at ty3 ntd), T.cl_Tyings, T.n_Tyings_asked, ty_asked _ _ _, few' (by simp), fun p hp => ?_⟩
       rw [List.length_map, Lm.wcol_len]
       have b4 : But [l, d] H H4 := fun b o e n => s4 b o (upd_at (b3 b o e fun z => n (by rw [List.mem_singleton.mp z]; exact List.mem_cons_self)) fun z => n (by rw [z]; exact List.mem_cons_of_mem _ List.mem_cons_self))
       have l4' := s4 _ _ (upd_at hl3 nld)
       have d4 := s4 _ _ (upd_same (H := H3) (a := d) (o := .lst (ds.map V.ref ++ [V.ref kn])))
       have hp0 : H p = none := by
         cases hh : H p with
         | none => rfl
         | some o =>
           by_cases z1 : p = l
           · rw [z1, l4'] at hp; cases hp
           · by_cases z2 : p = d
             · rw [z2, d4] at hp; cases hp
             · rw [b4 p o hh (by simp [z1, z2])] at hp; cases hp
       have kp : ∀ {b : Addr} {xs : List V} {u : HO}, H b = some (.lst xs) → b ≠ d → (upd H4 p u) b = some (.lst xs) := fun e n => upd_at (b4 _ _ e (by simp [lk e, n])) (ne_of_none e hp0)
       have rk : ∀ {bs : List Addr} {rs : List (List Int)} {u : HO}, Rws H bs rs → (∀ b ∈ bs, b ≠ d) → Rws (upd H4 p u) bs rs := fun {bs rs u} R => by
         induction R with
         | nil => exact fun _ => .nil
         | cons a _ ih => exact fun n => .cons (kp a (n _ List.mem_cons_self)) (ih fun b hb => n b (List.mem_cons_of_mem _ hb))
       have apc : c ≠ d := fun z => B.apart (z ▸ List.mem_cons_self)
       have aps : s0 ≠ d := fun z => B.apart (z ▸ List.mem_cons_of_mem _ List.mem_cons_self)
       have apa : ∀ b ∈ as, b ≠ d := fun b hb z => B.apart (z ▸ List.mem_cons_of_mem _ (List.mem_cons_of_mem _ (List.mem_append_left _ hb)))
       have apd : ∀ b ∈ ds, b ≠ d := fun b hb z => B.apart (z ▸ List.mem_cons_of_mem _ (List.mem_cons_of_mem _ (List.mem_append_right _ hb)))
       refine q _ p ⟨l :: d :: c :: s0 :: lc :: (as ++ (ds ++ [kn])), ⟨dx, c, s0, d, lc, as, ds ++ [kn], rfl, ⟨upd_at l4' (ne_of_none l4' hp), kp B.chart apc, rk B.rows apa, kp B.shares aps, ?_, ?_, ?_, O2, B.small, (B.lcs.keep fun o e => upd_at (b4 _ _ e (by simp [B.lcs.ne B.obj (by intro kvs z; cases z), B.lcs.ne B.dlst (by intro kvs z; cases z)])) (ne_of_none e hp0)).more⟩⟩, ?_, ?_, hp0, upd_same⟩
       · rw [upd_at d4 (ne_of_none d4 hp), List.map_append]
         rfl
       · show Rws _ (ds ++ [kn]) ((L.done ++ [colsOf kk]).map bytesZ)
         rw [List.map_append]
         refine (rk B.drows apd).snoc ?_
         rw [ebk]
         have z := s4 _ _ (upd_at (o := .lst (ds.map V.ref ++ [V.ref kn])) kn3 nkd)
         exact upd_at z (ne_of_none z hp)
       · intro z
         rcases List.mem_cons.mp z with y | y
         · exact apc y.symm
         rcases List.mem_cons.mp y with y | y
         · exact aps y.symm
         rcases List.mem_append.mp y with y | y
         · exact apa _ y rfl
         rcases List.mem_append.mp y with y | y
         · exact apd _ y rfl
         · exact nkd (List.mem_singleton.mp y).symm
       · intro b hb
         rcases List.mem_cons.mp hb with rfl | hb
         · exact .inl List.mem_cons_self
         rcases List.mem_cons.mp hb with rfl | hb
         · exact .inl (List.mem_cons_of_mem _ List.mem_cons_self)
         rcases List.mem_cons.mp hb with rfl | hb
         · exact .inl (by simp)
         rcases List.mem_cons.mp hb with rfl | hb
         · exact .inl (by simp)
         rcases List.mem_cons.mp hb with rfl | hb
         · exact .inl (by simp)
         rcases List.mem_append.mp hb with y | y
         · exact .inl (by simp [y])
         rcases List.mem_append.mp y with y | y
         · exact .inl (by simp [y])
         · rw [List.mem_singleton.mp y]
           exact .inr hkn0
       · refine (b4.mono fun b hb => ?_).upd (.inr hp0)
         rcases List.mem_cons.mp hb with rfl | hb
         · exact List.mem_cons_self
         · rw [List.mem_singleton.mp hb]
           exact List.mem_cons_of_mem _ List.mem_cons_self
end
end Kn
set_option Elab.async false
set_option linter.all false
set_option maxRecDepth 100000
set_option maxHeartbeats 4000000
namespace Kn
open PySem PySem.Spec PyProof.Rows L2 Km
open Rg (Loom Chart)
open Lm (bytesZ colsOf LoomOk)
section
variable {P : Program} {w : World} {K : W.Frag} {mg : Str → Option Value} {base : Heap} {A : Ad} {D : Fds}
def sp_Loom_tied (C : Addr) : Sp := fun vs H Q _ => ∃ (l : Addr) (fp : List Addr) (N : Nat) (st : RugH.State), vs = [.ref l] ∧ LoomAt C H l fp N st ∧
 ∀ H' p, MEnd C H H' l fp N (RugH.step st .tied).1 p (RugHNeutral.shown (RugH.step st .tied).2) → Q (.ref p) H'
theorem ok_Loom_tied (T : Txt K mg A D) : FnOk P w K mg base CX0 2 A.a_Loom_tied D.d_Loom_tied ["self"] (sp_Loom_tied A.a_Loom) := by
 refine T.f_Loom_tied.ok sc_Loom_tied (fun vs H Q E h => ?_) (fun cdv Ar outer s H vs Q E hr h => ?_)
 · obtain ⟨l, fp, N, st, rfl, _⟩ := h
   rfl
 · obtain ⟨l, fp, N, st, rfl, hL, q⟩ := h
   refine ⟨_, (pss_cons (ps_if (pt_cmpR op_isN (pe_fld (pv 0) rfl) pe_non (nomark _)) (pss_one (ps_ret (pe_lst (pa_cons (pe_glob (v := .int (-13)) rfl T.c_NOT_BEGUN ⟨_, rfl⟩) pa_nil)))) pss_nil)
     (pss_cons (ps_if (pt_not (pt_truth (pe_fld (pv 0) rfl) (fun _ => rfl))) (pss_one (ps_ret (pe_lst (pa_cons (pe_glob (v := .int (-5)) rfl T.c_NO_ROW ⟨_, rfl⟩) pa_nil)))) pss_nil)
     (pss_cons (ps_set (i := 1) sc_Loom_tied.nd rfl (Or.inl rfl) (pe_call (ok_write_rows T) hr rfl T.m_write_rows T.k_write_rows T.b_write_rows .nil pass0 (pa_cons (pe_fld (pv 0) rfl) pa_nil)))
     (pss_one (ps_ret (pe_op op_cat (pe_lst (pa_cons (pe_callB call_len_seq rfl T.g_len PySem.boot_len (pa_cons (pv 1) pa_nil)) pa_nil)) (pv 1))))))), ?_⟩
   cases st with
   | none =>
     obtain ⟨dx, c, s0, d, n, lc, e, hc, _⟩ := hL.obj
     have hc : c = .non := hc.mpr rfl
     subst hc
     refine ⟨_, rfl, l, _, dx, _, _, rfl, e, T.cl_Loom, T.n_Loom_chart, lm_chart _ _ _ _ _, rfl, _, rfl, dcase (fun _ => ?_) fun z => absurd rfl z⟩
     exact ⟨few' (by decide), fun p hp => q _ p (MEnd.plain (ans := [-13]) hL (Same.refl H) hp)⟩
   | some L =>
     have hL0 := hL
     obtain ⟨dx, c, s0, d, lc, as, ds, rfl, B⟩ := hL
     obtain ⟨l1, l2, l3, l4, l5⟩ := B.lens
     have O := B.ok
     refine ⟨_, rfl, l, _, dx, _, _, rfl, B.obj, T.cl_Loom, T.n_Loom_chart, lm_chart _ _ _ _ _, rfl, _, rfl, dcase (fun z => V.noConfusion z) fun _ => ?_⟩
     have q : ∀ H' p, MEnd A.a_Loom H H' l _ N (some L) p (RugHNeutral.shown (if L.done = [] then Rg.NONE else RugH.wholeB L.tied.text)) → Q (.ref p) H' := q
     refine ⟨_, rfl, l, _, dx, _, _, rfl, B.obj, T.cl_Loom, T.n_Loom_done, lm_done _ _ _ _ _, _, .inl ⟨_, SqL.of B.dlst, rfl⟩, bcase (fun e => ?_) fun e => ?_⟩
     · have e : L.done = [] := by
         have z : ds = [] := by
           cases ds with
           | nil => rfl
           | cons _ _ => cases e
         rw [z] at l2
         exact List.eq_nil_of_length_eq_zero l2.symm
       rw [if_pos e] at q
       exact ⟨few' (by decide), fun p hp => q _ p (MEnd.plain (ans := [-5]) hL0 (Same.refl H) hp)⟩
     · have e : L.done ≠ [] := fun z => by
         rw [z] at l2
         have : ds = [] := List.eq_nil_of_length_eq_zero l2
         rw [this] at e
         cases e
       rw [if_neg e] at q
       have hlen := Lm.tied_len O B.small
       have hsh := Lm.tied_shown L
       have hfl : ((L.done.map bytesZ).flatMap fun r => r ++ [10]).length = L.tied.text.length := by rw [← hsh, List.length_map]
       refine ⟨_, rfl, l, _, dx, _, _, rfl, B.obj, T.cl_Loom, T.n_Loom_done, lm_done _ _ _ _ _, d, ds, L.done.map bytesZ, rfl, B.dlst, B.drows, by omega, fun H1 t s1 ht0 ht => ?_⟩
       refine ⟨_, rfl, t, _, rfl, .inl (SqL.of ht), few' (by simp), fun p hp => ?_⟩
       have npt : t ≠ p := ne_of_none ht hp
       refine ⟨_, rfl, p, t, _, _, rfl, rfl, upd_same, upd_at ht npt, few' (by simp only [List.length_cons, List.length_nil, List.length_map]; omega), fun p2 hp2 => ?_⟩
       have s2 := same_upd (o := .lst [V.int (((((L.done.map bytesZ).flatMap fun r => r ++ [10]).map V.int).length : Nat) : Int)]) s1 (s1.free hp)
       have ea : [V.int (((((L.done.map bytesZ).flatMap fun r => r ++ [10]).map V.int).length : Nat) : Int)] ++ ((L.done.map bytesZ).flatMap fun r => r ++ [10]).map V.int = (RugHNeutral.shown (RugH.wholeB L.tied.text)).map V.int := by
         show _ = ((L.tied.text.length : Int) :: ([] ++ L.tied.text.map fun (c : UInt8) => (c.toNat : Int))).map V.int
         rw [List.length_map, hfl, hsh]
         rfl
       rw [ea]
       exact q _ p2 (MEnd.plain hL0 s2 hp2)
def sp_Loom_wrong (C : Addr) : Sp := fun vs H Q _ => ∃ (l : Addr) (fp : List Addr) (N : Nat) (st : RugH.State) (k : Nat), vs = [.ref l, .int k] ∧ LoomAt C H l fp N st ∧
 ∀ H' p, MEnd C H H' l fp N (RugH.step st (.wrong k)).1 p (RugHNeutral.shown (RugH.step st (.wrong k)).2) → Q (.ref p) H'
theorem ok_Loom_wrong (T : Txt K mg A D) : FnOk P w K mg base CX0 3 A.a_Loom_wrong D.d_Loom_wrong ["self", "k"] (sp_Loom_wrong A.a_Loom) := by
 refine T.f_Loom_wrong.ok sc_Loom_wrong (fun vs H Q E h => ?_) (fun cdv Ar outer s H vs Q E hr h => ?_)
 · obtain ⟨l, fp, N, st, k, rfl, _⟩ := h
   rfl
 · obtain ⟨l, fp, N, st, k, rfl, hL, q⟩ := h
   refine ⟨_, (pss_cons (ps_if (pt_cmpR op_isN (pe_fld (pv 0) rfl) pe_non (nomark _)) (pss_one (ps_ret (pe_lst (pa_cons (pe_glob (v := .int (-13)) rfl T.c_NOT_BEGUN ⟨_, rfl⟩) pa_nil)))) pss_nil)
     (pss_cons (ps_set (i := 2) sc_Loom_wrong.nd rfl (Or.inl rfl) (pe_call (ok_find_wrong T) hr rfl T.m_find_wrong T.k_find_wrong T.b_find_wrong .nil pass0 (pa_cons (pe_fld (pv 0) rfl) (pa_cons (pe_fld (pv 0) rfl) (pa_cons (pv 1) pa_nil)))))
     (pss_cons (ps_if (pt_cmpR op_isN (pv 2) pe_non (nomark _)) (pss_one (ps_ret (pe_lst (pa_cons (pe_glob (v := .int (-4)) rfl T.c_NO_SUCH_THING ⟨_, rfl⟩) pa_nil)))) pss_nil)
     (pss_cons (ps_set (i := 3) sc_Loom_wrong.nd rfl (Or.inl rfl) (pe_ix ix_tup (pv 2) pe_int (fun _ _ => rfl)))
     (pss_cons (ps_set (i := 4) sc_Loom_wrong.nd rfl (Or.inl rfl) (pe_ix ix_tup (pv 2) pe_int (fun _ _ => rfl)))
     (pss_one (ps_ret (pe_lst (pa_cons pe_int (pa_cons (pv 3) (pa_cons (pv 4) (pa_cons (pe_call (ok_colour_number T) (hr.mono (by decide)) rfl T.m_colour_number T.k_colour_number T.b_colour_number .nil pass0 (pa_cons (pe_ix ix_list (pe_ix ix_list (pe_fld (pv 0) rfl) (pv 4) (fun _ _ => rfl)) (pv 3) (fun _ _ => rfl)) pa_nil)) pa_nil)))))))))))), ?_⟩
   cases st with
   | none =>
     obtain ⟨dx, c, s0, d, n, lc, e, hc, _⟩ := hL.obj
     have hc : c = .non := hc.mpr rfl
     subst hc
     refine ⟨_, rfl, l, _, dx, _, _, rfl, e, T.cl_Loom, T.n_Loom_chart, lm_chart _ _ _ _ _, rfl, _, rfl, dcase (fun _ => ?_) fun z => absurd rfl z⟩
     exact ⟨few' (by decide), fun p hp => q _ p (MEnd.plain (ans := [-13]) hL (Same.refl H) hp)⟩
   | some L =>
     have hL0 := hL
     obtain ⟨dx, c, s0, d, lc, as, ds, rfl, B⟩ := hL
     obtain ⟨l1, l2, l3, l4, l5⟩ := B.lens
     have O := B.ok
     obtain ⟨hsz, hks, hrl, hrw⟩ := O.rows
     have hwl := O.wrongList
     refine ⟨_, rfl, l, _, dx, _, _, rfl, B.obj, T.cl_Loom, T.n_Loom_chart, lm_chart _ _ _ _ _, rfl, _, rfl, dcase (fun z => V.noConfusion z) fun _ => ?_⟩
     have q : ∀ H' p, MEnd A.a_Loom H H' l _ N (some L) p (RugHNeutral.shown (match L.wrong[k]? with | none => Rg.NO | some x => Rg.tells 0 [x.1, x.2.1, x.2.2])) → Q (.ref p) H' := q
     refine ⟨_, rfl, l, _, dx, _, _, rfl, B.obj, T.cl_Loom, T.n_Loom_done, lm_done _ _ _ _ _, _, rfl, l, _, dx, _, _, rfl, B.obj, T.cl_Loom, T.n_Loom_chart, lm_chart _ _ _ _ _, _, rfl,
       d, c, ds, as, L.done, L.chart.rows, k, rfl, B.dlst, B.chart, B.drows, B.rows, O.done, fun kn hkn => ⟨(O.wide kn hkn).2, by rw [(O.wide kn hkn).1]; omega⟩, fun r hr1 => (hrw r hr1).2, fun kn hkn r hr1 => by rw [(O.wide kn hkn).1, (hrw r hr1).1], by omega, fun hno H1 s1 => ?_, fun x y cc r hw hy hx H1 pl s1 hpl => ?_⟩
     · rw [hwl, hno] at q
       refine ⟨_, rfl, rfl, _, rfl, dcase (fun _ => ?_) fun z => absurd rfl z⟩
       exact ⟨few' (by decide), fun p hp => q _ p (MEnd.plain (ans := [-4]) hL0 s1 hp)⟩
     · rw [hwl, hw] at q
       have hy1 : (L.done.map bytesZ)[y]? = some (bytesZ r) := mapAt hy
       obtain ⟨ra, hra, hre⟩ := B.drows.get' hy1
       have hcc : cc < 62 := (O.wide r (List.mem_of_getElem? hy)).2 cc (List.mem_of_getElem? hx)
       have hbx : (bytesZ r)[x]? = some (Lm.byteZ cc) := mapAt hx
       refine ⟨_, rfl, rfl, _, rfl, dcase (fun z => V.noConfusion z) fun _ => ?_⟩
       refine ⟨_, rfl, pl, _, _, natV x, rfl, rfl, SqT.of hpl, at_of (j := 0) rfl rfl, ?_⟩
       refine ⟨_, rfl, pl, _, _, natV y, rfl, rfl, SqT.of hpl, at_of (j := 1) rfl rfl, ?_⟩
       refine ⟨_, rfl, _, rfl, _, rfl, l, _, dx, _, _, rfl, s1 _ _ B.obj, T.cl_Loom, T.n_Loom_done, lm_done _ _ _ _ _, _, rfl, d, _, _, V.ref ra, rfl, rfl, SqL.of (s1 _ _ B.dlst), at_of (j := y) rfl (mapAt hra), _, rfl, ra, _, _, V.int (Lm.byteZ cc), rfl, rfl, SqL.of (s1 _ _ hre), at_of (j := x) rfl (mapAt hbx), _, rfl, Lm.isCol_byteZ hcc, ?_⟩
       rw [Lm.colN_byteZ hcc]
       refine ⟨few' (by simp), fun p hp => q _ p ?_⟩
       exact MEnd.plain (ans := RugHNeutral.shown (Rg.tells 0 [(x : Int), (y : Int), (cc : Int)])) hL0 s1 hp
def sp_Loom_wool (C : Addr) : Sp := fun vs H Q _ => ∃ (l : Addr) (fp : List Addr) (N : Nat) (st : RugH.State), vs = [.ref l] ∧ LoomAt C H l fp N st ∧
 ∀ H' p, MEnd C H H' l fp N (RugH.step st .wool).1 p (RugHNeutral.shown (RugH.step st .wool).2) → Q (.ref p) H'
theorem ok_Loom_wool (T : Txt K mg A D) : FnOk P w K mg base CX0 3 A.a_Loom_wool D.d_Loom_wool ["self"] (sp_Loom_wool A.a_Loom) := by
 refine T.f_Loom_wool.ok sc_Loom_wool (fun vs H Q E h => ?_) (fun cdv Ar outer s H vs Q E hr h => ?_)
 · obtain ⟨l, fp, N, st, rfl, _⟩ := h
   rfl
 · obtain ⟨l, fp, N, st, rfl, hL, q⟩ := h
   refine ⟨_, (pss_cons (ps_if (pt_cmpR op_isN (pe_fld (pv 0) rfl) pe_non (nomark _)) (pss_one (ps_ret (pe_lst (pa_cons (pe_glob (v := .int (-13)) rfl T.c_NOT_BEGUN ⟨_, rfl⟩) pa_nil)))) pss_nil)
     (pss_one (ps_ret (pe_op op_cat (pe_lst (pa_cons pe_int pa_nil)) (pe_call (ok_count_colours T) hr rfl T.m_count_colours T.k_count_colours T.b_count_colours .nil pass0 (pa_cons (pe_fld (pv 0) rfl) pa_nil)))))), ?_⟩
   cases st with
   | none =>
     obtain ⟨dx, c, s0, d, n, lc, e, hc, _⟩ := hL.obj
     have hc : c = .non := hc.mpr rfl
     subst hc
     refine ⟨_, rfl, l, _, dx, _, _, rfl, e, T.cl_Loom, T.n_Loom_chart, lm_chart _ _ _ _ _, rfl, _, rfl, dcase (fun _ => ?_) fun z => absurd rfl z⟩
     exact ⟨few' (by decide), fun p hp => q _ p (MEnd.plain (ans := [-13]) hL (Same.refl H) hp)⟩
   | some L =>
     have hL0 := hL
     obtain ⟨dx, c, s0, d, lc, as, ds, rfl, B⟩ := hL
     have O := B.ok
     refine ⟨_, rfl, l, _, dx, _, _, rfl, B.obj, T.cl_Loom, T.n_Loom_chart, lm_chart _ _ _ _ _, rfl, _, rfl, dcase (fun z => V.noConfusion z) fun _ => ?_⟩
     refine ⟨few' (by decide), fun p hp => ?_⟩
     have s1 := same_new (o := .lst [V.int 0]) hp
     refine ⟨_, rfl, l, _, dx, _, _, rfl, s1 _ _ B.obj, T.cl_Loom, T.n_Loom_done, lm_done _ _ _ _ _, d, ds, L.done, rfl, s1 _ _ B.dlst, B.drows.same s1, fun r hr1 => (O.wide r hr1).2, fun H2 t s2 ht ht0 => ?_⟩
     have hp2 : H2 p = some (.lst [V.int 0]) := s2 _ _ upd_same
     have s3 := s1.trans s2
     refine ⟨p, t, _, _, rfl, rfl, hp2, ht, few' (by simp), fun p3 hp3 => ?_⟩
     have ea : [V.int 0] ++ ((List.range 62).map (Lm.wl L.done)).map natV = (RugHNeutral.shown (RugH.step (some L) .wool).2).map V.int := by
       show _ = ((0 : Int) :: (((List.range 62).map fun (k : Nat) => (L.wool k : Int)) ++ [])).map V.int
       rw [List.append_nil, List.map_cons, List.map_map, List.map_map]
       rfl
     rw [ea]
     exact q _ p3 (MEnd.plain hL0 s3 hp3)
end
end Kn
set_option Elab.async false
set_option linter.all false
set_option maxRecDepth 100000
set_option maxHeartbeats 4000000
namespace Kn
open PySem PySem.Spec PyProof.Rows L2 Km
open Rg (Loom Chart)
open Lm (bytesZ colsOf LoomOk)
section
variable {P : Program} {w : World} {K : W.Frag} {mg : Str → Option Value} {base : Heap} {A : Ad} {D : Fds}
def sp_Loom_said (C : Addr) : Sp := fun vs H Q _ => ∃ (l : Addr) (fp : List Addr) (N : Nat) (st : RugH.State) (j : Nat), vs = [.ref l, .int j] ∧ LoomAt C H l fp N st ∧ N ≤ 1000 ∧
 ∀ H' p, MEnd C H H' l fp N (RugH.step st (.said j)).1 p (RugHNeutral.shown (RugH.step st (.said j)).2) → Q (.ref p) H'
theorem natV_ints (l : List Nat) : l.map natV = (l.map fun (k : Nat) => (k : Int)).map V.int := by
 rw [List.map_map]
 rfl
theorem ok_Loom_said (T : Txt K mg A D) : FnOk P w K mg base CX0 4 A.a_Loom_said D.d_Loom_said ["self", "j"] (sp_Loom_said A.a_Loom) := by
 refine T.f_Loom_said.ok sc_Loom_said (fun vs H Q E h => ?_) (fun cdv Ar outer s H vs Q E hr h => ?_)
 · obtain ⟨l, fp, N, st, j, rfl, _⟩ := h
   rfl
 · obtain ⟨l, fp, N, st, j, rfl, hL, hN, q⟩ := h
   refine ⟨_, (pss_cons (ps_if (pt_cmpR op_isN (pe_fld (pv 0) rfl) pe_non (nomark _)) (pss_one (ps_ret (pe_lst (pa_cons (pe_glob (v := .int (-13)) rfl T.c_NOT_BEGUN ⟨_, rfl⟩) pa_nil)))) pss_nil)
     (pss_cons (ps_if (pt_cmpR op_ge (pv 1) (pe_callB call_len_seq rfl T.g_len PySem.boot_len (pa_cons (pe_fld (pv 0) rfl) pa_nil)) (nomark _)) (pss_one (ps_ret (pe_lst (pa_cons (pe_glob (v := .int (-4)) rfl T.c_NO_SUCH_THING ⟨_, rfl⟩) pa_nil)))) pss_nil)
     (pss_cons (ps_if (pt_cmpR op_eq (pe_callB call_len_seq rfl T.g_len PySem.boot_len (pa_cons (pe_fld (pv 0) rfl) pa_nil)) (pe_callB call_len_seq rfl T.g_len PySem.boot_len (pa_cons (pe_fld (pv 0) rfl) pa_nil)) (nomark _)) (pss_one (ps_ret (pe_lst (pa_cons (pe_glob (v := .int (-5)) rfl T.c_NO_ROW ⟨_, rfl⟩) pa_nil)))) pss_nil)
     (pss_cons (ps_set (i := 2) sc_Loom_said.nd rfl (Or.inl rfl) (pe_callB (cr_sum rfl) rfl T.g_sum boot_sum (pa_cons (pe_slice sl_list (pe_fld (pv 0) rfl) po_none (po_some (pv 1))) pa_nil)))
     (pss_cons (ps_set (i := 3) sc_Loom_said.nd rfl (Or.inl rfl) (pe_call (ok_as_signs T) (hr.mono (by decide)) rfl T.m_as_signs T.k_as_signs T.b_as_signs .nil pass0 (pa_cons (pe_slice sl_list (pe_ix ix_list (pe_fld (pv 0) rfl) (pe_callB call_len_seq rfl T.g_len PySem.boot_len (pa_cons (pe_fld (pv 0) rfl) pa_nil)) (fun _ _ => rfl)) (po_some (pv 2)) (po_some (pe_op op_add (pv 2) (pe_ix ix_list (pe_fld (pv 0) rfl) (pv 1) (fun _ _ => rfl))))) pa_nil)))
     (pss_cons (ps_if (pt_cmp (pc_dnotin (hu_of hr) (pv 3) (pe_fld (pv 0) rfl))) (pss_one (ps_dput (hu_of hr) (pe_fld (pv 0) rfl) (pv 3) (pe_call (ok_least_call T) hr rfl T.m_least_call T.k_least_call T.b_least_call .nil pass0 (pa_cons (pv 3) pa_nil)) rfl)) pss_nil)
     (pss_cons (ps_set (i := 4) sc_Loom_said.nd rfl (Or.inl rfl) (pe_dget (hu_of hr) (pe_fld (pv 0) rfl) (pv 3) (fun _ _ => rfl)))
     (pss_one (ps_ret (pe_op op_cat (pe_lst (pa_cons (pe_callB call_len_str rfl T.g_len PySem.boot_len (pa_cons (pv 4) pa_nil)) pa_nil)) (pe_lc (own := [("sign", 5)]) rfl sc_Loom_said.nd (pi_str (pv 4)) (blkOk_by (by show blkC ["self", "j", "start", "part", "call", "sign"] (defScope s_Loom_said) _ _ = true; decide +kernel)) (fun _ _ _ _ _ => (pg_name (i := 5) sc_Loom_said.nd rfl (Or.inl rfl))) (fun _ _ _ _ _ => pts_nil) (fun _ _ _ _ _ => (pe_callB call_ord rfl T.g_ord boot_ord (pa_cons (pv 5) pa_nil)))))))))))))), ?_⟩
   cases st with
   | none =>
     obtain ⟨dx, c, s0, d, n, lc, e, hc, _⟩ := hL.obj
     have hc : c = .non := hc.mpr rfl
     subst hc
     refine ⟨_, rfl, l, _, dx, _, _, rfl, e, T.cl_Loom, T.n_Loom_chart, lm_chart _ _ _ _ _, rfl, _, rfl, dcase (fun _ => ?_) fun z => absurd rfl z⟩
     exact ⟨few' (by decide), fun p hp => q _ p (MEnd.plain (ans := [-13]) hL (Same.refl H) hp)⟩
   | some L =>
     have hL0 := hL
     obtain ⟨dx, c, s0, d, lc, as, ds, rfl, B⟩ := hL
     obtain ⟨l1, l2, l3, l4, l5⟩ := B.lens
     have O := B.ok
     have hrl := O.rows.2.2.1
     have hal : (as.map V.ref).length = L.chart.high := by rw [List.length_map, l1]
     have hdl : (ds.map V.ref).length = L.done.length := by rw [List.length_map, l2]
     have hsl : (L.shares.map natV).length = L.shares.length := List.length_map _
     refine ⟨_, rfl, l, _, dx, _, _, rfl, B.obj, T.cl_Loom, T.n_Loom_chart, lm_chart _ _ _ _ _, rfl, _, rfl, dcase (fun z => V.noConfusion z) fun _ => ?_⟩
     have q : ∀ H' p, MEnd A.a_Loom H H' l _ N (some L) p (RugHNeutral.shown (if L.shares.length ≤ j then Rg.NO else match L.nextRow with | none => Rg.NONE | some row => RugH.wholeB (Rg.itemsText (Rg.leastCall (L.part j row))))) → Q (.ref p) H' := q
     refine ⟨_, rfl, _, rfl, l, _, dx, _, _, rfl, B.obj, T.cl_Loom, T.n_Loom_shares, lm_shares _ _ _ _ _, s0, _, rfl, .inl (SqL.of B.shares), _, _, rfl, rfl, _, rfl, dcase (fun e1 => ?_) fun e1 => ?_⟩
     · rw [hsl] at e1
       rw [if_pos (by omega)] at q
       exact ⟨few' (by decide), fun p hp => q _ p (MEnd.plain (ans := [-4]) hL0 (Same.refl H) hp)⟩
     rw [hsl] at e1
     have hj : j < L.shares.length := by omega
     rw [if_neg (by omega)] at q
     refine ⟨_, rfl, l, _, dx, _, _, rfl, B.obj, T.cl_Loom, T.n_Loom_done, lm_done _ _ _ _ _, d, _, rfl, .inl (SqL.of B.dlst), _, rfl, l, _, dx, _, _, rfl, B.obj, T.cl_Loom, T.n_Loom_chart, lm_chart _ _ _ _ _, c, _, rfl, .inl (SqL.of B.chart), rfl, _, rfl, dcase (fun e3 => ?_) fun e3 => ?_⟩
     · have e3 := eqI.mp e3
       rw [hal, hdl] at e3
       have en : L.nextRow = none := by
         unfold Loom.nextRow
         exact List.getElem?_eq_none (by omega)
       rw [en] at q
       exact ⟨few' (by decide), fun p hp => q _ p (MEnd.plain (ans := [-5]) hL0 (Same.refl H) hp)⟩
     have hlt : L.done.length < L.chart.high := by
       have e3 : ¬ (((ds.map V.ref).length : Nat) : Int) = (((as.map V.ref).length : Nat) : Int) := fun z => e3 (eqI.mpr z)
       rw [hal, hdl] at e3
       have := O.done
       omega
     obtain ⟨ra, r, hra, hrr, hre, hrw, hr62⟩ := B.row hlt
     have en : L.nextRow = some r := hrr
     rw [en] at q
     have q : ∀ H' p, MEnd A.a_Loom H H' l _ N (some L) p (RugHNeutral.shown (RugH.wholeB (Rg.itemsText (Rg.leastCall (L.part j r))))) → Q (.ref p) H' := q
     obtain ⟨hp1, hp2, hp3⟩ := Lm.part_len O hrw hj
     have hsj : L.shares[j]? = some (L.shares.getD j 0) := by
       rw [List.getD_eq_getElem?_getD, List.getElem?_eq_getElem hj]
       rfl
     have hpc : ∀ x ∈ L.part j r, x < 62 := fun x hx => hr62 x (List.mem_of_mem_drop (List.mem_of_mem_take hx))
     have hpne : L.part j r ≠ [] := fun z => by
       rw [z] at hp1
       have hp1 : 0 = L.shares.getD j 0 := hp1
       omega
     refine ⟨_, rfl, l, _, dx, _, _, rfl, B.obj, T.cl_Loom, T.n_Loom_shares, lm_shares _ _ _ _ _, _, rfl, _, rfl, s0, _, rfl, SqL.of B.shares, fun u1 hu1 => ?_⟩
     have ec : cutV (L.shares.map natV) none (some (j : Int)) = ((L.shares.take j).map fun (k : Nat) => (k : Int)).map V.int := by
       rw [cut_to, ← List.map_take, natV_ints]
     rw [ec]
     refine ⟨u1, _, rfl, SqL.of upd_same, ?_⟩
     rw [sum_natCast]
     have s1 : Same H (upd H u1 (.lst (((L.shares.take j).map fun (k : Nat) => (k : Int)).map V.int))) := same_new hu1
     generalize (upd H u1 (.lst (((L.shares.take j).map fun (k : Nat) => (k : Int)).map V.int))) = H1 at s1
     refine ⟨_, rfl, l, _, dx, _, _, rfl, s1 _ _ B.obj, T.cl_Loom, T.n_Loom_chart, lm_chart _ _ _ _ _, _, rfl, l, _, dx, _, _, rfl, s1 _ _ B.obj, T.cl_Loom, T.n_Loom_done, lm_done _ _ _ _ _, d, _, rfl, .inl (SqL.of (s1 _ _ B.dlst)), c, _, _, V.ref ra, rfl, rfl, SqL.of (s1 _ _ B.chart), at_of (j := L.done.length) (by rw [hdl]) (mapAt hra), ?_⟩
     refine ⟨_, rfl, _, rfl, _, rfl, _, rfl, l, _, dx, _, _, rfl, s1 _ _ B.obj, T.cl_Loom, T.n_Loom_shares, lm_shares _ _ _ _ _, _, rfl, s0, _, _, natV (L.shares.getD j 0), rfl, rfl, SqL.of (s1 _ _ B.shares), at_of (j := j) rfl (mapAt hsj), _, _, rfl, rfl, _, rfl, ra, _, rfl, SqL.of (s1 _ _ hre), fun u2 hu2 => ?_⟩
     have ec2 : cutV ((bytesZ r).map V.int) (some (((L.shares.take j).sum : Nat) : Int)) (some ((((L.shares.take j).sum : Nat) : Int) + ((L.shares.getD j 0 : Nat) : Int))) = (bytesZ (L.part j r)).map V.int := by
       have := cut_ints (bytesZ r) (L.shares.take j).sum ((L.shares.take j).sum + L.shares.getD j 0)
       rw [Nat.add_sub_cancel_left] at this
       refine this.trans ?_
       unfold Loom.part bytesZ
       simp only [List.map_take, List.map_drop]
     rw [ec2]
     have s2 : Same H (upd H1 u2 (.lst ((bytesZ (L.part j r)).map V.int))) := same_upd s1 (s1.free hu2)
     refine ⟨u2, L.part j r, rfl, SqL.of upd_same, by omega, hpc, fun H3 s3 => ?_⟩
     have s4 := s2.trans s3
     generalize hpart : L.part j r = part at *
     obtain ⟨kvs, hk1, hk2, hk3⟩ := B.lcs
     have nll : lc ≠ l := ne_of hk1 B.obj (by intro z; cases z)
     refine ⟨_, rfl, _, rfl, l, _, dx, _, _, rfl, s4 _ _ B.obj, T.cl_Loom, T.n_Loom_least_calls, lm_least _ _ _ _ _, lc, _, rfl, DGet.k (k := .inr (sC part)) (s4 _ _ hk1), _, rfl, join2 (R := fun H7 => But [lc] H H7 ∧ LcOk H7 lc (N + 1) ∧ ∃ kvs7, H7 lc = some (.dK kvs7) ∧ valV kvs7 (.inr (sC part)) = some (.str (sB (Lm.lk part).2.2)))
       (fun H7 hR7 => ?_) (fun hno cont => ?_) fun hyes => ?_⟩
     · obtain ⟨b7, hlc7, kvs7, hk7, hv7⟩ := hR7
       have ob7 := b7 _ _ B.obj (fun z => nll (List.mem_singleton.mp z).symm)
       have hget : DGet H7 lc (.str (sC part)) (some (.str (sB (Lm.lk part).2.2))) := by
         rw [← hv7]
         exact DGet.k (k := .inr (sC part)) hk7
       refine ⟨_, rfl, l, _, dx, _, _, rfl, ob7, T.cl_Loom, T.n_Loom_least_calls, lm_least _ _ _ _ _, _, rfl, lc, _, rfl, hget, ?_⟩
       have hlkl := Lm.lk_len hpne (by omega)
       have hlko := Lm.lk_ok part
       have hbt : (Lm.lk part).2.2.length ≤ 512 := by unfold Lm.okK at hlko; omega
       have hblen : (sB (Lm.lk part).2.2).length ≤ sizeLine := few' (by rw [sB_len]; omega)
       refine ⟨_, rfl, sB (Lm.lk part).2.2, rfl, hblen, few' (by simp), fun p hp => ?_⟩
       refine ⟨_, rfl, sB (Lm.lk part).2.2, rfl, fun y hy => ?_⟩
       have hpp : (upd H7 p (.lst [V.int (((sB (Lm.lk part).2.2).length : Nat) : Int)])) p = some (.lst [V.int (((sB (Lm.lk part).2.2).length : Nat) : Int)]) := upd_same
       have s8 : Same H7 (upd H7 p (.lst [V.int (((sB (Lm.lk part).2.2).length : Nat) : Int)])) := same_new hp
       generalize (upd H7 p (.lst [V.int (((sB (Lm.lk part).2.2).length : Nat) : Int)])) = H8 at hpp s8 hy
       refine lc_str (x := sB (Lm.lk part).2.2) (fun i H' => Same H8 H' ∧ H' y = some (.lst ((((Lm.lk part).2.2.take i).map fun (c : UInt8) => (c.toNat : Int)).map V.int))) ⟨same_new hy, upd_same⟩ ?_ ?_
       · rintro i cp H9 hcp ⟨s9, h9⟩
         have hcp' : ((Lm.lk part).2.2.map UInt8.toNat)[i]? = some cp := by
           rw [← sB_cps, Array.getElem?_toList]
           exact hcp
         obtain ⟨bt, hbt1, rfl⟩ := map_get hcp'
         have hi := lt_of_get hbt1
         refine ⟨rfl, yes_if ⟨_, rfl, _, rfl, rfl, _, h9, few (by rw [List.length_map, List.length_map, List.length_take]; omega), same_upd s9 hy, ?_⟩⟩
         rw [upd_same, take_snoc hbt1, List.map_append, List.map_append]
         rfl
       · rintro H9 ⟨s9, h9⟩
         have hsize : (sB (Lm.lk part).2.2).cps.size = (Lm.lk part).2.2.length := sB_len _
         rw [hsize, List.take_length] at h9
         refine ⟨p, y, _, _, rfl, rfl, s9 _ _ hpp, h9, few' (by simp only [List.length_map, List.length_cons, List.length_nil]; omega), fun p3 hp3 => ?_⟩
         have ea : [V.int (((sB (Lm.lk part).2.2).length : Nat) : Int)] ++ ((Lm.lk part).2.2.map fun (c : UInt8) => (c.toNat : Int)).map V.int = (RugHNeutral.shown (RugH.wholeB (Rg.itemsText (Rg.leastCall part)))).map V.int := by
           rw [sB_len]
           rfl
         rw [ea]
         have s79 : Same H7 H9 := s8.trans s9
         have b9 : But [lc] H H9 := fun b o e n => s79 b o (b7 b o e n)
         have hp30 : H p3 = none := b9.free1 (s79 _ _ hk7) hp3
         have keep : ∀ b o, H b = some o → b ≠ lc → (upd H9 p3 (.lst ((RugHNeutral.shown (RugH.wholeB (Rg.itemsText (Rg.leastCall part)))).map V.int))) b = some o := fun b o e n => upd_at (b9 b o e fun z => n (List.mem_singleton.mp z)) (ne_of_none e hp30)
         have kl : ∀ {b : Addr} {xs : List V}, H b = some (.lst xs) → b ≠ lc := fun e => ne_of e hk1 (by intro z; cases z)
         have rk : ∀ {bs : List Addr} {rs : List (List Int)}, Rws H bs rs → Rws (upd H9 p3 (.lst ((RugHNeutral.shown (RugH.wholeB (Rg.itemsText (Rg.leastCall part)))).map V.int))) bs rs := fun {bs rs} R => by
           induction R with
           | nil => exact .nil
           | cons a _ ih => exact .cons (keep _ _ a (kl a)) ih
         refine q _ p3 ⟨_, ⟨dx, c, s0, d, lc, as, ds, rfl, ⟨keep _ _ B.obj nll.symm, keep _ _ B.chart (kl B.chart), rk B.rows, keep _ _ B.shares (kl B.shares), keep _ _ B.dlst (kl B.dlst), rk B.drows, B.apart, O, B.small, hlc7.keep fun o e => upd_at (s79 _ _ e) (ne_of_none (s79 _ _ e) hp3)⟩⟩, fun b hb => .inl hb, (b9.mono fun b hb => by rw [List.mem_singleton.mp hb]; simp).upd (.inr hp30), hp30, upd_same⟩
     · -- it is not known yet
       refine ⟨_, rfl, part, rfl, hpne, by omega, hpc, fun H5 s5 => ?_⟩
       have s6 := s4.trans s5
       refine ⟨_, rfl, l, _, dx, _, _, rfl, s6 _ _ B.obj, T.cl_Loom, T.n_Loom_least_calls, lm_least _ _ _ _ _, _, rfl, lc, _, rfl, DPut.k (k := .inr (sC part)) (s6 _ _ hk1) (few (by omega)), cont _ ⟨?_, ⟨_, upd_same, ?_, fun k v hv => ?_⟩, _, upd_same, ?_⟩⟩
       · exact (But.same s6 _).upd (.inl List.mem_cons_self)
       · have := length_putK kvs (.inr (sC part)) (.str (sB (Lm.lk part).2.2))
         omega
       · rw [valV_put] at hv
         by_cases hk : k = .inr (sC part)
         · rw [if_pos hk] at hv
           exact ⟨part, hk, hpne, hpc, by omega, (Option.some.inj hv).symm⟩
         · rw [if_neg hk] at hv
           exact hk3 k v hv
       · rw [valV_put, if_pos rfl]
     · have hs : (valV kvs (.inr (sC part))).isSome = true := by simpa using hyes
       obtain ⟨v, hv⟩ := Option.isSome_iff_exists.mp hs
       obtain ⟨u, a1, a2, a3, a4, a5⟩ := hk3 _ _ hv
       have eu : part = u := sC_inj hpc a3 (Sum.inr.inj a1)
       subst eu
       exact ⟨But.same s4 _, ⟨kvs, s4 _ _ hk1, by omega, hk3⟩, kvs, s4 _ _ hk1, by rw [hv, a5]⟩
end
end Kn
set_option Elab.async false
set_option linter.all false
set_option maxRecDepth 100000
set_option maxHeartbeats 2000000
namespace Km
open PySem PySem.Spec PyProof.Rows L2
theorem drop_get {α : Type} : ∀ {l : List α} {i : Nat} {x : α} {r : List α}, l.drop i = x :: r → l[i]? = some x ∧ l.drop (i + 1) = r
 | [], i, x, r, h => by simp at h
 | a :: l, 0, x, r, h => by
   obtain ⟨rfl, rfl⟩ := List.cons.inj h
   exact ⟨rfl, rfl⟩
 | a :: l, i + 1, x, r, h => drop_get (l := l) (i := i) h
theorem drop_more {α : Type} {l a b : List α} {i n : Nat} (h : l.drop i = a ++ b) (hn : a.length = n) : (l.drop i).take n = a ∧ l.drop (i + n) = b := by
 subst hn
 refine ⟨by rw [h, List.take_left], ?_⟩
 rw [← List.drop_drop, h, List.drop_left]
end Km
namespace Kn
open PySem PySem.Spec PyProof.Rows L2 Km
open Lm (View Calls)
section
variable {P : Program} {w : World} {K : W.Frag} {mg : Str → Option Value} {base : Heap} {A : Ad} {D : Fds}
def rdF (a : Addr) (p : Nat) : List (Str × V) := [("calls", .ref a), ("place", .int p)]
theorem rd_calls (a : Addr) (p : Nat) : (rdF a p).lookup ("calls" : Str) = some (.ref a) := look_eq
theorem rd_place (a : Addr) (p : Nat) : (rdF a p).lookup ("place" : Str) = some (.int p) := (look_ne (by decide +kernel)).trans look_eq
theorem rd_no {m : Str} (a : Addr) (p : Nat) (h1 : ¬ m = "calls") (h2 : ¬ m = "place") : (rdF a p).lookup m = none := by
 unfold rdF
 rw [look_ne h1, look_ne h2]
 rfl
theorem rd_put (a : Addr) (p q : Nat) : putF "place" (.int q) (rdF a p) = rdF a q := by
 unfold rdF
 rw [put_ne (by decide +kernel), put_eq]
def sp_CallReader_init (C : Addr) : Sp := fun vs H Q _ => ∃ (p dx a : Addr), vs = [.ref p, .ref a] ∧ H p = some (.ins C dx []) ∧ ∀ H' : Hp, H' p = some (.ins C dx (rdF a 0)) → But [p] H H' → Q .non H'
theorem ok_CallReader_init (T : Txt K mg A D) : FnOk P w K mg base CX0 1 A.a_CallReader_init D.d_CallReader_init ["self", "calls"] (sp_CallReader_init A.a_CallReader) := by
 refine T.f_CallReader_init.ok sc_CallReader_init (fun vs H Q E h => ?_) (fun cdv Ar outer s H vs Q E hr h => ?_)
 · obtain ⟨p, dx, a, rfl, _⟩ := h
   rfl
 · obtain ⟨p, dx, a, rfl, hp, k⟩ := h
   refine ⟨_, (pss_cons (ps_fld (pv 0) (pv 1) rfl)
     (pss_one (ps_fld (pv 0) pe_int rfl))), ?_⟩
   refine ⟨_, rfl, _, rfl, p, _, dx, _, rfl, hp, T.cl_CallReader, T.n_CallReader_calls, (by show 0 < 1000; decide), ?_⟩
   refine ⟨_, rfl, p, _, dx, _, rfl, upd_same, T.cl_CallReader, T.n_CallReader_place, (by show 1 < 1000; decide), ?_⟩
   refine k _ ?_ (((But.refl [p] H).upd (.inl List.mem_cons_self)).upd (.inl List.mem_cons_self))
   rw [upd_same]
   have e : putF "place" (.int 0) (putF "calls" (.ref a) []) = rdF a 0 := by
     show putF "place" (.int 0) [("calls", V.ref a)] = _
     rw [put_ne (by decide +kernel)]
     rfl
   exact congrArg (fun q => some (HO.ins _ dx q)) e
def sp_CallReader_has_more (K : W.Frag) (C : Addr) : Sp := fun vs H Q _ => ∃ (r dx a : Addr) (p : Nat) (ns : List Int), vs = [.ref r] ∧ H r = some (.ins C dx (rdF a p)) ∧ SqL K H a (ns.map V.int) ∧ Q (.bl (decide (p < ns.length))) H
theorem ok_CallReader_has_more (T : Txt K mg A D) : FnOk P w K mg base CX0 1 A.a_CallReader_has_more D.d_CallReader_has_more ["self"] (sp_CallReader_has_more K A.a_CallReader) := by
 refine T.f_CallReader_has_more.ok sc_CallReader_has_more (fun vs H Q E h => ?_) (fun cdv Ar outer s H vs Q E hr h => ?_)
 · obtain ⟨r, dx, a, p, ns, rfl, _⟩ := h
   rfl
 · obtain ⟨r, dx, a, p, ns, rfl, hr1, hS, k⟩ := h
   refine ⟨_, (pss_one (ps_ret (pe_cmpR op_lt (pe_fld (pv 0) rfl) (pe_callB call_len_seq rfl T.g_len PySem.boot_len (pa_cons (pe_fld (pv 0) rfl) pa_nil)) (nomark _)))), ?_⟩
   refine ⟨_, rfl, r, _, dx, _, _, rfl, hr1, T.cl_CallReader, T.n_CallReader_place, rd_place _ _, _, rfl, r, _, dx, _, _, rfl, hr1, T.cl_CallReader, T.n_CallReader_calls, rd_calls _ _, a, _, rfl, .inl hS, _, _, rfl, rfl, ?_⟩
   have e : decide ((p : Int) < (((ns.map V.int).length : Nat) : Int)) = decide (p < ns.length) := by
     rw [List.length_map]
     exact decide_eq_decide.mpr Int.ofNat_lt
   show Q (.bl (decide ((p : Int) < (((ns.map V.int).length : Nat) : Int)))) H
   rw [e]
   exact k
def sp_CallReader_take_number (K : W.Frag) (C : Addr) : Sp := fun vs H Q _ => ∃ (r dx a : Addr) (p : Nat) (ns : List Int) (x : Int), vs = [.ref r] ∧ H r = some (.ins C dx (rdF a p)) ∧ SqL K H a (ns.map V.int) ∧ ns[p]? = some x ∧ Q (.int x) (upd H r (.ins C dx (rdF a (p + 1))))
theorem ok_CallReader_take_number (T : Txt K mg A D) : FnOk P w K mg base CX0 1 A.a_CallReader_take_number D.d_CallReader_take_number ["self"] (sp_CallReader_take_number K A.a_CallReader) := by
 refine T.f_CallReader_take_number.ok sc_CallReader_take_number (fun vs H Q E h => ?_) (fun cdv Ar outer s H vs Q E hr h => ?_)
 · obtain ⟨r, dx, a, p, ns, x, rfl, _⟩ := h
   rfl
 · obtain ⟨r, dx, a, p, ns, x, rfl, hr1, hS, hx, k⟩ := h
   refine ⟨_, (pss_cons (ps_set (i := 1) sc_CallReader_take_number.nd rfl (Or.inl rfl) (pe_ix ix_list (pe_fld (pv 0) rfl) (pe_fld (pv 0) rfl) (fun _ _ => rfl)))
     (pss_cons (ps_fldaug (pv 0) pe_int in_add)
     (pss_one (ps_ret (pv 1))))), ?_⟩
   refine ⟨_, rfl, r, _, dx, _, _, rfl, hr1, T.cl_CallReader, T.n_CallReader_calls, rd_calls _ _, _, rfl, r, _, dx, _, _, rfl, hr1, T.cl_CallReader, T.n_CallReader_place, rd_place _ _, a, _, _, V.int x, rfl, rfl, hS, at_of (j := p) rfl (by rw [List.getElem?_map, hx]; rfl), ?_⟩
   refine ⟨_, rfl, r, _, dx, _, _, rfl, hr1, T.cl_CallReader, T.n_CallReader_place, rd_place _ _, _, _, rfl, rfl, dx, _, hr1, (by show 2 < 1000; decide), ?_⟩
   have e : putF "place" (V.int ((p : Int) + 1)) (rdF a p) = rdF a (p + 1) := rd_put a p (p + 1)
   rw [e]
   exact ⟨_, rfl, k⟩
def sp_CallReader_take_numbers (K : W.Frag) (C : Addr) : Sp := fun vs H Q _ => ∃ (r dx a : Addr) (p n : Nat) (ns : List Int), vs = [.ref r] ∧ H r = some (.ins C dx (rdF a p)) ∧ SqL K H a (ns.map V.int) ∧ ns[p]? = some (n : Int) ∧
 ∀ H' q, But [r] H H' → H' r = some (.ins C dx (rdF a (p + 1 + n))) → SqL K H' a (ns.map V.int) → H q = none → H' q = some (.lst (((ns.drop (p + 1)).take n).map V.int)) → Q (.ref q) H'
theorem ok_CallReader_take_numbers (T : Txt K mg A D) : FnOk P w K mg base CX0 2 A.a_CallReader_take_numbers D.d_CallReader_take_numbers ["self"] (sp_CallReader_take_numbers K A.a_CallReader) := by
 refine T.f_CallReader_take_numbers.ok sc_CallReader_take_numbers (fun vs H Q E h => ?_) (fun cdv Ar outer s H vs Q E hr h => ?_)
 · obtain ⟨r, dx, a, p, n, ns, rfl, _⟩ := h
   rfl
 · obtain ⟨r, dx, a, p, n, ns, rfl, hr1, hS, hx, k⟩ := h
   refine ⟨_, (pss_cons (ps_set (i := 1) sc_CallReader_take_numbers.nd rfl (Or.inl rfl) (pe_meth0 (pv 0) T.cl_CallReader T.me_CallReader_take_number (ok_CallReader_take_number T) hr T.b_CallReader_take_number .nil pass0))
     (pss_cons (ps_set (i := 2) sc_CallReader_take_numbers.nd rfl (Or.inl rfl) (pe_fld (pv 0) rfl))
     (pss_cons (ps_fldaug (pv 0) (pv 1) in_add)
     (pss_one (ps_ret (pe_slice sl_list (pe_fld (pv 0) rfl) (po_some (pv 2)) (po_some (pe_fld (pv 0) rfl)))))))), ?_⟩
   refine ⟨_, rfl, r, dx, _, rfl, hr1, rd_no _ _ (by decide +kernel) (by decide +kernel), r, dx, a, p, ns, _, rfl, hr1, hS, hx, ?_⟩
   refine ⟨_, rfl, r, _, dx, _, _, rfl, upd_same, T.cl_CallReader, T.n_CallReader_place, rd_place _ _, ?_⟩
   refine ⟨_, rfl, r, _, dx, _, _, rfl, upd_same, T.cl_CallReader, T.n_CallReader_place, rd_place _ _, _, rfl, _, _, rfl, rfl, dx, _, upd_same, (by show 2 < 1000; decide), ?_⟩
   have e : putF "place" (V.int (((p + 1 : Nat) : Int) + (n : Int))) (rdF a (p + 1)) = rdF a (p + 1 + n) := rd_put a (p + 1) (p + 1 + n)
   rw [e, upd_upd]
   have hS2 : SqL K (upd H r (.ins A.a_CallReader dx (rdF a (p + 1 + n)))) a (ns.map V.int) := seq_ins hS hr1
   refine ⟨_, rfl, r, _, dx, _, _, rfl, upd_same, T.cl_CallReader, T.n_CallReader_calls, rd_calls _ _, _, rfl, _, rfl, _, rfl, r, _, dx, _, _, rfl, upd_same, T.cl_CallReader, T.n_CallReader_place, rd_place _ _, _, rfl, a, _, rfl, hS2, fun q hq => ?_⟩
   have ec : cutV (ns.map V.int) (some (((p + 1 : Nat)) : Int)) (some (((p + 1 + n : Nat)) : Int)) = ((ns.drop (p + 1)).take n).map V.int := by
     rw [cut_ints, Nat.add_sub_cancel_left]
   rw [ec]
   have b1 : But [r] H (upd H r (.ins A.a_CallReader dx (rdF a (p + 1 + n)))) := (But.refl _ _).upd (.inl List.mem_cons_self)
   have hq0 : H q = none := b1.free1 upd_same hq
   have nrq : r ≠ q := ne_of_none upd_same hq
   exact k _ q (b1.upd (.inr hq0)) (upd_at upd_same nrq) ((same_new hq).seq hS2) hq0 upd_same
end
end Kn
set_option Elab.async false
set_option linter.all false
set_option maxRecDepth 100000
set_option maxHeartbeats 2000000
namespace Lm
theorem natural_nat {z : Int} {b : Nat} (h : RugHNeutral.natural z b = true) : 0 ≤ z ∧ z < 2 ^ b := by
 unfold RugHNeutral.natural at h
 rw [Bool.and_eq_true, decide_eq_true_eq, decide_eq_true_eq] at h
 exact h
theorem natural_byte {z : Int} (h : RugHNeutral.natural z 8 = true) : isByte z := natural_nat h
end Lm
namespace Km
open PySem PySem.Spec PyProof.Rows L2
theorem seq_but {K : W.Frag} {F : List Addr} {H H' : Hp} {a : Addr} {xs : List V} (h : SqL K H a xs) (away : a ∈ F → ∀ H', SqL K H' a xs) (b : But F H H') : SqL K H' a xs := by
 by_cases m : a ∈ F
 · exact away m H'
 · rcases h with (h | ⟨ob, h⟩) | h
   · exact .inl (.inl (b _ _ h m))
   · exact .inl (.inr ⟨ob, b _ _ h m⟩)
   · exact .inr h
theorem seq_away {K : W.Frag} {F F' : List Addr} {H : Hp} {a : Addr} {xs : List V} (h : SqL K H a xs) (away : a ∈ F → ∀ H', SqL K H' a xs) (n : ∀ b ∈ F', b ∈ F ∨ H b = none) : a ∈ F' → ∀ H', SqL K H' a xs := fun m H' => by
 rcases n a m with z | z
 · exact away z H'
 · rcases h with (h | ⟨ob, h⟩) | h
   · rw [z] at h; cases h
   · rw [z] at h; cases h
   · exact .inr h
end Km
namespace Kn
open PySem PySem.Spec PyProof.Rows L2 Km
open Lm (View Calls)
section
variable {P : Program} {w : World} {K : W.Frag} {mg : Str → Option Value} {base : Heap} {A : Ad} {D : Fds}
def NEnd (CL CR : Addr) (H H' : Hp) (l r dxr a : Addr) (fp : List Addr) (N : Nat) (st : RugH.State) (ns rest : List Int) (q : Addr) (ans : List Int) : Prop :=
 ∃ fp' p', LoomAt CL H' l fp' (N + 1) st ∧ (∀ b ∈ fp', b ∈ fp ∨ H b = none) ∧ But (r :: fp) H H' ∧ H' r = some (.ins CR dxr (rdF a p')) ∧ ns.drop p' = rest ∧ H q = none ∧ H' q = some (.lst (ans.map V.int))
theorem NEnd.of {CL CR : Addr} {H H3 H' : Hp} {l r dxr a : Addr} {fp : List Addr} {N : Nat} {st : RugH.State} {ns rest : List Int} {q : Addr} {ans : List Int} {p' : Nat} (rf : r ∉ fp) (b : But [r] H H3) (hr : H3 r = some (.ins CR dxr (rdF a p'))) (hd : ns.drop p' = rest)
   (m : MEnd CL H3 H' l fp N st q ans) : NEnd CL CR H H' l r dxr a fp N st ns rest q ans := by
 obtain ⟨fp', h1, h2, h3, h4, h5⟩ := m
 refine ⟨fp', p', h1, fun c hc => ?_, ?_, h3 _ _ hr rf, hd, b.free1 hr h4, h5⟩
 · rcases h2 c hc with z | z
   · exact .inl z
   · exact .inr (b.free1 hr z)
 · exact (b.mono fun c hc => by rw [List.mem_singleton.mp hc]; exact List.mem_cons_self).trans (h3.mono fun c hc => List.mem_cons_of_mem _ hc)
theorem LoomAt.but {C : Addr} {H H' : Hp} {l r : Addr} {fp : List Addr} {N : Nat} {st : RugH.State} (h : LoomAt C H l fp N st) (rf : r ∉ fp) (b : But [r] H H') : LoomAt C H' l fp N st :=
 h.stay fun c hc o e => b c o e fun z => rf (by rw [← List.mem_singleton.mp z]; exact hc)
def sp_answer_next (K : W.Frag) (CL CR : Addr) : Sp := fun vs H Q _ => ∃ (l r dxr a : Addr) (p : Nat) (ns rest : List Int) (fp : List Addr) (N : Nat) (st : RugH.State) (c : List (List Int)), vs = [.ref l, .ref r] ∧ LoomAt CL H l fp N st ∧ N ≤ 1000 ∧ H r = some (.ins CR dxr (rdF a p)) ∧ r ∉ fp ∧
 SqL K H a (ns.map V.int) ∧ ns.length ≤ 30000 ∧ View (ns.drop p) c rest ∧ RugHNeutral.asked1 c = true ∧
 ∀ H' q, NEnd CL CR H H' l r dxr a fp N (RugHNeutral.step st c).1 ns rest q (RugHNeutral.step st c).2 → Q (.ref q) H'
theorem ok_answer_next (T : Txt K mg A D) : FnOk P w K mg base CX0 7 A.a_answer_next D.d_answer_next ["loom", "reader"] (sp_answer_next K A.a_Loom A.a_CallReader) := by
 refine T.f_answer_next.ok sc_answer_next (fun vs H Q E h => ?_) (fun cdv Ar outer s H vs Q E hr h => ?_)
 · obtain ⟨l, r, dxr, a, p, ns, rest, fp, N, st, c, rfl, _⟩ := h
   rfl
 · obtain ⟨l, r, dxr, a, p, ns, rest, fp, N, st, c, rfl, hL, hN, hr1, rf, hS, hlen, hv, hask, k⟩ := h
   refine ⟨_, (pss_cons (ps_set (i := 2) sc_answer_next.nd rfl (Or.inl rfl) (pe_meth0 (pv 1) T.cl_CallReader T.me_CallReader_take_number (ok_CallReader_take_number T) (hr.mono (by decide)) T.b_CallReader_take_number .nil pass0))
     (pss_cons (ps_if (pt_cmpR op_eq (pv 2) (pe_glob (v := .int (0)) rfl T.c_BEGIN ⟨_, rfl⟩) (nomark _)) (pss_cons (ps_set (i := 3) sc_answer_next.nd rfl (Or.inl rfl) (pe_meth0 (pv 1) T.cl_CallReader T.me_CallReader_take_numbers (ok_CallReader_take_numbers T) (hr.mono (by decide)) T.b_CallReader_take_numbers .nil pass0))
     (pss_cons (ps_set (i := 4) sc_answer_next.nd rfl (Or.inl rfl) (pe_meth0 (pv 1) T.cl_CallReader T.me_CallReader_take_numbers (ok_CallReader_take_numbers T) (hr.mono (by decide)) T.b_CallReader_take_numbers .nil pass0))
     (pss_one (ps_ret (pe_meth (pv 0) T.cl_Loom T.me_Loom_begin (ok_Loom_begin T) (hr.mono (by decide)) T.b_Loom_begin .nil pass0 (pa_cons (pv 3) (pa_cons (pv 4) pa_nil))))))) pss_nil)
     (pss_cons (ps_if (pt_cmpR op_eq (pv 2) (pe_glob (v := .int (1)) rfl T.c_ROW ⟨_, rfl⟩) (nomark _)) (pss_cons (ps_set (i := 5) sc_answer_next.nd rfl (Or.inl rfl) (pe_meth0 (pv 1) T.cl_CallReader T.me_CallReader_take_number (ok_CallReader_take_number T) (hr.mono (by decide)) T.b_CallReader_take_number .nil pass0))
     (pss_cons (ps_set (i := 6) sc_answer_next.nd rfl (Or.inl rfl) (pe_meth0 (pv 1) T.cl_CallReader T.me_CallReader_take_numbers (ok_CallReader_take_numbers T) (hr.mono (by decide)) T.b_CallReader_take_numbers .nil pass0))
     (pss_one (ps_ret (pe_meth (pv 0) T.cl_Loom T.me_Loom_row (ok_Loom_row T) hr T.b_Loom_row .nil pass0 (pa_cons (pv 5) (pa_cons (pv 6) pa_nil))))))) pss_nil)
     (pss_cons (ps_if (pt_cmpR op_eq (pv 2) (pe_glob (v := .int (2)) rfl T.c_UNPICK ⟨_, rfl⟩) (nomark _)) (pss_one (ps_ret (pe_meth (pv 0) T.cl_Loom T.me_Loom_unpick (ok_Loom_unpick T) (hr.mono (by decide)) T.b_Loom_unpick .nil pass0 (pa_cons (pe_meth0 (pv 1) T.cl_CallReader T.me_CallReader_take_number (ok_CallReader_take_number T) (hr.mono (by decide)) T.b_CallReader_take_number .nil pass0) pa_nil)))) pss_nil)
     (pss_cons (ps_if (pt_cmpR op_eq (pv 2) (pe_glob (v := .int (3)) rfl T.c_NOW ⟨_, rfl⟩) (nomark _)) (pss_one (ps_ret (pe_meth0 (pv 0) T.cl_Loom T.me_Loom_now (ok_Loom_now T) (hr.mono (by decide)) T.b_Loom_now .nil pass0))) pss_nil)
     (pss_cons (ps_if (pt_cmpR op_eq (pv 2) (pe_glob (v := .int (4)) rfl T.c_TIED ⟨_, rfl⟩) (nomark _)) (pss_one (ps_ret (pe_meth0 (pv 0) T.cl_Loom T.me_Loom_tied (ok_Loom_tied T) (hr.mono (by decide)) T.b_Loom_tied .nil pass0))) pss_nil)
     (pss_cons (ps_if (pt_cmpR op_eq (pv 2) (pe_glob (v := .int (5)) rfl T.c_WRONG ⟨_, rfl⟩) (nomark _)) (pss_one (ps_ret (pe_meth (pv 0) T.cl_Loom T.me_Loom_wrong (ok_Loom_wrong T) (hr.mono (by decide)) T.b_Loom_wrong .nil pass0 (pa_cons (pe_meth0 (pv 1) T.cl_CallReader T.me_CallReader_take_number (ok_CallReader_take_number T) (hr.mono (by decide)) T.b_CallReader_take_number .nil pass0) pa_nil)))) pss_nil)
     (pss_cons (ps_if (pt_cmpR op_eq (pv 2) (pe_glob (v := .int (6)) rfl T.c_WOOL ⟨_, rfl⟩) (nomark _)) (pss_one (ps_ret (pe_meth0 (pv 0) T.cl_Loom T.me_Loom_wool (ok_Loom_wool T) (hr.mono (by decide)) T.b_Loom_wool .nil pass0))) pss_nil)
     (pss_cons (ps_if (pt_cmpR op_eq (pv 2) (pe_glob (v := .int (7)) rfl T.c_SAID ⟨_, rfl⟩) (nomark _)) (pss_one (ps_ret (pe_meth (pv 0) T.cl_Loom T.me_Loom_said (ok_Loom_said T) (hr.mono (by decide)) T.b_Loom_said .nil pass0 (pa_cons (pe_meth0 (pv 1) T.cl_CallReader T.me_CallReader_take_number (ok_CallReader_take_number T) (hr.mono (by decide)) T.b_CallReader_take_number .nil pass0) pa_nil)))) pss_nil)
     (pss_one ps_never)))))))))), ?_⟩
   have noM : ∀ {p : Nat} {m : Str}, ¬ m = "calls" → ¬ m = "place" → (rdF a p).lookup m = none := fun h1 h2 => rd_no _ _ h1 h2
   obtain ⟨x, tail, hx⟩ : ∃ x tail, ns.drop p = x :: tail := by
     generalize ns.drop p = z at hv
     cases hv <;> exact ⟨_, _, rfl⟩
   obtain ⟨g1, g2⟩ := drop_get hx
   refine ⟨_, rfl, r, dxr, _, rfl, hr1, noM (by decide +kernel) (by decide +kernel), r, dxr, a, p, ns, x, rfl, hr1, hS, g1, ?_⟩
   have b1 : But [r] H (upd H r (.ins A.a_CallReader dxr (rdF a (p + 1)))) := (But.refl _ _).upd (.inl List.mem_cons_self)
   have hr2 : (upd H r (.ins A.a_CallReader dxr (rdF a (p + 1)))) r = some (.ins A.a_CallReader dxr (rdF a (p + 1))) := upd_same
   have hS2 : SqL K (upd H r (.ins A.a_CallReader dxr (rdF a (p + 1)))) a (ns.map V.int) := seq_ins hS hr1
   generalize upd H r (.ins A.a_CallReader dxr (rdF a (p + 1))) = H1 at b1 hr2 hS2
   have hL1 := hL.but rf b1
   have dropl : ∀ q, (ns.drop q).length ≤ 30000 := fun q => by rw [List.length_drop]; omega
   generalize hz : ns.drop p = z at hv hx
   obtain ⟨dxl, cv, sv, dv, nv, lcv, hlo, _⟩ := hL1.obj
   have noL : ∀ {H : Hp} {m : Str} {fs : List (Str × V)}, True := fun {_ _ _} => trivial
   cases hv with
   | begin t sh rest =>
     obtain ⟨rfl, rfl⟩ := List.cons.inj hx
     refine ⟨_, rfl, rfl, _, rfl, dcase (fun _ => ?_) fun z => absurd rfl z⟩
     obtain ⟨g3, g4⟩ := drop_get g2
     refine ⟨_, rfl, r, dxr, _, rfl, hr2, noM (by decide +kernel) (by decide +kernel), r, dxr, a, p + 1, t.length, ns, rfl, hr2, hS2, g3, fun H2 q1 b2 hr3 hS3 nq1 hq1 => ?_⟩
     obtain ⟨g5, g6⟩ := drop_more g4 rfl
     rw [g5] at hq1
     obtain ⟨g7, g8⟩ := drop_get g6
     refine ⟨_, rfl, r, dxr, _, rfl, hr3, noM (by decide +kernel) (by decide +kernel), r, dxr, a, p + 1 + 1 + t.length, sh.length, ns, rfl, hr3, hS3, g7, fun H3 q2 b3 hr4 hS4 nq2 hq2 => ?_⟩
     obtain ⟨g9, g10⟩ := drop_more g8 rfl
     rw [g9] at hq2
     have nq1r : q1 ∉ [r] := fun z => by rw [List.mem_singleton.mp z, hr3] at hq1; cases hq1
     have hq1' := b3 _ _ hq1 nq1r
     have bb : But [r] H H3 := (b1.trans b2).trans b3
     have hL3 := hL.but rf bb
     obtain ⟨dxl, cv, sv, dv, nv, lcv, hlo, _⟩ := hL3.obj
     have hask : (t.all (fun z => RugHNeutral.natural z 8) && sh.all (fun z => RugHNeutral.natural z 32)) = true := hask
     rw [Bool.and_eq_true, List.all_eq_true, List.all_eq_true] at hask
     have htl : t.length ≤ 30000 := by
       have h1 := dropl (p + 1 + 1)
       rw [g4, List.length_append] at h1
       omega
     refine ⟨_, rfl, l, dxl, _, rfl, hlo, lm_no _ _ _ _ _ (by decide +kernel) (by decide +kernel) (by decide +kernel) (by decide +kernel) (by decide +kernel), _, rfl, _, rfl, l, fp, N, st, q1, q2, t, sh, rfl, hL3, SqL.of hq1', SqL.of hq2, by omega, fun b hb => Lm.natural_byte (hask.1 b hb), fun b hb => (Lm.natural_nat (hask.2 b hb)).1, fun H' q m => ?_⟩
     refine k H' q (NEnd.of rf bb hr4 g10 ?_)
     have e : RugHNeutral.step st [[0], t, sh] = ((RugH.step st (.begin_ (t.map Lm.u8) (sh.map Int.toNat))).1, RugHNeutral.shown (RugH.step st (.begin_ (t.map Lm.u8) (sh.map Int.toNat))).2) := by
       show ((RugH.step st (.begin_ (RugHNeutral.text t) (RugHNeutral.nats sh))).1, RugHNeutral.shown (RugH.step st (.begin_ (RugHNeutral.text t) (RugHNeutral.nats sh))).2) = _
       rw [Lm.text_eq]
       rfl
     rw [e]
     exact m
   | row x1 t rest =>
     obtain ⟨rfl, rfl⟩ := List.cons.inj hx
     refine ⟨_, rfl, rfl, _, rfl, dcase (fun z => absurd (eqI.mp z) (by decide)) fun _ => ?_⟩
     refine ⟨_, rfl, rfl, _, rfl, dcase (fun _ => ?_) fun z => absurd rfl z⟩
     obtain ⟨g3, g4⟩ := drop_get g2
     have hask : (RugHNeutral.natural x1 32 && t.all (fun z => RugHNeutral.natural z 8)) = true := hask
     rw [Bool.and_eq_true, List.all_eq_true] at hask
     obtain ⟨n1, rfl⟩ := Int.eq_ofNat_of_zero_le (Lm.natural_nat hask.1).1
     refine ⟨_, rfl, r, dxr, _, rfl, hr2, noM (by decide +kernel) (by decide +kernel), r, dxr, a, p + 1, ns, _, rfl, hr2, hS2, g3, ?_⟩
     have b2 : But [r] H1 (upd H1 r (.ins A.a_CallReader dxr (rdF a (p + 1 + 1)))) := (But.refl _ _).upd (.inl List.mem_cons_self)
     have hr3 : (upd H1 r (.ins A.a_CallReader dxr (rdF a (p + 1 + 1)))) r = some (.ins A.a_CallReader dxr (rdF a (p + 1 + 1))) := upd_same
     have hS3 : SqL K (upd H1 r (.ins A.a_CallReader dxr (rdF a (p + 1 + 1)))) a (ns.map V.int) := seq_ins hS2 hr2
     generalize upd H1 r (.ins A.a_CallReader dxr (rdF a (p + 1 + 1))) = H2 at b2 hr3 hS3
     obtain ⟨g5, g6⟩ := drop_get g4
     refine ⟨_, rfl, r, dxr, _, rfl, hr3, noM (by decide +kernel) (by decide +kernel), r, dxr, a, p + 1 + 1, t.length, ns, rfl, hr3, hS3, g5, fun H3 q1 b3 hr4 hS4 nq1 hq1 => ?_⟩
     obtain ⟨g7, g8⟩ := drop_more g6 rfl
     rw [g7] at hq1
     have bb : But [r] H H3 := (b1.trans b2).trans b3
     have hL3 := hL.but rf bb
     obtain ⟨dxl, cv, sv, dv, nv, lcv, hlo, _⟩ := hL3.obj
     have htl : t.length ≤ 30000 := by
       have h1 := dropl (p + 1 + 1 + 1)
       rw [g6, List.length_append] at h1
       omega
     refine ⟨_, rfl, l, dxl, _, rfl, hlo, lm_no _ _ _ _ _ (by decide +kernel) (by decide +kernel) (by decide +kernel) (by decide +kernel) (by decide +kernel), _, rfl, _, rfl, l, fp, N, st, q1, n1, t, rfl, hL3, hq1, by omega, fun b hb => Lm.natural_byte (hask.2 b hb), fun H' q m => ?_⟩
     refine k H' q (NEnd.of rf bb hr4 g8 ?_)
     have e : RugHNeutral.step st [[1, (n1 : Int)], t] = ((RugH.step st (.row n1 (t.map Lm.u8))).1, RugHNeutral.shown (RugH.step st (.row n1 (t.map Lm.u8))).2) := by
       show ((RugH.step st (.row n1 (RugHNeutral.text t))).1, RugHNeutral.shown (RugH.step st (.row n1 (RugHNeutral.text t))).2) = _
       rw [Lm.text_eq]
     rw [e]
     exact m
   | unpick x1 rest =>
     obtain ⟨rfl, rfl⟩ := List.cons.inj hx
     refine ⟨_, rfl, rfl, _, rfl, dcase (fun z => absurd (eqI.mp z) (by decide)) fun _ => ?_⟩
     refine ⟨_, rfl, rfl, _, rfl, dcase (fun z => absurd (eqI.mp z) (by decide)) fun _ => ?_⟩
     refine ⟨_, rfl, rfl, _, rfl, dcase (fun _ => ?_) fun z => absurd rfl z⟩
     obtain ⟨g3, g4⟩ := drop_get g2
     have hask : RugHNeutral.natural x1 32 = true := hask
     obtain ⟨n1, rfl⟩ := Int.eq_ofNat_of_zero_le (Lm.natural_nat hask).1
     refine ⟨_, rfl, l, dxl, _, rfl, hlo, lm_no _ _ _ _ _ (by decide +kernel) (by decide +kernel) (by decide +kernel) (by decide +kernel) (by decide +kernel), _, rfl, r, dxr, _, rfl, hr2, noM (by decide +kernel) (by decide +kernel), r, dxr, a, p + 1, ns, _, rfl, hr2, hS2, g3, ?_⟩
     have b2 : But [r] H1 (upd H1 r (.ins A.a_CallReader dxr (rdF a (p + 1 + 1)))) := (But.refl _ _).upd (.inl List.mem_cons_self)
     have hr3 : (upd H1 r (.ins A.a_CallReader dxr (rdF a (p + 1 + 1)))) r = some (.ins A.a_CallReader dxr (rdF a (p + 1 + 1))) := upd_same
     generalize upd H1 r (.ins A.a_CallReader dxr (rdF a (p + 1 + 1))) = H2 at b2 hr3
     have bb : But [r] H H2 := b1.trans b2
     exact ⟨l, fp, N, st, n1, rfl, hL.but rf bb, fun H' q m => k H' q (NEnd.of rf bb hr3 g4 m)⟩
   | now rest =>
     obtain ⟨rfl, rfl⟩ := List.cons.inj hx
     refine ⟨_, rfl, rfl, _, rfl, dcase (fun z => absurd (eqI.mp z) (by decide)) fun _ => ?_⟩
     refine ⟨_, rfl, rfl, _, rfl, dcase (fun z => absurd (eqI.mp z) (by decide)) fun _ => ?_⟩
     refine ⟨_, rfl, rfl, _, rfl, dcase (fun z => absurd (eqI.mp z) (by decide)) fun _ => ?_⟩
     refine ⟨_, rfl, rfl, _, rfl, dcase (fun _ => ?_) fun z => absurd rfl z⟩
     exact ⟨_, rfl, l, dxl, _, rfl, hlo, lm_no _ _ _ _ _ (by decide +kernel) (by decide +kernel) (by decide +kernel) (by decide +kernel) (by decide +kernel), l, fp, N, st, rfl, hL1, fun H' q m => k H' q (NEnd.of rf b1 hr2 g2 m)⟩
   | tied rest =>
     obtain ⟨rfl, rfl⟩ := List.cons.inj hx
     refine ⟨_, rfl, rfl, _, rfl, dcase (fun z => absurd (eqI.mp z) (by decide)) fun _ => ?_⟩
     refine ⟨_, rfl, rfl, _, rfl, dcase (fun z => absurd (eqI.mp z) (by decide)) fun _ => ?_⟩
     refine ⟨_, rfl, rfl, _, rfl, dcase (fun z => absurd (eqI.mp z) (by decide)) fun _ => ?_⟩
     refine ⟨_, rfl, rfl, _, rfl, dcase (fun z => absurd (eqI.mp z) (by decide)) fun _ => ?_⟩
     refine ⟨_, rfl, rfl, _, rfl, dcase (fun _ => ?_) fun z => absurd rfl z⟩
     exact ⟨_, rfl, l, dxl, _, rfl, hlo, lm_no _ _ _ _ _ (by decide +kernel) (by decide +kernel) (by decide +kernel) (by decide +kernel) (by decide +kernel), l, fp, N, st, rfl, hL1, fun H' q m => k H' q (NEnd.of rf b1 hr2 g2 m)⟩
   | wrong x1 rest =>
     obtain ⟨rfl, rfl⟩ := List.cons.inj hx
     refine ⟨_, rfl, rfl, _, rfl, dcase (fun z => absurd (eqI.mp z) (by decide)) fun _ => ?_⟩
     refine ⟨_, rfl, rfl, _, rfl, dcase (fun z => absurd (eqI.mp z) (by decide)) fun _ => ?_⟩
     refine ⟨_, rfl, rfl, _, rfl, dcase (fun z => absurd (eqI.mp z) (by decide)) fun _ => ?_⟩
     refine ⟨_, rfl, rfl, _, rfl, dcase (fun z => absurd (eqI.mp z) (by decide)) fun _ => ?_⟩
     refine ⟨_, rfl, rfl, _, rfl, dcase (fun z => absurd (eqI.mp z) (by decide)) fun _ => ?_⟩
     refine ⟨_, rfl, rfl, _, rfl, dcase (fun _ => ?_) fun z => absurd rfl z⟩
     obtain ⟨g3, g4⟩ := drop_get g2
     have hask : RugHNeutral.natural x1 32 = true := hask
     obtain ⟨n1, rfl⟩ := Int.eq_ofNat_of_zero_le (Lm.natural_nat hask).1
     refine ⟨_, rfl, l, dxl, _, rfl, hlo, lm_no _ _ _ _ _ (by decide +kernel) (by decide +kernel) (by decide +kernel) (by decide +kernel) (by decide +kernel), _, rfl, r, dxr, _, rfl, hr2, noM (by decide +kernel) (by decide +kernel), r, dxr, a, p + 1, ns, _, rfl, hr2, hS2, g3, ?_⟩
     have b2 : But [r] H1 (upd H1 r (.ins A.a_CallReader dxr (rdF a (p + 1 + 1)))) := (But.refl _ _).upd (.inl List.mem_cons_self)
     have hr3 : (upd H1 r (.ins A.a_CallReader dxr (rdF a (p + 1 + 1)))) r = some (.ins A.a_CallReader dxr (rdF a (p + 1 + 1))) := upd_same
     generalize upd H1 r (.ins A.a_CallReader dxr (rdF a (p + 1 + 1))) = H2 at b2 hr3
     have bb : But [r] H H2 := b1.trans b2
     exact ⟨l, fp, N, st, n1, rfl, hL.but rf bb, fun H' q m => k H' q (NEnd.of rf bb hr3 g4 m)⟩
   | wool rest =>
     obtain ⟨rfl, rfl⟩ := List.cons.inj hx
     refine ⟨_, rfl, rfl, _, rfl, dcase (fun z => absurd (eqI.mp z) (by decide)) fun _ => ?_⟩
     refine ⟨_, rfl, rfl, _, rfl, dcase (fun z => absurd (eqI.mp z) (by decide)) fun _ => ?_⟩
     refine ⟨_, rfl, rfl, _, rfl, dcase (fun z => absurd (eqI.mp z) (by decide)) fun _ => ?_⟩
     refine ⟨_, rfl, rfl, _, rfl, dcase (fun z => absurd (eqI.mp z) (by decide)) fun _ => ?_⟩
     refine ⟨_, rfl, rfl, _, rfl, dcase (fun z => absurd (eqI.mp z) (by decide)) fun _ => ?_⟩
     refine ⟨_, rfl, rfl, _, rfl, dcase (fun z => absurd (eqI.mp z) (by decide)) fun _ => ?_⟩
     refine ⟨_, rfl, rfl, _, rfl, dcase (fun _ => ?_) fun z => absurd rfl z⟩
     exact ⟨_, rfl, l, dxl, _, rfl, hlo, lm_no _ _ _ _ _ (by decide +kernel) (by decide +kernel) (by decide +kernel) (by decide +kernel) (by decide +kernel), l, fp, N, st, rfl, hL1, fun H' q m => k H' q (NEnd.of rf b1 hr2 g2 m)⟩
   | said x1 rest =>
     obtain ⟨rfl, rfl⟩ := List.cons.inj hx
     refine ⟨_, rfl, rfl, _, rfl, dcase (fun z => absurd (eqI.mp z) (by decide)) fun _ => ?_⟩
     refine ⟨_, rfl, rfl, _, rfl, dcase (fun z => absurd (eqI.mp z) (by decide)) fun _ => ?_⟩
     refine ⟨_, rfl, rfl, _, rfl, dcase (fun z => absurd (eqI.mp z) (by decide)) fun _ => ?_⟩
     refine ⟨_, rfl, rfl, _, rfl, dcase (fun z => absurd (eqI.mp z) (by decide)) fun _ => ?_⟩
     refine ⟨_, rfl, rfl, _, rfl, dcase (fun z => absurd (eqI.mp z) (by decide)) fun _ => ?_⟩
     refine ⟨_, rfl, rfl, _, rfl, dcase (fun z => absurd (eqI.mp z) (by decide)) fun _ => ?_⟩
     refine ⟨_, rfl, rfl, _, rfl, dcase (fun z => absurd (eqI.mp z) (by decide)) fun _ => ?_⟩
     refine ⟨_, rfl, rfl, _, rfl, dcase (fun _ => ?_) fun z => absurd rfl z⟩
     obtain ⟨g3, g4⟩ := drop_get g2
     have hask : RugHNeutral.natural x1 32 = true := hask
     obtain ⟨n1, rfl⟩ := Int.eq_ofNat_of_zero_le (Lm.natural_nat hask).1
     refine ⟨_, rfl, l, dxl, _, rfl, hlo, lm_no _ _ _ _ _ (by decide +kernel) (by decide +kernel) (by decide +kernel) (by decide +kernel) (by decide +kernel), _, rfl, r, dxr, _, rfl, hr2, noM (by decide +kernel) (by decide +kernel), r, dxr, a, p + 1, ns, _, rfl, hr2, hS2, g3, ?_⟩
     have b2 : But [r] H1 (upd H1 r (.ins A.a_CallReader dxr (rdF a (p + 1 + 1)))) := (But.refl _ _).upd (.inl List.mem_cons_self)
     have hr3 : (upd H1 r (.ins A.a_CallReader dxr (rdF a (p + 1 + 1)))) r = some (.ins A.a_CallReader dxr (rdF a (p + 1 + 1))) := upd_same
     generalize upd H1 r (.ins A.a_CallReader dxr (rdF a (p + 1 + 1))) = H2 at b2 hr3
     have bb : But [r] H H2 := b1.trans b2
     exact ⟨l, fp, N, st, n1, rfl, hL.but rf bb, hN, fun H' q m => k H' q (NEnd.of rf bb hr3 g4 m)⟩
end
end Kn
set_option Elab.async false
set_option linter.all false
set_option maxRecDepth 100000
set_option maxHeartbeats 2000000
namespace Kn
open PySem PySem.Spec PyProof.Rows L2 Km
open Lm (View Calls)
section
variable {P : Program} {w : World} {K : W.Frag} {mg : Str → Option Value} {base : Heap} {A : Ad} {D : Fds}
def sp_answers (K : W.Frag) : Sp := fun vs H Q _ => ∃ (a : Addr) (ns : List Int) (cs : List (List (List Int))), vs = [.ref a] ∧ SqL K H a (ns.map V.int) ∧ ns.length ≤ 30000 ∧ Calls ns cs ∧ cs.length ≤ 300 ∧ (∀ c ∈ cs, RugHNeutral.asked1 c = true) ∧
 ∀ H' p, H' p = some (.lst ((PyFlat.told (PyFlat.played RugHNeutral.step RugHNeutral.start cs)).map V.int)) → Q (.ref p) H'
theorem ok_answers (T : Txt K mg A D) : FnOk P w K mg base CX0 8 A.a_answers D.d_answers ["calls"] (sp_answers K) := by
 refine T.f_answers.ok sc_answers (fun vs H Q E h => ?_) (fun cdv Ar outer s H vs Q E hr h => ?_)
 · obtain ⟨a, ns, cs, rfl, _⟩ := h
   rfl
 · obtain ⟨a, ns, cs0, rfl, hS, hlen, hcs, hcl, hask, k⟩ := h
   refine ⟨_, (pss_cons (ps_set (i := 1) sc_answers.nd rfl (Or.inl rfl) (pe_make0 T.mk_Loom (ok_Loom_init T) (hr.mono (by decide)) rfl T.m_Loom T.b_Loom_init .nil pass0))
     (pss_cons (ps_set (i := 2) sc_answers.nd rfl (Or.inl rfl) (pe_make T.mk_CallReader (ok_CallReader_init T) (hr.mono (by decide)) rfl T.m_CallReader T.b_CallReader_init .nil pass0 (pa_cons (pv 0) pa_nil)))
     (pss_cons (ps_set (i := 3) sc_answers.nd rfl (Or.inl rfl) (pe_lst pa_nil))
     (pss_cons (ps_while PassesOwn.never (pt_val (pe_meth0 (pv 2) T.cl_CallReader T.me_CallReader_has_more (ok_CallReader_has_more T) (hr.mono (by decide)) T.b_CallReader_has_more .nil pass0))
       (pss_cons (ps_set (i := 4) sc_answers.nd rfl (Or.inl rfl) (pe_call (ok_answer_next T) hr rfl T.m_answer_next T.k_answer_next T.b_answer_next .nil pass0 (pa_cons (pv 1) (pa_cons (pv 2) pa_nil))))
     (pss_cons (ps_expr (pe_bm PySem.F.plainAttrs_list PySem.F.slot_list_append PySem.F.type_list_append mt_append (pv 3) (pa_cons (pe_callB call_len_seq rfl T.g_len PySem.boot_len (pa_cons (pv 4) pa_nil)) pa_nil)))
     (pss_one (ps_expr (pe_bm PySem.F.plainAttrs_list PySem.F.slot_list_extend PySem.F.type_list_extend mt_extend (pv 3) (pa_cons (pv 4) pa_nil)))))))
     (pss_one (ps_ret (pv 3))))))), ?_⟩
   intro l dl nl ndl nedl
   refine ⟨l, dl, rfl, upd_same, fun H1 lc hL1 hlc0 b1 => ⟨rfl, ?_⟩⟩
   have s1 : Same H H1 := fun b o e => b1 b o (made_same nl ndl b o e) fun z => by
     rw [List.mem_singleton.mp z, nl] at e
     cases e
   refine ⟨_, rfl, fun r dr nr ndr nedr => ⟨r, dr, a, rfl, upd_same, fun H2 hr2 b2 => ⟨rfl, ?_⟩⟩⟩
   have s2 : Same H1 H2 := fun b o e => b2 b o (made_same nr ndr b o e) fun z => by
     rw [List.mem_singleton.mp z, nr] at e
     cases e
   have there : ∀ {H' : Hp}, LoomAt A.a_Loom H' l [l, lc] 0 none → ∀ b ∈ [l, lc], ∃ o, H' b = some o := fun {H'} hx b hb => by
     obtain ⟨dx, s0, d, n, lc', e0, e, kvs, hk, _⟩ := hx
     have e1 : lc = lc' := by simpa using e0
     rcases List.mem_cons.mp hb with rfl | hb
     · exact ⟨_, e⟩
     · rw [List.mem_singleton.mp hb, e1]
       exact ⟨_, hk⟩
   have hrl : r ∉ [l, lc] := fun z => by
     obtain ⟨o, e⟩ := there hL1 r z
     rw [nr] at e
     cases e
   refine ⟨Nat.zero_le _, fun g ng => ?_⟩
   have s3 : Same H2 (upd H2 g (.lst [])) := same_new ng
   have hL2 : LoomAt A.a_Loom H2 l [l, lc] 0 none := hL1.stay fun b _ o e => s2 b o e
   have hL3 : LoomAt A.a_Loom (upd H2 g (.lst [])) l [l, lc] 0 none := hL2.stay fun b _ o e => s3 b o e
   have hgl : g ∉ [l, lc] := fun z => by
     obtain ⟨o, e⟩ := there hL2 g z
     rw [ng] at e
     cases e
   have hgr : g ≠ r := fun z => by
     rw [z, hr2] at ng
     cases ng
   have new0 : ∀ b ∈ [l, lc], H b = none := fun b hb => by
     rcases List.mem_cons.mp hb with rfl | hb
     · exact nl
     · rw [List.mem_singleton.mp hb]
       cases hh : H lc with
       | none => rfl
       | some o =>
         have z := made_same (o := .ins A.a_Loom dl []) nl ndl lc o hh
         rw [hlc0] at z
         cases z
   refine ⟨fun m σ H' => ∃ (v : Option V) (fp : List Addr) (N : Nat) (st : RugH.State) (p : Nat) (out : List Int) (cs : List (List (List Int))), σ = [some (.ref a), some (.ref l), some (.ref r), some (.ref g), v] ∧ m = cs.length ∧ N + cs.length ≤ 300 ∧ LoomAt A.a_Loom H' l fp N st ∧ r ∉ fp ∧ g ∉ fp ∧
     H' r = some (.ins A.a_CallReader dr (rdF a p)) ∧ H' g = some (.lst (out.map V.int)) ∧ SqL K H' a (ns.map V.int) ∧ (a ∈ r :: g :: fp → ∀ H', SqL K H' a (ns.map V.int)) ∧ Calls (ns.drop p) cs ∧ (∀ c ∈ cs, RugHNeutral.asked1 c = true) ∧
     out.length + 30002 * cs.length ≤ 9000600 ∧ out ++ PyFlat.told (PyFlat.played RugHNeutral.step st cs) = PyFlat.told (PyFlat.played RugHNeutral.step RugHNeutral.start cs0), ?_, ?_⟩
   · refine ⟨_, none, [l, lc], 0, none, 0, [], cs0, rfl, rfl, by omega, hL3, hrl, hgl, s3 _ _ hr2, upd_same, (s3.seq (s2.seq (s1.seq hS))), ?_, hcs, hask, ?_, rfl⟩
     · refine seq_away (F := []) hS (fun z => nomatch z) fun b hb => ?_
       rcases List.mem_cons.mp hb with rfl | hb
       · exact .inr (s1.free nr)
       rcases List.mem_cons.mp hb with rfl | hb
       · exact .inr (s1.free (s2.free ng))
       · exact .inr (new0 b hb)
     · show 0 + 30002 * cs0.length ≤ 9000600
       omega
   · rintro m σ H' ⟨v, fp, N, st, p, out, cs, rfl, rfl, hNc, hL, rf, gf, hr', hg, hSq, aw, hcs', hask', hsz, heq⟩
     refine ⟨_, rfl, r, dr, _, rfl, hr', rd_no _ _ (by decide +kernel) (by decide +kernel), r, dr, a, p, ns, rfl, hr', hSq, _, rfl, dcase (fun hlt => ?_) fun hlt => ?_⟩
     · -- one more call
       cases hd : ns.drop p with
       | nil =>
         have := List.drop_eq_nil_iff.mp hd
         omega
       | cons x0 tl0 =>
         rw [hd] at hcs'
         cases hcs' with
         | cons hv hrest =>
           rename_i rest c cs'
           rw [← hd] at hv
           refine ⟨fun σ' H'' => ∃ (v : Option V) (fp : List Addr) (p : Nat) (out' : List Int), σ' = [some (.ref a), some (.ref l), some (.ref r), some (.ref g), v] ∧ LoomAt A.a_Loom H'' l fp (N + 1) (RugHNeutral.step st c).1 ∧ r ∉ fp ∧ g ∉ fp ∧
             H'' r = some (.ins A.a_CallReader dr (rdF a p)) ∧ H'' g = some (.lst (out'.map V.int)) ∧ SqL K H'' a (ns.map V.int) ∧ (a ∈ r :: g :: fp → ∀ H', SqL K H' a (ns.map V.int)) ∧ Calls (ns.drop p) cs' ∧
             out'.length + 30002 * cs'.length ≤ 9000600 ∧ out' ++ PyFlat.told (PyFlat.played RugHNeutral.step (RugHNeutral.step st c).1 cs') = PyFlat.told (PyFlat.played RugHNeutral.step RugHNeutral.start cs0), ?_, ?_⟩
           · rintro σ' H'' ⟨v', fp', p', out', rfl, q1, q2, q3, q4, q5, q6, q7, q8, q9, q10⟩
             exact ⟨cs'.length, Nat.lt_succ_self _, v', fp', N + 1, _, p', out', cs', rfl, rfl, by have : N + (cs'.length + 1) ≤ 300 := hNc; omega, q1, q2, q3, q4, q5, q6, q7, q8, fun c hc => hask' c (List.mem_cons_of_mem _ hc), q9, q10⟩
           · -- answer = answer_next(loom, reader)
             refine ⟨_, rfl, _, rfl, l, r, dr, a, p, ns, rest, fp, N, st, c, rfl, hL, by have : N + (cs'.length + 1) ≤ 300 := hNc; omega, hr', rf, hSq, hlen, hv, hask' c List.mem_cons_self, fun H2' q ne => ?_⟩
             have hal := Lm.answer_len hL.small c
             obtain ⟨fp', p', hL', hfp, hb, hrr, hdd, hq0, hq⟩ := ne
             have nrg : g ∉ r :: fp := fun z => by
               rcases List.mem_cons.mp z with y | y
               · exact hgr y
               · exact gf y
             have hg2 := hb _ _ hg nrg
             have nqg : q ≠ g := fun z => by
               rw [z, hg] at hq0
               cases hq0
             have rf' : r ∉ fp' := fun z => by
               rcases hfp r z with y | y
               · exact rf y
               · rw [hr'] at y
                 cases y
             have gf' : g ∉ fp' := fun z => by
               rcases hfp g z with y | y
               · exact gf y
               · rw [hg] at y
                 cases y
             have hSq2 : SqL K H2' a (ns.map V.int) := seq_but hSq (fun z => aw (by
               rcases List.mem_cons.mp z with y | y
               · rw [y]; exact List.mem_cons_self
               · exact List.mem_cons_of_mem _ (List.mem_cons_of_mem _ y))) hb
             have aw' : a ∈ r :: g :: fp' → ∀ H', SqL K H' a (ns.map V.int) := seq_away hSq aw fun b hb => by
               rcases List.mem_cons.mp hb with y | y
               · rw [y]; exact .inl List.mem_cons_self
               rcases List.mem_cons.mp y with y | y
               · rw [y]; exact .inl (List.mem_cons_of_mem _ List.mem_cons_self)
               rcases hfp b y with z | z
               · exact .inl (List.mem_cons_of_mem _ (List.mem_cons_of_mem _ z))
               · exact .inr z
             have hsz' : out.length + 30002 * (cs'.length + 1) ≤ 9000600 := hsz
             refine ⟨_, rfl, .inl ⟨rfl, _, SqL.of hg2⟩, _, rfl, q, _, rfl, .inl (SqL.of hq), g, _, _, rfl, rfl, hg2, few (by rw [List.length_map]; omega), ?_⟩
             refine ⟨_, rfl, .inl ⟨rfl, _, SqL.of upd_same⟩, _, rfl, g, q, _, _, rfl, rfl, upd_same, upd_at hq nqg, few' (by simp only [List.length_append, List.length_map, List.length_cons, List.length_nil]; omega), ?_⟩
             rw [upd_upd]
             have k1 : ∀ {b : Addr} {o : HO}, H2' b = some o → b ≠ g → (upd H2' g (.lst ((out.map V.int ++ [V.int ((((RugHNeutral.step st c).2.map V.int).length : Nat) : Int)]) ++ (RugHNeutral.step st c).2.map V.int))) b = some o := fun e n => upd_at e n
             refine ⟨_, fp', p', out ++ ((((RugHNeutral.step st c).2.length : Nat) : Int) :: (RugHNeutral.step st c).2), rfl, hL'.stay fun b hb o e => k1 e fun z => gf' (z ▸ hb), rf', gf', k1 hrr hgr.symm, ?_, ?_, aw', ?_, ?_, ?_⟩
             · rw [upd_same, List.length_map]
               simp
             · refine seq_but (F := [g]) hSq2 (fun z => aw' (by rw [List.mem_singleton.mp z]; exact List.mem_cons_of_mem _ List.mem_cons_self)) ((But.refl _ _).upd (.inl List.mem_cons_self))
             · rw [hdd]
               exact hrest
             · simp only [List.length_append, List.length_cons]
               omega
             · rw [← heq]
               show (out ++ _) ++ _ = out ++ PyFlat.told ((RugHNeutral.step st c).2 :: PyFlat.played RugHNeutral.step (RugHNeutral.step st c).1 cs')
               rw [Lm.told_cons, List.append_assoc]
     · -- the list's end
       have hd : ns.drop p = [] := List.drop_eq_nil_iff.mpr (by omega)
       rw [hd] at hcs'
       cases hcs' with
       | nil =>
         have heq : out ++ [] = _ := heq
         rw [List.append_nil] at heq
         rw [heq] at hg
         exact ⟨_, rfl, k H' g hg⟩
       | cons hv hrest => cases hv
end
end Kn
set_option Elab.async false
set_option linter.all false
set_option maxRecDepth 100000
set_option maxHeartbeats 2000000
-- names that keep the head from laying second copies of its long tables: else the compiled file is above 64 MB
def PySem.W.Fast.tw4343102868010492824 := ()
def PySem.W.Fast.tw3876361290968839630 := ()
def PySem.W.Fast.tw11889771371779794156 := ()
def PySem.W.Fast.tw2309796660876420985 := ()
def PySem.W.Fast.tw16051678424589102856 := ()
def PySem.W.Fast.tw9808976248654576904 := ()
def PySem.W.Fast.tw18014278169019930980 := ()
def PySem.W.Fast.tw6886389764879939444 := ()
def PySem.W.Fast.tw10240518563167064629 := ()
def PySem.W.Fast.tw8829443249721690603 := ()
def PySem.W.Fast.tw13331794340152762651 := ()
def PySem.W.Fast.tw16282221208460117984 := ()
def PySem.W.Fast.tw12962255293124230642 := ()
def PySem.W.Fast.tw3204511409913848040 := ()
def PySem.W.Fast.tw9832895116684786327 := ()
def PySem.W.Fast.tw5996512694251662246 := ()
def PySem.W.Fast.tw7970704403984748494 := ()
def PySem.W.Fast.tw11688203951101328300 := ()
def PySem.W.Fast.tw17447814076392587947 := ()
def PySem.W.Fast.tw16389088868646696783 := ()
def PySem.W.Fast.tw12036211945550451435 := ()
def PySem.W.Fast.tw7181773686741334143 := ()
def PySem.W.Fast.tw12689857654969858508 := ()
def PySem.W.Fast.tw9359019012299168766 := ()
def PySem.W.Fast.tw2707602265320087516 := ()
def PySem.W.Fast.tw16530741118838403741 := ()
def PySem.W.Fast.tw10668957174679014225 := ()
def PySem.W.Fast.tw8614791359767815328 := ()
def PySem.W.Fast.tw5274811563028272771 := ()
def PySem.W.Fast.tw12342899030306894087 := ()
def PySem.W.Fast.tw15162666935201287431 := ()
def PySem.W.Fast.tw7195998639403448745 := ()
def PySem.W.Fast.tw7571395880212626594 := ()
def PySem.W.Fast.tw17291239226372734581 := ()
def PySem.W.Fast.tw18310626470227464448 := ()
def PySem.W.Fast.tw16722702334020848002 := ()
def PySem.W.Fast.tw3486749343252384929 := ()
def PySem.W.Fast.tw1169734479042465727 := ()
def PySem.W.Fast.tw11979630701594772336 := ()
def PySem.W.Fast.tw14796463200947648068 := ()
def PySem.W.Fast.tw6978648715266972291 := ()
def PySem.W.Fast.tw4937456231185841080 := ()
def PySem.W.Fast.tw13619206964873722550 := ()
def PySem.W.Fast.tw15438258073554880690 := ()
def PySem.W.Fast.tw1621507032998860158 := ()
def PySem.W.Fast.tw1672130449299549211 := ()
def PySem.W.Fast.tw10422526739100033117 := ()
def PySem.W.Fast.tw4027095883041841937 := ()
def PySem.W.Fast.tw4650561507356658929 := ()
def PySem.W.Fast.tw5582879624488758712 := ()
def PySem.W.Fast.tw10427267438371501414 := ()
def PySem.W.Fast.tw4433445706620221844 := ()
def PySem.W.Fast.tw8889436368216651074 := ()
def PySem.W.Fast.tw2212349220621466771 := ()
def PySem.W.Fast.tw2635424124636265906 := ()
def PySem.W.Fast.tw12242473650763689616 := ()
def PySem.W.Fast.tw15005149627144423725 := ()
def PySem.W.Fast.tw391976049347491506 := ()
def PySem.W.Fast.tw9040187235741966793 := ()
def PySem.W.Fast.tw1142907010674286181 := ()
def PySem.W.Fast.tw17974526744975095154 := ()
def PySem.W.Fast.tw17522523240546390442 := ()
def PySem.W.Fast.tw7204885042924667778 := ()
def PySem.W.Fast.tw407436638799994723 := ()
def PySem.W.Fast.tw18168436239813970315 := ()
def PySem.W.Fast.tw15978885224038164380 := ()
def PySem.W.Fast.tw7272527165094463207 := ()
def PySem.W.Fast.tw2685154074723945651 := ()
def PySem.W.Fast.tw14092792211581257367 := ()
def PySem.W.Fast.tw12952063316910519873 := ()
def PySem.W.Fast.tw3489095346787506148 := ()
namespace Kn
open PySem PySem.Spec PyProof.Rows L2 Km
theorem all_mk {P : Program} {w : World} {K : W.Frag} {h : Heap} {mg : Str → Option Value} {fa : Addr} (X : K.In h) (G : h.Ns mainGlobals mg) (hfa : mg "answers" = some (.ref fa))
   {f_least_call : Addr} {f_make_call : Addr} {f_count_times : Addr} {f_find_firsts : Addr} {f_add_repeats : Addr} {f_choose_least : Addr} {f_is_colour : Addr} {f_are_colours : Addr} {f_colour_number : Addr} {f_count_colours : Addr} {f_as_signs : Addr} {f_read_chart : Addr} {f_split_rows : Addr} {f_write_rows : Addr} {f_is_size : Addr} {f_Tyings_init : Addr} {f_Tyings_ask : Addr} {f_tie_part : Addr} {f_tie_row : Addr} {f_wrong_columns : Addr} {f_count_wrong : Addr} {f_find_wrong : Addr} {f_are_shares : Addr} {f_Loom_init : Addr} {f_Loom_begin : Addr} {f_Loom_row : Addr} {f_Loom_unpick : Addr} {f_Loom_now : Addr} {f_Loom_tied : Addr} {f_Loom_wrong : Addr} {f_Loom_wool : Addr} {f_Loom_said : Addr} {f_CallReader_init : Addr} {f_CallReader_has_more : Addr} {f_CallReader_take_number : Addr} {f_CallReader_take_numbers : Addr} {f_answer_next : Addr} {f_answers : Addr} {C_Tyings : Addr} {C_Loom : Addr} {C_CallReader : Addr} {od_least_call an_least_call : Option Addr} {sl_least_call : Array (Option Value)} {oc_least_call kV_least_call dc_least_call pm_least_call cd_least_call ct_least_call : Value} {od_make_call an_make_call : Option Addr} {sl_make_call : Array (Option Value)} {oc_make_call kV_make_call dc_make_call pm_make_call cd_make_call ct_make_call : Value} {od_count_times an_count_times : Option Addr} {sl_count_times : Array (Option Value)} {oc_count_times kV_count_times dc_count_times pm_count_times cd_count_times ct_count_times : Value} {od_find_firsts an_find_firsts : Option Addr} {sl_find_firsts : Array (Option Value)} {oc_find_firsts kV_find_firsts dc_find_firsts pm_find_firsts cd_find_firsts ct_find_firsts : Value} {od_add_repeats an_add_repeats : Option Addr} {sl_add_repeats : Array (Option Value)} {oc_add_repeats kV_add_repeats dc_add_repeats pm_add_repeats cd_add_repeats ct_add_repeats : Value} {od_choose_least an_choose_least : Option Addr} {sl_choose_least : Array (Option Value)} {oc_choose_least kV_choose_least dc_choose_least pm_choose_least cd_choose_least ct_choose_least : Value} {od_is_colour an_is_colour : Option Addr} {sl_is_colour : Array (Option Value)} {oc_is_colour kV_is_colour dc_is_colour pm_is_colour cd_is_colour ct_is_colour : Value} {od_are_colours an_are_colours : Option Addr} {sl_are_colours : Array (Option Value)} {oc_are_colours kV_are_colours dc_are_colours pm_are_colours cd_are_colours ct_are_colours : Value} {od_colour_number an_colour_number : Option Addr} {sl_colour_number : Array (Option Value)} {oc_colour_number kV_colour_number dc_colour_number pm_colour_number cd_colour_number ct_colour_number : Value} {od_count_colours an_count_colours : Option Addr} {sl_count_colours : Array (Option Value)} {oc_count_colours kV_count_colours dc_count_colours pm_count_colours cd_count_colours ct_count_colours : Value} {od_as_signs an_as_signs : Option Addr} {sl_as_signs : Array (Option Value)} {oc_as_signs kV_as_signs dc_as_signs pm_as_signs cd_as_signs ct_as_signs : Value} {od_read_chart an_read_chart : Option Addr} {sl_read_chart : Array (Option Value)} {oc_read_chart kV_read_chart dc_read_chart pm_read_chart cd_read_chart ct_read_chart : Value} {od_split_rows an_split_rows : Option Addr} {sl_split_rows : Array (Option Value)} {oc_split_rows kV_split_rows dc_split_rows pm_split_rows cd_split_rows ct_split_rows : Value} {od_write_rows an_write_rows : Option Addr} {sl_write_rows : Array (Option Value)} {oc_write_rows kV_write_rows dc_write_rows pm_write_rows cd_write_rows ct_write_rows : Value} {od_is_size an_is_size : Option Addr} {sl_is_size : Array (Option Value)} {oc_is_size kV_is_size dc_is_size pm_is_size cd_is_size ct_is_size : Value} {od_Tyings_init an_Tyings_init : Option Addr} {sl_Tyings_init : Array (Option Value)} {oc_Tyings_init kV_Tyings_init dc_Tyings_init pm_Tyings_init cd_Tyings_init ct_Tyings_init : Value} {od_Tyings_ask an_Tyings_ask : Option Addr} {sl_Tyings_ask : Array (Option Value)} {oc_Tyings_ask kV_Tyings_ask dc_Tyings_ask pm_Tyings_ask cd_Tyings_ask ct_Tyings_ask : Value} {od_tie_part an_tie_part : Option Addr} {sl_tie_part : Array (Option Value)} {oc_tie_part kV_tie_part dc_tie_part pm_tie_part cd_tie_part ct_tie_part : Value} {od_tie_row an_tie_row : Option Addr} {sl_tie_row : Array (Option Value)} {oc_tie_row kV_tie_row dc_tie_row pm_tie_row cd_tie_row ct_tie_row : Value} {od_wrong_columns an_wrong_columns : Option Addr} {sl_wrong_columns : Array (Option Value)} {oc_wrong_columns kV_wrong_columns dc_wrong_columns pm_wrong_columns cd_wrong_columns ct_wrong_columns : Value} {od_count_wrong an_count_wrong : Option Addr} {sl_count_wrong : Array (Option Value)} {oc_count_wrong kV_count_wrong dc_count_wrong pm_count_wrong cd_count_wrong ct_count_wrong : Value} {od_find_wrong an_find_wrong : Option Addr} {sl_find_wrong : Array (Option Value)} {oc_find_wrong kV_find_wrong dc_find_wrong pm_find_wrong cd_find_wrong ct_find_wrong : Value} {od_are_shares an_are_shares : Option Addr} {sl_are_shares : Array (Option Value)} {oc_are_shares kV_are_shares dc_are_shares pm_are_shares cd_are_shares ct_are_shares : Value} {od_Loom_init an_Loom_init : Option Addr} {sl_Loom_init : Array (Option Value)} {oc_Loom_init kV_Loom_init dc_Loom_init pm_Loom_init cd_Loom_init ct_Loom_init : Value} {od_Loom_begin an_Loom_begin : Option Addr} {sl_Loom_begin : Array (Option Value)} {oc_Loom_begin kV_Loom_begin dc_Loom_begin pm_Loom_begin cd_Loom_begin ct_Loom_begin : Value} {od_Loom_row an_Loom_row : Option Addr} {sl_Loom_row : Array (Option Value)} {oc_Loom_row kV_Loom_row dc_Loom_row pm_Loom_row cd_Loom_row ct_Loom_row : Value} {od_Loom_unpick an_Loom_unpick : Option Addr} {sl_Loom_unpick : Array (Option Value)} {oc_Loom_unpick kV_Loom_unpick dc_Loom_unpick pm_Loom_unpick cd_Loom_unpick ct_Loom_unpick : Value} {od_Loom_now an_Loom_now : Option Addr} {sl_Loom_now : Array (Option Value)} {oc_Loom_now kV_Loom_now dc_Loom_now pm_Loom_now cd_Loom_now ct_Loom_now : Value} {od_Loom_tied an_Loom_tied : Option Addr} {sl_Loom_tied : Array (Option Value)} {oc_Loom_tied kV_Loom_tied dc_Loom_tied pm_Loom_tied cd_Loom_tied ct_Loom_tied : Value} {od_Loom_wrong an_Loom_wrong : Option Addr} {sl_Loom_wrong : Array (Option Value)} {oc_Loom_wrong kV_Loom_wrong dc_Loom_wrong pm_Loom_wrong cd_Loom_wrong ct_Loom_wrong : Value} {od_Loom_wool an_Loom_wool : Option Addr} {sl_Loom_wool : Array (Option Value)} {oc_Loom_wool kV_Loom_wool dc_Loom_wool pm_Loom_wool cd_Loom_wool ct_Loom_wool : Value} {od_Loom_said an_Loom_said : Option Addr} {sl_Loom_said : Array (Option Value)} {oc_Loom_said kV_Loom_said dc_Loom_said pm_Loom_said cd_Loom_said ct_Loom_said : Value} {od_CallReader_init an_CallReader_init : Option Addr} {sl_CallReader_init : Array (Option Value)} {oc_CallReader_init kV_CallReader_init dc_CallReader_init pm_CallReader_init cd_CallReader_init ct_CallReader_init : Value} {od_CallReader_has_more an_CallReader_has_more : Option Addr} {sl_CallReader_has_more : Array (Option Value)} {oc_CallReader_has_more kV_CallReader_has_more dc_CallReader_has_more pm_CallReader_has_more cd_CallReader_has_more ct_CallReader_has_more : Value} {od_CallReader_take_number an_CallReader_take_number : Option Addr} {sl_CallReader_take_number : Array (Option Value)} {oc_CallReader_take_number kV_CallReader_take_number dc_CallReader_take_number pm_CallReader_take_number cd_CallReader_take_number ct_CallReader_take_number : Value} {od_CallReader_take_numbers an_CallReader_take_numbers : Option Addr} {sl_CallReader_take_numbers : Array (Option Value)} {oc_CallReader_take_numbers kV_CallReader_take_numbers dc_CallReader_take_numbers pm_CallReader_take_numbers cd_CallReader_take_numbers ct_CallReader_take_numbers : Value} {od_answer_next an_answer_next : Option Addr} {sl_answer_next : Array (Option Value)} {oc_answer_next kV_answer_next dc_answer_next pm_answer_next cd_answer_next ct_answer_next : Value} {od_answers an_answers : Option Addr} {sl_answers : Array (Option Value)} {oc_answers kV_answers dc_answers pm_answers cd_answers ct_answers : Value} {t_SIGNS : Tok} {t_WIDEST : Tok} {t_HIGHEST : Tok} {t_MOST_KNOTS : Tok} {t_ROW_END : Tok} {t_OUT_OF_RANGE : Tok} {t_TOO_LONG : Tok} {t_NO_SUCH_THING : Tok} {t_NO_ROW : Tok} {t_NO_CHART : Tok} {t_ROW_IS_LEFT : Tok} {t_NOT_BEGUN : Tok} {t_MOST_BYTES : Tok} {t_MOST_KNOTTERS : Tok} {t_WIDEST_SHARE : Tok} {t_MOST_TRIES : Tok} {t_ASKED_MODULO : Tok} {t_BEGIN : Tok} {t_ROW : Tok} {t_UNPICK : Tok} {t_NOW : Tok} {t_TIED : Tok} {t_WRONG : Tok} {t_WOOL : Tok} {t_SAID : Tok}
   (aC_Tyings : W.nsIn K mainGlobals "Tyings" = some (some (.ref C_Tyings)))
   (aC_Loom : W.nsIn K mainGlobals "Loom" = some (some (.ref C_Loom)))
   (aC_CallReader : W.nsIn K mainGlobals "CallReader" = some (some (.ref C_CallReader)))
   (a_least_call : W.nsIn K mainGlobals "least_call" = some (some (.ref f_least_call)))
   (l_least_call : K.lookup f_least_call = some ⟨oc_least_call, od_least_call, .func (W.fnOf "least_call" "least_call" (defArgs s_least_call) (defBody s_least_call) (defScope s_least_call) .none kV_least_call dc_least_call pm_least_call an_least_call cd_least_call ct_least_call), sl_least_call⟩)
   (c_least_call : W.codeIn K cd_least_call "least_call" = true)
   (k_least_call : W.keepIn K (.ref f_least_call) = true)
   (a_make_call : W.nsIn K mainGlobals "make_call" = some (some (.ref f_make_call)))
   (l_make_call : K.lookup f_make_call = some ⟨oc_make_call, od_make_call, .func (W.fnOf "make_call" "make_call" (defArgs s_make_call) (defBody s_make_call) (defScope s_make_call) .none kV_make_call dc_make_call pm_make_call an_make_call cd_make_call ct_make_call), sl_make_call⟩)
   (c_make_call : W.codeIn K cd_make_call "make_call" = true)
   (k_make_call : W.keepIn K (.ref f_make_call) = true)
   (a_count_times : W.nsIn K mainGlobals "count_times" = some (some (.ref f_count_times)))
   (l_count_times : K.lookup f_count_times = some ⟨oc_count_times, od_count_times, .func (W.fnOf "count_times" "count_times" (defArgs s_count_times) (defBody s_count_times) (defScope s_count_times) .none kV_count_times dc_count_times pm_count_times an_count_times cd_count_times ct_count_times), sl_count_times⟩)
   (c_count_times : W.codeIn K cd_count_times "count_times" = true)
   (k_count_times : W.keepIn K (.ref f_count_times) = true)
   (a_find_firsts : W.nsIn K mainGlobals "find_firsts" = some (some (.ref f_find_firsts)))
   (l_find_firsts : K.lookup f_find_firsts = some ⟨oc_find_firsts, od_find_firsts, .func (W.fnOf "find_firsts" "find_firsts" (defArgs s_find_firsts) (defBody s_find_firsts) (defScope s_find_firsts) .none kV_find_firsts dc_find_firsts pm_find_firsts an_find_firsts cd_find_firsts ct_find_firsts), sl_find_firsts⟩)
   (c_find_firsts : W.codeIn K cd_find_firsts "find_firsts" = true)
   (k_find_firsts : W.keepIn K (.ref f_find_firsts) = true)
   (a_add_repeats : W.nsIn K mainGlobals "add_repeats" = some (some (.ref f_add_repeats)))
   (l_add_repeats : K.lookup f_add_repeats = some ⟨oc_add_repeats, od_add_repeats, .func (W.fnOf "add_repeats" "add_repeats" (defArgs s_add_repeats) (defBody s_add_repeats) (defScope s_add_repeats) .none kV_add_repeats dc_add_repeats pm_add_repeats an_add_repeats cd_add_repeats ct_add_repeats), sl_add_repeats⟩)
   (c_add_repeats : W.codeIn K cd_add_repeats "add_repeats" = true)
   (k_add_repeats : W.keepIn K (.ref f_add_repeats) = true)
   (a_choose_least : W.nsIn K mainGlobals "choose_least" = some (some (.ref f_choose_least)))
   (l_choose_least : K.lookup f_choose_least = some ⟨oc_choose_least, od_choose_least, .func (W.fnOf "choose_least" "choose_least" (defArgs s_choose_least) (defBody s_choose_least) (defScope s_choose_least) .none kV_choose_least dc_choose_least pm_choose_least an_choose_least cd_choose_least ct_choose_least), sl_choose_least⟩)
   (c_choose_least : W.codeIn K cd_choose_least "choose_least" = true)
   (k_choose_least : W.keepIn K (.ref f_choose_least) = true)
   (a_is_colour : W.nsIn K mainGlobals "is_colour" = some (some (.ref f_is_colour)))
   (l_is_colour : K.lookup f_is_colour = some ⟨oc_is_colour, od_is_colour, .func (W.fnOf "is_colour" "is_colour" (defArgs s_is_colour) (defBody s_is_colour) (defScope s_is_colour) .none kV_is_colour dc_is_colour pm_is_colour an_is_colour cd_is_colour ct_is_colour), sl_is_colour⟩)
   (c_is_colour : W.codeIn K cd_is_colour "is_colour" = true)
   (k_is_colour : W.keepIn K (.ref f_is_colour) = true)
   (a_are_colours : W.nsIn K mainGlobals "are_colours" = some (some (.ref f_are_colours)))
   (l_are_colours : K.lookup f_are_colours = some ⟨oc_are_colours, od_are_colours, .func (W.fnOf "are_colours" "are_colours" (defArgs s_are_colours) (defBody s_are_colours) (defScope s_are_colours) .none kV_are_colours dc_are_colours pm_are_colours an_are_colours cd_are_colours ct_are_colours), sl_are_colours⟩)
   (c_are_colours : W.codeIn K cd_are_colours "are_colours" = true)
   (k_are_colours : W.keepIn K (.ref f_are_colours) = true)
   (a_colour_number : W.nsIn K mainGlobals "colour_number" = some (some (.ref f_colour_number)))
   (l_colour_number : K.lookup f_colour_number = some ⟨oc_colour_number, od_colour_number, .func (W.fnOf "colour_number" "colour_number" (defArgs s_colour_number) (defBody s_colour_number) (defScope s_colour_number) .none kV_colour_number dc_colour_number pm_colour_number an_colour_number cd_colour_number ct_colour_number), sl_colour_number⟩)
   (c_colour_number : W.codeIn K cd_colour_number "colour_number" = true)
   (k_colour_number : W.keepIn K (.ref f_colour_number) = true)
   (a_count_colours : W.nsIn K mainGlobals "count_colours" = some (some (.ref f_count_colours)))
   (l_count_colours : K.lookup f_count_colours = some ⟨oc_count_colours, od_count_colours, .func (W.fnOf "count_colours" "count_colours" (defArgs s_count_colours) (defBody s_count_colours) (defScope s_count_colours) .none kV_count_colours dc_count_colours pm_count_colours an_count_colours cd_count_colours ct_count_colours), sl_count_colours⟩)
   (c_count_colours : W.codeIn K cd_count_colours "count_colours" = true)
   (k_count_colours : W.keepIn K (.ref f_count_colours) = true)
   (a_as_signs : W.nsIn K mainGlobals "as_signs" = some (some (.ref f_as_signs)))
   (l_as_signs : K.lookup f_as_signs = some ⟨oc_as_signs, od_as_signs, .func (W.fnOf "as_signs" "as_signs" (defArgs s_as_signs) (defBody s_as_signs) (defScope s_as_signs) .none kV_as_signs dc_as_signs pm_as_signs an_as_signs cd_as_signs ct_as_signs), sl_as_signs⟩)
   (c_as_signs : W.codeIn K cd_as_signs "as_signs" = true)
   (k_as_signs : W.keepIn K (.ref f_as_signs) = true)
   (a_read_chart : W.nsIn K mainGlobals "read_chart" = some (some (.ref f_read_chart)))
   (l_read_chart : K.lookup f_read_chart = some ⟨oc_read_chart, od_read_chart, .func (W.fnOf "read_chart" "read_chart" (defArgs s_read_chart) (defBody s_read_chart) (defScope s_read_chart) .none kV_read_chart dc_read_chart pm_read_chart an_read_chart cd_read_chart ct_read_chart), sl_read_chart⟩)
   (c_read_chart : W.codeIn K cd_read_chart "read_chart" = true)
   (k_read_chart : W.keepIn K (.ref f_read_chart) = true)
   (a_split_rows : W.nsIn K mainGlobals "split_rows" = some (some (.ref f_split_rows)))
   (l_split_rows : K.lookup f_split_rows = some ⟨oc_split_rows, od_split_rows, .func (W.fnOf "split_rows" "split_rows" (defArgs s_split_rows) (defBody s_split_rows) (defScope s_split_rows) .none kV_split_rows dc_split_rows pm_split_rows an_split_rows cd_split_rows ct_split_rows), sl_split_rows⟩)
   (c_split_rows : W.codeIn K cd_split_rows "split_rows" = true)
   (k_split_rows : W.keepIn K (.ref f_split_rows) = true)
   (a_write_rows : W.nsIn K mainGlobals "write_rows" = some (some (.ref f_write_rows)))
   (l_write_rows : K.lookup f_write_rows = some ⟨oc_write_rows, od_write_rows, .func (W.fnOf "write_rows" "write_rows" (defArgs s_write_rows) (defBody s_write_rows) (defScope s_write_rows) .none kV_write_rows dc_write_rows pm_write_rows an_write_rows cd_write_rows ct_write_rows), sl_write_rows⟩)
   (c_write_rows : W.codeIn K cd_write_rows "write_rows" = true)
   (k_write_rows : W.keepIn K (.ref f_write_rows) = true)
   (a_is_size : W.nsIn K mainGlobals "is_size" = some (some (.ref f_is_size)))
   (l_is_size : K.lookup f_is_size = some ⟨oc_is_size, od_is_size, .func (W.fnOf "is_size" "is_size" (defArgs s_is_size) (defBody s_is_size) (defScope s_is_size) .none kV_is_size dc_is_size pm_is_size an_is_size cd_is_size ct_is_size), sl_is_size⟩)
   (c_is_size : W.codeIn K cd_is_size "is_size" = true)
   (k_is_size : W.keepIn K (.ref f_is_size) = true)
   (a_Tyings_init : W.findIn K (.ref C_Tyings) "__init__" = some (some (.ref f_Tyings_init)))
   (i_Tyings_init : W.isFn K (.ref f_Tyings_init) = true)
   (l_Tyings_init : K.lookup f_Tyings_init = some ⟨oc_Tyings_init, od_Tyings_init, .func (W.fnOf "__init__" "Tyings.__init__" (defArgs s_Tyings_init) (defBody s_Tyings_init) (defScope s_Tyings_init) .none kV_Tyings_init dc_Tyings_init pm_Tyings_init an_Tyings_init cd_Tyings_init ct_Tyings_init), sl_Tyings_init⟩)
   (c_Tyings_init : W.codeIn K cd_Tyings_init "Tyings.__init__" = true)
   (k_Tyings_init : W.keepIn K (.ref f_Tyings_init) = true)
   (a_Tyings_ask : W.findIn K (.ref C_Tyings) "ask" = some (some (.ref f_Tyings_ask)))
   (i_Tyings_ask : W.isFn K (.ref f_Tyings_ask) = true)
   (l_Tyings_ask : K.lookup f_Tyings_ask = some ⟨oc_Tyings_ask, od_Tyings_ask, .func (W.fnOf "ask" "Tyings.ask" (defArgs s_Tyings_ask) (defBody s_Tyings_ask) (defScope s_Tyings_ask) .none kV_Tyings_ask dc_Tyings_ask pm_Tyings_ask an_Tyings_ask cd_Tyings_ask ct_Tyings_ask), sl_Tyings_ask⟩)
   (c_Tyings_ask : W.codeIn K cd_Tyings_ask "Tyings.ask" = true)
   (k_Tyings_ask : W.keepIn K (.ref f_Tyings_ask) = true)
   (a_tie_part : W.nsIn K mainGlobals "tie_part" = some (some (.ref f_tie_part)))
   (l_tie_part : K.lookup f_tie_part = some ⟨oc_tie_part, od_tie_part, .func (W.fnOf "tie_part" "tie_part" (defArgs s_tie_part) (defBody s_tie_part) (defScope s_tie_part) .none kV_tie_part dc_tie_part pm_tie_part an_tie_part cd_tie_part ct_tie_part), sl_tie_part⟩)
   (c_tie_part : W.codeIn K cd_tie_part "tie_part" = true)
   (k_tie_part : W.keepIn K (.ref f_tie_part) = true)
   (a_tie_row : W.nsIn K mainGlobals "tie_row" = some (some (.ref f_tie_row)))
   (l_tie_row : K.lookup f_tie_row = some ⟨oc_tie_row, od_tie_row, .func (W.fnOf "tie_row" "tie_row" (defArgs s_tie_row) (defBody s_tie_row) (defScope s_tie_row) .none kV_tie_row dc_tie_row pm_tie_row an_tie_row cd_tie_row ct_tie_row), sl_tie_row⟩)
   (c_tie_row : W.codeIn K cd_tie_row "tie_row" = true)
   (k_tie_row : W.keepIn K (.ref f_tie_row) = true)
   (a_wrong_columns : W.nsIn K mainGlobals "wrong_columns" = some (some (.ref f_wrong_columns)))
   (l_wrong_columns : K.lookup f_wrong_columns = some ⟨oc_wrong_columns, od_wrong_columns, .func (W.fnOf "wrong_columns" "wrong_columns" (defArgs s_wrong_columns) (defBody s_wrong_columns) (defScope s_wrong_columns) .none kV_wrong_columns dc_wrong_columns pm_wrong_columns an_wrong_columns cd_wrong_columns ct_wrong_columns), sl_wrong_columns⟩)
   (c_wrong_columns : W.codeIn K cd_wrong_columns "wrong_columns" = true)
   (k_wrong_columns : W.keepIn K (.ref f_wrong_columns) = true)
   (a_count_wrong : W.nsIn K mainGlobals "count_wrong" = some (some (.ref f_count_wrong)))
   (l_count_wrong : K.lookup f_count_wrong = some ⟨oc_count_wrong, od_count_wrong, .func (W.fnOf "count_wrong" "count_wrong" (defArgs s_count_wrong) (defBody s_count_wrong) (defScope s_count_wrong) .none kV_count_wrong dc_count_wrong pm_count_wrong an_count_wrong cd_count_wrong ct_count_wrong), sl_count_wrong⟩)
   (c_count_wrong : W.codeIn K cd_count_wrong "count_wrong" = true)
   (k_count_wrong : W.keepIn K (.ref f_count_wrong) = true)
   (a_find_wrong : W.nsIn K mainGlobals "find_wrong" = some (some (.ref f_find_wrong)))
   (l_find_wrong : K.lookup f_find_wrong = some ⟨oc_find_wrong, od_find_wrong, .func (W.fnOf "find_wrong" "find_wrong" (defArgs s_find_wrong) (defBody s_find_wrong) (defScope s_find_wrong) .none kV_find_wrong dc_find_wrong pm_find_wrong an_find_wrong cd_find_wrong ct_find_wrong), sl_find_wrong⟩)
   (c_find_wrong : W.codeIn K cd_find_wrong "find_wrong" = true)
   (k_find_wrong : W.keepIn K (.ref f_find_wrong) = true)
   (a_are_shares : W.nsIn K mainGlobals "are_shares" = some (some (.ref f_are_shares)))
   (l_are_shares : K.lookup f_are_shares = some ⟨oc_are_shares, od_are_shares, .func (W.fnOf "are_shares" "are_shares" (defArgs s_are_shares) (defBody s_are_shares) (defScope s_are_shares) .none kV_are_shares dc_are_shares pm_are_shares an_are_shares cd_are_shares ct_are_shares), sl_are_shares⟩)
   (c_are_shares : W.codeIn K cd_are_shares "are_shares" = true)
   (k_are_shares : W.keepIn K (.ref f_are_shares) = true)
   (a_Loom_init : W.findIn K (.ref C_Loom) "__init__" = some (some (.ref f_Loom_init)))
   (i_Loom_init : W.isFn K (.ref f_Loom_init) = true)
   (l_Loom_init : K.lookup f_Loom_init = some ⟨oc_Loom_init, od_Loom_init, .func (W.fnOf "__init__" "Loom.__init__" (defArgs s_Loom_init) (defBody s_Loom_init) (defScope s_Loom_init) .none kV_Loom_init dc_Loom_init pm_Loom_init an_Loom_init cd_Loom_init ct_Loom_init), sl_Loom_init⟩)
   (c_Loom_init : W.codeIn K cd_Loom_init "Loom.__init__" = true)
   (k_Loom_init : W.keepIn K (.ref f_Loom_init) = true)
   (a_Loom_begin : W.findIn K (.ref C_Loom) "begin" = some (some (.ref f_Loom_begin)))
   (i_Loom_begin : W.isFn K (.ref f_Loom_begin) = true)
   (l_Loom_begin : K.lookup f_Loom_begin = some ⟨oc_Loom_begin, od_Loom_begin, .func (W.fnOf "begin" "Loom.begin" (defArgs s_Loom_begin) (defBody s_Loom_begin) (defScope s_Loom_begin) .none kV_Loom_begin dc_Loom_begin pm_Loom_begin an_Loom_begin cd_Loom_begin ct_Loom_begin), sl_Loom_begin⟩)
   (c_Loom_begin : W.codeIn K cd_Loom_begin "Loom.begin" = true)
   (k_Loom_begin : W.keepIn K (.ref f_Loom_begin) = true)
   (a_Loom_row : W.findIn K (.ref C_Loom) "row" = some (some (.ref f_Loom_row)))
   (i_Loom_row : W.isFn K (.ref f_Loom_row) = true)
   (l_Loom_row : K.lookup f_Loom_row = some ⟨oc_Loom_row, od_Loom_row, .func (W.fnOf "row" "Loom.row" (defArgs s_Loom_row) (defBody s_Loom_row) (defScope s_Loom_row) .none kV_Loom_row dc_Loom_row pm_Loom_row an_Loom_row cd_Loom_row ct_Loom_row), sl_Loom_row⟩)
   (c_Loom_row : W.codeIn K cd_Loom_row "Loom.row" = true)
   (k_Loom_row : W.keepIn K (.ref f_Loom_row) = true)
   (a_Loom_unpick : W.findIn K (.ref C_Loom) "unpick" = some (some (.ref f_Loom_unpick)))
   (i_Loom_unpick : W.isFn K (.ref f_Loom_unpick) = true)
   (l_Loom_unpick : K.lookup f_Loom_unpick = some ⟨oc_Loom_unpick, od_Loom_unpick, .func (W.fnOf "unpick" "Loom.unpick" (defArgs s_Loom_unpick) (defBody s_Loom_unpick) (defScope s_Loom_unpick) .none kV_Loom_unpick dc_Loom_unpick pm_Loom_unpick an_Loom_unpick cd_Loom_unpick ct_Loom_unpick), sl_Loom_unpick⟩)
   (c_Loom_unpick : W.codeIn K cd_Loom_unpick "Loom.unpick" = true)
   (k_Loom_unpick : W.keepIn K (.ref f_Loom_unpick) = true)
   (a_Loom_now : W.findIn K (.ref C_Loom) "now" = some (some (.ref f_Loom_now)))
   (i_Loom_now : W.isFn K (.ref f_Loom_now) = true)
   (l_Loom_now : K.lookup f_Loom_now = some ⟨oc_Loom_now, od_Loom_now, .func (W.fnOf "now" "Loom.now" (defArgs s_Loom_now) (defBody s_Loom_now) (defScope s_Loom_now) .none kV_Loom_now dc_Loom_now pm_Loom_now an_Loom_now cd_Loom_now ct_Loom_now), sl_Loom_now⟩)
   (c_Loom_now : W.codeIn K cd_Loom_now "Loom.now" = true)
   (k_Loom_now : W.keepIn K (.ref f_Loom_now) = true)
   (a_Loom_tied : W.findIn K (.ref C_Loom) "tied" = some (some (.ref f_Loom_tied)))
   (i_Loom_tied : W.isFn K (.ref f_Loom_tied) = true)
   (l_Loom_tied : K.lookup f_Loom_tied = some ⟨oc_Loom_tied, od_Loom_tied, .func (W.fnOf "tied" "Loom.tied" (defArgs s_Loom_tied) (defBody s_Loom_tied) (defScope s_Loom_tied) .none kV_Loom_tied dc_Loom_tied pm_Loom_tied an_Loom_tied cd_Loom_tied ct_Loom_tied), sl_Loom_tied⟩)
   (c_Loom_tied : W.codeIn K cd_Loom_tied "Loom.tied" = true)
   (k_Loom_tied : W.keepIn K (.ref f_Loom_tied) = true)
   (a_Loom_wrong : W.findIn K (.ref C_Loom) "wrong" = some (some (.ref f_Loom_wrong)))
   (i_Loom_wrong : W.isFn K (.ref f_Loom_wrong) = true)
   (l_Loom_wrong : K.lookup f_Loom_wrong = some ⟨oc_Loom_wrong, od_Loom_wrong, .func (W.fnOf "wrong" "Loom.wrong" (defArgs s_Loom_wrong) (defBody s_Loom_wrong) (defScope s_Loom_wrong) .none kV_Loom_wrong dc_Loom_wrong pm_Loom_wrong an_Loom_wrong cd_Loom_wrong ct_Loom_wrong), sl_Loom_wrong⟩)
   (c_Loom_wrong : W.codeIn K cd_Loom_wrong "Loom.wrong" = true)
   (k_Loom_wrong : W.keepIn K (.ref f_Loom_wrong) = true)
   (a_Loom_wool : W.findIn K (.ref C_Loom) "wool" = some (some (.ref f_Loom_wool)))
   (i_Loom_wool : W.isFn K (.ref f_Loom_wool) = true)
   (l_Loom_wool : K.lookup f_Loom_wool = some ⟨oc_Loom_wool, od_Loom_wool, .func (W.fnOf "wool" "Loom.wool" (defArgs s_Loom_wool) (defBody s_Loom_wool) (defScope s_Loom_wool) .none kV_Loom_wool dc_Loom_wool pm_Loom_wool an_Loom_wool cd_Loom_wool ct_Loom_wool), sl_Loom_wool⟩)
   (c_Loom_wool : W.codeIn K cd_Loom_wool "Loom.wool" = true)
   (k_Loom_wool : W.keepIn K (.ref f_Loom_wool) = true)
   (a_Loom_said : W.findIn K (.ref C_Loom) "said" = some (some (.ref f_Loom_said)))
   (i_Loom_said : W.isFn K (.ref f_Loom_said) = true)
   (l_Loom_said : K.lookup f_Loom_said = some ⟨oc_Loom_said, od_Loom_said, .func (W.fnOf "said" "Loom.said" (defArgs s_Loom_said) (defBody s_Loom_said) (defScope s_Loom_said) .none kV_Loom_said dc_Loom_said pm_Loom_said an_Loom_said cd_Loom_said ct_Loom_said), sl_Loom_said⟩)
   (c_Loom_said : W.codeIn K cd_Loom_said "Loom.said" = true)
   (k_Loom_said : W.keepIn K (.ref f_Loom_said) = true)
   (a_CallReader_init : W.findIn K (.ref C_CallReader) "__init__" = some (some (.ref f_CallReader_init)))
   (i_CallReader_init : W.isFn K (.ref f_CallReader_init) = true)
   (l_CallReader_init : K.lookup f_CallReader_init = some ⟨oc_CallReader_init, od_CallReader_init, .func (W.fnOf "__init__" "CallReader.__init__" (defArgs s_CallReader_init) (defBody s_CallReader_init) (defScope s_CallReader_init) .none kV_CallReader_init dc_CallReader_init pm_CallReader_init an_CallReader_init cd_CallReader_init ct_CallReader_init), sl_CallReader_init⟩)
   (c_CallReader_init : W.codeIn K cd_CallReader_init "CallReader.__init__" = true)
   (k_CallReader_init : W.keepIn K (.ref f_CallReader_init) = true)
   (a_CallReader_has_more : W.findIn K (.ref C_CallReader) "has_more" = some (some (.ref f_CallReader_has_more)))
   (i_CallReader_has_more : W.isFn K (.ref f_CallReader_has_more) = true)
   (l_CallReader_has_more : K.lookup f_CallReader_has_more = some ⟨oc_CallReader_has_more, od_CallReader_has_more, .func (W.fnOf "has_more" "CallReader.has_more" (defArgs s_CallReader_has_more) (defBody s_CallReader_has_more) (defScope s_CallReader_has_more) .none kV_CallReader_has_more dc_CallReader_has_more pm_CallReader_has_more an_CallReader_has_more cd_CallReader_has_more ct_CallReader_has_more), sl_CallReader_has_more⟩)
   (c_CallReader_has_more : W.codeIn K cd_CallReader_has_more "CallReader.has_more" = true)
   (k_CallReader_has_more : W.keepIn K (.ref f_CallReader_has_more) = true)
   (a_CallReader_take_number : W.findIn K (.ref C_CallReader) "take_number" = some (some (.ref f_CallReader_take_number)))
   (i_CallReader_take_number : W.isFn K (.ref f_CallReader_take_number) = true)
   (l_CallReader_take_number : K.lookup f_CallReader_take_number = some ⟨oc_CallReader_take_number, od_CallReader_take_number, .func (W.fnOf "take_number" "CallReader.take_number" (defArgs s_CallReader_take_number) (defBody s_CallReader_take_number) (defScope s_CallReader_take_number) .none kV_CallReader_take_number dc_CallReader_take_number pm_CallReader_take_number an_CallReader_take_number cd_CallReader_take_number ct_CallReader_take_number), sl_CallReader_take_number⟩)
   (c_CallReader_take_number : W.codeIn K cd_CallReader_take_number "CallReader.take_number" = true)
   (k_CallReader_take_number : W.keepIn K (.ref f_CallReader_take_number) = true)
   (a_CallReader_take_numbers : W.findIn K (.ref C_CallReader) "take_numbers" = some (some (.ref f_CallReader_take_numbers)))
   (i_CallReader_take_numbers : W.isFn K (.ref f_CallReader_take_numbers) = true)
   (l_CallReader_take_numbers : K.lookup f_CallReader_take_numbers = some ⟨oc_CallReader_take_numbers, od_CallReader_take_numbers, .func (W.fnOf "take_numbers" "CallReader.take_numbers" (defArgs s_CallReader_take_numbers) (defBody s_CallReader_take_numbers) (defScope s_CallReader_take_numbers) .none kV_CallReader_take_numbers dc_CallReader_take_numbers pm_CallReader_take_numbers an_CallReader_take_numbers cd_CallReader_take_numbers ct_CallReader_take_numbers), sl_CallReader_take_numbers⟩)
   (c_CallReader_take_numbers : W.codeIn K cd_CallReader_take_numbers "CallReader.take_numbers" = true)
   (k_CallReader_take_numbers : W.keepIn K (.ref f_CallReader_take_numbers) = true)
   (a_answer_next : W.nsIn K mainGlobals "answer_next" = some (some (.ref f_answer_next)))
   (l_answer_next : K.lookup f_answer_next = some ⟨oc_answer_next, od_answer_next, .func (W.fnOf "answer_next" "answer_next" (defArgs s_answer_next) (defBody s_answer_next) (defScope s_answer_next) .none kV_answer_next dc_answer_next pm_answer_next an_answer_next cd_answer_next ct_answer_next), sl_answer_next⟩)
   (c_answer_next : W.codeIn K cd_answer_next "answer_next" = true)
   (k_answer_next : W.keepIn K (.ref f_answer_next) = true)
   (a_answers : W.nsIn K mainGlobals "answers" = some (some (.ref f_answers)))
   (l_answers : K.lookup f_answers = some ⟨oc_answers, od_answers, .func (W.fnOf "answers" "answers" (defArgs s_answers) (defBody s_answers) (defScope s_answers) .none kV_answers dc_answers pm_answers an_answers cd_answers ct_answers), sl_answers⟩)
   (c_answers : W.codeIn K cd_answers "answers" = true)
   (k_answers : W.keepIn K (.ref f_answers) = true)
   (pg_Tyings : W.plainGet K C_Tyings Str.empty = true)
   (hd_Tyings : W.hasDictIn K C_Tyings = true)
   (po_Tyings : W.plainOver K C_Tyings = true)
   (sa_Tyings : W.findIn K (.ref C_Tyings) "__setattr__" = some (some (.builtin "object.__setattr__")))
   (mk_Tyings : W.makesIn K C_Tyings = true)
   (kc_Tyings : W.keepIn K (.ref C_Tyings) = true)
   (nf_Tyings_told : W.findIn K (.ref C_Tyings) "told" = some none)
   (nf_Tyings_place : W.findIn K (.ref C_Tyings) "place" = some none)
   (nf_Tyings_asked : W.findIn K (.ref C_Tyings) "asked" = some none)
   (pg_Loom : W.plainGet K C_Loom Str.empty = true)
   (hd_Loom : W.hasDictIn K C_Loom = true)
   (po_Loom : W.plainOver K C_Loom = true)
   (sa_Loom : W.findIn K (.ref C_Loom) "__setattr__" = some (some (.builtin "object.__setattr__")))
   (mk_Loom : W.makesIn K C_Loom = true)
   (kc_Loom : W.keepIn K (.ref C_Loom) = true)
   (nf_Loom_chart : W.findIn K (.ref C_Loom) "chart" = some none)
   (nf_Loom_shares : W.findIn K (.ref C_Loom) "shares" = some none)
   (nf_Loom_done : W.findIn K (.ref C_Loom) "done" = some none)
   (nf_Loom_asked : W.findIn K (.ref C_Loom) "asked" = some none)
   (nf_Loom_least_calls : W.findIn K (.ref C_Loom) "least_calls" = some none)
   (pg_CallReader : W.plainGet K C_CallReader Str.empty = true)
   (hd_CallReader : W.hasDictIn K C_CallReader = true)
   (po_CallReader : W.plainOver K C_CallReader = true)
   (sa_CallReader : W.findIn K (.ref C_CallReader) "__setattr__" = some (some (.builtin "object.__setattr__")))
   (mk_CallReader : W.makesIn K C_CallReader = true)
   (kc_CallReader : W.keepIn K (.ref C_CallReader) = true)
   (nf_CallReader_calls : W.findIn K (.ref C_CallReader) "calls" = some none)
   (nf_CallReader_place : W.findIn K (.ref C_CallReader) "place" = some none)
   (q_SIGNS : W.nsIn K mainGlobals "SIGNS" = some (some (.str "abcdefghijklmnopqrstuvwxyzABCDEFGHIJKLMNOPQRSTUVWXYZ0123456789" t_SIGNS)))
   (q_WIDEST : W.nsIn K mainGlobals "WIDEST" = some (some (.int (512) t_WIDEST)))
   (q_HIGHEST : W.nsIn K mainGlobals "HIGHEST" = some (some (.int (512) t_HIGHEST)))
   (q_MOST_KNOTS : W.nsIn K mainGlobals "MOST_KNOTS" = some (some (.int (65536) t_MOST_KNOTS)))
   (q_ROW_END : W.nsIn K mainGlobals "ROW_END" = some (some (.int (10) t_ROW_END)))
   (q_OUT_OF_RANGE : W.nsIn K mainGlobals "OUT_OF_RANGE" = some (some (.int (-1) t_OUT_OF_RANGE)))
   (q_TOO_LONG : W.nsIn K mainGlobals "TOO_LONG" = some (some (.int (-2) t_TOO_LONG)))
   (q_NO_SUCH_THING : W.nsIn K mainGlobals "NO_SUCH_THING" = some (some (.int (-4) t_NO_SUCH_THING)))
   (q_NO_ROW : W.nsIn K mainGlobals "NO_ROW" = some (some (.int (-5) t_NO_ROW)))
   (q_NO_CHART : W.nsIn K mainGlobals "NO_CHART" = some (some (.int (-6) t_NO_CHART)))
   (q_ROW_IS_LEFT : W.nsIn K mainGlobals "ROW_IS_LEFT" = some (some (.int (-12) t_ROW_IS_LEFT)))
   (q_NOT_BEGUN : W.nsIn K mainGlobals "NOT_BEGUN" = some (some (.int (-13) t_NOT_BEGUN)))
   (q_MOST_BYTES : W.nsIn K mainGlobals "MOST_BYTES" = some (some (.int (66048) t_MOST_BYTES)))
   (q_MOST_KNOTTERS : W.nsIn K mainGlobals "MOST_KNOTTERS" = some (some (.int (8) t_MOST_KNOTTERS)))
   (q_WIDEST_SHARE : W.nsIn K mainGlobals "WIDEST_SHARE" = some (some (.int (128) t_WIDEST_SHARE)))
   (q_MOST_TRIES : W.nsIn K mainGlobals "MOST_TRIES" = some (some (.int (9) t_MOST_TRIES)))
   (q_ASKED_MODULO : W.nsIn K mainGlobals "ASKED_MODULO" = some (some (.int (4294967296) t_ASKED_MODULO)))
   (q_BEGIN : W.nsIn K mainGlobals "BEGIN" = some (some (.int (0) t_BEGIN)))
   (q_ROW : W.nsIn K mainGlobals "ROW" = some (some (.int (1) t_ROW)))
   (q_UNPICK : W.nsIn K mainGlobals "UNPICK" = some (some (.int (2) t_UNPICK)))
   (q_NOW : W.nsIn K mainGlobals "NOW" = some (some (.int (3) t_NOW)))
   (q_TIED : W.nsIn K mainGlobals "TIED" = some (some (.int (4) t_TIED)))
   (q_WRONG : W.nsIn K mainGlobals "WRONG" = some (some (.int (5) t_WRONG)))
   (q_WOOL : W.nsIn K mainGlobals "WOOL" = some (some (.int (6) t_WOOL)))
   (q_SAID : W.nsIn K mainGlobals "SAID" = some (some (.int (7) t_SAID)))
   (g_all : W.nsIn K mainGlobals "all" = some none)
   (g_enumerate : W.nsIn K mainGlobals "enumerate" = some none)
   (g_len : W.nsIn K mainGlobals "len" = some none)
   (g_list : W.nsIn K mainGlobals "list" = some none)
   (g_min : W.nsIn K mainGlobals "min" = some none)
   (g_ord : W.nsIn K mainGlobals "ord" = some none)
   (g_range : W.nsIn K mainGlobals "range" = some none)
   (g_sum : W.nsIn K mainGlobals "sum" = some none)
   (g_zip : W.nsIn K mainGlobals "zip" = some none) :
   ∃ fd : FuncData, (∀ (s : Shared) (us : List Value), us.length = (["calls"] : List Str).length → BindsTo s fd ⟨us, []⟩ ((["calls"] : List Str).zip us)) ∧ ∀ base : Heap, K.In base → base.Ns mainGlobals mg → FnOk P w K mg base CX0 8 fa fd ["calls"] (sp_answers K) := by
 have F_least_call := fun_mk (st := s_least_call) l_least_call c_least_call k_least_call
 have B_least_call := F_least_call.binds (ps := ["row"]) fun _ _ _ _ _ _ us hl => match us, hl with | [_], _ => rfl
 have F_make_call := fun_mk (st := s_make_call) l_make_call c_make_call k_make_call
 have B_make_call := F_make_call.binds (ps := ["words", "text"]) fun _ _ _ _ _ _ us hl => match us, hl with | [_, _], _ => rfl
 have F_count_times := fun_mk (st := s_count_times) l_count_times c_count_times k_count_times
 have B_count_times := F_count_times.binds (ps := ["row"]) fun _ _ _ _ _ _ us hl => match us, hl with | [_], _ => rfl
 have F_find_firsts := fun_mk (st := s_find_firsts) l_find_firsts c_find_firsts k_find_firsts
 have B_find_firsts := F_find_firsts.binds (ps := ["times"]) fun _ _ _ _ _ _ us hl => match us, hl with | [_], _ => rfl
 have F_add_repeats := fun_mk (st := s_add_repeats) l_add_repeats c_add_repeats k_add_repeats
 have B_add_repeats := F_add_repeats.binds (ps := ["first_items", "start", "size", "times", "words", "repeated"]) fun _ _ _ _ _ _ us hl => match us, hl with | [_, _, _, _, _, _], _ => rfl
 have F_choose_least := fun_mk (st := s_choose_least) l_choose_least c_choose_least k_choose_least
 have B_choose_least := F_choose_least.binds (ps := ["row", "end", "first_items", "known"]) fun _ _ _ _ _ _ us hl => match us, hl with | [_, _, _, _], _ => rfl
 have F_is_colour := fun_mk (st := s_is_colour) l_is_colour c_is_colour k_is_colour
 have B_is_colour := F_is_colour.binds (ps := ["byte"]) fun _ _ _ _ _ _ us hl => match us, hl with | [_], _ => rfl
 have F_are_colours := fun_mk (st := s_are_colours) l_are_colours c_are_colours k_are_colours
 have B_are_colours := F_are_colours.binds (ps := ["text"]) fun _ _ _ _ _ _ us hl => match us, hl with | [_], _ => rfl
 have F_colour_number := fun_mk (st := s_colour_number) l_colour_number c_colour_number k_colour_number
 have B_colour_number := F_colour_number.binds (ps := ["colour"]) fun _ _ _ _ _ _ us hl => match us, hl with | [_], _ => rfl
 have F_count_colours := fun_mk (st := s_count_colours) l_count_colours c_count_colours k_count_colours
 have B_count_colours := F_count_colours.binds (ps := ["rows"]) fun _ _ _ _ _ _ us hl => match us, hl with | [_], _ => rfl
 have F_as_signs := fun_mk (st := s_as_signs) l_as_signs c_as_signs k_as_signs
 have B_as_signs := F_as_signs.binds (ps := ["colours"]) fun _ _ _ _ _ _ us hl => match us, hl with | [_], _ => rfl
 have F_read_chart := fun_mk (st := s_read_chart) l_read_chart c_read_chart k_read_chart
 have B_read_chart := F_read_chart.binds (ps := ["text"]) fun _ _ _ _ _ _ us hl => match us, hl with | [_], _ => rfl
 have F_split_rows := fun_mk (st := s_split_rows) l_split_rows c_split_rows k_split_rows
 have B_split_rows := F_split_rows.binds (ps := ["text"]) fun _ _ _ _ _ _ us hl => match us, hl with | [_], _ => rfl
 have F_write_rows := fun_mk (st := s_write_rows) l_write_rows c_write_rows k_write_rows
 have B_write_rows := F_write_rows.binds (ps := ["rows"]) fun _ _ _ _ _ _ us hl => match us, hl with | [_], _ => rfl
 have F_is_size := fun_mk (st := s_is_size) l_is_size c_is_size k_is_size
 have B_is_size := F_is_size.binds (ps := ["width", "height"]) fun _ _ _ _ _ _ us hl => match us, hl with | [_, _], _ => rfl
 have F_Tyings_init := fun_mk (st := s_Tyings_init) l_Tyings_init c_Tyings_init k_Tyings_init
 have B_Tyings_init := F_Tyings_init.binds (ps := ["self", "told"]) fun _ _ _ _ _ _ us hl => match us, hl with | [_, _], _ => rfl
 have F_Tyings_ask := fun_mk (st := s_Tyings_ask) l_Tyings_ask c_Tyings_ask k_Tyings_ask
 have B_Tyings_ask := F_Tyings_ask.binds (ps := ["self", "size"]) fun _ _ _ _ _ _ us hl => match us, hl with | [_, _], _ => rfl
 have F_tie_part := fun_mk (st := s_tie_part) l_tie_part c_tie_part k_tie_part
 have B_tie_part := F_tie_part.binds (ps := ["part", "tries", "tyings"]) fun _ _ _ _ _ _ us hl => match us, hl with | [_, _, _], _ => rfl
 have F_tie_row := fun_mk (st := s_tie_row) l_tie_row c_tie_row k_tie_row
 have B_tie_row := F_tie_row.binds (ps := ["row", "shares", "tries", "tyings"]) fun _ _ _ _ _ _ us hl => match us, hl with | [_, _, _, _], _ => rfl
 have F_wrong_columns := fun_mk (st := s_wrong_columns) l_wrong_columns c_wrong_columns k_wrong_columns
 have B_wrong_columns := F_wrong_columns.binds (ps := ["knots", "row"]) fun _ _ _ _ _ _ us hl => match us, hl with | [_, _], _ => rfl
 have F_count_wrong := fun_mk (st := s_count_wrong) l_count_wrong c_count_wrong k_count_wrong
 have B_count_wrong := F_count_wrong.binds (ps := ["done", "chart"]) fun _ _ _ _ _ _ us hl => match us, hl with | [_, _], _ => rfl
 have F_find_wrong := fun_mk (st := s_find_wrong) l_find_wrong c_find_wrong k_find_wrong
 have B_find_wrong := F_find_wrong.binds (ps := ["done", "chart", "k"]) fun _ _ _ _ _ _ us hl => match us, hl with | [_, _, _], _ => rfl
 have F_are_shares := fun_mk (st := s_are_shares) l_are_shares c_are_shares k_are_shares
 have B_are_shares := F_are_shares.binds (ps := ["shares", "width"]) fun _ _ _ _ _ _ us hl => match us, hl with | [_, _], _ => rfl
 have F_Loom_init := fun_mk (st := s_Loom_init) l_Loom_init c_Loom_init k_Loom_init
 have B_Loom_init := F_Loom_init.binds (ps := ["self"]) fun _ _ _ _ _ _ us hl => match us, hl with | [_], _ => rfl
 have F_Loom_begin := fun_mk (st := s_Loom_begin) l_Loom_begin c_Loom_begin k_Loom_begin
 have B_Loom_begin := F_Loom_begin.binds (ps := ["self", "text", "shares"]) fun _ _ _ _ _ _ us hl => match us, hl with | [_, _, _], _ => rfl
 have F_Loom_row := fun_mk (st := s_Loom_row) l_Loom_row c_Loom_row k_Loom_row
 have B_Loom_row := F_Loom_row.binds (ps := ["self", "tries", "told"]) fun _ _ _ _ _ _ us hl => match us, hl with | [_, _, _], _ => rfl
 have F_Loom_unpick := fun_mk (st := s_Loom_unpick) l_Loom_unpick c_Loom_unpick k_Loom_unpick
 have B_Loom_unpick := F_Loom_unpick.binds (ps := ["self", "k"]) fun _ _ _ _ _ _ us hl => match us, hl with | [_, _], _ => rfl
 have F_Loom_now := fun_mk (st := s_Loom_now) l_Loom_now c_Loom_now k_Loom_now
 have B_Loom_now := F_Loom_now.binds (ps := ["self"]) fun _ _ _ _ _ _ us hl => match us, hl with | [_], _ => rfl
 have F_Loom_tied := fun_mk (st := s_Loom_tied) l_Loom_tied c_Loom_tied k_Loom_tied
 have B_Loom_tied := F_Loom_tied.binds (ps := ["self"]) fun _ _ _ _ _ _ us hl => match us, hl with | [_], _ => rfl
 have F_Loom_wrong := fun_mk (st := s_Loom_wrong) l_Loom_wrong c_Loom_wrong k_Loom_wrong
 have B_Loom_wrong := F_Loom_wrong.binds (ps := ["self", "k"]) fun _ _ _ _ _ _ us hl => match us, hl with | [_, _], _ => rfl
 have F_Loom_wool := fun_mk (st := s_Loom_wool) l_Loom_wool c_Loom_wool k_Loom_wool
 have B_Loom_wool := F_Loom_wool.binds (ps := ["self"]) fun _ _ _ _ _ _ us hl => match us, hl with | [_], _ => rfl
 have F_Loom_said := fun_mk (st := s_Loom_said) l_Loom_said c_Loom_said k_Loom_said
 have B_Loom_said := F_Loom_said.binds (ps := ["self", "j"]) fun _ _ _ _ _ _ us hl => match us, hl with | [_, _], _ => rfl
 have F_CallReader_init := fun_mk (st := s_CallReader_init) l_CallReader_init c_CallReader_init k_CallReader_init
 have B_CallReader_init := F_CallReader_init.binds (ps := ["self", "calls"]) fun _ _ _ _ _ _ us hl => match us, hl with | [_, _], _ => rfl
 have F_CallReader_has_more := fun_mk (st := s_CallReader_has_more) l_CallReader_has_more c_CallReader_has_more k_CallReader_has_more
 have B_CallReader_has_more := F_CallReader_has_more.binds (ps := ["self"]) fun _ _ _ _ _ _ us hl => match us, hl with | [_], _ => rfl
 have F_CallReader_take_number := fun_mk (st := s_CallReader_take_number) l_CallReader_take_number c_CallReader_take_number k_CallReader_take_number
 have B_CallReader_take_number := F_CallReader_take_number.binds (ps := ["self"]) fun _ _ _ _ _ _ us hl => match us, hl with | [_], _ => rfl
 have F_CallReader_take_numbers := fun_mk (st := s_CallReader_take_numbers) l_CallReader_take_numbers c_CallReader_take_numbers k_CallReader_take_numbers
 have B_CallReader_take_numbers := F_CallReader_take_numbers.binds (ps := ["self"]) fun _ _ _ _ _ _ us hl => match us, hl with | [_], _ => rfl
 have F_answer_next := fun_mk (st := s_answer_next) l_answer_next c_answer_next k_answer_next
 have B_answer_next := F_answer_next.binds (ps := ["loom", "reader"]) fun _ _ _ _ _ _ us hl => match us, hl with | [_, _], _ => rfl
 have F_answers := fun_mk (st := s_answers) l_answers c_answers k_answers
 have B_answers := F_answers.binds (ps := ["calls"]) fun _ _ _ _ _ _ us hl => match us, hl with | [_], _ => rfl
 have T : Txt K mg ⟨f_least_call, f_make_call, f_count_times, f_find_firsts, f_add_repeats, f_choose_least, f_is_colour, f_are_colours, f_colour_number, f_count_colours, f_as_signs, f_read_chart, f_split_rows, f_write_rows, f_is_size, f_Tyings_init, f_Tyings_ask, f_tie_part, f_tie_row, f_wrong_columns, f_count_wrong, f_find_wrong, f_are_shares, f_Loom_init, f_Loom_begin, f_Loom_row, f_Loom_unpick, f_Loom_now, f_Loom_tied, f_Loom_wrong, f_Loom_wool, f_Loom_said, f_CallReader_init, f_CallReader_has_more, f_CallReader_take_number, f_CallReader_take_numbers, f_answer_next, f_answers, C_Tyings, C_Loom, C_CallReader⟩ ⟨_, _, _, _, _, _, _, _, _, _, _, _, _, _, _, _, _, _, _, _, _, _, _, _, _, _, _, _, _, _, _, _, _, _, _, _, _, _⟩ := ⟨F_least_call, B_least_call, W.mg_of X G a_least_call, k_least_call, F_make_call, B_make_call, W.mg_of X G a_make_call, k_make_call, F_count_times, B_count_times, W.mg_of X G a_count_times, k_count_times, F_find_firsts, B_find_firsts, W.mg_of X G a_find_firsts, k_find_firsts, F_add_repeats, B_add_repeats, W.mg_of X G a_add_repeats, k_add_repeats, F_choose_least, B_choose_least, W.mg_of X G a_choose_least, k_choose_least, F_is_colour, B_is_colour, W.mg_of X G a_is_colour, k_is_colour, F_are_colours, B_are_colours, W.mg_of X G a_are_colours, k_are_colours, F_colour_number, B_colour_number, W.mg_of X G a_colour_number, k_colour_number, F_count_colours, B_count_colours, W.mg_of X G a_count_colours, k_count_colours, F_as_signs, B_as_signs, W.mg_of X G a_as_signs, k_as_signs, F_read_chart, B_read_chart, W.mg_of X G a_read_chart, k_read_chart, F_split_rows, B_split_rows, W.mg_of X G a_split_rows, k_split_rows, F_write_rows, B_write_rows, W.mg_of X G a_write_rows, k_write_rows, F_is_size, B_is_size, W.mg_of X G a_is_size, k_is_size, F_Tyings_init, B_Tyings_init, F_Tyings_ask, B_Tyings_ask, F_tie_part, B_tie_part, W.mg_of X G a_tie_part, k_tie_part, F_tie_row, B_tie_row, W.mg_of X G a_tie_row, k_tie_row, F_wrong_columns, B_wrong_columns, W.mg_of X G a_wrong_columns, k_wrong_columns, F_count_wrong, B_count_wrong, W.mg_of X G a_count_wrong, k_count_wrong, F_find_wrong, B_find_wrong, W.mg_of X G a_find_wrong, k_find_wrong, F_are_shares, B_are_shares, W.mg_of X G a_are_shares, k_are_shares, F_Loom_init, B_Loom_init, F_Loom_begin, B_Loom_begin, F_Loom_row, B_Loom_row, F_Loom_unpick, B_Loom_unpick, F_Loom_now, B_Loom_now, F_Loom_tied, B_Loom_tied, F_Loom_wrong, B_Loom_wrong, F_Loom_wool, B_Loom_wool, F_Loom_said, B_Loom_said, F_CallReader_init, B_CallReader_init, F_CallReader_has_more, B_CallReader_has_more, F_CallReader_take_number, B_CallReader_take_number, F_CallReader_take_numbers, B_CallReader_take_numbers, F_answer_next, B_answer_next, W.mg_of X G a_answer_next, k_answer_next, F_answers, B_answers, W.mg_of X G a_answers, k_answers, W.mg_of X G aC_Tyings, ⟨pg_Tyings, hd_Tyings, po_Tyings, sa_Tyings⟩, ⟨mk_Tyings, a_Tyings_init, i_Tyings_init, kc_Tyings⟩, nf_Tyings_told, nf_Tyings_place, nf_Tyings_asked, ⟨a_Tyings_ask, i_Tyings_ask, k_Tyings_ask⟩, W.mg_of X G aC_Loom, ⟨pg_Loom, hd_Loom, po_Loom, sa_Loom⟩, ⟨mk_Loom, a_Loom_init, i_Loom_init, kc_Loom⟩, nf_Loom_chart, nf_Loom_shares, nf_Loom_done, nf_Loom_asked, nf_Loom_least_calls, ⟨a_Loom_begin, i_Loom_begin, k_Loom_begin⟩, ⟨a_Loom_row, i_Loom_row, k_Loom_row⟩, ⟨a_Loom_unpick, i_Loom_unpick, k_Loom_unpick⟩, ⟨a_Loom_now, i_Loom_now, k_Loom_now⟩, ⟨a_Loom_tied, i_Loom_tied, k_Loom_tied⟩, ⟨a_Loom_wrong, i_Loom_wrong, k_Loom_wrong⟩, ⟨a_Loom_wool, i_Loom_wool, k_Loom_wool⟩, ⟨a_Loom_said, i_Loom_said, k_Loom_said⟩, W.mg_of X G aC_CallReader, ⟨pg_CallReader, hd_CallReader, po_CallReader, sa_CallReader⟩, ⟨mk_CallReader, a_CallReader_init, i_CallReader_init, kc_CallReader⟩, nf_CallReader_calls, nf_CallReader_place, ⟨a_CallReader_has_more, i_CallReader_has_more, k_CallReader_has_more⟩, ⟨a_CallReader_take_number, i_CallReader_take_number, k_CallReader_take_number⟩, ⟨a_CallReader_take_numbers, i_CallReader_take_numbers, k_CallReader_take_numbers⟩, ⟨_, W.mg_of X G q_SIGNS⟩, ⟨_, W.mg_of X G q_WIDEST⟩, ⟨_, W.mg_of X G q_HIGHEST⟩, ⟨_, W.mg_of X G q_MOST_KNOTS⟩, ⟨_, W.mg_of X G q_ROW_END⟩, ⟨_, W.mg_of X G q_OUT_OF_RANGE⟩, ⟨_, W.mg_of X G q_TOO_LONG⟩, ⟨_, W.mg_of X G q_NO_SUCH_THING⟩, ⟨_, W.mg_of X G q_NO_ROW⟩, ⟨_, W.mg_of X G q_NO_CHART⟩, ⟨_, W.mg_of X G q_ROW_IS_LEFT⟩, ⟨_, W.mg_of X G q_NOT_BEGUN⟩, ⟨_, W.mg_of X G q_MOST_BYTES⟩, ⟨_, W.mg_of X G q_MOST_KNOTTERS⟩, ⟨_, W.mg_of X G q_WIDEST_SHARE⟩, ⟨_, W.mg_of X G q_MOST_TRIES⟩, ⟨_, W.mg_of X G q_ASKED_MODULO⟩, ⟨_, W.mg_of X G q_BEGIN⟩, ⟨_, W.mg_of X G q_ROW⟩, ⟨_, W.mg_of X G q_UNPICK⟩, ⟨_, W.mg_of X G q_NOW⟩, ⟨_, W.mg_of X G q_TIED⟩, ⟨_, W.mg_of X G q_WRONG⟩, ⟨_, W.mg_of X G q_WOOL⟩, ⟨_, W.mg_of X G q_SAID⟩, W.mg_none_of X G g_all, W.mg_none_of X G g_enumerate, W.mg_none_of X G g_len, W.mg_none_of X G g_list, W.mg_none_of X G g_min, W.mg_none_of X G g_ord, W.mg_none_of X G g_range, W.mg_none_of X G g_sum, W.mg_none_of X G g_zip⟩
 have e := hfa.symm.trans (W.mg_of X G a_answers)
 cases e
 exact ⟨_, fun s us hu => match us, hu with | [_], _ => .of_eq rfl, fun base _ _ => ok_answers T⟩
end Kn
open PySem PySem.W PyProof.Rows
set_option maxRecDepth 100000 in
set_option maxHeartbeats 0 in
theorem PySem.Challenge.cw_knotloom_s01_answers_holds : PySem.Challenge.rw_knotloom_s01_answers.Holds := by
 w_on; k_headS; (case hw => exact ⟨[.list []], by decide +kernel, by decide +kernel⟩)
 k_fillS
 refine L2.walk_specK (r := PySem.Challenge.rw_knotloom_s01_answers) (k := 8) (CX := L2.CX0) (ps := ["calls"]) (sp := Kn.sp_answers) (by decide +kernel) rfl rfl ⟨rfl, by decide, by decide⟩ (fun w h Y => W.kIn_of Y) ?F ?S (fun _ _ _ _ z => z)
 case F =>
   intro w mg fa h Y KX G hmg
   refine' Kn.all_mk KX G hmg ?aC_Tyings ?aC_Loom ?aC_CallReader ?a_least_call ?l_least_call ?c_least_call ?k_least_call ?a_make_call ?l_make_call ?c_make_call ?k_make_call ?a_count_times ?l_count_times ?c_count_times ?k_count_times ?a_find_firsts ?l_find_firsts ?c_find_firsts ?k_find_firsts ?a_add_repeats ?l_add_repeats ?c_add_repeats ?k_add_repeats ?a_choose_least ?l_choose_least ?c_choose_least ?k_choose_least ?a_is_colour ?l_is_colour ?c_is_colour ?k_is_colour ?a_are_colours ?l_are_colours ?c_are_colours ?k_are_colours ?a_colour_number ?l_colour_number ?c_colour_number ?k_colour_number ?a_count_colours ?l_count_colours ?c_count_colours ?k_count_colours ?a_as_signs ?l_as_signs ?c_as_signs ?k_as_signs ?a_read_chart ?l_read_chart ?c_read_chart ?k_read_chart ?a_split_rows ?l_split_rows ?c_split_rows ?k_split_rows ?a_write_rows ?l_write_rows ?c_write_rows ?k_write_rows ?a_is_size ?l_is_size ?c_is_size ?k_is_size ?a_Tyings_init ?i_Tyings_init ?l_Tyings_init ?c_Tyings_init ?k_Tyings_init ?a_Tyings_ask ?i_Tyings_ask ?l_Tyings_ask ?c_Tyings_ask ?k_Tyings_ask ?a_tie_part ?l_tie_part ?c_tie_part ?k_tie_part ?a_tie_row ?l_tie_row ?c_tie_row ?k_tie_row ?a_wrong_columns ?l_wrong_columns ?c_wrong_columns ?k_wrong_columns ?a_count_wrong ?l_count_wrong ?c_count_wrong ?k_count_wrong ?a_find_wrong ?l_find_wrong ?c_find_wrong ?k_find_wrong ?a_are_shares ?l_are_shares ?c_are_shares ?k_are_shares ?a_Loom_init ?i_Loom_init ?l_Loom_init ?c_Loom_init ?k_Loom_init ?a_Loom_begin ?i_Loom_begin ?l_Loom_begin ?c_Loom_begin ?k_Loom_begin ?a_Loom_row ?i_Loom_row ?l_Loom_row ?c_Loom_row ?k_Loom_row ?a_Loom_unpick ?i_Loom_unpick ?l_Loom_unpick ?c_Loom_unpick ?k_Loom_unpick ?a_Loom_now ?i_Loom_now ?l_Loom_now ?c_Loom_now ?k_Loom_now ?a_Loom_tied ?i_Loom_tied ?l_Loom_tied ?c_Loom_tied ?k_Loom_tied ?a_Loom_wrong ?i_Loom_wrong ?l_Loom_wrong ?c_Loom_wrong ?k_Loom_wrong ?a_Loom_wool ?i_Loom_wool ?l_Loom_wool ?c_Loom_wool ?k_Loom_wool ?a_Loom_said ?i_Loom_said ?l_Loom_said ?c_Loom_said ?k_Loom_said ?a_CallReader_init ?i_CallReader_init ?l_CallReader_init ?c_CallReader_init ?k_CallReader_init ?a_CallReader_has_more ?i_CallReader_has_more ?l_CallReader_has_more ?c_CallReader_has_more ?k_CallReader_has_more ?a_CallReader_take_number ?i_CallReader_take_number ?l_CallReader_take_number ?c_CallReader_take_number ?k_CallReader_take_number ?a_CallReader_take_numbers ?i_CallReader_take_numbers ?l_CallReader_take_numbers ?c_CallReader_take_numbers ?k_CallReader_take_numbers ?a_answer_next ?l_answer_next ?c_answer_next ?k_answer_next ?a_answers ?l_answers ?c_answers ?k_answers ?pg_Tyings ?hd_Tyings ?po_Tyings ?sa_Tyings ?mk_Tyings ?kc_Tyings ?nf_Tyings_told ?nf_Tyings_place ?nf_Tyings_asked ?pg_Loom ?hd_Loom ?po_Loom ?sa_Loom ?mk_Loom ?kc_Loom ?nf_Loom_chart ?nf_Loom_shares ?nf_Loom_done ?nf_Loom_asked ?nf_Loom_least_calls ?pg_CallReader ?hd_CallReader ?po_CallReader ?sa_CallReader ?mk_CallReader ?kc_CallReader ?nf_CallReader_calls ?nf_CallReader_place ?q_SIGNS ?q_WIDEST ?q_HIGHEST ?q_MOST_KNOTS ?q_ROW_END ?q_OUT_OF_RANGE ?q_TOO_LONG ?q_NO_SUCH_THING ?q_NO_ROW ?q_NO_CHART ?q_ROW_IS_LEFT ?q_NOT_BEGUN ?q_MOST_BYTES ?q_MOST_KNOTTERS ?q_WIDEST_SHARE ?q_MOST_TRIES ?q_ASKED_MODULO ?q_BEGIN ?q_ROW ?q_UNPICK ?q_NOW ?q_TIED ?q_WRONG ?q_WOOL ?q_SAID ?g_all ?g_enumerate ?g_len ?g_list ?g_min ?g_ord ?g_range ?g_sum ?g_zip
   (case aC_Tyings => k_is)
   (case aC_Loom => k_is)
   (case aC_CallReader => k_is)
   (case a_least_call => k_is)
   (case l_least_call => k_is)
   (case c_least_call => k_is)
   (case k_least_call => k_is)
   (case a_make_call => k_is)
   (case l_make_call => k_is)
   (case c_make_call => k_is)
   (case k_make_call => k_is)
   (case a_count_times => k_is)
   (case l_count_times => k_is)
   (case c_count_times => k_is)
   (case k_count_times => k_is)
   (case a_find_firsts => k_is)
   (case l_find_firsts => k_is)
   (case c_find_firsts => k_is)
   (case k_find_firsts => k_is)
   (case a_add_repeats => k_is)
   (case l_add_repeats => k_is)
   (case c_add_repeats => k_is)
   (case k_add_repeats => k_is)
   (case a_choose_least => k_is)
   (case l_choose_least => k_is)
   (case c_choose_least => k_is)
   (case k_choose_least => k_is)
   (case a_is_colour => k_is)
   (case l_is_colour => k_is)
   (case c_is_colour => k_is)
   (case k_is_colour => k_is)
   (case a_are_colours => k_is)
   (case l_are_colours => k_is)
   (case c_are_colours => k_is)
   (case k_are_colours => k_is)
   (case a_colour_number => k_is)
   (case l_colour_number => k_is)
   (case c_colour_number => k_is)
   (case k_colour_number => k_is)
   (case a_count_colours => k_is)
   (case l_count_colours => k_is)
   (case c_count_colours => k_is)
   (case k_count_colours => k_is)
   (case a_as_signs => k_is)
   (case l_as_signs => k_is)
   (case c_as_signs => k_is)
   (case k_as_signs => k_is)
   (case a_read_chart => k_is)
   (case l_read_chart => k_is)
   (case c_read_chart => k_is)
   (case k_read_chart => k_is)
   (case a_split_rows => k_is)
   (case l_split_rows => k_is)
   (case c_split_rows => k_is)
   (case k_split_rows => k_is)
   (case a_write_rows => k_is)
   (case l_write_rows => k_is)
   (case c_write_rows => k_is)
   (case k_write_rows => k_is)
   (case a_is_size => k_is)
   (case l_is_size => k_is)
   (case c_is_size => k_is)
   (case k_is_size => k_is)
   (case a_Tyings_init => k_is)
   (case i_Tyings_init => k_is)
   (case l_Tyings_init => k_is)
   (case c_Tyings_init => k_is)
   (case k_Tyings_init => k_is)
   (case a_Tyings_ask => k_is)
   (case i_Tyings_ask => k_is)
   (case l_Tyings_ask => k_is)
   (case c_Tyings_ask => k_is)
   (case k_Tyings_ask => k_is)
   (case a_tie_part => k_is)
   (case l_tie_part => k_is)
   (case c_tie_part => k_is)
   (case k_tie_part => k_is)
   (case a_tie_row => k_is)
   (case l_tie_row => k_is)
   (case c_tie_row => k_is)
   (case k_tie_row => k_is)
   (case a_wrong_columns => k_is)
   (case l_wrong_columns => k_is)
   (case c_wrong_columns => k_is)
   (case k_wrong_columns => k_is)
   (case a_count_wrong => k_is)
   (case l_count_wrong => k_is)
   (case c_count_wrong => k_is)
   (case k_count_wrong => k_is)
   (case a_find_wrong => k_is)
   (case l_find_wrong => k_is)
   (case c_find_wrong => k_is)
   (case k_find_wrong => k_is)
   (case a_are_shares => k_is)
   (case l_are_shares => k_is)
   (case c_are_shares => k_is)
   (case k_are_shares => k_is)
   (case a_Loom_init => k_is)
   (case i_Loom_init => k_is)
   (case l_Loom_init => k_is)
   (case c_Loom_init => k_is)
   (case k_Loom_init => k_is)
   (case a_Loom_begin => k_is)
   (case i_Loom_begin => k_is)
   (case l_Loom_begin => k_is)
   (case c_Loom_begin => k_is)
   (case k_Loom_begin => k_is)
   (case a_Loom_row => k_is)
   (case i_Loom_row => k_is)
   (case l_Loom_row => k_is)
   (case c_Loom_row => k_is)
   (case k_Loom_row => k_is)
   (case a_Loom_unpick => k_is)
   (case i_Loom_unpick => k_is)
   (case l_Loom_unpick => k_is)
   (case c_Loom_unpick => k_is)
   (case k_Loom_unpick => k_is)
   (case a_Loom_now => k_is)
   (case i_Loom_now => k_is)
   (case l_Loom_now => k_is)
   (case c_Loom_now => k_is)
   (case k_Loom_now => k_is)
   (case a_Loom_tied => k_is)
   (case i_Loom_tied => k_is)
   (case l_Loom_tied => k_is)
   (case c_Loom_tied => k_is)
   (case k_Loom_tied => k_is)
   (case a_Loom_wrong => k_is)
   (case i_Loom_wrong => k_is)
   (case l_Loom_wrong => k_is)
   (case c_Loom_wrong => k_is)
   (case k_Loom_wrong => k_is)
   (case a_Loom_wool => k_is)
   (case i_Loom_wool => k_is)
   (case l_Loom_wool => k_is)
   (case c_Loom_wool => k_is)
   (case k_Loom_wool => k_is)
   (case a_Loom_said => k_is)
   (case i_Loom_said => k_is)
   (case l_Loom_said => k_is)
   (case c_Loom_said => k_is)
   (case k_Loom_said => k_is)
   (case a_CallReader_init => k_is)
   (case i_CallReader_init => k_is)
   (case l_CallReader_init => k_is)
   (case c_CallReader_init => k_is)
   (case k_CallReader_init => k_is)
   (case a_CallReader_has_more => k_is)
   (case i_CallReader_has_more => k_is)
   (case l_CallReader_has_more => k_is)
   (case c_CallReader_has_more => k_is)
   (case k_CallReader_has_more => k_is)
   (case a_CallReader_take_number => k_is)
   (case i_CallReader_take_number => k_is)
   (case l_CallReader_take_number => k_is)
   (case c_CallReader_take_number => k_is)
   (case k_CallReader_take_number => k_is)
   (case a_CallReader_take_numbers => k_is)
   (case i_CallReader_take_numbers => k_is)
   (case l_CallReader_take_numbers => k_is)
   (case c_CallReader_take_numbers => k_is)
   (case k_CallReader_take_numbers => k_is)
   (case a_answer_next => k_is)
   (case l_answer_next => k_is)
   (case c_answer_next => k_is)
   (case k_answer_next => k_is)
   (case a_answers => k_is)
   (case l_answers => k_is)
   (case c_answers => k_is)
   (case k_answers => k_is)
   (case pg_Tyings => k_is)
   (case hd_Tyings => k_is)
   (case po_Tyings => k_is)
   (case sa_Tyings => k_is)
   (case mk_Tyings => k_is)
   (case kc_Tyings => k_is)
   (case nf_Tyings_told => k_is)
   (case nf_Tyings_place => k_is)
   (case nf_Tyings_asked => k_is)
   (case pg_Loom => k_is)
   (case hd_Loom => k_is)
   (case po_Loom => k_is)
   (case sa_Loom => k_is)
   (case mk_Loom => k_is)
   (case kc_Loom => k_is)
   (case nf_Loom_chart => k_is)
   (case nf_Loom_shares => k_is)
   (case nf_Loom_done => k_is)
   (case nf_Loom_asked => k_is)
   (case nf_Loom_least_calls => k_is)
   (case pg_CallReader => k_is)
   (case hd_CallReader => k_is)
   (case po_CallReader => k_is)
   (case sa_CallReader => k_is)
   (case mk_CallReader => k_is)
   (case kc_CallReader => k_is)
   (case nf_CallReader_calls => k_is)
   (case nf_CallReader_place => k_is)
   (case q_SIGNS => k_is)
   (case q_WIDEST => k_is)
   (case q_HIGHEST => k_is)
   (case q_MOST_KNOTS => k_is)
   (case q_ROW_END => k_is)
   (case q_OUT_OF_RANGE => k_is)
   (case q_TOO_LONG => k_is)
   (case q_NO_SUCH_THING => k_is)
   (case q_NO_ROW => k_is)
   (case q_NO_CHART => k_is)
   (case q_ROW_IS_LEFT => k_is)
   (case q_NOT_BEGUN => k_is)
   (case q_MOST_BYTES => k_is)
   (case q_MOST_KNOTTERS => k_is)
   (case q_WIDEST_SHARE => k_is)
   (case q_MOST_TRIES => k_is)
   (case q_ASKED_MODULO => k_is)
   (case q_BEGIN => k_is)
   (case q_ROW => k_is)
   (case q_UNPICK => k_is)
   (case q_NOW => k_is)
   (case q_TIED => k_is)
   (case q_WRONG => k_is)
   (case q_WOOL => k_is)
   (case q_SAID => k_is)
   (case g_all => k_is)
   (case g_enumerate => k_is)
   (case g_len => k_is)
   (case g_list => k_is)
   (case g_min => k_is)
   (case g_ord => k_is)
   (case g_range => k_is)
   (case g_sum => k_is)
   (case g_zip => k_is)
 case S =>
   intro K H xs a hO hwi hask hx
   cases hx with
   | cons h1 h2 =>
     cases h2
     cases h1 with
     | lst hs ha =>
       have e := L2.ints_dw a.1 _ ha
       subst e
       have q : ((Codec.inLen 0 30000 a.1 && a.1.all (Codec.inInt 0 4294967295)) && true) = true := hwi
       rw [Bool.and_eq_true, Bool.and_eq_true] at q
       have hk : PyWqbbcl.answers_asked a.1 = true := hask
       obtain ⟨cs, c1, c2, c3, c4⟩ := Lm.asked_calls hk
       refine ⟨_, a.1, cs, rfl, hs, (Codec.inNat_iff.mp q.1.1).2, c1, c2, c3, fun H' p hp => ?_⟩
       rw [← c4] at hp
       exact .lst (L2.SqL.of hp) (L2.dw_ints _)
#print axioms PySem.Challenge.cw_knotloom_s01_answers_holds
