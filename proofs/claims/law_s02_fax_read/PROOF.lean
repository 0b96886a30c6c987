import PyProof.Rows.All
import Wide.All
import OpenK.AllK
import Wide.FinOn
import Open.SpecLaws
import KE.OsGo
import HandS.ForSpec
import HandS.Iter
import HandS.Text
import HandS.StrMore
import HandS.Comp
import HandS.ExcInit
import HandS.ExcSuper
import HandS.ExcField
import HandS.ClsMeth
import HandS.Codes
import HandS.Dict
import KE.BitLaws
import PySem.Challenge.RW_faxpages_s02_fax_read
set_option Elab.async false
set_option maxRecDepth 100000
set_option maxHeartbeats 4000000
namespace Fax
open Ql31

/-! ### changes of a row -/
def chsAux : Bool → Nat → List Bool → List Nat
  | _, _, [] => []
  | c, p, b :: r => if (b != c) = true then p :: chsAux b (p + 1) r else chsAux c (p + 1) r
def chs (r : List Bool) : List Nat := chsAux false 0 r
def nth (r : List Bool) (j : Nat) : Nat := (chs r).getD j r.length

theorem chsAux_t {c : Bool} {p : Nat} {b : Bool} {r : List Bool} (h : (b != c) = true) : chsAux c p (b :: r) = p :: chsAux b (p + 1) r := by
  show (if (b != c) = true then _ else _) = _
  rw [if_pos h]
theorem chsAux_f {c : Bool} {p : Nat} {b : Bool} {r : List Bool} (h : ¬ (b != c) = true) : chsAux c p (b :: r) = chsAux c (p + 1) r := by
  show (if (b != c) = true then _ else _) = _
  rw [if_neg h]
theorem chsAux_mem : ∀ (r : List Bool) (c : Bool) (p x : Nat), x ∈ chsAux c p r → p ≤ x ∧ x < p + r.length
  | [], _, _, _, h => by cases h
  | b :: r, c, p, x, h => by
    rw [List.length_cons]
    by_cases e : (b != c) = true
    · rw [chsAux_t e] at h
      rcases List.mem_cons.mp h with q | q
      · omega
      · have := chsAux_mem r b (p + 1) x q
        omega
    · rw [chsAux_f e] at h
      have := chsAux_mem r c (p + 1) x h
      omega
theorem chsAux_pw : ∀ (r : List Bool) (c : Bool) (p : Nat), (chsAux c p r).Pairwise (· < ·)
  | [], _, _ => List.Pairwise.nil
  | b :: r, c, p => by
    by_cases e : (b != c) = true
    · rw [chsAux_t e]
      refine List.Pairwise.cons (fun x hx => ?_) (chsAux_pw r b (p + 1))
      have := chsAux_mem r b (p + 1) x hx
      omega
    · rw [chsAux_f e]
      exact chsAux_pw r c (p + 1)
theorem getD_range {l : List Nat} {lo hi : Nat} (h : ∀ x ∈ l, lo ≤ x ∧ x < hi) (j : Nat) (hle : lo ≤ hi) : lo ≤ l.getD j hi ∧ l.getD j hi ≤ hi := by
  rw [List.getD_eq_getElem?_getD]
  cases e : l[j]? with
  | none => exact ⟨hle, Nat.le_refl _⟩
  | some x =>
    have := h x (List.mem_of_getElem? e)
    exact ⟨this.1, Nat.le_of_lt this.2⟩
theorem odd_succ (j : Nat) : ((j + 1) % 2 == 1) = !(j % 2 == 1) := by
  rcases Nat.mod_two_eq_zero_or_one j with h | h
  · have : (j + 1) % 2 = 1 := by omega
    rw [h, this]
    rfl
  · have : (j + 1) % 2 = 0 := by omega
    rw [h, this]
    rfl
theorem col_aux : ∀ (r : List Bool) (c : Bool) (p j x : Nat), p ≤ x → x < p + r.length → (∀ k, j = k + 1 → (chsAux c p r).getD k (p + r.length) ≤ x) → x < (chsAux c p r).getD j (p + r.length) →
    r.getD (x - p) false = (c ^^ (j % 2 == 1))
  | [], _, p, _, x, h1, h2, _, _ => by
    rw [List.length_nil] at h2
    omega
  | b :: r, c, p, j, x, h1, h2, h3, h4 => by
    rw [List.length_cons] at h2 h3 h4
    have el : p + (r.length + 1) = (p + 1) + r.length := by omega
    rw [el] at h2 h3 h4
    by_cases e : (b != c) = true
    · have bc : b = !c := by
        cases b <;> cases c <;> first | rfl | cases e
      rw [chsAux_t e] at h3 h4
      cases j with
      | zero =>
        rw [List.getD_cons_zero] at h4
        omega
      | succ j =>
        rw [List.getD_cons_succ] at h4
        rw [odd_succ]
        by_cases hx : x = p
        · subst hx
          rw [Nat.sub_self, List.getD_cons_zero]
          cases j with
          | zero => rw [bc]; cases c <;> rfl
          | succ k =>
            have h5 := h3 (k + 1) rfl
            rw [List.getD_cons_succ] at h5
            have h6 := (getD_range (chsAux_mem r b (x + 1)) k (by omega)).1
            omega
        · have ih := col_aux r b (p + 1) j x (by omega) h2 (fun k hk => by
            have h5 := h3 (k + 1) (by omega)
            rw [List.getD_cons_succ] at h5
            exact h5) h4
          have ex : x - p = (x - (p + 1)) + 1 := by omega
          rw [ex, List.getD_cons_succ, ih, bc]
          cases c <;> cases (j % 2 == 1) <;> rfl
    · have bc : b = c := by
        cases b <;> cases c <;> first | rfl | exact absurd rfl e
      rw [chsAux_f e] at h3 h4
      by_cases hx : x = p
      · subst hx
        rw [Nat.sub_self, List.getD_cons_zero]
        cases j with
        | zero => rw [bc]; cases c <;> rfl
        | succ k =>
          have h5 := h3 k rfl
          have h6 := (getD_range (chsAux_mem r c (x + 1)) k (by omega)).1
          omega
      · have ih := col_aux r c (p + 1) j x (by omega) h2 h3 h4
        have ex : x - p = (x - (p + 1)) + 1 := by omega
        rw [ex, List.getD_cons_succ, ih]

theorem nth_le (r : List Bool) (j : Nat) : nth r j ≤ r.length := by
  have h := (getD_range (l := chs r) (lo := 0) (hi := r.length) (fun x hx => by
    have := chsAux_mem r false 0 x hx
    omega) j (Nat.zero_le _)).2
  exact h
theorem nth_lt {r : List Bool} {j : Nat} (h : nth r j < r.length) : nth r j < nth r (j + 1) := by
  unfold nth at h ⊢
  rw [List.getD_eq_getElem?_getD] at h ⊢
  rw [List.getD_eq_getElem?_getD]
  cases e : (chs r)[j]? with
  | none =>
    rw [e] at h
    exact absurd h (Nat.lt_irrefl _)
  | some x =>
    rw [e] at h
    obtain ⟨h1, e1⟩ := List.getElem?_eq_some_iff.mp e
    cases e2 : (chs r)[j + 1]? with
    | none => exact h
    | some y =>
      obtain ⟨h3, e3⟩ := List.getElem?_eq_some_iff.mp e2
      have := List.pairwise_iff_getElem.mp (chsAux_pw r false 0) j (j + 1) h1 h3 (by omega)
      show x < y
      rw [← e1, ← e3]
      exact this
theorem nth_end {r : List Bool} {j : Nat} (h : nth r j = r.length) : nth r (j + 1) = r.length := by
  have hm : ∀ x ∈ chs r, x < r.length := fun x hx => by
    have := chsAux_mem r false 0 x hx
    omega
  unfold nth at h ⊢
  rw [List.getD_eq_getElem?_getD] at h ⊢
  cases e : (chs r)[j]? with
  | none =>
    have : (chs r).length ≤ j := List.getElem?_eq_none_iff.mp e
    rw [List.getElem?_eq_none (by omega)]
    rfl
  | some x =>
    rw [e] at h
    have h' : x = r.length := h
    have := hm x (List.mem_of_getElem? e)
    omega
theorem nth_mono (r : List Bool) (j : Nat) : nth r j ≤ nth r (j + 1) := by
  by_cases h : nth r j < r.length
  · exact Nat.le_of_lt (nth_lt h)
  · have e : nth r j = r.length := Nat.le_antisymm (nth_le r j) (by omega)
    rw [nth_end e, e]
    exact Nat.le_refl _
theorem nth_beyond {r : List Bool} {j : Nat} (h : (chs r).length ≤ j) : nth r j = r.length := by
  unfold nth
  rw [List.getD_eq_getElem?_getD, List.getElem?_eq_none h]
  rfl
/-- the colour between two changes -/
theorem colour {r : List Bool} {j x : Nat} (hx : x < r.length) (h1 : ∀ k, j = k + 1 → nth r k ≤ x) (h2 : x < nth r j) : r.getD x false = (j % 2 == 1) := by
  have h := col_aux r false 0 j x (Nat.zero_le _) (by omega) (fun k hk => by
    rw [Nat.zero_add]
    exact h1 k hk) (by
    rw [Nat.zero_add]
    exact h2)
  rw [Nat.sub_zero] at h
  rw [h]
  cases (j % 2 == 1) <;> rfl
theorem at_nat (r : Row) (x : Nat) : at_ r (x : Int) = r.getD x false := by
  unfold at_
  rw [if_neg (by omega)]
  rfl
theorem at_neg (r : Row) {x : Int} (h : x < 0) : at_ r x = false := by
  unfold at_
  rw [if_pos h]

/-! ### the specification's searches -/
theorem find_is {w m : Nat} {P : Nat → Bool} (h1 : m ≤ w) (h2 : ∀ x, x < m → P x = false) (h3 : m < w → P m = true) : ((List.range w).find? P).getD w = m := by
  by_cases h : m < w
  · have e : (List.range w).find? P = some m := by
      rw [List.find?_range_eq_some]
      refine ⟨h3 h, List.mem_range.mpr h, fun j hj => by rw [h2 j hj]; rfl⟩
    rw [e]
    rfl
  · have e : (List.range w).find? P = none := by
      rw [List.find?_range_eq_none]
      intro i hi
      rw [h2 i (by omega)]
      rfl
    rw [e]
    show w = m
    omega
/-- a stands in the j-th stretch -/
structure Seg (r : List Bool) (a : Int) (j : Nat) : Prop where
  lo : -1 ≤ a
  hi : a < r.length
  before : ∀ k, j = k + 1 → (nth r k : Int) ≤ a
  behind : a < nth r j
theorem other_is {r : Row} {a : Int} {j : Nat} (h : Seg r a j) : other r a (j % 2 == 1) = nth r j := by
  have hlo := h.lo
  refine find_is (nth_le r j) (fun x hx => ?_) fun hm => ?_
  · by_cases hax : a < (x : Int)
    · have := colour (r := r) (j := j) (x := x) (Nat.lt_of_lt_of_le hx (nth_le r j)) (fun k hk => by
        have := h.before k hk
        omega) hx
      rw [at_nat, this]
      cases (j % 2 == 1) <;> simp
    · rw [decide_eq_false hax]
      rfl
  · have := colour (r := r) (j := j + 1) (x := nth r j) hm (fun k hk => by
      have : k = j := by omega
      subst this
      exact Nat.le_refl _) (nth_lt hm)
    rw [at_nat, this, odd_succ, decide_eq_true h.behind]
    cases (j % 2 == 1) <;> rfl
theorem other_end {r : Row} {a : Int} (d : Bool) (h : (r.length : Int) ≤ a) : other r a d = r.length := by
  refine find_is (Nat.le_refl _) (fun x hx => ?_) fun hm => absurd hm (Nat.lt_irrefl _)
  rw [decide_eq_false (by omega)]
  rfl
theorem seg_next {r : Row} {j : Nat} (h : nth r j < r.length) : Seg r (nth r j) (j + 1) :=
  ⟨by omega, by omega, fun k hk => by
    have : k = j := by omega
    subst this
    exact Int.le_refl _, by
    have := nth_lt h
    omega⟩
/-- the change behind a change -/
theorem other_next {r : Row} {j : Nat} (d : Bool) (hd : (j % 2 == 1) = !d) : other r (nth r j) d = nth r (j + 1) := by
  by_cases h : nth r j < r.length
  · have e := other_is (seg_next h)
    rw [odd_succ, hd, Bool.not_not] at e
    exact e
  · have e : nth r j = r.length := Nat.le_antisymm (nth_le r j) (by omega)
    rw [nth_end e, e]
    exact other_end d (Int.le_refl _)
/-- the next change that leads to the other colour than d -/
theorem change_is {r : Row} {a : Int} {j o : Nat} {d : Bool} (h : Seg r a j) (ho : o = j ∨ o = j + 1) (hd : (o % 2 == 1) = d) : change r a (!d) = nth r o := by
  have hlo := h.lo
  have bounds : nth r j ≤ nth r o := by
    rcases ho with rfl | rfl
    · exact Nat.le_refl _
    · exact nth_mono r j
  have at_m1 : ∀ x : Nat, 0 < x → at_ r ((x : Int) - 1) = r.getD (x - 1) false := fun x hx => by
    have e : (x : Int) - 1 = ((x - 1 : Nat) : Int) := by omega
    rw [e, at_nat]
  refine find_is (nth_le r o) (fun x hx => ?_) fun hm => ?_
  · by_cases hax : a < (x : Int)
    · rw [decide_eq_true hax, Bool.true_and]
      by_cases hxj : x < nth r j
      · have c1 := colour (r := r) (j := j) (x := x) (Nat.lt_of_lt_of_le hxj (nth_le r j)) (fun k hk => by
          have := h.before k hk
          omega) hxj
        rw [at_nat, c1]
        rcases ho with rfl | rfl
        · rw [hd]
          cases d <;> rfl
        · rw [odd_succ] at hd
          have e1 : (j % 2 == 1) = !d := by rw [← hd, Bool.not_not]
          have e2 : at_ r ((x : Int) - 1) = !d := by
            by_cases hx0 : 0 < x
            · rw [at_m1 x hx0]
              have c2 := colour (r := r) (j := j) (x := x - 1) (by have := nth_le r j; omega) (fun k hk => by
                have := h.before k hk
                omega) (by omega)
              rw [c2, e1]
            · rw [at_neg r (by omega)]
              have hj : j = 0 := by
                cases j with
                | zero => rfl
                | succ k =>
                  have := h.before k rfl
                  omega
              subst hj
              rw [← e1]
              rfl
          rw [e1, e2]
          cases d <;> rfl
      · rcases ho with rfl | rfl
        · exact absurd hx hxj
        · have c1 := colour (r := r) (j := j + 1) (x := x) (by have := nth_le r (j + 1); omega) (fun k hk => by
            have : k = j := by omega
            subst this
            omega) hx
          rw [at_nat, c1, hd]
          cases d <;> rfl
    · rw [decide_eq_false hax]
      rfl
  · have hb : a < (nth r o : Int) := by
      have := h.behind
      omega
    have c1 := colour (r := r) (j := o + 1) (x := nth r o) hm (fun k hk => by
      have : k = o := by omega
      subst this
      exact Nat.le_refl _) (nth_lt hm)
    rw [decide_eq_true hb, at_nat, c1, odd_succ, hd]
    have e2 : at_ r ((nth r o : Int) - 1) = d := by
      by_cases h0 : 0 < nth r o
      · rw [at_m1 _ h0]
        have c2 := colour (r := r) (j := o) (x := nth r o - 1) (by omega) (fun k hk => by
          subst hk
          by_cases hk2 : nth r k < r.length
          · have := nth_lt hk2
            omega
          · have e : nth r k = r.length := Nat.le_antisymm (nth_le r k) (by omega)
            have := nth_end e
            omega) (by omega)
        rw [c2, hd]
      · rw [at_neg r (by omega)]
        have hj : j = 0 := by
          cases j with
          | zero => rfl
          | succ k =>
            have := h.before k rfl
            have := nth_mono r k
            omega
        have ho0 : o = 0 := by
          rcases ho with q | q
          · omega
          · rw [q] at h0 hm
            have := nth_lt (r := r) (j := j) (by
              have := nth_mono r j
              omega)
            omega
        subst ho0
        rw [← hd]
        rfl
    rw [e2]
    cases d <;> rfl
end Fax

namespace Fax
open Ql31
open PySem (Str)

/-! ### texts of 0 and 1 as bits -/
def bits (s : Str) : Bits := s.cps.toList.map fun c => decide (c = 49)
theorem bits_app (a b : Str) : bits (a ++ b) = bits a ++ bits b := by
  show (a.cps ++ b.cps).toList.map _ = _
  rw [Array.toList_append, List.map_append]
  rfl
theorem bits_len (s : Str) : (bits s).length = s.length := by
  unfold bits
  rw [List.length_map, Array.length_toList]
  rfl
def allBits (l : List Str) : Bits := l.flatMap bits
theorem allBits_app (a b : List Str) : allBits (a ++ b) = allBits a ++ allBits b := by
  unfold allBits
  rw [List.flatMap_append]
theorem allBits_one (s : Str) : allBits [s] = bits s := by
  unfold allBits
  rw [List.flatMap_cons, List.flatMap_nil, List.append_nil]
theorem allBits_push (l : List Str) (s : Str) : allBits (l ++ [s]) = allBits l ++ bits s := by
  rw [allBits_app, allBits_one]

/-! ### the tables -/
def wsL : List Str := (["00110101", "000111", "0111", "1000", "1011", "1100", "1110", "1111", "10011", "10100", "00111", "01000", "001000", "000011", "110100", "110101", "101010", "101011", "0100111", "0001100", "0001000", "0010111", "0000011", "0000100", "0101000", "0101011", "0010011", "0100100", "0011000", "00000010", "00000011", "00011010", "00011011", "00010010", "00010011", "00010100", "00010101", "00010110", "00010111", "00101000", "00101001", "00101010", "00101011", "00101100", "00101101", "00000100", "00000101", "00001010", "00001011", "01010010", "01010011", "01010100", "01010101", "00100100", "00100101", "01011000", "01011001", "01011010", "01011011", "01001010", "01001011", "00110010", "00110011", "00110100"] : List String).map Str.ofString
def wlL : List Str := (["11011", "10010", "010111", "0110111", "00110110", "00110111", "01100100", "01100101", "01101000", "01100111", "011001100", "011001101", "011010010", "011010011", "011010100", "011010101", "011010110", "011010111", "011011000", "011011001", "011011010", "011011011", "010011000", "010011001", "010011010", "011000", "010011011"] : List String).map Str.ofString
def bsL : List Str := (["0000110111", "010", "11", "10", "011", "0011", "0010", "00011", "000101", "000100", "0000100", "0000101", "0000111", "00000100", "00000111", "000011000", "0000010111", "0000011000", "0000001000", "00001100111", "00001101000", "00001101100", "00000110111", "00000101000", "00000010111", "00000011000", "000011001010", "000011001011", "000011001100", "000011001101", "000001101000", "000001101001", "000001101010", "000001101011", "000011010010", "000011010011", "000011010100", "000011010101", "000011010110", "000011010111", "000001101100", "000001101101", "000011011010", "000011011011", "000001010100", "000001010101", "000001010110", "000001010111", "000001100100", "000001100101", "000001010010", "000001010011", "000000100100", "000000110111", "000000111000", "000000100111", "000000101000", "000001011000", "000001011001", "000000101011", "000000101100", "000001011010", "000001100110", "000001100111"] : List String).map Str.ofString
def blL : List Str := (["0000001111", "000011001000", "000011001001", "000001011011", "000000110011", "000000110100", "000000110101", "0000001101100", "0000001101101", "0000001001010", "0000001001011", "0000001001100", "0000001001101", "0000001110010", "0000001110011", "0000001110100", "0000001110101", "0000001110110", "0000001110111", "0000001010010", "0000001010011", "0000001010100", "0000001010101", "0000001011010", "0000001011011", "0000001100100", "0000001100101"] : List String).map Str.ofString
def boL : List Str := (["00000001000", "00000001100", "00000001101", "000000010010", "000000010011", "000000010100", "000000010101", "000000010110", "000000010111", "000000011100", "000000011101", "000000011110", "000000011111"] : List String).map Str.ofString
def stL : List Str := (["0000010", "000010", "010", "1", "011", "000011", "0000011"] : List String).map Str.ofString
def zEol : Str := "000000000001"
def z2560 : Str := "000000011111"

theorem ws_ok : ∀ n : Fin 64, ∃ s, wsL[n.val]? = some s ∧ bits s = codeOf false n.val ∧ s.length ≤ 13 := by
  intro n
  have h : ∀ n : Fin 64, bits (wsL.getD n.val "") = codeOf false n.val ∧ (wsL.getD n.val "").length ≤ 13 := by decide +kernel
  have e := h n
  have hl : n.val < wsL.length := n.isLt
  rw [List.getD_eq_getElem?_getD, List.getElem?_eq_getElem hl] at e
  exact ⟨_, List.getElem?_eq_getElem hl, e.1, e.2⟩
theorem bs_ok : ∀ n : Fin 64, ∃ s, bsL[n.val]? = some s ∧ bits s = codeOf true n.val ∧ s.length ≤ 13 := by
  intro n
  have h : ∀ n : Fin 64, bits (bsL.getD n.val "") = codeOf true n.val ∧ (bsL.getD n.val "").length ≤ 13 := by decide +kernel
  have e := h n
  have hl : n.val < bsL.length := n.isLt
  rw [List.getD_eq_getElem?_getD, List.getElem?_eq_getElem hl] at e
  exact ⟨_, List.getElem?_eq_getElem hl, e.1, e.2⟩
theorem wl_ok : ∀ n : Fin 27, ∃ s, wlL[n.val]? = some s ∧ bits s = codeOf false ((n.val + 1) * 64) ∧ s.length ≤ 13 := by
  intro n
  have h : ∀ n : Fin 27, bits (wlL.getD n.val "") = codeOf false ((n.val + 1) * 64) ∧ (wlL.getD n.val "").length ≤ 13 := by decide +kernel
  have e := h n
  have hl : n.val < wlL.length := n.isLt
  rw [List.getD_eq_getElem?_getD, List.getElem?_eq_getElem hl] at e
  exact ⟨_, List.getElem?_eq_getElem hl, e.1, e.2⟩
theorem bl_ok : ∀ n : Fin 27, ∃ s, blL[n.val]? = some s ∧ bits s = codeOf true ((n.val + 1) * 64) ∧ s.length ≤ 13 := by
  intro n
  have h : ∀ n : Fin 27, bits (blL.getD n.val "") = codeOf true ((n.val + 1) * 64) ∧ (blL.getD n.val "").length ≤ 13 := by decide +kernel
  have e := h n
  have hl : n.val < blL.length := n.isLt
  rw [List.getD_eq_getElem?_getD, List.getElem?_eq_getElem hl] at e
  exact ⟨_, List.getElem?_eq_getElem hl, e.1, e.2⟩
theorem bo_ok : ∀ (d : Bool) (n : Fin 13), ∃ s, boL[n.val]? = some s ∧ bits s = codeOf d ((n.val + 28) * 64) ∧ s.length ≤ 13 := by
  intro d n
  have h : ∀ (d : Bool) (n : Fin 13), bits (boL.getD n.val "") = codeOf d ((n.val + 28) * 64) ∧ (boL.getD n.val "").length ≤ 13 := by decide +kernel
  have e := h d n
  have hl : n.val < boL.length := n.isLt
  rw [List.getD_eq_getElem?_getD, List.getElem?_eq_getElem hl] at e
  exact ⟨_, List.getElem?_eq_getElem hl, e.1, e.2⟩
theorem st_ok (d : Int) (h1 : -3 ≤ d) (h2 : d ≤ 3) : ∃ s, stL[(3 + d).toNat]? = some s ∧ bits s = vertical d ∧ s.length ≤ 13 := by
  have h : ∀ n : Fin 7, bits (stL.getD n.val "") = vertical ((n.val : Int) - 3) ∧ (stL.getD n.val "").length ≤ 13 := by decide +kernel
  have hl : (3 + d).toNat < stL.length := by
    show (3 + d).toNat < 7
    omega
  have e := h ⟨(3 + d).toNat, hl⟩
  have ed : (((3 + d).toNat : Nat) : Int) - 3 = d := by omega
  rw [ed, List.getD_eq_getElem?_getD, List.getElem?_eq_getElem hl] at e
  exact ⟨_, List.getElem?_eq_getElem hl, e.1, e.2⟩
theorem eol_bits : bits zEol = EOL := by decide +kernel
theorem b2560_bits (d : Bool) : bits z2560 = codeOf d 2560 := by cases d <;> decide +kernel
theorem bo_last : boL[12]? = some z2560 := by decide +kernel
theorem z2560_len : z2560.length = 12 := by decide +kernel
theorem zEol_len : zEol.length = 12 := by decide +kernel
theorem pass_bits : bits "0001" = PASS := by decide +kernel
theorem across_bits : bits "001" = ACROSS := by decide +kernel
theorem short_ok (d : Bool) (n : Nat) (h : n < 64) : ∃ s, (if d then bsL else wsL)[n]? = some s ∧ bits s = codeOf d n ∧ s.length ≤ 13 := by
  cases d
  · exact ws_ok ⟨n, h⟩
  · exact bs_ok ⟨n, h⟩
/-- a code of 64s: what long_code gives -/
theorem long_own (d : Bool) (k : Nat) (h0 : 1 ≤ k) (h : k ≤ 27) : ∃ s, (if d then blL else wlL)[k - 1]? = some s ∧ bits s = codeOf d (k * 64) ∧ s.length ≤ 13 := by
  cases d
  · have e := wl_ok ⟨k - 1, by omega⟩
    have q : (k - 1 + 1) * 64 = k * 64 := by omega
    rw [← q]
    exact e
  · have e := bl_ok ⟨k - 1, by omega⟩
    have q : (k - 1 + 1) * 64 = k * 64 := by omega
    rw [← q]
    exact e
theorem long_both (d : Bool) (k : Nat) (h0 : 28 ≤ k) (h : k < 40) : ∃ s, boL[k - 28]? = some s ∧ bits s = codeOf d (k * 64) ∧ s.length ≤ 13 := by
  have e := bo_ok d ⟨k - 28, by omega⟩
  have q : (k - 28 + 28) * 64 = k * 64 := by omega
  rw [← q]
  exact e
/-- a run's bits, in the order in which run_code makes them -/
theorem run_is (d : Bool) (n : Nat) (b0 bl bs : Bits) (h0 : b0 = (List.replicate (n / 2560) (codeOf d 2560)).flatten) (hs : bs = codeOf d (n % 2560 % 64))
    (hl : bl = if 64 ≤ n % 2560 then codeOf d (n % 2560 / 64 * 64) else []) : b0 ++ bl ++ bs = run d n := by
  unfold run
  rw [h0, hl, hs, List.append_assoc]

/-! ### a row alone -/
theorem takeWhile_len {l : List Bool} {d : Bool} {n : Nat} (h1 : n ≤ l.length) (h2 : ∀ x, x < n → l.getD x false = d) (h3 : n < l.length → l.getD n false = !d) : (l.takeWhile fun b => b == d).length = n := by
  induction l generalizing n with
  | nil =>
    rw [List.length_nil] at h1
    rw [List.takeWhile_nil, List.length_nil]
    omega
  | cons b r ih =>
    cases n with
    | zero =>
      have e := h3 (by simp)
      rw [List.getD_cons_zero] at e
      rw [List.takeWhile_cons_of_neg (by rw [e]; cases d <;> decide)]
      rfl
    | succ n =>
      have e := h2 0 (by omega)
      rw [List.getD_cons_zero] at e
      rw [List.takeWhile_cons_of_pos (by rw [e]; cases d <;> decide), List.length_cons, ih (by simpa using h1) (fun x hx => by
        have := h2 (x + 1) (by omega)
        rwa [List.getD_cons_succ] at this) fun hn => by
        have := h3 (by simpa using hn)
        rwa [List.getD_cons_succ] at this]
theorem getD_drop (l : List Bool) (p x : Nat) : (l.drop p).getD x false = l.getD (p + x) false := by
  rw [List.getD_eq_getElem?_getD, List.getD_eq_getElem?_getD, List.getElem?_drop]
/-- p: where the j-th run begins -/
theorem alone_step {r : Row} {j p f : Nat} (hp : p < r.length) (h1 : ∀ k, j = k + 1 → nth r k = p) (h0 : j = 0 → p = 0) :
    p ≤ nth r j ∧ alone (f + 1) (r.drop p) (j % 2 == 1) = run (j % 2 == 1) (nth r j - p) ++ (if nth r j = r.length then [] else alone f (r.drop (nth r j)) ((j + 1) % 2 == 1)) := by
  have hle : p ≤ nth r j := by
    cases j with
    | zero => rw [h0 rfl]; exact Nat.zero_le _
    | succ k =>
      rw [← h1 k rfl]
      exact nth_mono r k
  have hw := nth_le r j
  have e : ((r.drop p).takeWhile fun b => b == (j % 2 == 1)).length = nth r j - p := by
    refine takeWhile_len (by rw [List.length_drop]; omega) (fun x hx => ?_) fun hn => ?_
    · rw [getD_drop]
      exact colour (by omega) (fun k hk => by rw [h1 k hk]; omega) (by omega)
    · rw [List.length_drop] at hn
      have e2 : p + (nth r j - p) = nth r j := by omega
      rw [getD_drop, e2, ← odd_succ]
      exact colour (by omega) (fun k hk => by
        have : k = j := by omega
        subst this
        exact Nat.le_refl _) (nth_lt (by omega))
  refine ⟨hle, ?_⟩
  show (let n := ((r.drop p).takeWhile fun b => b == (j % 2 == 1)).length; run (j % 2 == 1) n ++ (if n = (r.drop p).length then [] else alone f ((r.drop p).drop n) !(j % 2 == 1))) = _
  rw [e, odd_succ]
  dsimp only
  rw [List.drop_drop, List.length_drop]
  have e2 : p + (nth r j - p) = nth r j := by omega
  rw [e2]
  by_cases hq : nth r j = r.length
  · rw [if_pos hq, if_pos (by omega)]
  · rw [if_neg hq, if_neg (by omega)]

/-! ### a row by the one above -/
theorem beside_end {above r : Row} {f : Nat} {a : Int} {d : Bool} (h : (r.length : Int) ≤ a) : beside above r f a d = [] := by
  cases f with
  | zero => rfl
  | succ f =>
    show (if (r.length : Int) ≤ a then [] else _) = _
    rw [if_pos h]
theorem beside_step {above r : Row} {a : Int} {ja j o f : Nat} (sa : Seg above a ja) (sr : Seg r a j) (ho : o = ja ∨ o = ja + 1) (hp : o % 2 = j % 2) :
    beside above r (f + 1) a (j % 2 == 1) =
      if nth above (o + 1) < nth r j then PASS ++ beside above r f (nth above (o + 1)) (j % 2 == 1)
      else if -3 ≤ (nth r j : Int) - (nth above o : Int) ∧ (nth r j : Int) - (nth above o : Int) ≤ 3 then vertical ((nth r j : Int) - (nth above o : Int)) ++ beside above r f (nth r j) ((j + 1) % 2 == 1)
      else ACROSS ++ (run (j % 2 == 1) (nth r j - (max a 0).toNat) ++ (run ((j + 1) % 2 == 1) (nth r (j + 1) - nth r j) ++ beside above r f (nth r (j + 1)) (j % 2 == 1))) := by
  have hd : (o % 2 == 1) = (j % 2 == 1) := by rw [hp]
  have e1 : change above a (!(j % 2 == 1)) = nth above o := change_is sa ho hd
  have e2 : other above (nth above o) (!(j % 2 == 1)) = nth above (o + 1) := other_next _ (by rw [hd, Bool.not_not])
  have e3 : other r a (j % 2 == 1) = nth r j := other_is sr
  have e4 : other r (nth r j) (!(j % 2 == 1)) = nth r (j + 1) := other_next _ (by rw [Bool.not_not])
  have hhi := sr.hi
  show (if (r.length : Int) ≤ a then [] else
      let b1 := change above a (!(j % 2 == 1))
      let b2 := other above b1 (!(j % 2 == 1))
      let a1 := other r a (j % 2 == 1)
      if b2 < a1 then PASS ++ beside above r f b2 (j % 2 == 1)
      else
        let d : Int := (a1 : Int) - b1
        if -3 ≤ d ∧ d ≤ 3 then vertical d ++ beside above r f a1 !(j % 2 == 1)
        else
          let a2 := other r a1 !(j % 2 == 1)
          ACROSS ++ (run (j % 2 == 1) (a1 - (max a 0).toNat) ++ (run (!(j % 2 == 1)) (a2 - a1) ++ beside above r f a2 (j % 2 == 1)))) = _
  rw [if_neg (by omega)]
  dsimp only
  rw [e1, e2, e3, e4, odd_succ]
theorem seg_mono {r : Row} {a b : Int} {j : Nat} (s : Seg r a j) (h1 : a ≤ b) (h2 : b < nth r j) : Seg r b j :=
  ⟨by have := s.lo; omega, by have := nth_le r j; omega, fun k hk => by have := s.before k hk; omega, h2⟩
theorem seg_skip {r : Row} {j : Nat} (h : nth r (j + 1) < r.length) : Seg r (nth r (j + 1)) (j + 2) := seg_next h
end Fax

namespace Fax
open Ql31
open PySem (Str)

/-! ### bits in bytes -/
def byteVal (b : Bits) : Nat := (List.range 8).foldl (fun n i => 2 * n + (b.getD i false).toNat) 0
def packAll (b : Bits) : List UInt8 := bytesOf (b.length / 8 + 1) b
theorem bytesOf_nil (k : Nat) : bytesOf k [] = [] := by cases k <;> rfl
theorem bytesOf_cons {k : Nat} {b : Bits} (h : b ≠ []) : bytesOf (k + 1) b = UInt8.ofNat (byteVal b) :: bytesOf k (b.drop 8) := by
  cases b with
  | nil => exact absurd rfl h
  | cons x r => rfl
theorem bytesOf_any : ∀ (n k k' : Nat) (b : Bits), b.length ≤ n → b.length ≤ 8 * k → b.length ≤ 8 * k' → bytesOf k b = bytesOf k' b
  | n, k, k', [], _, _, _ => by rw [bytesOf_nil, bytesOf_nil]
  | 0, k, k', x :: r, h, _, _ => by simp at h
  | n + 1, 0, k', x :: r, _, h, _ => by simp at h
  | n + 1, k + 1, 0, x :: r, _, _, h => by simp at h
  | n + 1, k + 1, k' + 1, x :: r, h, h1, h2 => by
    rw [bytesOf_cons (by simp), bytesOf_cons (by simp)]
    rw [bytesOf_any n k k' ((x :: r).drop 8) (by rw [List.length_drop]; rw [List.length_cons] at h ⊢; omega) (by rw [List.length_drop]; omega) (by rw [List.length_drop]; omega)]
theorem packAll_nil : packAll [] = [] := rfl
theorem packAll_eq (k : Nat) (b : Bits) (h : b.length ≤ 8 * k) : bytesOf k b = packAll b := bytesOf_any b.length _ _ b (Nat.le_refl _) h (by omega)
theorem packAll_cons {b : Bits} (h : b ≠ []) : packAll b = UInt8.ofNat (byteVal b) :: packAll (b.drop 8) := by
  unfold packAll
  rw [bytesOf_cons h]
  rw [packAll_eq (b.length / 8) (b.drop 8) (by rw [List.length_drop]; omega)]
  rfl
theorem packAll_len : ∀ (n : Nat) (b : Bits), b.length ≤ n → (packAll b).length ≤ (b.length + 7) / 8
  | _, [], _ => Nat.zero_le _
  | 0, x :: r, h => by simp at h
  | n + 1, x :: r, h => by
    rw [packAll_cons (by simp), List.length_cons]
    have := packAll_len n ((x :: r).drop 8) (by rw [List.length_drop]; rw [List.length_cons] at h ⊢; omega)
    rw [List.length_drop] at this
    rw [List.length_cons] at this ⊢
    omega
/-- the value of bits read from the highest on -/
def valOf (b : Bits) : Nat := b.foldl (fun n x => 2 * n + x.toNat) 0
theorem valOf_push (b : Bits) (x : Bool) : valOf (b ++ [x]) = 2 * valOf b + x.toNat := by
  unfold valOf
  rw [List.foldl_append]
  rfl
theorem valOf_lt : ∀ (n : Nat) (b : Bits), b.length = n → valOf b < 2 ^ n
  | 0, b, h => by
    have : b = [] := List.length_eq_zero_iff.mp h
    subst this
    decide
  | n + 1, b, h => by
    have hb : b ≠ [] := by
      intro e
      rw [e] at h
      cases h
    have e := List.dropLast_concat_getLast hb
    rw [← e, valOf_push]
    have := valOf_lt n b.dropLast (by rw [List.length_dropLast]; omega)
    have h2 : (b.getLast hb).toNat ≤ 1 := by cases b.getLast hb <;> decide
    rw [Nat.pow_succ]
    omega
theorem valOf_zeros (b : Bits) : ∀ k : Nat, valOf (b ++ List.replicate k false) = valOf b * 2 ^ k
  | 0 => by simp
  | k + 1 => by
    rw [List.replicate_succ', ← List.append_assoc, valOf_push, valOf_zeros b k, Nat.pow_succ]
    show 2 * (valOf b * 2 ^ k) + 0 = _
    rw [Nat.add_zero, Nat.mul_comm 2, Nat.mul_assoc]
theorem byteVal_8 (a b c d e f g h : Bool) (r : Bits) : byteVal (a :: b :: c :: d :: e :: f :: g :: h :: r) = valOf [a, b, c, d, e, f, g, h] := rfl
theorem byteVal_app {b : Bits} (h : b.length = 8) (r : Bits) : byteVal (b ++ r) = valOf b := by
  match b, h with
  | [x1, x2, x3, x4, x5, x6, x7, x8], _ => rfl
theorem getD_pad (b : Bits) (k i : Nat) : (b ++ List.replicate k false).getD i false = b.getD i false := by
  rw [List.getD_eq_getElem?_getD, List.getD_eq_getElem?_getD]
  by_cases h : i < b.length
  · rw [List.getElem?_append_left h]
  · rw [List.getElem?_append_right (by omega), List.getElem?_eq_none (l := b) (by omega)]
    by_cases h2 : i - b.length < k
    · rw [List.getElem?_replicate, if_pos h2]
      rfl
    · rw [List.getElem?_replicate, if_neg h2]
theorem byteVal_short {b : Bits} (h : b.length ≤ 8) : byteVal b = valOf b * 2 ^ (8 - b.length) := by
  rw [← valOf_zeros]
  have e := byteVal_app (b := b ++ List.replicate (8 - b.length) false) (by rw [List.length_append, List.length_replicate]; omega) []
  rw [List.append_nil] at e
  rw [← e]
  unfold byteVal
  congr 1
  funext n i
  rw [getD_pad]
/-- what the loop over the bits has: data, the bits that are held -/
structure Packed (full : Bits) (data : List UInt8) (held : Bits) : Prop where
  short : held.length < 8
  len : full.length = 8 * data.length + held.length
  eq : ∀ rest, packAll (full ++ rest) = data ++ packAll (held ++ rest)
theorem Packed.start : Packed [] [] [] := ⟨by decide, rfl, fun rest => rfl⟩
theorem Packed.keep {full held : Bits} {data : List UInt8} (p : Packed full data held) (x : Bool) (h : held.length + 1 ≠ 8) : Packed (full ++ [x]) data (held ++ [x]) :=
  ⟨by have := p.short; rw [List.length_append]; show held.length + 1 < 8; omega, by
    have := p.len
    rw [List.length_append, List.length_append, List.length_singleton]
    omega, fun rest => by rw [List.append_assoc, p.eq, List.append_assoc]⟩
theorem Packed.full {full held : Bits} {data : List UInt8} (p : Packed full data held) (x : Bool) (h : held.length + 1 = 8) : Packed (full ++ [x]) (data ++ [UInt8.ofNat (valOf (held ++ [x]))]) [] := by
  refine ⟨by decide, by
    have := p.len
    rw [List.length_append, List.length_append, List.length_singleton, List.length_singleton, List.length_nil]
    omega, fun rest => ?_⟩
  have hl : (held ++ [x]).length = 8 := by rw [List.length_append]; exact h
  rw [List.append_assoc, p.eq, ← List.append_assoc held, packAll_cons (by simp), byteVal_app hl, List.drop_left' hl, List.append_assoc]
  rfl
theorem Packed.stop {full held : Bits} {data : List UInt8} (p : Packed full data held) : packAll full = data ++ (if held.length = 0 then [] else [UInt8.ofNat (valOf held * 2 ^ (8 - held.length))]) := by
  have e := p.eq []
  rw [List.append_nil, List.append_nil] at e
  rw [e]
  have hs := p.short
  by_cases h : held.length = 0
  · rw [if_pos h, List.length_eq_zero_iff.mp h]
    rfl
  · rw [if_neg h, packAll_cons (by intro q; rw [q] at h; exact h rfl), byteVal_short (by omega), List.drop_eq_nil_of_le (by omega)]
    rfl
end Fax

namespace Fax
open Ql31
open PySem (Str)

/-! ### a row of the picture -/
theorem bitsFrom_get : ∀ (l : List UInt8) (x : Nat), (bitsFrom l)[x]? = (l[x / 8]?).map fun c => c.toNat.testBit (7 - x % 8)
  | [], x => by
    show ([] : List Bool)[x]? = _
    simp
  | c :: l, x => by
    have e : bitsFrom (c :: l) = ((List.range 8).map fun i => c.toNat.testBit (7 - i)) ++ bitsFrom l := by
      unfold bitsFrom
      rw [List.flatMap_cons]
    rw [e]
    by_cases h : x < 8
    · rw [List.getElem?_append_left (by simpa using h), List.getElem?_map, List.getElem?_range h]
      have e1 : x / 8 = 0 := Nat.div_eq_of_lt h
      have e2 : x % 8 = x := Nat.mod_eq_of_lt h
      rw [e1, e2]
      rfl
    · rw [List.getElem?_append_right (by simpa using Nat.le_of_not_lt h), bitsFrom_get l]
      have e0 : ((List.range 8).map fun i => c.toNat.testBit (7 - i)).length = 8 := by simp
      rw [e0]
      have e1 : x / 8 = (x - 8) / 8 + 1 := by omega
      have e2 : x % 8 = (x - 8) % 8 := by omega
      rw [e1, e2, List.getElem?_cons_succ]
theorem bitsFrom_len : ∀ l : List UInt8, (bitsFrom l).length = 8 * l.length
  | [] => rfl
  | c :: l => by
    have e : bitsFrom (c :: l) = ((List.range 8).map fun i => c.toNat.testBit (7 - i)) ++ bitsFrom l := by
      unfold bitsFrom
      rw [List.flatMap_cons]
    rw [e, List.length_append, bitsFrom_len l, List.length_map, List.length_range, List.length_cons]
    omega
/-- r is the row of the picture whose bytes begin at start -/
structure RowOf (ns : List Int) (start width : Nat) (r : Row) : Prop where
  len : r.length = width
  at_ : ∀ x, x < width → ∃ v : Nat, ns[start + x / 8]? = some (v : Int) ∧ r.getD x false = v.testBit (7 - x % 8)
def rowAt (width : Nat) (ns : List Int) (i : Nat) : Row := rowFrom width (((Ql31Neutral.octets ns).drop (i * stride width)).take (stride width))
theorem rowOf_at {ns : List Int} {width rows i : Nat} (hb : ∀ z ∈ ns, 0 ≤ z ∧ z ≤ 255) (hl : ns.length = rows * stride width) (hi : i < rows) : RowOf ns (i * stride width) width (rowAt width ns i) := by
  have hs : i * stride width + stride width ≤ ns.length := by
    rw [hl, ← Nat.succ_mul]
    exact Nat.mul_le_mul_right _ hi
  have hw : width ≤ 8 * stride width := by
    unfold stride
    omega
  have ho : (Ql31Neutral.octets ns).length = ns.length := by
    unfold Ql31Neutral.octets
    rw [List.length_map]
  have hl2 : (((Ql31Neutral.octets ns).drop (i * stride width)).take (stride width)).length = stride width := by
    rw [List.length_take, List.length_drop, ho]
    omega
  refine ⟨?_, fun x hx => ?_⟩
  · unfold rowAt rowFrom
    rw [List.length_take, bitsFrom_len, hl2]
    omega
  · have hx8 : x / 8 < stride width := by
      unfold stride
      omega
    have hin : i * stride width + x / 8 < ns.length := by omega
    have hz := hb _ (List.getElem_mem hin)
    refine ⟨(ns[i * stride width + x / 8]).toNat, ?_, ?_⟩
    · rw [List.getElem?_eq_getElem hin, Int.toNat_of_nonneg hz.1]
    · unfold rowAt rowFrom
      rw [List.getD_eq_getElem?_getD, List.getElem?_take, if_pos hx, bitsFrom_get, List.getElem?_take, if_pos hx8, List.getElem?_drop]
      unfold Ql31Neutral.octets
      rw [List.getElem?_map, List.getElem?_eq_getElem hin]
      show (UInt8.ofNat (ns[i * stride width + x / 8]).toNat).toNat.testBit (7 - x % 8) = _
      rw [UInt8.toNat_ofNat', Nat.mod_eq_of_lt (by omega)]
theorem rowsFrom_is (width rows : Nat) (ns : List Int) : rowsFrom width rows (Ql31Neutral.octets ns) = (List.range rows).map (rowAt width ns) := rfl

/-! ### a page -/
def isAlone (kind k i : Nat) : Bool := kind == 0 || (kind == 1 && i % k == 0)
def opening (kind : Nat) (al : Bool) : Bits := if kind = 2 then [] else if kind = 0 then EOL else EOL ++ [al]
def rowBits (kind k i : Nat) (above r : Row) : Bits := opening kind (isAlone kind k i) ++ (if isAlone kind k i = true then rowAlone r else rowBeside above r)
def pend (kind : Nat) : Bits := if kind = 2 then EOL ++ EOL else (List.replicate 6 (opening kind true)).flatten
def pg (kind k : Nat) : Nat → Row → List Row → Bits
  | _, _, [] => pend kind
  | i, above, r :: l => rowBits kind k i above r ++ pg kind k (i + 1) r l
theorem pg_cons (kind k i : Nat) (above r : Row) (l : List Row) : pg kind k i above (r :: l) = rowBits kind k i above r ++ pg kind k (i + 1) r l := rfl
theorem pg_0 (k : Nat) : ∀ (l : List Row) (i : Nat) (above : Row), pg 0 k i above l = (l.flatMap fun r => EOL ++ rowAlone r) ++ (List.replicate 6 EOL).flatten
  | [], _, _ => rfl
  | r :: l, i, above => by
    rw [pg_cons, pg_0 k l, List.flatMap_cons, List.append_assoc]
    rfl
theorem pg_2 (k : Nat) : ∀ (l : List Row) (i : Nat) (above : Row), pg 2 k i above l = rows6 above l ++ (EOL ++ EOL)
  | [], _, _ => rfl
  | r :: l, i, above => by
    rw [pg_cons, pg_2 k l]
    show _ = (rowBeside above r ++ rows6 r l) ++ (EOL ++ EOL)
    rw [List.append_assoc]
    rfl
theorem pg_1 (k : Nat) : ∀ (l : List Row) (i : Nat) (above : Row), pg 1 k i above l = rows2 k i above l ++ (List.replicate 6 (EOL ++ [true])).flatten
  | [], _, _ => rfl
  | r :: l, i, above => by
    rw [pg_cons, pg_1 k l]
    show _ = ((if i % k = 0 then EOL ++ (true :: rowAlone r) else EOL ++ (false :: rowBeside above r)) ++ rows2 k (i + 1) r l) ++ _
    rw [List.append_assoc]
    congr 1
    have e : isAlone 1 k i = decide (i % k = 0) := by
      unfold isAlone
      by_cases h : i % k = 0
      · rw [h]
        rfl
      · rw [decide_eq_false h, beq_eq_false_iff_ne.mpr h]
        rfl
    unfold rowBits
    rw [e]
    by_cases h : i % k = 0
    · rw [if_pos h, decide_eq_true h, if_pos rfl]
      show (EOL ++ [true]) ++ _ = _
      rw [List.append_assoc]
      rfl
    · rw [if_neg h, decide_eq_false h, if_neg (by decide)]
      show (EOL ++ [false]) ++ _ = _
      rw [List.append_assoc]
      rfl
theorem page_is {kind k width : Nat} (l : List Row) (hk : kind ≤ 2) : page kind k width l = pg kind k 0 (List.replicate width false) l := by
  match kind, hk with
  | 0, _ => rw [pg_0]; rfl
  | 1, _ =>
    cases l with
    | nil => rfl
    | cons r l =>
      rw [pg_cons, pg_1]
      show (((if 0 % k = 0 then EOL ++ (true :: rowAlone r) else EOL ++ (false :: rowBeside [] r)) ++ rows2 k 1 r l) ++ (List.replicate 6 (EOL ++ [true])).flatten) = _
      have h : 0 % k = 0 := Nat.zero_mod k
      rw [if_pos h]
      have e : isAlone 1 k 0 = true := by
        unfold isAlone
        rw [h]
        rfl
      unfold rowBits
      rw [e, if_pos rfl, List.append_assoc]
      show _ = ((EOL ++ [true]) ++ _) ++ _
      rw [List.append_assoc]
      rfl
  | 2, _ => rw [pg_2]; rfl
/-- the changes' list with its ends -/
def chL (r : Row) : List Int := (chs r).map (fun (x : Nat) => (x : Int)) ++ [(r.length : Int), (r.length : Int), (r.length : Int)]
theorem chL_get {r : Row} {j : Nat} (h : j < (chs r).length + 3) : (chL r)[j]? = some (nth r j : Int) := by
  unfold chL nth
  by_cases h1 : j < (chs r).length
  · rw [List.getElem?_append_left (by rw [List.length_map]; exact h1), List.getElem?_map, List.getElem?_eq_getElem h1, List.getD_eq_getElem?_getD, List.getElem?_eq_getElem h1]
    rfl
  · rw [List.getElem?_append_right (by rw [List.length_map]; omega), List.length_map, List.getD_eq_getElem?_getD, List.getElem?_eq_none (l := chs r) (by omega)]
    have : j - (chs r).length = 0 ∨ j - (chs r).length = 1 ∨ j - (chs r).length = 2 := by omega
    rcases this with e | e | e <;> rw [e] <;> rfl
theorem chs_len (r : Row) : (chs r).length ≤ r.length := by
  have h : ∀ (r : Row) (c : Bool) (p : Nat), (chsAux c p r).length ≤ r.length := by
    intro r
    induction r with
    | nil => intro c p; exact Nat.le_refl _
    | cons b r ih =>
      intro c p
      by_cases e : (b != c) = true
      · rw [chsAux_t e, List.length_cons, List.length_cons]
        have := ih b (p + 1)
        omega
      · rw [chsAux_f e, List.length_cons]
        have := ih c (p + 1)
        omega
  exact h r false 0
theorem chL_len (r : Row) : (chL r).length = (chs r).length + 3 := by
  unfold chL
  rw [List.length_append, List.length_map]
  rfl
/-- a stretch's number is at most the changes' number -/
theorem seg_le {r : Row} {a : Int} {j : Nat} (h : Seg r a j) : j ≤ (chs r).length := by
  cases j with
  | zero => exact Nat.zero_le _
  | succ k =>
    by_cases q : (chs r).length ≤ k
    · have h1 := h.before k rfl
      rw [nth_beyond q] at h1
      have := h.hi
      omega
    · omega
theorem chs_white (w : Nat) : chs (List.replicate w false) = [] := by
  have h : ∀ (w p : Nat), chsAux false p (List.replicate w false) = [] := by
    intro w
    induction w with
    | zero => intro p; rfl
    | succ w ih =>
      intro p
      rw [List.replicate_succ, chsAux_f (by decide), ih]
  exact h w 0
/-! ### bounds -/
theorem codeOf_len (d : Bool) (k : Nat) (h : k < 40) : (if 1 ≤ k then codeOf d (k * 64) else []).length ≤ 13 := by
  have e : ∀ (d : Bool) (n : Fin 40), (if 1 ≤ n.val then codeOf d (n.val * 64) else []).length ≤ 13 := by decide +kernel
  exact e d ⟨k, h⟩
theorem short_len (d : Bool) (k : Nat) (h : k < 64) : (codeOf d k).length ≤ 12 := by
  have e : ∀ (d : Bool) (n : Fin 64), (codeOf d n.val).length ≤ 12 := by decide +kernel
  exact e d ⟨k, h⟩
theorem flat_len (n : Nat) (l : Bits) : (List.replicate n l).flatten.length = n * l.length := by
  rw [List.length_flatten, List.map_replicate, List.sum_replicate_nat]
theorem run_len (d : Bool) (n : Nat) : (run d n).length ≤ 12 * (n / 2560) + 25 := by
  unfold run
  rw [List.length_append, List.length_append, flat_len]
  have h1 : (codeOf d 2560).length = 12 := by cases d <;> decide +kernel
  have h2 := short_len d (n % 2560 % 64) (Nat.mod_lt _ (by decide))
  have h3 : (if 64 ≤ n % 2560 then codeOf d (n % 2560 / 64 * 64) else []).length ≤ 13 := by
    have e := codeOf_len d (n % 2560 / 64) (by omega)
    by_cases h : 64 ≤ n % 2560
    · rw [if_pos h]
      rw [if_pos (by omega)] at e
      exact e
    · rw [if_neg h]
      exact Nat.zero_le _
  rw [h1]
  omega
end Fax

namespace Fax
open Ql31

/-! ### changes of a row that grows -/
def lastC (c : Bool) (r : List Bool) : Bool := r.getLast?.getD c
theorem lastC_nil (c : Bool) : lastC c [] = c := rfl
theorem lastC_cons (c b : Bool) (r : List Bool) : lastC c (b :: r) = lastC b r := by
  unfold lastC
  rw [List.getLast?_cons]
  rfl
theorem lastC_snoc (c b : Bool) (r : List Bool) : lastC c (r ++ [b]) = b := by
  unfold lastC
  rw [List.getLast?_append]
  rfl
theorem chsAux_snoc : ∀ (r : List Bool) (c : Bool) (p : Nat) (d : Bool), chsAux c p (r ++ [d]) = chsAux c p r ++ (if (d != lastC c r) = true then [p + r.length] else [])
  | [], c, p, d => by
    show (if (d != c) = true then p :: [] else []) = [] ++ _
    rw [lastC_nil]
    rfl
  | b :: r, c, p, d => by
    rw [lastC_cons, List.cons_append]
    have el : p + (b :: r).length = p + 1 + r.length := by
      rw [List.length_cons]
      omega
    rw [el]
    by_cases h : (b != c) = true
    · rw [chsAux_t h, chsAux_t h, chsAux_snoc r b (p + 1) d]
      rfl
    · have hb : b = c := by cases b <;> cases c <;> first | rfl | exact absurd rfl h
      rw [chsAux_f h, chsAux_f h, chsAux_snoc r c (p + 1) d, hb]
theorem chs_snoc (r : List Bool) (d : Bool) : chs (r ++ [d]) = chs r ++ (if (d != lastC false r) = true then [r.length] else []) := by
  have e := chsAux_snoc r false 0 d
  rw [Nat.zero_add] at e
  exact e
theorem chs_lt {r : List Bool} {x : Nat} (h : x ∈ chs r) : x < r.length := by
  have := chsAux_mem r false 0 x h
  omega
theorem chs_rep (r : List Bool) (d : Bool) : ∀ n : Nat, chs (r ++ [d] ++ List.replicate n d) = chs (r ++ [d])
  | 0 => by rw [List.replicate_zero, List.append_nil]
  | n + 1 => by
    have hl : lastC false (r ++ [d] ++ List.replicate n d) = d := by
      cases n with
      | zero => rw [List.replicate_zero, List.append_nil, lastC_snoc]
      | succ n => rw [List.replicate_succ', ← List.append_assoc, lastC_snoc]
    rw [List.replicate_succ', ← List.append_assoc, chs_snoc, hl, chs_rep r d n]
    have : (d != d) = false := by cases d <;> rfl
    rw [this]
    simp
/-- the changes that the program holds: of what is read, and the turn to the colour that comes -/
def cg (w : Nat) (r : List Bool) (d : Bool) : List Nat := if r.length < w then chs (r ++ [d]) else chs r
def turnOp (w : Nat) (cs : List Nat) (q : Nat) : List Nat := if cs.getLast? = some q then cs.dropLast else if q < w then cs ++ [q] else cs
theorem cg_start {w : Nat} (h : 1 ≤ w) : cg w [] false = [] := by
  unfold cg
  rw [if_pos (show ([] : List Bool).length < w from h)]
  rfl
theorem cg_end {w : Nat} {r : List Bool} (h : r.length = w) (d : Bool) : cg w r d = chs r := by
  unfold cg
  rw [if_neg (by omega)]
theorem cg_ext {w n : Nat} {r : List Bool} {d : Bool} (h : r.length < w) (h2 : r.length + n ≤ w) : cg w (r ++ List.replicate n d) d = cg w r d := by
  unfold cg
  rw [List.length_append, List.length_replicate, if_pos h]
  by_cases h3 : r.length + n < w
  · rw [if_pos h3]
    have e : r ++ List.replicate n d ++ [d] = r ++ [d] ++ List.replicate n d := by
      rw [List.append_assoc, List.append_assoc, ← List.replicate_succ', List.replicate_succ]
      rfl
    rw [e, chs_rep]
  · rw [if_neg h3]
    obtain ⟨m, rfl⟩ : ∃ m, n = m + 1 := ⟨n - 1, by omega⟩
    have e : r ++ List.replicate (m + 1) d = r ++ [d] ++ List.replicate m d := by
      rw [List.append_assoc, List.replicate_succ]
      rfl
    rw [e, chs_rep]
theorem last_ne {cs : List Nat} {q : Nat} (h : ∀ x ∈ cs, x < q) : cs.getLast? ≠ some q := fun e => by
  have := h q (List.mem_of_getLast? e)
  omega
theorem cg_turn {w : Nat} {r : List Bool} (d : Bool) (h : r.length ≤ w) : turnOp w (cg w r d) r.length = cg w r (!d) := by
  have hm : ∀ x ∈ chs r, x < r.length := fun x hx => chs_lt hx
  unfold cg
  by_cases h1 : r.length < w
  · rw [if_pos h1, if_pos h1, chs_snoc, chs_snoc]
    by_cases h2 : (d != lastC false r) = true
    · have h3 : ((!d) != lastC false r) = false := by revert h2; cases d <;> cases lastC false r <;> decide
      rw [h3, if_pos h2]
      unfold turnOp
      rw [if_pos (by rw [List.getLast?_append]; rfl), List.dropLast_concat]
      simp
    · have h3 : ((!d) != lastC false r) = true := by revert h2; cases d <;> cases lastC false r <;> decide
      rw [if_neg h2, h3, if_pos rfl, List.append_nil]
      unfold turnOp
      rw [if_neg (last_ne hm), if_pos h1]
  · rw [if_neg h1, if_neg h1]
    unfold turnOp
    rw [if_neg (last_ne hm), if_neg h1]
theorem cg_len {w : Nat} {r : List Bool} (d : Bool) : (cg w r d).length ≤ r.length + 1 := by
  unfold cg
  by_cases h : r.length < w
  · rw [if_pos h]
    have := chs_len (r ++ [d])
    rw [List.length_append] at this
    exact this
  · rw [if_neg h]
    have := chs_len r
    omega
theorem cg_le {w : Nat} {r : List Bool} {d : Bool} {x : Nat} (hx : x ∈ cg w r d) : x ≤ r.length := by
  unfold cg at hx
  by_cases h : r.length < w
  · rw [if_pos h] at hx
    have := chs_lt hx
    rw [List.length_append] at this
    exact Nat.le_of_lt_succ this
  · rw [if_neg h] at hx
    exact Nat.le_of_lt (chs_lt hx)
end Fax

namespace Fax
open Ql31
open PySem (Str)

/-! ### texts of the signs 0 and 1 -/
def Bin (s : Str) : Prop := ∀ c ∈ s.cps.toList, c = 48 ∨ c = 49
theorem bin_inj : ∀ {a b : List Nat}, (∀ c ∈ a, c = 48 ∨ c = 49) → (∀ c ∈ b, c = 48 ∨ c = 49) → (a.map fun c => decide (c = 49)) = (b.map fun c => decide (c = 49)) → a = b
  | [], [], _, _, _ => rfl
  | [], _ :: _, _, _, h => by cases h
  | _ :: _, [], _, _, h => by cases h
  | x :: a, y :: b, ha, hb, h => by
    rw [List.map_cons, List.map_cons] at h
    obtain ⟨h1, h2⟩ := List.cons.inj h
    have e := bin_inj (fun c hc => ha c (List.mem_cons_of_mem _ hc)) (fun c hc => hb c (List.mem_cons_of_mem _ hc)) h2
    have hx := ha x List.mem_cons_self
    have hy := hb y List.mem_cons_self
    have hxy : x = y := by
      rcases hx with q | q <;> rcases hy with q' | q' <;> subst q <;> subst q'
      · rfl
      · exact absurd h1 (by decide)
      · exact absurd h1 (by decide)
      · rfl
    rw [hxy, e]
theorem str_ext {a b : Str} (h : a.cps.toList = b.cps.toList) : a = b := by
  obtain ⟨x⟩ := a
  obtain ⟨y⟩ := b
  have : x = y := Array.toList_inj.mp h
  rw [this]
theorem bits_inj {a b : Str} (ha : Bin a) (hb : Bin b) (h : bits a = bits b) : a = b := str_ext (bin_inj ha hb h)
theorem len_list (s : Str) : s.cps.toList.length = s.length := by
  rw [Array.length_toList]
  rfl
/-- c begins the signs behind p -/
theorem pre_iff {T c : Str} {p : Nat} (hT : Bin T) (hc : Bin c) : ((T.cps.toList.drop p).take c.length = c.cps.toList) ↔ (bits c).isPrefixOf ((bits T).drop p) = true := by
  rw [List.isPrefixOf_iff_prefix]
  have e : ((bits T).drop p).take (bits c).length = ((T.cps.toList.drop p).take c.length).map fun c => decide (c = 49) := by
    unfold bits
    rw [List.length_map, len_list, List.map_take, List.map_drop]
  constructor
  · intro h
    rw [List.prefix_iff_eq_take, e, h]
    rfl
  · intro h
    rw [List.prefix_iff_eq_take, e] at h
    refine (bin_inj hc (fun x hx => hT x (List.mem_of_mem_drop (List.mem_of_mem_take hx))) h).symm
theorem sub_at_iff {T c : Str} {p : Nat} (hp : p ≤ T.length) : (p + c.length ≤ T.length ∧ PySem.Builtin.Str.subAt T c p = true) ↔ (T.cps.toList.drop p).take c.length = c.cps.toList := by
  have hs : PySem.Builtin.Str.subAt T c p = (T.cps.extract p (p + c.length) == c.cps) := rfl
  rw [hs, beq_iff_eq]
  have he : (T.cps.extract p (p + c.length)).toList = (T.cps.toList.drop p).take c.length := by
    rw [Array.toList_extract, List.extract_eq_take_drop, Nat.add_sub_cancel_left]
  constructor
  · rintro ⟨_, h⟩
    rw [← he, h]
  · intro h
    refine ⟨?_, Array.toList_inj.mp (he.trans h)⟩
    have hl := congrArg List.length h
    rw [List.length_take, List.length_drop, len_list, len_list] at hl
    omega
theorem from_nat (n p : Nat) : PySem.fromIndex n (p : Int) = p := by
  show (max 0 (if (p : Int) < 0 then (p : Int) + n else (p : Int))).toNat = p
  rw [if_neg (by omega)]
  omega
theorem starts3_is {T c : Str} {p : Nat} (hT : Bin T) (hc : Bin c) (hp : p ≤ T.length) : PySem.Txt.startswith3 T c (p : Int) = (bits c).isPrefixOf ((bits T).drop p) := by
  unfold PySem.Txt.startswith3
  rw [from_nat, Bool.eq_iff_iff, Bool.and_eq_true, decide_eq_true_iff]
  exact (sub_at_iff hp).trans (pre_iff hT hc)
theorem starts_is {T c : Str} (hT : Bin T) (hc : Bin c) : PySem.Txt.startswith T c = (bits c).isPrefixOf (bits T) := by
  unfold PySem.Txt.startswith
  rw [Bool.eq_iff_iff, Bool.and_eq_true, decide_eq_true_iff]
  exact (sub_at_iff (Nat.zero_le _)).trans (pre_iff hT hc)
/-- a slice -/
theorem cut_list (T : Str) (p q : Nat) : (L2.cutS T (some (p : Int)) (some (q : Int))).cps.toList = (T.cps.toList.drop p).take (q - p) := by
  show (T.cps.toList.drop (HT.sIx T.length 0 (some (p : Int)))).take (HT.sIx T.length T.length (some (q : Int)) - HT.sIx T.length 0 (some (p : Int))) = _
  rw [HT.sIx_nat, HT.sIx_nat]
  have hl := len_list T
  by_cases h1 : p ≤ T.length
  · rw [Nat.min_eq_left h1]
    by_cases h2 : q ≤ T.length
    · rw [Nat.min_eq_left h2]
    · rw [Nat.min_eq_right (by omega), List.take_of_length_le (by rw [List.length_drop]; omega), List.take_of_length_le (by rw [List.length_drop]; omega)]
  · rw [Nat.min_eq_right (a := p) (by omega), List.drop_eq_nil_of_le (as := T.cps.toList) (i := T.length) (by omega), List.drop_eq_nil_of_le (as := T.cps.toList) (i := p) (by omega), List.take_nil, List.take_nil]
theorem cut_bin {T : Str} (hT : Bin T) (p q : Nat) : Bin (L2.cutS T (some (p : Int)) (some (q : Int))) := fun c hc => by
  rw [cut_list] at hc
  exact hT c (List.mem_of_mem_drop (List.mem_of_mem_take hc))
theorem cut_bits (T : Str) (p q : Nat) : bits (L2.cutS T (some (p : Int)) (some (q : Int))) = ((bits T).drop p).take (q - p) := by
  unfold bits
  rw [cut_list, List.map_take, List.map_drop]
/-- the first 1 from a place on -/
theorem find_zeros {T : Str} {p : Nat} (hT : Bin T) (hp : p ≤ T.length) :
    PySem.Txt.find3 T "1" (p : Int) = if (((bits T).drop p).takeWhile fun x => x == false).length < ((bits T).drop p).length then ((p + (((bits T).drop p).takeWhile fun x => x == false).length : Nat) : Int) else -1 := by
  have h1 : Bin ("1" : Str) := by unfold Bin; decide +kernel
  have hb1 : bits ("1" : Str) = [true] := by decide +kernel
  have hat : ∀ i, i ≤ T.length → (PySem.StrLaws.At T "1" T.length i ↔ (bits T)[i]? = some true) := fun i hi => by
    refine (sub_at_iff hi).trans ((pre_iff hT h1).trans ?_)
    rw [hb1]
    cases e : (bits T).drop i with
    | nil =>
      have : (bits T)[i]? = none := by
        rw [List.getElem?_eq_none_iff]
        have := congrArg List.length e
        rw [List.length_drop, List.length_nil] at this
        omega
      rw [this]
      simp
    | cons x r =>
      have : (bits T)[i]? = some x := by
        have := congrArg (fun l => l[0]?) e
        simpa using this
      rw [this]
      simp
  have hl := bits_len T
  have hi0 : ∀ i, ((bits T).drop p)[i]? = (bits T)[p + i]? := fun i => by rw [List.getElem?_drop]
  unfold PySem.Txt.find3
  rw [from_nat, PySem.StrLaws.occ_eq]
  generalize hd : (bits T).drop p = b at *
  have hbl : b.length = T.length - p := by rw [← hd, List.length_drop, hl]
  -- the zeros ahead
  have htw : ∀ (b : List Bool), (∀ i, i < (b.takeWhile fun x => x == false).length → b[i]? = some false) ∧ ((b.takeWhile fun x => x == false).length < b.length → b[(b.takeWhile fun x => x == false).length]? = some true) := by
    intro b
    induction b with
    | nil => exact ⟨fun i h => absurd h (Nat.not_lt_zero _), fun h => absurd h (Nat.not_lt_zero _)⟩
    | cons x b ih =>
      cases x with
      | true => exact ⟨fun i h => absurd h (Nat.not_lt_zero _), fun _ => rfl⟩
      | false =>
        rw [List.takeWhile_cons_of_pos (by rfl), List.length_cons, List.length_cons]
        refine ⟨fun i h => ?_, fun h => ?_⟩
        · cases i with
          | zero => rfl
          | succ i => rw [List.getElem?_cons_succ]; exact ih.1 i (by omega)
        · rw [List.getElem?_cons_succ]
          exact ih.2 (by omega)
  obtain ⟨t1, t2⟩ := htw b
  generalize hz : (b.takeWhile fun x => x == false).length = z at *
  rcases PySem.StrLaws.occ_first T "1" T.length 1 (Nat.le_refl _) (List.range' p (T.length + 1 - p)) p (fun i hi => by
      have := List.mem_range'.mp hi
      obtain ⟨k, _, rfl⟩ := this
      omega) with ⟨h0, hn⟩ | ⟨pre, a, post, e, h0, ha, hn⟩
  · rw [h0]
    have hnot : ¬ z < b.length := fun hlt => by
      have h2 := t2 hlt
      rw [hi0] at h2
      exact hn (p + z) (by rw [List.mem_range']; exact ⟨z, by omega, by omega⟩) ((hat (p + z) (by omega)).mpr h2)
    rw [if_neg hnot]
  · have hpa : p ≤ a ∧ a ≤ T.length := by
      have : a ∈ List.range' p (T.length + 1 - p) := by rw [e]; simp
      obtain ⟨k, hk, rfl⟩ := List.mem_range'.mp this
      omega
    have h2 := (hat a hpa.2).mp ha
    have h3 : b[a - p]? = some true := by
      rw [hi0]
      have : p + (a - p) = a := by omega
      rw [this]
      exact h2
    have hal : a - p < b.length := (List.getElem?_eq_some_iff.mp h3).1
    have hza : z ≤ a - p := by
      by_cases h : z ≤ a - p
      · exact h
      · have := t1 (a - p) (by omega)
        rw [this] at h3
        cases h3
    have hlt : z < b.length := by omega
    have haz : a = p + z := by
      by_cases h : a = p + z
      · exact h
      · exfalso
        have hmem : p + z ∈ pre := by
          have hlen : pre.length = a - p := by
            have h5 : (List.range' p (T.length + 1 - p))[pre.length]? = some a := by rw [e]; simp
            rw [List.getElem?_range'] at h5
            · have := Option.some.inj h5
              omega
            · have := congrArg List.length e
              rw [List.length_range', List.length_append, List.length_cons] at this
              omega
          have h6 : (List.range' p (T.length + 1 - p))[z]? = pre[z]? := by rw [e, List.getElem?_append_left (by omega)]
          rw [List.getElem?_range' (by omega)] at h6
          have h7 : pre[z]? = some (p + z) := by rw [← h6, Nat.one_mul]
          exact List.mem_of_getElem? h7
        have h8 := t2 hlt
        rw [hi0] at h8
        exact hn (p + z) hmem ((hat (p + z) (by omega)).mpr h8)
    rw [if_pos hlt]
    generalize (forIn (List.range' p (T.length + 1 - p)) ((#[] : Array Nat), p) (PySem.StrLaws.occBody T "1" T.length 1)).run.fst = arr at h0
    have h9 : arr.toList[0]? = some a := by simpa using h0
    cases hL : arr.toList with
    | nil => rw [hL] at h9; cases h9
    | cons y t =>
      rw [hL] at h9
      have : y = a := Option.some.inj h9
      show ((y : Nat) : Int) = _
      rw [this, haz]
/-- one sign -/
theorem sign_is {T : Str} {i : Nat} {x : Bool} (hT : Bin T) (h : (bits T)[i]? = some x) : T.cps.toList[i]? = some (if x then 49 else 48) := by
  unfold bits at h
  rw [List.getElem?_map] at h
  cases e : T.cps.toList[i]? with
  | none => rw [e] at h; cases h
  | some c =>
    rw [e] at h
    have h2 := Option.some.inj h
    rcases hT c (List.mem_of_getElem? e) with q | q <;> subst q <;> rw [← h2] <;> rfl
/-- joined without a sign between -/
theorem bits_joined : ∀ l : List Str, bits (PySem.Txt.join "" l) = l.flatMap bits := fun l => by
  rw [TL.join_eq]
  have key : ∀ l : List Str, bits (Str.join "" l) = l.flatMap bits := by
    intro l
    induction l with
    | nil => rfl
    | cons x r ih =>
      cases r with
      | nil =>
        show bits x = _
        simp
      | cons z r =>
        show bits (x ++ "" ++ Str.join "" (z :: r)) = _
        rw [bits_app, bits_app, ih]
        have : bits ("" : Str) = [] := by decide +kernel
        rw [this, List.append_nil]
        rfl
  exact key l
end Fax

namespace Fax
open Ql31
open PySem (Str)

/-! ### a book of codes: what a dict of the program holds, and the specification's table -/
structure Book (prs : List (Str × Int)) (tbl : List (Int × String)) : Prop where
  bin : ∀ x ∈ prs, Bin x.1 ∧ 1 ≤ x.1.length ∧ x.1.length ≤ 13
  to : ∀ x ∈ prs, ∃ y ∈ tbl, bitsOf y.2 = bits x.1 ∧ y.1 = x.2
  back : ∀ y ∈ tbl, ∃ x ∈ prs, bitsOf y.2 = bits x.1
  free : ∀ x ∈ tbl, ∀ y ∈ tbl, (bitsOf x.2).isPrefixOf (bitsOf y.2) = true → x = y
theorem bitsOf_len (s : String) : (bitsOf s).length = s.length := by
  unfold bitsOf
  rw [List.length_map]
  rfl
theorem prefix_both {a b c : Bits} (h1 : a <+: c) (h2 : b <+: c) : a <+: b ∨ b <+: a := by
  rcases Nat.le_total a.length b.length with h | h
  · exact .inl (List.prefix_of_prefix_length_le h1 h2 h)
  · exact .inr (List.prefix_of_prefix_length_le h2 h1 h)
theorem code_found {prs : List (Str × Int)} {tbl : List (Int × String)} (B : Book prs tbl) {x : Str × Int} (hx : x ∈ prs) {b : Bits} (h : (bits x.1).isPrefixOf b = true) : code tbl b = .ok (x.2, b.drop x.1.length) := by
  obtain ⟨y, hy, e1, e2⟩ := B.to x hx
  have hyb : (bitsOf y.2).isPrefixOf b = true := by rw [e1]; exact h
  unfold code
  cases e : tbl.find? fun x => (bitsOf x.2).isPrefixOf b with
  | none =>
    have := List.find?_eq_none.mp e y hy
    exact absurd hyb this
  | some z =>
    have hz := List.find?_some e
    have hm := List.mem_of_find?_eq_some e
    have : z = y := by
      rcases prefix_both (List.isPrefixOf_iff_prefix.mp hz) (List.isPrefixOf_iff_prefix.mp hyb) with q | q
      · exact B.free z hm y hy (List.isPrefixOf_iff_prefix.mpr q)
      · exact (B.free y hy z hm (List.isPrefixOf_iff_prefix.mpr q)).symm
    subst this
    show Except.ok (z.1, b.drop z.2.length) = _
    rw [e2, ← bitsOf_len, e1, bits_len]
/-- how the program tells that the bits end within a code -/
def cutAny (prs : List (Str × Int)) (b : Bits) : Bool := prs.any fun x => (b.take 13).isPrefixOf (bits x.1)
theorem code_none {prs : List (Str × Int)} {tbl : List (Int × String)} (B : Book prs tbl) {b : Bits} (h : ∀ x ∈ prs, ¬ (bits x.1).isPrefixOf b = true) :
    code tbl b = .error (if cutAny prs b = true then ENDED else CODE, b.length) := by
  have e : (tbl.find? fun x => (bitsOf x.2).isPrefixOf b) = none := by
    rw [List.find?_eq_none]
    intro y hy q
    obtain ⟨x, hx, e⟩ := B.back y hy
    rw [e] at q
    exact h x hx q
  unfold code
  rw [e]
  have e2 : (tbl.any fun x => b.isPrefixOf (bitsOf x.2)) = cutAny prs b := by
    rw [Bool.eq_iff_iff, List.any_eq_true]
    unfold cutAny
    rw [List.any_eq_true]
    constructor
    · rintro ⟨y, hy, q⟩
      obtain ⟨x, hx, e⟩ := B.back y hy
      refine ⟨x, hx, ?_⟩
      rw [e, List.isPrefixOf_iff_prefix] at q
      rw [List.isPrefixOf_iff_prefix]
      exact (List.take_prefix 13 b).trans q
    · rintro ⟨x, hx, q⟩
      obtain ⟨y, hy, e, _⟩ := B.to x hx
      refine ⟨y, hy, ?_⟩
      rw [List.isPrefixOf_iff_prefix] at q
      rw [e, List.isPrefixOf_iff_prefix]
      by_cases hl : b.length ≤ 13
      · rw [List.take_of_length_le hl] at q
        exact q
      · exfalso
        have h13 : (b.take 13).length = 13 := by rw [List.length_take]; omega
        have hx13 := (B.bin x hx).2.2
        rw [← bits_len] at hx13
        have hle := q.length_le
        have heq : b.take 13 = bits x.1 := q.eq_of_length (by omega)
        refine h x hx (List.isPrefixOf_iff_prefix.mpr ?_)
        rw [← heq]
        exact List.take_prefix 13 b
  rw [e2]

/-! ### the specification's readers, a step each -/
def rtab (d : Bool) : List (Int × String) := (table d).map fun x => ((x.1 : Int), x.2)
theorem readRun_step (d : Bool) (k most n : Nat) (b : Bits) : readRun d (k + 1) most n b = match code (rtab d) b with
    | .error e => .error e
    | .ok (z, r) => if most < n + z.toNat then .error (LONG, b.length) else if z < 64 then .ok (n + z.toNat, r) else readRun d k most (n + z.toNat) r := rfl
theorem readAlone_step {w k : Nat} {d : Bool} {r : Row} {b : Bits} (h : r.length < w) : readAlone w (k + 1) d r b = match readRun d (w + 2) (w - r.length) 0 b with
    | .error e => .error e
    | .ok (n, t) => readAlone w k (!d) (r ++ List.replicate n d) t := by
  show (if r.length = w ∧ r ≠ [] then _ else _) = _
  rw [if_neg (fun q => by omega)]
  rfl
theorem readAlone_done {w k : Nat} {d : Bool} {r : Row} {b : Bits} (h : r.length = w) (hw : 1 ≤ w) : readAlone w (k + 1) d r b = .ok (r, b) := by
  show (if r.length = w ∧ r ≠ [] then _ else _) = _
  rw [if_pos ⟨h, fun e => by rw [e] at h; simp at h; omega⟩]
theorem readBeside_done {w k : Nat} {A : Row} {a : Int} {d : Bool} {r : Row} {b : Bits} (h : (w : Int) ≤ a) : readBeside w A (k + 1) a d r b = .ok (r, b) := by
  show (if (w : Int) ≤ a then _ else _) = _
  rw [if_pos h]
theorem readBeside_step {w k : Nat} {A : Row} {a : Int} {d : Bool} {r : Row} {b : Bits} {b1 b2 : Nat} (h : a < (w : Int)) (h1 : change A a (!d) = b1) (h2 : other A b1 (!d) = b2) : readBeside w A (k + 1) a d r b = match code ways b with
    | .error e => .error e
    | .ok (z, t) =>
      if z = 10 then (if w ≤ b2 then .error (LONG, b.length) else readBeside w A k b2 d (r ++ List.replicate (b2 - r.length) d) t)
      else if z = 11 then (match readRun d (w + 2) (w - r.length) 0 t with
        | .error e => .error e
        | .ok (n, t) => match readRun (!d) (w + 2) (w - r.length - n) 0 t with
          | .error e => .error e
          | .ok (m, t) => if n + m = 0 then .error (LONG, b.length) else readBeside w A k (r.length + n + m) d (r ++ (List.replicate n d ++ List.replicate m (!d))) t)
      else if (b1 : Int) + z < 0 ∨ (0 ≤ a ∧ (b1 : Int) + z ≤ a) ∨ (w : Int) < (b1 : Int) + z then .error (LONG, b.length) else readBeside w A k ((b1 : Int) + z) (!d) (r ++ List.replicate (((b1 : Int) + z).toNat - r.length) d) t := by
  subst h1
  subst h2
  show (if (w : Int) ≤ a then _ else _) = _
  rw [if_neg (by omega)]
  rfl
/-- an end of line behind zeros -/
def zer (b : Bits) : Nat := (b.takeWhile fun x => x == false).length
theorem zer_all {b : Bits} : (b.all fun x => x == false) = true ↔ ¬ zer b < b.length := by
  unfold zer
  induction b with
  | nil => simp
  | cons x b ih =>
    cases x with
    | true => simp
    | false =>
      rw [List.takeWhile_cons_of_pos (by rfl), List.length_cons, List.length_cons, List.all_cons]
      simp only [beq_self_eq_true, Bool.true_and]
      rw [ih]
      omega
theorem want_ok {b : Bits} (h1 : 11 ≤ zer b) (h2 : zer b < b.length) : wantEnd b = .ok ((), b.drop (zer b + 1)) := by
  have e : endOfLine b = some (b.drop (zer b + 1)) := if_pos ⟨h1, h2⟩
  unfold wantEnd
  rw [e]
theorem want_ended {b : Bits} (h2 : ¬ zer b < b.length) : wantEnd b = .error (ENDED, b.length) := by
  have e : endOfLine b = none := if_neg fun h => h2 h.2
  unfold wantEnd
  rw [e]
  show Except.error (if (b.all fun x => x == false) = true then ENDED else LINE, b.length) = _
  rw [if_pos (zer_all.mpr h2)]
theorem want_line {b : Bits} (h1 : ¬ 11 ≤ zer b) (h2 : zer b < b.length) : wantEnd b = .error (LINE, b.length) := by
  have e : endOfLine b = none := if_neg fun h => h1 h.1
  unfold wantEnd
  rw [e]
  show Except.error (if (b.all fun x => x == false) = true then ENDED else LINE, b.length) = _
  rw [if_neg (fun h => zer_all.mp h h2)]
/-- the bit behind an end of line -/
def tagOf (two : Bool) (t : Bits) : R Bool := if two = false then .ok (true, t) else match t with
  | x :: r => .ok (x, r)
  | [] => .error (ENDED, 0)
theorem readLines_step (w most : Nat) (two : Bool) (k : Nat) (l : List Row) (b : Bits) : readLines w most two (k + 1) l b = match wantEnd b with
    | .error e => .error e
    | .ok (_, t) => match tagOf two t with
      | .error e => .error e
      | .ok (x, r) =>
        if EOL.isPrefixOf r = true then (if x = false then .error (LINE, r.length + 1) else match five two 5 r with
          | .error e => .error e
          | .ok (_, u) => .ok (l, u))
        else if most ≤ l.length then .error (MANY, r.length)
        else match (if x = true then readAlone w (w + 4) false [] r else if l = [] then .error (LINE, r.length + 1) else readBeside w (l.getLast?.getD (List.replicate w false)) (2 * w + 4) (-1) false [] r) with
          | .error e => .error e
          | .ok (row, u) => readLines w most two k (l ++ [row]) u := rfl
theorem readPlain_step (w most k : Nat) (l : List Row) (b : Bits) : readPlain w most (k + 1) l b = 
    if (EOL ++ EOL).isPrefixOf b = true then (match finished (b.drop 24) with
      | .error e => .error e
      | .ok (_, u) => .ok (l, u))
    else if most ≤ l.length then .error (MANY, b.length)
    else match readBeside w (l.getLast?.getD (List.replicate w false)) (2 * w + 4) (-1) false [] b with
      | .error e => .error e
      | .ok (row, u) => readPlain w most k (l ++ [row]) u := rfl
theorem five_step (tg : Bool) (k : Nat) (b : Bits) : five tg (k + 1) b = if EOL.isPrefixOf b = false then .error (if b.isPrefixOf EOL = true then ENDED else LINE, b.length) else
      match tagOf tg (b.drop 12) with
      | .error e => .error e
      | .ok (x, t) => if x = false then .error (LINE, (b.drop 12).length) else five tg k t := by
  show (if EOL.isPrefixOf b = false then _ else _) = _
  by_cases h : EOL.isPrefixOf b = false
  · rw [if_pos h, if_pos h]
  · rw [if_neg h, if_neg h]
    cases tg with
    | false => rfl
    | true =>
      unfold tagOf
      rw [if_neg (by decide)]
      generalize b.drop 12 = c
      cases c with
      | nil => rfl
      | cons x t => cases x <;> rfl
end Fax

namespace Fax
open Ql31

/-! ### a row's bytes from its changes -/
def bitF (cs : List Nat) (x : Nat) : Bool := cs.countP (fun c => decide (c ≤ x)) % 2 == 1
def byteN (f : Nat → Bool) (j : Nat) : Nat := valOf ((List.range 8).map fun t => f (8 * j + t))
theorem byteN_lt (f : Nat → Bool) (j : Nat) : byteN f j < 256 := valOf_lt 8 _ (by simp)
theorem bitF_snoc (cs : List Nat) (c x : Nat) : bitF (cs ++ [c]) x = (bitF cs x ^^ decide (c ≤ x)) := by
  unfold bitF
  rw [List.countP_append, List.countP_singleton]
  by_cases h : c ≤ x
  · rw [if_pos (by simpa using h), decide_eq_true h, odd_succ]
    cases (List.countP (fun c => decide (c ≤ x)) cs % 2 == 1) <;> rfl
  · rw [if_neg (by simpa using h), decide_eq_false h, Nat.add_zero, Bool.xor_false]
theorem byteN_congr {f g : Nat → Bool} {j : Nat} (h : ∀ t, t < 8 → f (8 * j + t) = g (8 * j + t)) : byteN f j = byteN g j := by
  unfold byteN
  congr 1
  refine List.map_congr_left fun t ht => h t (List.mem_range.mp ht)
theorem flip_fin : ∀ (k : Fin 8) (a b c d e f g h : Bool), valOf [a ^^ decide (k.val ≤ 0), b ^^ decide (k.val ≤ 1), c ^^ decide (k.val ≤ 2), d ^^ decide (k.val ≤ 3), e ^^ decide (k.val ≤ 4), f ^^ decide (k.val ≤ 5), g ^^ decide (k.val ≤ 6), h ^^ decide (k.val ≤ 7)] =
    valOf [a, b, c, d, e, f, g, h] ^^^ (255 / 2 ^ k.val) := by decide +kernel
theorem flip_in (f : Nat → Bool) {j c : Nat} (h : c / 8 = j) : byteN (fun x => f x ^^ decide (c ≤ x)) j = byteN f j ^^^ (255 / 2 ^ (c % 8)) := by
  have e := flip_fin ⟨c % 8, Nat.mod_lt _ (by decide)⟩ (f (8 * j + 0)) (f (8 * j + 1)) (f (8 * j + 2)) (f (8 * j + 3)) (f (8 * j + 4)) (f (8 * j + 5)) (f (8 * j + 6)) (f (8 * j + 7))
  have d : ∀ t : Nat, decide (c ≤ 8 * j + t) = decide (c % 8 ≤ t) := fun t => by
    have : (c ≤ 8 * j + t) ↔ (c % 8 ≤ t) := by omega
    exact decide_eq_decide.mpr this
  unfold byteN
  show valOf [f (8 * j + 0) ^^ decide (c ≤ 8 * j + 0), f (8 * j + 1) ^^ decide (c ≤ 8 * j + 1), f (8 * j + 2) ^^ decide (c ≤ 8 * j + 2), f (8 * j + 3) ^^ decide (c ≤ 8 * j + 3), f (8 * j + 4) ^^ decide (c ≤ 8 * j + 4), f (8 * j + 5) ^^ decide (c ≤ 8 * j + 5), f (8 * j + 6) ^^ decide (c ≤ 8 * j + 6), f (8 * j + 7) ^^ decide (c ≤ 8 * j + 7)] = _
  rw [d, d, d, d, d, d, d, d]
  exact e
/-- the last byte cut at the row's end -/
theorem mask_fin : ∀ (k : Fin 8) (a b c d e f g h : Bool), valOf [a, b, c, d, e, f, g, h] &&& (255 * 2 ^ k.val) =
    valOf [a && decide (0 < 8 - k.val), b && decide (1 < 8 - k.val), c && decide (2 < 8 - k.val), d && decide (3 < 8 - k.val), e && decide (4 < 8 - k.val), f && decide (5 < 8 - k.val), g && decide (6 < 8 - k.val), h && decide (7 < 8 - k.val)] := by decide +kernel
theorem mask_in (f : Nat → Bool) (j k : Nat) (hk : k < 8) : byteN f j &&& (255 * 2 ^ k) = byteN (fun x => f x && decide (x < 8 * j + 8 - k)) j := by
  have e := mask_fin ⟨k, hk⟩ (f (8 * j + 0)) (f (8 * j + 1)) (f (8 * j + 2)) (f (8 * j + 3)) (f (8 * j + 4)) (f (8 * j + 5)) (f (8 * j + 6)) (f (8 * j + 7))
  have d : ∀ t : Nat, decide (8 * j + t < 8 * j + 8 - k) = decide (t < 8 - k) := fun t => by
    have : (8 * j + t < 8 * j + 8 - k) ↔ (t < 8 - k) := by omega
    exact decide_eq_decide.mpr this
  unfold byteN
  show _ = valOf [f (8 * j + 0) && decide (8 * j + 0 < 8 * j + 8 - k), f (8 * j + 1) && decide (8 * j + 1 < 8 * j + 8 - k), f (8 * j + 2) && decide (8 * j + 2 < 8 * j + 8 - k), f (8 * j + 3) && decide (8 * j + 3 < 8 * j + 8 - k), f (8 * j + 4) && decide (8 * j + 4 < 8 * j + 8 - k), f (8 * j + 5) && decide (8 * j + 5 < 8 * j + 8 - k), f (8 * j + 6) && decide (8 * j + 6 < 8 * j + 8 - k), f (8 * j + 7) && decide (8 * j + 7 < 8 * j + 8 - k)]
  rw [d, d, d, d, d, d, d, d]
  exact e
/-- what the loop over the changes has: cs those gone through -/
structure Bytes (cs : List Nat) (row : List Nat) (value behind : Nat) : Prop where
  rows : row = (List.range row.length).map (byteN (bitF cs))
  val : value = byteN (bitF cs) row.length
  far : ∀ j, row.length < j → byteN (bitF cs) j = behind
  all : ∀ c ∈ cs, c / 8 ≤ row.length
  par : behind = if cs.length % 2 = 1 then 255 else 0
theorem byteN_const (b : Bool) (f : Nat → Bool) (j : Nat) (h : ∀ t, t < 8 → f (8 * j + t) = b) : byteN f j = if b = true then 255 else 0 := by
  rw [byteN_congr (g := fun _ => b) h]
  cases b <;> rfl
theorem Bytes.start : Bytes [] [] 0 0 :=
  ⟨rfl, rfl, fun j _ => rfl, fun c h => (by cases h), rfl⟩
theorem count_all {cs : List Nat} {x : Nat} (h : ∀ c ∈ cs, c ≤ x) : bitF cs x = (cs.length % 2 == 1) := by
  unfold bitF
  rw [List.countP_eq_length.mpr (fun c hc => by simpa using h c hc)]
theorem far_is {cs : List Nat} {L : Nat} (h : ∀ c ∈ cs, c / 8 ≤ L) {j : Nat} (hj : L < j) : byteN (bitF cs) j = if cs.length % 2 = 1 then 255 else 0 := by
  rw [byteN_const (cs.length % 2 == 1) _ j fun t ht => count_all fun c hc => by
    have := h c hc
    omega]
  by_cases e : cs.length % 2 = 1
  · rw [if_pos e, if_pos (by rw [e]; rfl)]
  · rw [if_neg e, if_neg (fun q => e (eq_of_beq q))]
/-- up to the byte of a place, or further -/
theorem Bytes.upto {cs row : List Nat} {value behind : Nat} (B : Bytes cs row value behind) {J : Nat} (h : row.length < J) :
    Bytes cs (row ++ [value] ++ List.replicate (J - (row.length + 1)) behind) behind behind := by
  have hl : (row ++ [value] ++ List.replicate (J - (row.length + 1)) behind).length = J := by
    rw [List.length_append, List.length_append, List.length_replicate, List.length_singleton]
    omega
  have hrow : row ++ [value] ++ List.replicate (J - (row.length + 1)) behind = (List.range J).map (byteN (bitF cs)) := by
    refine List.ext_getElem? fun i => ?_
    rw [List.getElem?_map]
    by_cases h1 : i < row.length
    · rw [List.append_assoc, List.getElem?_append_left h1, List.getElem?_range (by omega)]
      have e := congrArg (fun l => l[i]?) B.rows
      rw [List.getElem?_map, List.getElem?_range h1] at e
      exact e
    · by_cases h2 : i = row.length
      · subst h2
        rw [List.append_assoc, List.getElem?_append_right (by omega), Nat.sub_self, List.getElem?_range (by omega)]
        show some value = _
        rw [B.val]
        rfl
      · by_cases h3 : i < J
        · rw [List.getElem?_append_right (by rw [List.length_append, List.length_singleton]; omega), List.getElem?_replicate, List.length_append, List.length_singleton, if_pos (by omega), List.getElem?_range h3]
          exact (congrArg some (B.far i (by omega))).symm
        · rw [List.getElem?_eq_none (by omega), List.getElem?_eq_none (by rw [List.length_range]; omega)]
          rfl
  refine ⟨by rw [hl]; exact hrow, ?_, fun j hj => ?_, fun c hc => ?_, B.par⟩
  · rw [hl]
    exact (B.far J h).symm
  · rw [hl] at hj
    exact B.far j (by omega)
  · rw [hl]
    have := B.all c hc
    omega
/-- the change at a place in the byte that stands -/
theorem Bytes.turn {cs row : List Nat} {value behind : Nat} (B : Bytes cs row value behind) {c : Nat} (h : c / 8 = row.length) :
    Bytes (cs ++ [c]) row (value ^^^ (255 / 2 ^ (c % 8))) (behind ^^^ 255) := by
  have all' : ∀ x ∈ cs ++ [c], x / 8 ≤ row.length := fun x hx => by
    rcases List.mem_append.mp hx with q | q
    · exact B.all x q
    · rw [List.mem_singleton.mp q]
      omega
  have par' : behind ^^^ 255 = if (cs ++ [c]).length % 2 = 1 then 255 else 0 := by
    rw [B.par, List.length_append, List.length_singleton]
    rcases Nat.mod_two_eq_zero_or_one cs.length with q | q
    · rw [if_neg (by omega), if_pos (by omega)]
      rfl
    · rw [if_pos (by omega), if_neg (by omega)]
      rfl
  refine ⟨?_, ?_, fun j hj => ?_, all', par'⟩
  · have e := B.rows
    rw [e]
    rw [List.length_map, List.length_range]
    refine List.map_congr_left fun j hj => byteN_congr fun t ht => ?_
    have := List.mem_range.mp hj
    rw [bitF_snoc, decide_eq_false (by omega), Bool.xor_false]
  · rw [B.val]
    have e : bitF (cs ++ [c]) = fun x => bitF cs x ^^ decide (c ≤ x) := by
      funext x
      exact bitF_snoc cs c x
    rw [e, flip_in _ h]
  · rw [far_is all' hj, par']
theorem getD_bitF {r : Row} {x : Nat} (h : x < r.length) : bitF (chs r) x = r.getD x false := by
  have key : ∀ (l : List Nat), l.Pairwise (· < ·) → ∃ j, l.countP (fun c => decide (c ≤ x)) = j ∧ j ≤ l.length ∧ (∀ k, j = k + 1 → l.getD k r.length ≤ x) ∧ (x < l.getD j r.length) := by
    intro l hl
    induction l with
    | nil => exact ⟨0, rfl, Nat.zero_le _, fun k hk => by omega, h⟩
    | cons a l ih =>
      obtain ⟨ha, hl'⟩ := List.pairwise_cons.mp hl
      obtain ⟨j, h1, h2, h3, h4⟩ := ih hl'
      by_cases q : a ≤ x
      · refine ⟨j + 1, ?_, by rw [List.length_cons]; omega, fun k hk => ?_, ?_⟩
        · rw [List.countP_cons_of_pos (by simpa using q), h1]
        · have : k = j := by omega
          subst this
          cases k with
          | zero => exact q
          | succ k =>
            rw [List.getD_cons_succ]
            exact h3 k rfl
        · rw [List.getD_cons_succ]
          exact h4
      · refine ⟨0, ?_, Nat.zero_le _, fun k hk => by omega, ?_⟩
        · rw [List.countP_cons_of_neg (by simpa using q), List.countP_eq_zero]
          intro c hc
          have := ha c hc
          simp
          omega
        · rw [List.getD_cons_zero]
          omega
  obtain ⟨j, h1, h2, h3, h4⟩ := key (chs r) (chsAux_pw r false 0)
  unfold bitF
  rw [h1]
  exact (colour h h3 h4).symm
theorem bytesOf_row (r : Row) : ∀ (k j : Nat), r.length ≤ 8 * (j + k) → 8 * (j + k) < r.length + 8 → bytesOf k (r.drop (8 * j)) = (List.range k).map fun i => UInt8.ofNat (byteN (fun x => r.getD x false) (j + i))
  | 0, _, _, _ => rfl
  | k + 1, j, h1, h2 => by
    have hne : r.drop (8 * j) ≠ [] := by
      intro e
      have := congrArg List.length e
      rw [List.length_drop, List.length_nil] at this
      omega
    rw [bytesOf_cons hne, List.drop_drop]
    have e8 : 8 * j + 8 = 8 * (j + 1) := by omega
    rw [e8, bytesOf_row r k (j + 1) (by omega) (by omega), List.range_succ_eq_map, List.map_cons, List.map_map]
    congr 1
    · unfold byteVal byteN valOf
      show UInt8.ofNat ((List.range 8).foldl (fun n i => 2 * n + ((r.drop (8 * j)).getD i false).toNat) 0) = _
      rw [List.foldl_map]
      congr 1
      congr 1
      funext n i
      rw [getD_drop]
      rfl
    · refine List.map_congr_left fun i _ => ?_
      show _ = UInt8.ofNat (byteN (fun x => r.getD x false) (j + (i + 1)))
      have : j + 1 + i = j + (i + 1) := by omega
      rw [this]
theorem rowBytes_is {r : Row} (h : 1 ≤ r.length) : rowBytes r = (List.range (stride r.length)).map fun i => UInt8.ofNat (byteN (fun x => r.getD x false) i) := by
  have e := bytesOf_row r (stride r.length) 0 (by unfold stride; omega) (by unfold stride; omega)
  rw [Nat.mul_zero, List.drop_zero] at e
  unfold rowBytes
  rw [e]
  refine List.map_congr_left fun i _ => ?_
  rw [Nat.zero_add]
/-- the end: the last byte cut -/
theorem Bytes.stop {r : Row} {row : List Nat} {value behind : Nat} (B : Bytes (chs r) row value behind) (h : 1 ≤ r.length) (hl : row.length < stride r.length) (k : Nat) (hk : k < 8) (hk2 : 8 * stride r.length = r.length + k) :
    (rowBytes r).map (fun b => b.toNat) = ((List.range (stride r.length)).map (byteN (bitF (chs r)))).set (stride r.length - 1) (byteN (bitF (chs r)) (stride r.length - 1) &&& (255 * 2 ^ k)) := by
  rw [rowBytes_is h, List.map_map]
  refine List.ext_getElem? fun i => ?_
  rw [List.getElem?_map]
  by_cases hi : i < stride r.length
  · rw [List.getElem?_range hi]
    have e0 : ((fun b : UInt8 => b.toNat) ∘ fun i => UInt8.ofNat (byteN (fun x => r.getD x false) i)) i = byteN (fun x => r.getD x false) i := by
      show (UInt8.ofNat _).toNat = _
      rw [UInt8.toNat_ofNat', Nat.mod_eq_of_lt (byteN_lt _ _)]
    show some (((fun b : UInt8 => b.toNat) ∘ fun i => UInt8.ofNat (byteN (fun x => r.getD x false) i)) i) = _
    rw [e0]
    by_cases hlast : i = stride r.length - 1
    · subst hlast
      rw [List.getElem?_set_self (by rw [List.length_map, List.length_range]; exact hi), mask_in _ _ _ hk]
      congr 1
      refine byteN_congr fun t ht => ?_
      have eb : 8 * (stride r.length - 1) + 8 - k = r.length := by omega
      rw [eb]
      by_cases hx : 8 * (stride r.length - 1) + t < r.length
      · rw [getD_bitF hx, decide_eq_true hx, Bool.and_true]
      · rw [decide_eq_false hx, Bool.and_false, List.getD_eq_getElem?_getD, List.getElem?_eq_none (by omega)]
        rfl
    · rw [List.getElem?_set_ne (by omega), List.getElem?_map, List.getElem?_range hi]
      show _ = some (byteN (bitF (chs r)) i)
      congr 1
      refine byteN_congr fun t ht => ?_
      exact (getD_bitF (by omega)).symm
  · rw [List.getElem?_eq_none (l := List.range _) (by rw [List.length_range]; omega), List.getElem?_eq_none (by rw [List.length_set, List.length_map, List.length_range]; omega)]
    rfl
end Fax

namespace Fax
open Ql31
/-! ### the page's readers without what is behind the page -/
def fiveE (tg : Bool) : Nat → Bits → R Unit
  | 0, b => .ok ((), b)
  | k + 1, b => if EOL.isPrefixOf b = false then .error (if b.isPrefixOf EOL = true then ENDED else LINE, b.length) else match tagOf tg (b.drop 12) with
    | .error e => .error e
    | .ok (x, t) => if x = false then .error (LINE, (b.drop 12).length) else fiveE tg k t
theorem five_is (tg : Bool) : ∀ (k : Nat) (b : Bits), five tg k b = match fiveE tg k b with
    | .error e => .error e
    | .ok (_, u) => finished u
  | 0, b => rfl
  | k + 1, b => by
    rw [five_step]
    unfold fiveE
    by_cases h : EOL.isPrefixOf b = false
    · rw [if_pos h, if_pos h]
    · rw [if_neg h, if_neg h]
      cases tagOf tg (b.drop 12) with
      | error e => rfl
      | ok x =>
        obtain ⟨x, t⟩ := x
        dsimp only
        by_cases hx : x = false
        · rw [if_pos hx, if_pos hx]
        · rw [if_neg hx, if_neg hx]
          exact five_is tg k t
def behindE {α : Type} (r : R α) : R α := match r with
  | .error e => .error e
  | .ok (l, u) => match finished u with
    | .error e => .error e
    | .ok (_, v) => .ok (l, v)
def linesE (w most : Nat) (two : Bool) : Nat → List Row → Bits → R (List Row)
  | 0, _, b => .error (MANY, b.length)
  | k + 1, l, b => match wantEnd b with
    | .error e => .error e
    | .ok (_, t) => match tagOf two t with
      | .error e => .error e
      | .ok (x, r) =>
        if EOL.isPrefixOf r = true then (if x = false then .error (LINE, r.length + 1) else match fiveE two 5 r with
          | .error e => .error e
          | .ok (_, u) => .ok (l, u))
        else if most ≤ l.length then .error (MANY, r.length)
        else match (if x = true then readAlone w (w + 4) false [] r else if l = [] then .error (LINE, r.length + 1) else readBeside w (l.getLast?.getD (List.replicate w false)) (2 * w + 4) (-1) false [] r) with
          | .error e => .error e
          | .ok (row, u) => linesE w most two k (l ++ [row]) u
theorem lines_is (w most : Nat) (two : Bool) : ∀ (k : Nat) (l : List Row) (b : Bits), readLines w most two k l b = behindE (linesE w most two k l b)
  | 0, l, b => rfl
  | k + 1, l, b => by
    rw [readLines_step]
    unfold linesE
    cases wantEnd b with
    | error e => rfl
    | ok y =>
      obtain ⟨y, t⟩ := y
      dsimp only
      cases tagOf two t with
      | error e => rfl
      | ok y =>
        obtain ⟨x, r⟩ := y
        dsimp only
        by_cases h : EOL.isPrefixOf r = true
        · rw [if_pos h, if_pos h]
          by_cases hx : x = false
          · rw [if_pos hx, if_pos hx]
            rfl
          · rw [if_neg hx, if_neg hx, five_is]
            cases fiveE two 5 r with
            | error e => rfl
            | ok y =>
              obtain ⟨y, u⟩ := y
              unfold behindE
              dsimp only
              first
                | done
                | (cases finished u <;> rfl)
        · rw [if_neg h, if_neg h]
          by_cases hm : most ≤ l.length
          · rw [if_pos hm, if_pos hm]
            rfl
          · rw [if_neg hm, if_neg hm]
            cases (if x = true then readAlone w (w + 4) false [] r else if l = [] then .error (LINE, r.length + 1) else readBeside w (l.getLast?.getD (List.replicate w false)) (2 * w + 4) (-1) false [] r : R Row) with
            | error e => rfl
            | ok y =>
              obtain ⟨row, u⟩ := y
              exact lines_is w most two k (l ++ [row]) u
def plainE (w most : Nat) : Nat → List Row → Bits → R (List Row)
  | 0, _, b => .error (MANY, b.length)
  | k + 1, l, b => if (EOL ++ EOL).isPrefixOf b = true then .ok (l, b.drop 24) else if most ≤ l.length then .error (MANY, b.length)
    else match readBeside w (l.getLast?.getD (List.replicate w false)) (2 * w + 4) (-1) false [] b with
      | .error e => .error e
      | .ok (row, u) => plainE w most k (l ++ [row]) u
theorem plain_is (w most : Nat) : ∀ (k : Nat) (l : List Row) (b : Bits), readPlain w most k l b = behindE (plainE w most k l b)
  | 0, l, b => rfl
  | k + 1, l, b => by
    rw [readPlain_step]
    unfold plainE
    by_cases h : (EOL ++ EOL).isPrefixOf b = true
    · rw [if_pos h, if_pos h]
      unfold behindE
      dsimp only
      first
        | done
        | (cases finished (b.drop 24) <;> rfl)
    · rw [if_neg h, if_neg h]
      by_cases hm : most ≤ l.length
      · rw [if_pos hm, if_pos hm]
        rfl
      · rw [if_neg hm, if_neg hm]
        cases readBeside w (l.getLast?.getD (List.replicate w false)) (2 * w + 4) (-1) false [] b with
        | error e => rfl
        | ok y =>
          obtain ⟨row, u⟩ := y
          exact plain_is w most k (l ++ [row]) u
theorem finished_is (b : Bits) : finished b = if b.length < 8 ∧ (b.all fun x => x == false) = true then .ok ((), []) else .error (BEHIND, b.length) := rfl
end Fax

/-! ### errors of classes over classes over Exception: made by their own __init__, which calls the base's -/
namespace FaxX
open PySem PySem.Spec PyProof.Rows
abbrev exT : List Value := [.type "Exception", .type "BaseException", .type "object"]
/-- own classes, then Exception's chain -/
def Chain (l : List Value) : Prop := ∃ cs : List Addr, l = cs.map Value.ref ++ exT
theorem Chain.pass {l : List Value} (h : Chain l) (self : Value) : refuseLoop self "__setattr__" l = pure () := by
  obtain ⟨cs, rfl⟩ := h
  induction cs with
  | nil => exact F.store_Exception.passes self
  | cons c cs ih =>
    show refuseLoop self "__setattr__" (.ref c :: (cs.map Value.ref ++ exT)) = pure ()
    rw [refuseLoop_ref]
    exact ih
theorem Chain.has {l : List Value} (h : Chain l) (x : String) : l.contains (.type x) = exT.contains (.type x) := by
  obtain ⟨cs, rfl⟩ := h
  induction cs with
  | nil => rfl
  | cons c cs ih =>
    show (Value.ref c :: (cs.map Value.ref ++ exT)).contains (.type x) = _
    rw [List.contains_cons, ih]
    rfl
theorem Chain.some {l : List Value} (h : Chain l) : l.isEmpty = false := by
  obtain ⟨cs, rfl⟩ := h
  cases cs <;> rfl
section
open Builtin Builtin.ObjectAttr
variable {prog : Program} {w : World} {A : Around} {R : Result → Shared → Prop} {hp : Heap} {g : Array GenState} {d : Drawn} {t : Nat} {os : OsState}
theorem osa_chain {K : W.Frag} {name : Str} {tk : Tok} {v : Value} {x C : Addr} {ox : Obj} {od : Option Obj} {cd : ClassData}
    (X : K.In hp) (I : W.InstAt hp x ox C od) (hcd : W.clsIn K C = some cd) (hm : Chain cd.mro) (ha : W.findIn K (.ref C) name = some none)
    (go : wpAny (model prog w) A.in1 (storeInOwnDict (.ref x) (.ref C) (.str name tk) name v false)
      (fun fin s' => match fin with | .done f => R (.ok f) s' | .again c' => c'.quiet = true ∧ codeAny (model prog w) A c' R s') (fun e s' => R (.error e) s') ⟨hp, g, d, t, os⟩) :
    codeAny (model prog w) A (.call (.builtin "object.__setattr__") ⟨[.ref x, .str name tk, v], []⟩) R ⟨hp, g, d, t, os⟩ := by
  have ho : cd.mro.contains (.type "object") = true := by
    rw [hm.has]
    decide +kernel
  have hin : W.mroIn K C (.type "object") = some true := by
    unfold W.mroIn
    rw [hcd, Option.bind_some, hm.some, ho]
    rfl
  have lk : W.Looks (model prog w) hp (isInstance (.ref x) (.type "object")) true := I.type.andThen (W.looks_mroIn X hin)
  have lm : W.Looks (model prog w) hp (mroOf (.ref C)) cd.mro := (W.looks_clsIn X hcd).andThen .now
  have lt : W.Looks (model prog w) hp (storeTaker? none) none := .now
  have SF := F.store_object
  refine codeAny_call_builtin SF.slot.plain SF.entry (@W.check_slot (model prog w) _ _ ⟨hp, g, d, t, os⟩ "object.__setattr__" "object" "__setattr__" (.ref x) [.str name tk, v] [] _ SF.kind SF.split lk (SF.args (.ref x) (.str name tk) v) ?_)
  rw [W.osa_eq, refuse_eq]
  refine wpAny_bind (wpAny_bind (I.type.at (wpAny_bind (lm.at ?_))))
  rw [hm.pass]
  exact wpAny_pure (wpAny_bind (I.type.at (wpAny_bind ((W.looks_findIn X ha).at (wpAny_bind (lt.at go))))))
/-- the first field: a dict is made -/
theorem osa_first {K : W.Frag} {name : Str} {tk : Tok} {v : Value} {x C : Addr} {fv : Array Value} {cd : ClassData}
    (X : K.In hp) (hx : hp.get? x = some { cls := .ref C, data := .fields fv }) (hcd : W.clsIn K C = some cd) (hm : Chain cd.mro) (hh : cd.hasDict = true) (ha : W.findIn K (.ref C) name = some none)
    (go : ∀ h' tk' dx, (∀ b o, b ≠ x → hp.get? b = some o → h'.get? b = some o) → hp.objs.size ≤ dx → dx ≠ x → h'.get? x = some { cls := .ref C, dict := some dx, data := .fields fv } →
      h'.Ns1 dx (fun y => if y = name then some v else none) → R (.ok (.ret .none)) ⟨h', g, d, tk', os⟩) :
    codeAny (model prog w) A (.call (.builtin "object.__setattr__") ⟨[.ref x, .str name tk, v], []⟩) R ⟨hp, g, d, t, os⟩ := by
  have ne : x ≠ hp.objs.size := Nat.ne_of_lt (Heap.lt_size hx)
  refine osa_chain (od := none) X ⟨hx, rfl, rfl, trivial⟩ hcd hm ha ?_
  have lc : W.Looks (model prog w) hp (classData C) cd := W.looks_clsIn X hcd
  obtain ⟨nm, bs, mro, ns, qn, hd, sn, sb, ab, col, del⟩ := cd
  dsimp only at hh
  subst hh
  unfold storeInOwnDict ownDictForStores
  repeat (first | with_reducible refine HandSPX.store_in_new ?_ ?_ | with_reducible refine wpAny_loadPart_at hx ?_ | with_reducible refine lc.at ?_ | wp_step)
  · exact ⟨_, #[], _, (Heap.get?_update_ne _ _ _ _ ne.symm).trans (Heap.get?_push_at rfl rfl), rfl, fun e he => absurd he (by simp), fun _ => rfl⟩
  · intro h' tk' hn' same
    have hx2 : (hp.push { cls := .type "dict", data := .dict #[] }).get? x = some { cls := .ref C, data := .fields fv } := Heap.get?_push_of_some _ hx
    exact go h' tk' hp.objs.size (fun b o hb e => (same.2 b (Nat.ne_of_lt (Heap.lt_size e))).trans ((Heap.get?_update_ne _ _ _ _ hb).trans (Heap.get?_push_of_some _ e))) (Nat.le_refl _) ne.symm
      ((same.2 x ne).trans (Heap.get?_update_self _ hx2 rfl)) hn'
/-- a further field -/
theorem osa_more {K : W.Frag} {name : Str} {tk : Tok} {v : Value} {x C dx : Addr} {fv : Array Value} {cd : ClassData} {m0 : Str → Option Value} {nl : List Str}
    (X : K.In hp) (hx : hp.get? x = some { cls := .ref C, dict := some dx, data := .fields fv }) (hns : hp.Ns1 dx m0) (hw : Within m0 nl) (few : nl.length ≤ 1000) (hcd : W.clsIn K C = some cd) (hm : Chain cd.mro) (hh : cd.hasDict = true) (ha : W.findIn K (.ref C) name = some none)
    (go : ∀ h' tk', (∀ b o, b ≠ dx → hp.get? b = some o → h'.get? b = some o) → h'.Ns1 dx (fun y => if y = name then some v else m0 y) → R (.ok (.ret .none)) ⟨h', g, d, tk', os⟩) :
    codeAny (model prog w) A (.call (.builtin "object.__setattr__") ⟨[.ref x, .str name tk, v], []⟩) R ⟨hp, g, d, t, os⟩ := by
  obtain ⟨od, es, ep, hod, _, _⟩ := hns.count hw
  refine osa_chain (od := some od) X ⟨hx, rfl, rfl, hod⟩ hcd hm ha ?_
  have lc : W.Looks (model prog w) hp (classData C) cd := W.looks_clsIn X hcd
  obtain ⟨nm, bs, mro, ns, qn, hd, sn, sb, ab, col, del⟩ := cd
  dsimp only at hh
  subst hh
  unfold storeInOwnDict ownDictForStores
  repeat (first | with_reducible refine ESX.store_in_old hns hw few ?_ | with_reducible refine wpAny_loadPart_at hx ?_ | with_reducible refine lc.at ?_ | wp_step)
  intro h' tk' hn' same
  exact go h' tk' (fun b o hb e => (same.2 b hb).trans e) hn'
end
open L2
/-- what the written part says of such a class, at C -/
structure ExK (K : PySem.W.Frag) (C : Addr) : Prop where
  cls : ∃ nm q N bs bm sn sub ab col dd k0 k1 k2 k3 k5, K.lookup C = some (excClassObj nm q C N bs bm true sn sub ab col dd k0 k1 k2 k3 k5 "Exception.__new__") ∧ Chain bm
  sa : PySem.W.findIn K (.ref C) "__setattr__" = some (some (.builtin "object.__setattr__"))
  exC : PySem.W.subIn K (.ref C) (.type "BaseException") = some true
  tyC : PySem.W.typeIn K (.ref C) = some (.type "type")
  kC : PySem.W.keepIn K (.ref C) = true
theorem Chain.own {bm : List Value} (h : Chain bm) (C : Addr) : Chain (.ref C :: bm) := by
  obtain ⟨cs, rfl⟩ := h
  exact ⟨C :: cs, rfl⟩
theorem ExK.data {K : PySem.W.Frag} {C : Addr} (T : ExK K C) : ∃ cd, PySem.W.clsIn K C = some cd ∧ Chain cd.mro ∧ cd.hasDict = true := by
  obtain ⟨nm, q, N, bs, bm, sn, sub, ab, col, dd, k0, k1, k2, k3, k5, hC, hbm⟩ := T.cls
  refine ⟨{ name := nm, bases := bs, mro := .ref C :: bm, ns := N, qualname := q, hasDict := true, slotNames := sn, subclasses := sub, abstract := ab, collection := col, hasDel := false }, ?_, hbm.own C, rfl⟩
  unfold PySem.W.clsIn
  rw [hC]
section
variable {X : Cx} {pins : List (Addr × Obj)} {σ : L2.St} {H : Hp} {s : Shared} {a C dx : Addr} {f : Str} {y : V} {u : Value} {fs : List (Str × V)} {Q : Unit → Shared → Prop} {E : Value → Shared → Prop} {A : Around}
/-- self.f = y, the first one -/
theorem put_first (T : ExK X.K C) (I : Inv X pins σ H s) (e : H a = some (exo a C none)) (hno : PySem.W.findIn X.K (.ref C) f = some none) (ry : RelV y u)
    (h : ∀ dx s', H dx = none → dx ≠ a → Inv X pins σ (upd (upd H dx (exd dx [(f, y)])) a (exo a C (some dx))) s' → Q () s') : wpAny (model X.prog X.w) A (setAttr (.ref a) f u) Q E s := by
  obtain ⟨cd, hcd, hch, hhd⟩ := T.data
  obtain ⟨t1, ho⟩ := exo_at I.hok e
  obtain ⟨hp, g, d, t, os⟩ := s
  refine PySem.W.set_plain (od := none) I.kIn ⟨ho, rfl, rfl, trivial⟩ T.sa (osa_first I.kIn ho hcd hch hhd hno fun h' tk' dx keep dn dne hx hn => ?_)
  have hnd : H dx = none := I.hok.fresh dn
  have old : ∀ {b : Addr} {o : Obj}, hp.get? b = some o → b ≠ dx := fun q => Nat.ne_of_lt (Nat.lt_of_lt_of_le (Heap.lt_size q) dn)
  have off : ∀ {b : Addr}, H b = none → b ≠ a := fun n z => by
    rw [z, e] at n
    cases n
  have U : Un X.fs [] H (upd (upd H dx (exd dx [(f, y)])) a (exo a C (some dx))) hp h' :=
    { keep := fun b o q n _ _ => keep b o (off n) q
      slot := fun b o q n _ _ => ⟨o.slots, keep b o (off n) q⟩
      free := fun b o q n _ => (upd_ne (off n)).trans ((upd_ne (old q)).trans n)
      there := fun b o q _ => by
        by_cases hb : b = a
        · rw [hb]
          exact ⟨_, hx⟩
        · exact ⟨o, keep b o hb q⟩
      tups := fun b xs q => (upd_ne (at_ne e q exo_tup)).trans ((upd_ne (ne_of_none q hnd)).trans q)
      frzs := fun b o v q => (upd_ne (at_ne e q exo_frz)).trans ((upd_ne (ne_of_none q hnd)).trans q)
      tbls := fun b ps q => ⟨#[], by rw [upd_ne (at_ne e q exo_tbl), upd_ne (ne_of_none q hnd), q]; simp⟩ }
  refine h dx _ hnd dne (I.un (t' := tk') U fun b o q => ?_)
  by_cases hb : b = a
  · rw [hb, upd_same] at q
    cases q
    rw [hb]
    exact exo_ok hx
  · rw [upd_ne hb] at q
    by_cases hd : b = dx
    · rw [hd, upd_same] at q
      cases q
      rw [hd]
      exact exd_ok hn (relO_put (fs := []) ry fun g => True.intro)
    · rw [upd_ne hd] at q
      have stays : ∀ {c : Addr} {z : Obj}, c ≠ a → hp.get? c = some z → h'.get? c = some z := fun hc k => keep _ _ hc k
      exact (I.hok b o q).stay (fun c v hc z => stays (by
          rcases hc with rfl | hc
          · exact hb
          · exact at_ne e hc exo_own) z)
        (fun c hc => (upd_ne (at_ne e hc exo_own)).trans ((upd_ne (ne_of_none hc hnd)).trans hc)) (fun c xs hc => (upd_ne (at_ne e hc exo_tup)).trans ((upd_ne (ne_of_none hc hnd)).trans hc))
/-- self.f = y, a further one -/
theorem put_more (T : ExK X.K C) (I : Inv X pins σ H s) (e : H a = some (exo a C (some dx))) (ed : H dx = some (exd dx fs)) (hl : fs.length ≤ 900) (hno : PySem.W.findIn X.K (.ref C) f = some none) (ry : RelV y u)
    (h : ∀ s', Inv X pins σ (upd H dx (exd dx ((f, y) :: fs))) s' → Q () s') : wpAny (model X.prog X.w) A (setAttr (.ref a) f u) Q E s := by
  obtain ⟨cd, hcd, hch, hhd⟩ := T.data
  obtain ⟨t1, ho⟩ := exo_at I.hok e
  obtain ⟨mA, hns, rel⟩ := exd_at I.hok ed
  have hw := within_of rel
  obtain ⟨hp, g, d, t, os⟩ := s
  obtain ⟨od, _, _, hod, _, _⟩ := hns.count hw
  refine PySem.W.set_plain (od := some od) I.kIn ⟨ho, rfl, rfl, hod⟩ T.sa (osa_more I.kIn ho hns hw (by rw [List.length_map]; omega) hcd hch hhd hno fun h' tk' keep hn => ?_)
  have hd : ∃ o, h'.get? dx = some o := by
    obtain ⟨o, _, _, q, _⟩ := hn
    exact ⟨o, q⟩
  exact h _ (I.write (t' := tk') (x := dx) (e := dx) (o := exd dx ((f, y) :: fs)) (by rw [ed]; exact True.intro) (.inl rfl) keep hd (exd_ok hn (relO_put ry rel)))
end
/-- self.f = e on an error in the making -/
def tPut (K : PySem.W.Frag) (f : Str) (to te : TE) : TS := fun D σ H => te σ H fun y H1 => to σ H1 fun x H2 => ∃ a C : Addr, x = .ref a ∧ ExK K C ∧ PySem.W.findIn K (.ref C) f = some none ∧
  ((H2 a = some (exo a C none) ∧ ∀ dx, H2 dx = none → dx ≠ a → D.nx σ (upd (upd H2 dx (exd dx [(f, y)])) a (exo a C (some dx)))) ∨
    ∃ (dx : Addr) (fs : List (Str × V)), H2 a = some (exo a C (some dx)) ∧ H2 dx = some (exd dx fs) ∧ fs.length ≤ 900 ∧ D.nx σ (upd H2 dx (exd dx ((f, y) :: fs))))
section
variable {X : Cx} {o e : Expr} {es : List Expr} {to te : TE} {ta : TA} {f : Str} {p p' p1 p2 pos apos : Pos}
theorem ps_put (ho : PE X o to) (he : PE X e te) (hs : swapsWith e (some (.Attribute o f p')) pos.line X.env = pure false := by rfl) : PS X (.Assign [.Attribute o f p'] e pos) (tPut X.K f to te) := by
  refine ⟨fun pins s σ H D I h => ?_⟩
  refine plainObj_wpAny_Assign_Attribute (thn (he.run pins s σ H _ I h) fun v s1 ⟨y, H1, I1, r1, q1⟩ => thn (ho.run pins s1 σ H1 _ I1 q1) fun u s2 ⟨x, H2, I2, r2, a, C, ex, T, hno, q⟩ => ?_) hs
  subst ex
  obtain rfl : u = Value.ref a := r2
  rcases q with ⟨ea, q⟩ | ⟨dx, fs, ea, ed, hl, q⟩
  · exact put_first T I2 ea hno r1 fun dx s' n ne J => ⟨σ, _, J, q dx n ne⟩
  · exact put_more T I2 ea ed hl hno r1 fun s' J => ⟨σ, _, J, q⟩
/-- C.m(e, ..), m a plain def of the class at C -/
theorem pe_base {CX : CXT} {k : Nat} {C g : Addr} {mc : Value} {m : Str} {fd : FuncData} {ps : List Str} {sp : Sp} {E : XK} {tc : TE} {pl : Sem Bool} (ho : PE X o tc) (r : ClX.CRead X.K C mc) (c : PySem.W.findCls X.K (.ref C) mc m = some (.val (.ref g))) (kg : PySem.W.keepIn X.K (.ref g) = true)
    (F : FnOk X.prog X.w X.K X.mg X.base CX k g fd ps sp) (hr : Room k X.A) (hb : Binds X.K fd ps []) (hx : Passes CX X E) (ha : PA X (e :: es) ta)
    (hst : starEach (e :: es) X.env = (false, eval e X.env) :: starEach es X.env := by rfl) (hpl : (backTo pos (starEach es X.env)).any (·.1) = false := by rfl)
    (ht : eval (.Call (.Attribute o m apos) (e :: es) [] pos) X.env = (do
      let ov ← eval o X.env
      standAt apos.atName
      let (f, first) ← holding [ov] (getMethod ov m pl)
      callWith pos f first (backTo pos (starEach (e :: es) X.env)) (backToKw pos (keywordEach [] X.env))) := by rfl) :
    PE X (.Call (.Attribute o m apos) (e :: es) [] pos) (fun σ H Q => tc σ H fun x H1 => x = .ref C ∧ ta σ H1 fun vs H2 => sp vs H2 Q E) := by
  refine ⟨fun pins s σ H Q I h => ?_⟩
  refine PySem.W.methodCall_KW (pl := pl) (thn (ho.run pins s σ H _ I h) fun u s1 ⟨x, H1, I1, rx, ex, q⟩ => ?_) ht
  subst ex
  obtain rfl : u = Value.ref C := rx
  refine PySem.W.method_cls I1.kIn r.ga (ClX.getcval_ok (v := .ref g) I1 r ⟨c, rfl⟩ fun s2 I2 => ?_)
  refine PySem.W.callWith_K (h₀ := X.base) I2.ok.mod.kin kg (thn (ha.run pos pins s2 σ H1 _ I2 q) fun us s3 ⟨vs, H2, I3, rv, q2⟩ => ⟨I3.kIn, ?_⟩) hst hpl
  exact run_fn F hr hb .nil hx I3 rv (by rw [List.append_nil]; exact q2)
/-- x(e, ..), x the class at C, its own __init__ keeping sp -/
theorem pmk_chain {CX : CXT} {x : Str} {C fI : Addr} {k : Nat} {fd : FuncData} {ps : List Str} {sp : Sp} (T : ExK X.K C) (iC : PySem.W.findIn X.K (.ref C) "__init__" = some (some (.ref fI))) (tI : PySem.W.typeIn X.K (.ref fI) = some (.type "function"))
    (F1 : FnOk X.prog X.w X.K X.mg X.base CX k fI fd ps sp) (hr : Room (k + 1) X.A) (hb : Binds X.K fd ps []) (hx : Passes CX X (fun _ _ _ => False)) (hg : Gl X x) (hm : X.mg x = some (.ref C)) (ha : PA X (e :: es) ta)
    (hdb : (x == ("__debug__" : Str)) = false := by decide) (he : starEach (e :: es) X.env = (false, eval e X.env) :: starEach es X.env := by rfl) (hpl : (backTo pos (starEach es X.env)).any (·.1) = false := by rfl) :
    PMk X (.Call (.Name x p) (e :: es) [] pos) (tMkO C sp [] ta) := by
  intro pins s σ H Q I h
  obtain ⟨nm, q, N, bs, bm, sn, sub, ab, col, dd, k0, k1, k2, k3, k5, hC, hbm⟩ := T.cls
  refine wpAny_Call_Name_kw (ld_glob I hg hm ?_ hdb)
  refine PySem.W.callWith_K (h₀ := X.base) I.ok.mod.kin T.kC (thn (ha.run pos pins s σ H _ I h) fun us s1 ⟨vs, H1, I1, r1, hz, q1⟩ => ⟨I1.kIn, ?_⟩) he hpl
  show wpAny _ _ (call (.ref C) us) _ _ _
  obtain ⟨hp, g, dr, tk, os⟩ := s1
  have up : hp.objs.size ≤ hp.objs.size + 1 := Nat.le_succ _
  have hn : H1 (hp.objs.size + 1) = none := I1.hok.fresh up
  have hq := q1 (hp.objs.size + 1) hn
  rw [List.append_nil] at hq
  have kk : ∀ b o, hp.get? b = some o → ((hp.push (PySem.W.kdv_tup us)).push (PySem.HandSPX.excO C hp.objs.size)).get? b = some o := fun b o e => Heap.get?_push_of_some _ (Heap.get?_push_of_some _ e)
  have hget : ((hp.push (PySem.W.kdv_tup us)).push (PySem.HandSPX.excO C hp.objs.size)).get? (hp.objs.size + 1) = some (PySem.HandSPX.excO C hp.objs.size) := by heap_get
  have I2 := I1.laid (t' := tk) (a := hp.objs.size + 1) (o := exo (hp.objs.size + 1) C none) (h' := (hp.push (PySem.W.kdv_tup us)).push (PySem.HandSPX.excO C hp.objs.size)) kk up (exo_ok hget)
  have r2 : Vals (V.ref (hp.objs.size + 1) :: vs) (Value.ref (hp.objs.size + 1) :: us) := .cons rfl r1
  have hl : (Value.ref (hp.objs.size + 1) :: us).length = ps.length := by
    have e := r2.length
    rw [F1.len _ _ _ _ hq] at e
    exact e.symm
  have hus : us.length ≤ sizeLine := by
    rw [← Paired.length r1, sizeLine_eq]
    omega
  have b1 := hb _ (Value.ref (hp.objs.size + 1) :: us) I2.kIn (by rw [List.append_nil]; exact hl)
  rw [List.append_nil] at b1
  refine wpAny_call (PySem.HandSPX.call_own F.excBase_Exception (fun y => hbm.has y) (I1.kIn _ _ hC) (PySem.W.looks_findIn I1.kIn iC) (fun self => PySem.W.bind_fn I1.kIn self tI) hus
    (codeAny_mono (F1.run _ X.stack _ _ ⟨Value.ref (hp.objs.size + 1) :: us, []⟩ (Value.ref (hp.objs.size + 1) :: us) _ _ (fun _ _ _ => False) (hr.make C us []) (I2.env0.make C us []) b1 r2 hq) fun r s' hq' => ?_))
  cases r with
  | error er => exact hx pins σ _ _ er s' I2 hq'
  | ok fl =>
    cases fl with
    | ret u =>
      obtain ⟨v, H2, os2, bare2, un2, hok2, rv, ev, d, fs, ea, ed, hd1, q2⟩ := hq'
      subst ev
      obtain ⟨h2, g2, d2, t2, os'⟩ := s'
      exact ⟨rv, mk_end (raises_own T.exC T.tyC) I1 up kk un2 hok2 os2 bare2 ea ed hd1 q2⟩
    | next => exact False.elim hq'
    | brk => exact False.elim hq'
    | cont => exact False.elim hq'
/-- err.n in an except suite, the error of any class that XfC speaks of -/
theorem pe_of_err {a : Addr} {oe : Obj} {cls : Value} {d : Option Addr} {pn : List (Addr × Obj)} {n : Str} (hz : Zc cls d oe) (hf : ∃ vs, oe.data = .fields vs) (he : PE (X.suite a ((a, oe) :: pn)) e te)
    (hb : attributeBase e n X.env (eval e X.env) = eval e X.env := by rfl) :
    PE (X.suite a ((a, oe) :: pn)) (.Attribute e n pos) (fun σ H Q => te σ H fun x H1 => x = .ref a ∧ ∃ (C dd : Addr) (fs : List (Str × V)) (v : V), cls = .ref C ∧ XfC X.K C ∧ PySem.W.findIn X.K (.ref C) n = some none ∧ d = some dd ∧ H1 dd = some (.xd fs) ∧ fs.lookup n = some v ∧ Q v H1) := by
  refine ⟨fun pins s σ H Q I h => ?_⟩
  refine attr_of hb (thn (he.run pins s σ H _ I h) fun u s1 hh => ?_)
  obtain ⟨x, H1, I1, rx, ex, C, dd, fs, v, ec, T, hno, ed, ea, l, q⟩ := hh
  subst ex ec ed
  obtain rfl : u = Value.ref a := rx
  obtain ⟨ha, _⟩ := I1.pin (a, oe) (List.mem_append_left _ List.mem_cons_self)
  obtain ⟨vs, hd⟩ := hf
  obtain ⟨mA, hns, hr⟩ : ∃ mA, s1.heap.Ns1 dd mA ∧ ∀ f, RelO (fs.lookup f) (mA f) := I1.hok dd _ ea
  obtain ⟨od, ho, hl⟩ := lookIn_ns hns
  obtain ⟨u, hu, ru⟩ := RelO.some_of (v := v) (o := mA n) (by rw [← l]; exact hr n)
  have J : PySem.W.InstAt s1.heap a oe C (some od) := ⟨ha, hz.1, by unfold PySem.W.notCls; rw [hd] <;> rfl, by rw [hz.2]; exact ho⟩
  exact HandSPX.exc_get I1.kIn J T.ga T.gg T.exC (PySem.W.findObj_own T.hdC hno rfl (by rw [hl, hu])) (handed_of ru) ⟨v, H1, I1.tok _, ru, q⟩
end
end FaxX

namespace Fax
open PySem PySem.Spec PyProof.Rows L2
open PySem.W (Codec)
open Ql31 (codeOf run vertical alone beside rowAlone rowBeside)
def fbL : List Str := (["0000", "0001", "0010", "0011", "0100", "0101", "0110", "0111", "1000", "1001", "1010", "1011", "1100", "1101", "1110", "1111"] : List String).map Str.ofString
theorem ifT {c : Bool} {A B : Prop} (hc : c = true) (h : A) : if c = true then A else B := by
  rw [if_pos hc]
  exact h
theorem ifF {c : Bool} {A B : Prop} (hc : c = false) (h : B) : if c = true then A else B := by
  rw [hc, if_neg Bool.false_ne_true]
  exact h
/-! ### text * number -/
theorem op_mul_str {X : Cx} : OpR X (binaryOp .Mult) (fun x y H Q => ∃ z n, x = .str z ∧ y = .int n ∧ MulOk z n ∧ Q (.str (Txt.mul z n)) H) := by
  intro pins s σ H x y v u Q I rx ry h
  obtain ⟨z, n, rfl, rfl, ok, q⟩ := h
  obtain ⟨t, rfl⟩ := rx
  obtain ⟨t', rfl⟩ := ry
  exact PySem.SB.mul ok (fun t' tk => ⟨.str (Txt.mul z n), H, I.tok _, ⟨_, rfl⟩, q⟩)
theorem foldl_cps (x : Array Nat) : ∀ (n : Nat) (acc : Array Nat), ((List.replicate n x).foldl (· ++ ·) acc).toList = acc.toList ++ (List.replicate n x.toList).flatten
  | 0, acc => by simp
  | n + 1, acc => by
    rw [List.replicate_succ, List.foldl_cons, foldl_cps x n, Array.toList_append, List.replicate_succ, List.flatten_cons, List.append_assoc]
theorem bits_mul (z : Str) (n : Nat) : bits (Txt.mul z n) = (List.replicate n (bits z)).flatten := by
  unfold Txt.mul
  by_cases h1 : (n : Int) < 1
  · rw [if_pos h1]
    have : n = 0 := by omega
    subst this
    rfl
  · rw [if_neg h1]
    by_cases h2 : ((n : Int) == 1 || z.length == 0) = true
    · rw [if_pos h2]
      rcases Bool.or_eq_true_iff.mp h2 with e | e
      · have : n = 1 := by
          have := eq_of_beq e
          omega
        subst this
        simp
      · have e' : z.length = 0 := eq_of_beq e
        have hb : bits z = [] := List.eq_nil_of_length_eq_zero (by rw [bits_len]; exact e')
        rw [hb]
        induction n with
        | zero => rfl
        | succ k ih => simp
    · rw [if_neg h2]
      unfold bits
      show (((List.replicate (n : Int).toNat z.cps).foldl (· ++ ·) #[]).toList).map _ = _
      rw [foldl_cps, Int.toNat_natCast, List.map_append, List.map_flatten, List.map_replicate]
      rfl
theorem mulOk_small {z : Str} {n : Nat} (hz : z.length ≤ 1000) (hn : n ≤ 1000) : MulOk z n := by
  refine ⟨?_, fun h1 _ => ?_, fun h1 _ => ?_⟩
  · rw [decide_eq_false (by omega), decide_eq_false (by omega)]
    rfl
  · have h3 : (1000 : Int) ≤ (2 ^ 63 - 1) / (n : Int) := by
      rw [Int.le_ediv_iff_mul_le (by omega)]
      omega
    omega
  · have h4 : z.length * (n : Int).toNat ≤ 1000 * 1000 := Nat.mul_le_mul hz (by omega)
    show decide _ = false
    refine decide_eq_false ?_
    rw [sizeLine_eq]
    omega
/-! ### words for callables and constants -/
def Has (P : Program) (w : World) (K : PySem.W.Frag) (mg : Str → Option Value) (base : Heap) (x : Str) (k : Nat) (ps : List Str) (sp : Sp) : Prop :=
  ∃ (f : Addr) (fd : FuncData), mg x = some (.ref f) ∧ PySem.W.keepIn K (.ref f) = true ∧ Binds K fd ps [] ∧ FnOk P w K mg base CX0 k f fd ps sp
/-- a def as it stands -/
def Stands (K : PySem.W.Frag) (mg : Str → Option Value) (x : Str) (st : Stmt) (ps : List Str) : Prop :=
  ∃ (f : Addr) (fd : FuncData), mg x = some (.ref f) ∧ Fun K x x st f fd ∧ Binds K fd ps []
theorem Stands.has {P : Program} {w : World} {K : PySem.W.Frag} {mg : Str → Option Value} {base : Heap} {x : Str} {st : Stmt} {ps : List Str} {k : Nat} {sp : Sp} (S : Stands K mg x st ps)
    (h : ∀ f fd, Fun K x x st f fd → FnOk P w K mg base CX0 k f fd ps sp) : Has P w K mg base x k ps sp := by
  obtain ⟨f, fd, g, F, b⟩ := S
  exact ⟨f, fd, g, F.kp, b, h f fd F⟩
def CInt (mg : Str → Option Value) (x : Str) (i : Int) : Prop := ∃ t, mg x = some (.int i t)
def CStr (mg : Str → Option Value) (x : Str) (s : Str) : Prop := ∃ t, mg x = some (.str s t)
def CTup (K : PySem.W.Frag) (mg : Str → Option Value) (x : Str) (l : List Str) : Prop := ∃ a, mg x = some (.ref a) ∧ ∀ H, SqT K H a (l.map V.str)
structure Txts (K : PySem.W.Frag) (mg : Str → Option Value) : Prop where
  white : CInt mg "WHITE" 0
  black : CInt mg "BLACK" 1
  ws : CTup K mg "WHITE_SHORT" wsL
  wl : CTup K mg "WHITE_LONG" wlL
  bs : CTup K mg "BLACK_SHORT" bsL
  bl : CTup K mg "BLACK_LONG" blL
  bo : CTup K mg "BOTH_LONG" boL
  longest : CInt mg "LONGEST" 2560
  longCode : CInt mg "LONGEST_CODE" 13
  pass : CStr mg "PASSED_OVER" "0001"
  across : CStr mg "ACROSS" "001"
  st : CTup K mg "STRAIGHT" stL
  reach : CInt mg "STRAIGHT_REACH" 3
  eol : CStr mg "END_OF_LINE" zEol
  four : CTup K mg "FOUR_BITS" fbL
  kAlone : CInt mg "ALONE" 0
  kMixed : CInt mg "MIXED" 1
  kAbove : CInt mg "BY_ABOVE" 2
  mWidth : CInt mg "MOST_WIDTH" 16384
  mRows : CInt mg "MOST_ROWS" 16384
  mLength : CInt mg "MOST_LENGTH" 67108864
  len : mg "len" = none
  range : mg "range" = none
  max : mg "max" = none
  any : mg "any" = none
theorem pe_cint {X : Cx} {x : Str} {i : Int} {t : Tok} {pos : Pos} (g : X.mg x = some (.int i t)) (hg : Gl X x := by rfl) (hd : (x == ("__debug__" : Str)) = false := by decide) : PE X (.Name x pos) (tC (.int i)) := pe_glob hg g ⟨t, rfl⟩ hd
theorem pe_cstr {X : Cx} {x : Str} {z : Str} {t : Tok} {pos : Pos} (g : X.mg x = some (.str z t)) (hg : Gl X x := by rfl) (hd : (x == ("__debug__" : Str)) = false := by decide) : PE X (.Name x pos) (tC (.str z)) := pe_glob hg g ⟨t, rfl⟩ hd
theorem pe_cref {X : Cx} {x : Str} {a : Addr} {pos : Pos} (g : X.mg x = some (.ref a)) (hg : Gl X x := by rfl) (hd : (x == ("__debug__" : Str)) = false := by decide) : PE X (.Name x pos) (tC (.ref a)) := pe_glob hg g rfl hd
def b2 (d : Bool) : Int := if d then 1 else 0
/-! ### the text's defs -/
def topS (i : Nat) : Stmt := PySem.Challenge.pw_faxpages_s02_fax_read.main.body.getD i (.Pass ⟨0, 0, 0, 0⟩)
abbrev sShort : Stmt := topS 15
abbrev sLong : Stmt := topS 16
abbrev sStraight : Stmt := topS 17
abbrev sLengths : Stmt := topS 18
abbrev sShifts : Stmt := topS 19
abbrev sBitText : Stmt := topS 30
abbrev sEnds : Stmt := topS 33
abbrev sWhite : Stmt := topS 34
abbrev sBytesRow : Stmt := topS 35
abbrev sFirst : Stmt := topS 36
abbrev sOpposite : Stmt := topS 37
abbrev sRead : Stmt := topS 47
abbrev sOpening : Stmt := topS 48
abbrev sEnd : Stmt := topS 49
abbrev sReadPage : Stmt := topS 50
abbrev sReadAbove : Stmt := topS 51
abbrev sReadLines : Stmt := topS 52
abbrev sReadEnd : Stmt := topS 53
abbrev sFaultI : Stmt := inClass (topS 21) 0
abbrev sBitsI : Stmt := inClass (topS 31) 0
abbrev sBegins : Stmt := inClass (topS 31) 1
abbrev sNextBit : Stmt := inClass (topS 31) 2
abbrev sNextCode : Stmt := inClass (topS 31) 3
abbrev sNextEol : Stmt := inClass (topS 31) 4
abbrev sZeros : Stmt := inClass (topS 31) 5
abbrev sFill : Stmt := inClass (topS 31) 6
abbrev sReaderI : Stmt := inClass (topS 39) 0
abbrev sRunEnd : Stmt := inClass (topS 39) 1
abbrev sTurn : Stmt := inClass (topS 39) 2
abbrev sRowAlone : Stmt := inClass (topS 39) 3
abbrev sRowAbove : Stmt := inClass (topS 39) 4
abbrev sPassed : Stmt := inClass (topS 39) 5
abbrev sAcrossM : Stmt := inClass (topS 39) 6
abbrev sStraightM : Stmt := inClass (topS 39) 7
abbrev sExcI (i : Nat) : Stmt := inClass (topS (21 + i)) 0
end Fax

namespace Fax
open PySem PySem.Spec PyProof.Rows L2
open PySem.W (Codec)
/-! ### the books -/
def shortS (d : Bool) (n : Nat) : Str := (if d then bsL else wsL).getD n ""
def longS (d : Bool) (k : Nat) : Str := if k ≤ 27 then (if d then blL else wlL).getD (k - 1) "" else boL.getD (k - 28) ""
def strS (d : Int) : Str := stL.getD (3 + d).toNat ""
def runP (d : Bool) : List (Str × Int) := (List.range 64).map (fun n => (shortS d n, (n : Int))) ++ (List.range 40).map (fun k => (longS d (k + 1), (((k + 1) * 64 : Nat) : Int)))
def wayP : List (Str × Int) := [((("0001" : String) : Str), (10 : Int)), ((("001" : String) : Str), (11 : Int))] ++ (List.range 7).map (fun (n : Nat) => (strS (-3 + (n : Int)), -3 + (n : Int)))
def gI : Int → V := V.int
def gW (z : Int) : V := if z = 10 ∨ z = 11 then .non else .int z
def dct (g : Int → V) (prs : List (Str × Int)) : List (Key × V) := prs.map fun x => (Sum.inr x.1, g x.2)
def lk (prs : List (Str × Int)) (s : Str) : Option Int := (prs.find? fun x => decide (x.1 = s)).map (·.2)
theorem dct_val (g : Int → V) (s : Str) : ∀ prs : List (Str × Int), valV (dct g prs) (Sum.inr s) = (lk prs s).map g
  | [] => rfl
  | x :: r => by
    unfold lk dct
    rw [List.map_cons, List.find?_cons]
    by_cases h : x.1 = s
    · rw [valV_pos (by rw [h]), decide_eq_true h]
      rfl
    · rw [valV_neg (fun q => h (Sum.inr.inj q)), decide_eq_false h]
      exact dct_val g s r
theorem lk_mem {prs : List (Str × Int)} {s : Str} {z : Int} (h : lk prs s = some z) : (s, z) ∈ prs := by
  unfold lk at h
  obtain ⟨x, hx, hz⟩ := Option.map_eq_some_iff.mp h
  have h1 := List.find?_some hx
  have h2 := List.mem_of_find?_eq_some hx
  have h3 : x.1 = s := by simpa using h1
  rw [← h3, ← hz]
  exact h2
theorem lk_of {prs : List (Str × Int)} (nd : (prs.map (·.1)).Nodup) {x : Str × Int} (h : x ∈ prs) : lk prs x.1 = some x.2 := by
  induction prs with
  | nil => cases h
  | cons y r ih =>
    obtain ⟨h1, h2⟩ := List.nodup_cons.mp nd
    unfold lk
    rw [List.find?_cons]
    rcases List.mem_cons.mp h with e | e
    · subst e
      rw [decide_eq_true rfl]
      rfl
    · have hne : ¬ y.1 = x.1 := fun q => h1 (List.mem_map.mpr ⟨x, e, q.symm⟩)
      rw [decide_eq_false hne]
      exact ih h2 e
theorem lk_none {prs : List (Str × Int)} {s : Str} (h : lk prs s = none) : ∀ x ∈ prs, x.1 ≠ s := fun x hx e => by
  unfold lk at h
  rw [Option.map_eq_none_iff, List.find?_eq_none] at h
  exact h x hx (by simpa using e)
theorem put_new {kvs : List (Key × V)} {k : Key} {v : V} (h : ∀ x ∈ kvs, x.1 ≠ k) : putK kvs k v = kvs ++ [(k, v)] := by
  unfold putK
  rw [if_neg]
  rw [List.any_eq_true]
  rintro ⟨x, hx, e⟩
  exact h x hx (by simpa using e)
theorem dct_put (g : Int → V) {prs : List (Str × Int)} (nd : (prs.map (·.1)).Nodup) {i : Nat} {x : Str × Int} (h : prs[i]? = some x) : putK (dct g (prs.take i)) (Sum.inr x.1) (g x.2) = dct g (prs.take (i + 1)) := by
  obtain ⟨hi, hx⟩ := List.getElem?_eq_some_iff.mp h
  rw [put_new]
  · unfold dct
    rw [List.take_succ_eq_append_getElem hi, hx, List.map_append]
    rfl
  · intro y hy e
    unfold dct at hy
    obtain ⟨z, hz, rfl⟩ := List.mem_map.mp hy
    have e2 : z.1 = x.1 := Sum.inr.inj e
    obtain ⟨j, hj, hjz⟩ := List.mem_take_iff_getElem.mp hz
    have hjl : j < prs.length := by omega
    have h1 : (prs.map (·.1))[j]'(by rw [List.length_map]; exact hjl) = (prs.map (·.1))[i]'(by rw [List.length_map]; exact hi) := by
      rw [List.getElem_map, List.getElem_map, hjz, hx, e2]
    have := (List.getElem_inj nd).mp h1
    omega
theorem runP_nodup (d : Bool) : ((runP d).map (·.1)).Nodup := by cases d <;> decide +kernel
theorem wayP_nodup : (wayP.map (·.1)).Nodup := by decide +kernel
theorem runP_len (d : Bool) : (runP d).length = 104 := by cases d <;> rfl
theorem runP_short (d : Bool) {n : Nat} (h : n < 64) : (runP d)[n]? = some (shortS d n, (n : Int)) := by
  unfold runP
  rw [List.getElem?_append_left (by rw [List.length_map, List.length_range]; exact h), List.getElem?_map, List.getElem?_range h]
  rfl
theorem runP_long (d : Bool) {k : Nat} (h : k < 40) : (runP d)[64 + k]? = some (longS d (k + 1), (((k + 1) * 64 : Nat) : Int)) := by
  unfold runP
  rw [List.getElem?_append_right (by rw [List.length_map, List.length_range]; omega), List.length_map, List.length_range, Nat.add_sub_cancel_left, List.getElem?_map, List.getElem?_range h]
  rfl
theorem wayP_str {n : Nat} (h : n < 7) : wayP[2 + n]? = some (strS (-3 + (n : Int)), -3 + (n : Int)) := by
  unfold wayP
  rw [List.getElem?_append_right (by show 2 ≤ 2 + n; omega)]
  show ((List.range 7).map _)[2 + n - 2]? = _
  rw [Nat.add_sub_cancel_left, List.getElem?_map, List.getElem?_range h]
  rfl
/-- what is to be held of a book, in one look -/
def bookB (prs : List (Str × Int)) (tbl : List (Int × String)) : Bool :=
  prs.all (fun x => x.1.cps.toList.all (fun c => c == 48 || c == 49) && (decide (1 ≤ x.1.length) && (decide (x.1.length ≤ 13) && tbl.any fun y => Ql31.bitsOf y.2 == bits x.1 && y.1 == x.2))) &&
    (tbl.all (fun y => prs.any fun x => Ql31.bitsOf y.2 == bits x.1) && tbl.all fun x => tbl.all fun y => !((Ql31.bitsOf x.2).isPrefixOf (Ql31.bitsOf y.2)) || x == y)
theorem book_of {prs : List (Str × Int)} {tbl : List (Int × String)} (h : bookB prs tbl = true) : Book prs tbl := by
  unfold bookB at h
  rw [Bool.and_eq_true, Bool.and_eq_true, List.all_eq_true, List.all_eq_true, List.all_eq_true] at h
  obtain ⟨h1, h2, h3⟩ := h
  have h1' : ∀ x ∈ prs, (∀ c ∈ x.1.cps.toList, c = 48 ∨ c = 49) ∧ 1 ≤ x.1.length ∧ x.1.length ≤ 13 ∧ ∃ y ∈ tbl, Ql31.bitsOf y.2 = bits x.1 ∧ y.1 = x.2 := fun x hx => by
    have e := h1 x hx
    rw [Bool.and_eq_true, Bool.and_eq_true, Bool.and_eq_true, List.all_eq_true, List.any_eq_true, decide_eq_true_iff, decide_eq_true_iff] at e
    obtain ⟨e1, e2, e3, y, hy, e4⟩ := e
    rw [Bool.and_eq_true, beq_iff_eq, beq_iff_eq] at e4
    exact ⟨fun c hc => by simpa using e1 c hc, e2, e3, y, hy, e4⟩
  refine ⟨fun x hx => ⟨(h1' x hx).1, (h1' x hx).2.1, (h1' x hx).2.2.1⟩, fun x hx => (h1' x hx).2.2.2, fun y hy => ?_, fun x hx y hy hp => ?_⟩
  · obtain ⟨x, hx, e⟩ := List.any_eq_true.mp (h2 y hy)
    exact ⟨x, hx, eq_of_beq e⟩
  · have e := List.all_eq_true.mp (h3 x hx) y hy
    rw [hp] at e
    exact eq_of_beq e
theorem run_book (d : Bool) : Book (runP d) (rtab d) := book_of (by cases d <;> decide +kernel)
theorem way_book : Book wayP Ql31.ways := book_of (by decide +kernel)
end Fax

namespace Fax
open PySem PySem.Spec PyProof.Rows L2
open PySem.W (Codec)
open Ql31 (codeOf run vertical alone beside rowAlone rowBeside)
theorem mul_len (z : Str) (n : Nat) : (Txt.mul z n).length = n * z.length := by
  rw [← bits_len, bits_mul, flat_len, bits_len]
theorem same_new {H : Hp} {p : Addr} {o : HO} (h : H p = none) : Same H (upd H p o) := fun b u e => by
  rw [upd_ne (ne_of_none e h)]
  exact e
theorem same_put {H H' : Hp} {p : Addr} {o : HO} (s : Same H H') (h : H p = none) : Same H (upd H' p o) := fun b u e => by
  rw [upd_ne (ne_of_none e h)]
  exact s b u e
def vI (l : List Int) : List V := l.map V.int
def spEnds : Sp := fun vs H Q _ => ∃ (a : Addr) (ns : List Int) (w : Nat), vs = [.ref a, .int (w : Int)] ∧ H a = some (.lst (vI ns)) ∧ ns.length ≤ 16384 ∧
  ∀ (H' : Hp) (p : Addr), Same H H' → H p = none → H' p = some (.lst (vI (ns ++ [(w : Int), (w : Int), (w : Int)]))) → Q (.ref p) H'
def spWhite : Sp := fun vs H Q _ => ∃ w : Nat, vs = [.int (w : Int)] ∧
  ∀ (H' : Hp) (p : Addr), Same H H' → H p = none → H' p = some (.lst (vI (chL (List.replicate w false)))) → Q (.ref p) H'
def spFirst (K : PySem.W.Frag) : Sp := fun vs H Q _ => ∃ (a : Addr) (r : Ql31.Row) (i : Nat) (p : Int), vs = [.ref a, .int (i : Int), .int p] ∧ SqL K H a (vI (chL r)) ∧ -1 ≤ p ∧ p < r.length ∧ (∀ k, i = k + 1 → (nth r k : Int) ≤ p) ∧
  ∀ j, Seg r p j → Q (.int (j : Int)) H
theorem before_le {r : Ql31.Row} {p : Int} {i : Nat} (h : ∀ k, i = k + 1 → (nth r k : Int) ≤ p) (hp : p < r.length) : i ≤ (chs r).length := by
  cases i with
  | zero => exact Nat.zero_le _
  | succ k =>
    by_cases q : (chs r).length ≤ k
    · have h1 := h k rfl
      rw [nth_beyond q] at h1
      omega
    · omega
theorem at_ch {r : Ql31.Row} {j : Nat} (h : j < (chs r).length + 3) : atI (vI (chL r)) (j : Int) = some (V.int (nth r j : Int)) := atI_nat (by
  unfold vI
  rw [List.getElem?_map, chL_get h]
  rfl)
theorem parity (j : Nat) : ((j : Int) % 2) = b2 (j % 2 == 1) := by
  rcases Nat.mod_two_eq_zero_or_one j with h | h
  · have e : (j : Int) % 2 = 0 := by omega
    rw [e, h]
    rfl
  · have e : (j : Int) % 2 = 1 := by omega
    rw [e, h]
    rfl
def spOpposite : Sp := fun vs H Q _ => ∃ i c : Int, vs = [.int i, .int c] ∧ Q (.int (i + (i + c) % 2)) H
def spShort : Sp := fun vs H Q _ => ∃ (d : Bool) (n : Nat), vs = [.int (b2 d), .int (n : Int)] ∧ n < 64 ∧ Q (.str (shortS d n)) H
def spLong : Sp := fun vs H Q _ => ∃ (d : Bool) (n : Nat), vs = [.int (b2 d), .int (n : Int)] ∧ 1 ≤ n ∧ n ≤ 40 ∧ Q (.str (longS d n)) H
def spStraight : Sp := fun vs H Q _ => ∃ (d : Int), vs = [.int d] ∧ -3 ≤ d ∧ d ≤ 3 ∧ Q (.str (strS d)) H
def spLengths : Sp := fun vs H Q _ => ∃ (d : Bool), vs = [.int (b2 d)] ∧ ∀ H' p, Same H H' → H p = none → H' p = some (.dK (dct gI (runP d))) → Q (.ref p) H'
def spShifts : Sp := fun vs H Q _ => vs = [] ∧ ∀ H' p, Same H H' → H p = none → H' p = some (.dK (dct gW wayP)) → Q (.ref p) H'
def spEnd2 : Sp := fun vs H Q _ => vs = [.int 2] ∧ ∀ s : Str, bits s = Ql31.EOL ++ Ql31.EOL → Bin s → s.length = 24 → Q (.str s) H
section
variable {P : Program} {w : World} {K : PySem.W.Frag} {mg : Str → Option Value} {base : Heap}
theorem b2_eq {d : Bool} : decide (V.int (b2 d) = V.int 0) = !d := by cases d <;> rfl
theorem scEnds : FnScope ["changes", "width"] ["changes", "width"] (defScope sEnds) := ⟨rfl, rfl, rfl, by decide +kernel, rfl, by decide +kernel, by decide +kernel⟩
theorem has_ends (S : Stands K mg "with_ends" sEnds ["changes", "width"]) : Has P w K mg base "with_ends" 1 ["changes", "width"] spEnds := by
  refine S.has fun f fd F => ?_
  refine F.ok scEnds (fun vs H Q E h => by obtain ⟨a, ns, w, rfl, _⟩ := h; rfl) (fun cdv A outer s H vs Q E hr h => ⟨_,
    pss_one (ps_ret (pe_op op_cat (pv 0) (pe_lst (pa_cons (pv 1) (pa_cons (pv 1) (pa_cons (pv 1) pa_nil)))))), ?_⟩)
  obtain ⟨a, ns, w, rfl, h1, h2, q⟩ := h
  have hz : sizeLine = 16777216 := sizeLine_eq
  refine ⟨_, rfl, _, rfl, _, rfl, _, rfl, (by show 3 ≤ sizeLine; omega), fun l hl => ?_⟩
  have hla : a ≠ l := ne_of_none h1 hl
  refine ⟨a, l, _, _, rfl, rfl, (by rw [upd_ne hla]; exact h1), upd_same, ?_, fun p hp => ?_⟩
  · show (vI ns).length + 3 ≤ sizeLine
    unfold vI
    rw [List.length_map]
    omega
  · have hp0 : H p = none := Same.free (same_new hl) hp
    refine q _ p ((same_new hl).trans (same_new hp)) hp0 ?_
    rw [upd_same]
    unfold vI
    rw [List.map_append]
    rfl
theorem scWhite : FnScope ["width"] ["width"] (defScope sWhite) := ⟨rfl, rfl, rfl, by decide +kernel, rfl, by decide +kernel, by decide +kernel⟩
theorem has_white (S : Stands K mg "white_row" sWhite ["width"]) (hE : Has P w K mg base "with_ends" 1 ["changes", "width"] spEnds) : Has P w K mg base "white_row" 2 ["width"] spWhite := by
  refine S.has fun f fd F => ?_
  obtain ⟨fe, fde, ge, kpe, be, GE⟩ := hE
  refine F.ok scWhite (fun vs H Q E h => by obtain ⟨w, rfl, _⟩ := h; rfl) (fun cdv A outer s H vs Q E hr h => ⟨_,
    pss_one (ps_ret (pe_call GE hr rfl ge kpe be .nil pass0 (pa_cons (pe_lst pa_nil) (pa_cons (pv 0) pa_nil)))), ?_⟩)
  obtain ⟨w, rfl, q⟩ := h
  refine ⟨(by show 0 ≤ sizeLine; exact Nat.zero_le _), fun l hl => ⟨_, rfl, l, [], w, rfl, upd_same, Nat.zero_le _, fun H' p s1 hp e => ?_⟩⟩
  refine q H' p ((same_new hl).trans s1) (Same.free (same_new hl) hp) ?_
  rw [e]
  unfold chL
  rw [chs_white, List.length_replicate]
  rfl
theorem scFirst : FnScope ["changes", "index", "place"] ["changes", "index", "place"] (defScope sFirst) := ⟨rfl, rfl, rfl, by decide +kernel, rfl, by decide +kernel, by decide +kernel⟩
theorem has_first (S : Stands K mg "first_behind" sFirst ["changes", "index", "place"]) : Has P w K mg base "first_behind" 1 ["changes", "index", "place"] (spFirst K) := by
  refine S.has fun f fd F => ?_
  refine F.ok scFirst (fun vs H Q E h => by obtain ⟨a, r, i, p, rfl, _⟩ := h; rfl) (fun cdv A outer s H vs Q E hr h => ⟨_,
    pss_cons (ps_while PassesOwn.never (pt_cmpR op_le (pe_ix ix_list (pv 0) (pv 1) (fun _ _ => rfl)) (pv 2) (nomark _)) (pss_one (ps_aug (i := 1) scFirst.nd rfl (.inl rfl) pe_int ip_add)))
    (pss_one (ps_ret (pv 1))), ?_⟩)
  obtain ⟨a, r, i, p, rfl, hS, h1, h2, h3, q⟩ := h
  refine ⟨fun m σ H' => ∃ i : Nat, σ = [some (.ref a), some (.int (i : Int)), some (.int p)] ∧ H' = H ∧ (∀ k, i = k + 1 → (nth r k : Int) ≤ p) ∧ m = (chs r).length + 1 - i, ⟨_, i, rfl, rfl, h3, rfl⟩, ?_⟩
  rintro m σ H' ⟨i, rfl, rfl, hb, rfl⟩
  have hi := before_le hb h2
  refine ⟨_, rfl, _, rfl, a, _, _, _, rfl, rfl, hS, at_ch (by omega), _, rfl, _, _, rfl, rfl, _, rfl, ?_⟩
  by_cases c : (nth r i : Int) ≤ p
  · refine ifT (decide_eq_true c) ?_
    refine ⟨fun σ H2 => ∃ i' : Nat, i' = i + 1 ∧ σ = [some (.ref a), some (.int (i' : Int)), some (.int p)] ∧ H2 = H', ?_, ?_⟩
    · rintro σ H2 ⟨i', rfl, rfl, rfl⟩
      exact ⟨(chs r).length + 1 - (i + 1), by omega, i + 1, rfl, rfl, fun k hk => by
        have : k = i := by omega
        subst this
        exact c, rfl⟩
    · exact ⟨_, rfl, _, _, rfl, rfl, i + 1, rfl, rfl, rfl⟩
  · refine ifF (decide_eq_false c) ?_
    exact ⟨_, rfl, q i ⟨h1, h2, hb, by omega⟩⟩
theorem scOpposite : FnScope ["index", "colour"] ["index", "colour"] (defScope sOpposite) := ⟨rfl, rfl, rfl, by decide +kernel, rfl, by decide +kernel, by decide +kernel⟩
theorem has_opposite (S : Stands K mg "opposite_from" sOpposite ["index", "colour"]) : Has P w K mg base "opposite_from" 1 ["index", "colour"] spOpposite := by
  refine S.has fun f fd F => ?_
  refine F.ok scOpposite (fun vs H Q E h => by obtain ⟨i, c, rfl, _⟩ := h; rfl) (fun cdv A outer s H vs Q E hr h => ⟨_,
    pss_one (ps_ret (pe_op op_add (pv 0) (pe_op op_mod (pe_op op_add (pv 0) (pv 1)) pe_int))), ?_⟩)
  obtain ⟨i, c, rfl, q⟩ := h
  exact ⟨_, rfl, _, rfl, _, rfl, _, _, rfl, rfl, _, _, rfl, rfl, (by decide : (0 : Int) < 2), _, _, rfl, rfl, q⟩
theorem scShort : FnScope ["colour", "length"] ["colour", "length"] (defScope sShort) := ⟨rfl, rfl, rfl, by decide +kernel, rfl, by decide +kernel, by decide +kernel⟩
theorem has_short (S : Stands K mg "short_code" sShort ["colour", "length"]) (T : Txts K mg) : Has P w K mg base "short_code" 1 ["colour", "length"] spShort := by
  refine S.has fun f fd F => ?_
  obtain ⟨t0, g0⟩ := T.white
  obtain ⟨aw, gw, qw⟩ := T.ws
  obtain ⟨ab, gb, qb⟩ := T.bs
  refine F.ok scShort (fun vs H Q E h => by obtain ⟨d, n, rfl, _⟩ := h; rfl) (fun cdv A outer s H vs Q E hr h => ⟨_, pss_cons (ps_if (pt_cmpR op_eq (pv 0) (pe_cint g0) (nomark _))
      (pss_one (ps_ret (pe_ix ix_tup (pe_cref gw) (pv 1) (fun _ _ => rfl)))) pss_nil)
    (pss_one (ps_ret (pe_ix ix_tup (pe_cref gb) (pv 1) (fun _ _ => rfl)))), ?_⟩)
  obtain ⟨d, n, rfl, hn, q⟩ := h
  obtain ⟨z, h1, h2, h3⟩ := short_ok d n hn
  have ez : shortS d n = z := by
    unfold shortS
    rw [List.getD_eq_getElem?_getD, h1]
    rfl
  rw [ez] at q
  refine ⟨_, rfl, rfl, _, rfl, ?_⟩
  cases d with
  | false =>
    refine ifT b2_eq ?_
    exact ⟨_, rfl, aw, _, _, _, rfl, rfl, qw H, atI_nat (by rw [List.getElem?_map]; exact congrArg _ h1), q⟩
  | true =>
    refine ifF b2_eq ?_
    exact ⟨_, rfl, ab, _, _, _, rfl, rfl, qb H, atI_nat (by rw [List.getElem?_map]; exact congrArg _ h1), q⟩
theorem scStraight : FnScope ["shift"] ["shift"] (defScope sStraight) := ⟨rfl, rfl, rfl, by decide +kernel, rfl, by decide +kernel, by decide +kernel⟩
theorem has_straight (S : Stands K mg "straight_code" sStraight ["shift"]) (T : Txts K mg) : Has P w K mg base "straight_code" 1 ["shift"] spStraight := by
  refine S.has fun f fd F => ?_
  obtain ⟨t0, g0⟩ := T.reach
  obtain ⟨a, g, qa⟩ := T.st
  refine F.ok scStraight (fun vs H Q E h => by obtain ⟨d, rfl, _⟩ := h; rfl) (fun cdv A outer s H vs Q E hr h => ⟨_, pss_one (ps_ret (pe_ix ix_tup (pe_cref g) (pe_op op_add (pe_cint g0) (pv 0)) (fun _ _ => rfl))), ?_⟩)
  obtain ⟨d, rfl, h1, h2, q⟩ := h
  obtain ⟨z, e1, e2, e3⟩ := st_ok d h1 h2
  have ez : strS d = z := by
    unfold strS
    rw [List.getD_eq_getElem?_getD, e1]
    rfl
  rw [ez] at q
  exact ⟨_, rfl, _, _, rfl, rfl, a, _, _, _, rfl, rfl, qa H, at_of (j := (3 + d).toNat) (by omega) (by rw [List.getElem?_map]; exact congrArg _ e1), q⟩
theorem get_in {l : List Str} {i : Nat} (h : i < l.length) : l[i]? = some (l.getD i "") := by
  rw [List.getD_eq_getElem?_getD, List.getElem?_eq_getElem h]
  rfl
theorem scLong : FnScope ["colour", "sixty_fours", "own_codes"] ["colour", "sixty_fours"] (defScope sLong) := ⟨rfl, rfl, rfl, by decide +kernel, rfl, by decide +kernel, by decide +kernel⟩
theorem has_long (S : Stands K mg "long_code" sLong ["colour", "sixty_fours"]) (T : Txts K mg) : Has P w K mg base "long_code" 1 ["colour", "sixty_fours"] spLong := by
  refine S.has fun f fd F => ?_
  obtain ⟨t0, g0⟩ := T.white
  obtain ⟨aw, gw, qw⟩ := T.wl
  obtain ⟨ab, gb, qb⟩ := T.bl
  obtain ⟨ao, go, qo⟩ := T.bo
  refine F.ok scLong (fun vs H Q E h => by obtain ⟨d, n, rfl, _⟩ := h; rfl) (fun cdv A outer s H vs Q E hr h => ⟨_,
    pss_cons (ps_set (i := 2) scLong.nd rfl (.inl rfl) (pe_callB call_len_seq (by rfl) T.len PySem.boot_len (pa_cons (pe_cref gw) pa_nil)))
    (pss_cons (ps_if (pt_cmpR op_gt (pv 1) (pv 2) (nomark _))
      (pss_one (ps_ret (pe_ix ix_tup (pe_cref go) (pe_op op_sub (pe_op op_sub (pv 1) (pv 2)) pe_int) (fun _ _ => rfl)))) pss_nil)
    (pss_cons (ps_if (pt_cmpR op_eq (pv 0) (pe_cint g0) (nomark _))
      (pss_one (ps_ret (pe_ix ix_tup (pe_cref gw) (pe_op op_sub (pv 1) pe_int) (fun _ _ => rfl)))) pss_nil)
    (pss_one (ps_ret (pe_ix ix_tup (pe_cref gb) (pe_op op_sub (pv 1) pe_int) (fun _ _ => rfl)))))), ?_⟩)
  obtain ⟨d, n, rfl, h1, h2, q⟩ := h
  have l27 : ((wlL.map V.str).length : Int) = 27 := rfl
  have lw : wlL.length = 27 := rfl
  have lb : blL.length = 27 := rfl
  have lo : boL.length = 13 := rfl
  refine ⟨aw, _, rfl, .inr (qw H), ?_⟩
  refine ⟨_, rfl, _, rfl, _, _, rfl, rfl, _, rfl, ?_⟩
  by_cases c : n ≤ 27
  · refine ifF (decide_eq_false (by omega)) ?_
    refine ⟨_, rfl, rfl, _, rfl, ?_⟩
    cases d with
    | false =>
      refine ifT b2_eq ?_
      have ez : longS false n = wlL.getD (n - 1) "" := if_pos c
      rw [ez] at q
      exact ⟨_, rfl, _, _, rfl, rfl, aw, _, _, _, rfl, rfl, qw H, at_of (j := n - 1) (by omega) (by rw [List.getElem?_map]; exact congrArg _ (get_in (by omega))), q⟩
    | true =>
      refine ifF b2_eq ?_
      have ez : longS true n = blL.getD (n - 1) "" := if_pos c
      rw [ez] at q
      exact ⟨_, rfl, _, _, rfl, rfl, ab, _, _, _, rfl, rfl, qb H, at_of (j := n - 1) (by omega) (by rw [List.getElem?_map]; exact congrArg _ (get_in (by omega))), q⟩
  · refine ifT (decide_eq_true (by omega)) ?_
    have ez : longS d n = boL.getD (n - 28) "" := if_neg c
    rw [ez] at q
    exact ⟨_, rfl, _, rfl, _, _, rfl, rfl, _, _, rfl, rfl, ao, _, _, _, rfl, rfl, qo H, at_of (j := n - 28) (by omega) (by rw [List.getElem?_map]; exact congrArg _ (get_in (by omega))), q⟩
theorem scEnd : FnScope ["kind"] ["kind"] (defScope sEnd) := ⟨rfl, rfl, rfl, by decide +kernel, rfl, by decide +kernel, by decide +kernel⟩
theorem bin_mul {z : Str} (h : Bin z) (n : Nat) : Bin (Txt.mul z (n : Int)) := by
  have hb := bits_mul z n
  unfold Txt.mul
  by_cases h1 : (n : Int) < 1
  · rw [if_pos h1]
    intro c hc
    cases hc
  · rw [if_neg h1]
    by_cases h2 : ((n : Int) == 1 || z.length == 0) = true
    · rw [if_pos h2]
      exact h
    · rw [if_neg h2]
      intro c hc
      have hc' : c ∈ (((List.replicate (n : Int).toNat z.cps).foldl (· ++ ·) #[]).toList) := hc
      rw [foldl_cps] at hc'
      have hc2 : c ∈ (List.replicate (n : Int).toNat z.cps.toList).flatten := by simpa using hc'
      obtain ⟨l, hl, hcl⟩ := List.mem_flatten.mp hc2
      rw [List.eq_of_mem_replicate hl] at hcl
      exact h c hcl
theorem zEol_bin : Bin zEol := by unfold Bin; decide +kernel
theorem has_end (S : Stands K mg "page_end" sEnd ["kind"]) (T : Txts K mg) : Has P w K mg base "page_end" 1 ["kind"] spEnd2 := by
  refine S.has fun f fd F => ?_
  obtain ⟨t1, g1⟩ := T.kAbove
  obtain ⟨t3, g3⟩ := T.eol
  refine F.ok scEnd (fun vs H Q E h => by obtain ⟨rfl, _⟩ := h; rfl) (fun cdv A outer s H vs Q E hr h => ⟨_,
    pss_cons (ps_if (pt_cmpR op_eq (pv 0) (pe_cint g1) (nomark _)) (pss_one (ps_ret (pe_op op_mul_str (pe_cstr g3) pe_int))) pss_nil)
    pss_never, ?_⟩)
  obtain ⟨rfl, q⟩ := h
  have hl0 := zEol_len
  refine ⟨_, rfl, rfl, _, rfl, ?_⟩
  refine ifT (decide_eq_true rfl) ?_
  refine ⟨zEol, ((2 : Nat) : Int), rfl, rfl, mulOk_small (by omega) (by decide), q _ ?_ (bin_mul zEol_bin 2) ?_⟩
  · rw [bits_mul, eol_bits]
    rfl
  · rw [mul_len]
    omega
theorem scLengths : FnScope ["colour", "lengths", "length", "sixty_fours"] ["colour"] (defScope sLengths) := ⟨rfl, rfl, rfl, by decide +kernel, rfl, by decide +kernel, by decide +kernel⟩
theorem has_lengths (S : Stands K mg "run_lengths" sLengths ["colour"]) (T : Txts K mg) (hS : Has P w K mg base "short_code" 1 ["colour", "length"] spShort) (hL : Has P w K mg base "long_code" 1 ["colour", "sixty_fours"] spLong) :
    Has P w K mg base "run_lengths" 2 ["colour"] spLengths := by
  refine S.has fun f fd F => ?_
  obtain ⟨t1, g1⟩ := T.longest
  obtain ⟨fs, fds, gs, kps, bs, GS⟩ := hS
  obtain ⟨fl, fdl, gfl, kpl, bl, GL⟩ := hL
  refine F.ok scLengths (fun vs H Q E h => by obtain ⟨d, rfl, _⟩ := h; rfl) (fun cdv A outer s H vs Q E hr h => ⟨_,
    pss_cons (ps_set (i := 1) scLengths.nd rfl (.inl rfl) pe_dnewK)
    (pss_cons (ps_for PassesOwn.never rfl (pi_range1 (by rfl) T.range (pa_cons pe_int pa_nil)) (pg_name (i := 2) scLengths.nd rfl (.inl rfl))
      (pss_one (ps_dput (hu_of hr) (pv 1) (pe_call GS hr rfl gs kps bs .nil pass0 (pa_cons (pv 0) (pa_cons (pv 2) pa_nil))) (pv 2) rfl)))
    (pss_cons (ps_for PassesOwn.never rfl (pi_range2 (by rfl) T.range (pa_cons pe_int (pa_cons (pe_op op_add (pe_op op_fdiv (pe_cint g1) pe_int) pe_int) pa_nil))) (pg_name (i := 3) scLengths.nd rfl (.inl rfl))
      (pss_one (ps_dput (hu_of hr) (pv 1) (pe_call GL hr rfl gfl kpl bl .nil pass0 (pa_cons (pv 0) (pa_cons (pv 3) pa_nil))) (pe_op op_mul (pv 3) pe_int) rfl)))
    (pss_one (ps_ret (pv 1))))), ?_⟩)
  obtain ⟨d, rfl, q⟩ := h
  have hz : sizeLine = 16777216 := sizeLine_eq
  have hlen := runP_len d
  intro c hc
  refine ⟨64, rfl, by decide, by decide, ?_⟩
  refine for_range (lo := 0) (n := 64) (fun i σ H' => ∃ v2, σ = [some (.int (b2 d)), some (.ref c), v2, none] ∧ Same H H' ∧ H' c = some (.dK (dct gI ((runP d).take i))))
    ⟨none, rfl, same_new hc, upd_same⟩ ?_ ?_
  · rintro i σ H' hi ⟨v2, rfl, s1, h1⟩
    rw [Int.zero_add]
    refine ⟨_, rfl, _, rfl, _, rfl, _, rfl, d, i, rfl, hi, ?_⟩
    refine ⟨c, _, rfl, DPut.k (k := Sum.inr (shortS d i)) h1 ?_, _, rfl, same_put s1 hc, ?_⟩
    · unfold dct
      rw [List.length_map, List.length_take]
      omega
    · rw [upd_same]
      have e := dct_put gI (runP_nodup d) (runP_short d hi)
      exact congrArg (fun l => some (HO.dK l)) e
  · rintro σ H' ⟨v2, rfl, s1, h1⟩
    refine ⟨_, _, rfl, rfl, ⟨by decide, by decide⟩, _, _, rfl, rfl, 1, 41, rfl, by decide, ?_⟩
    refine for_range (lo := 1) (n := 40) (fun i σ H' => ∃ v2 v3, σ = [some (.int (b2 d)), some (.ref c), v2, v3] ∧ Same H H' ∧ H' c = some (.dK (dct gI ((runP d).take (64 + i)))))
      ⟨_, _, rfl, s1, h1⟩ ?_ ?_
    · rintro i σ H' hi ⟨v2, v3, rfl, s1, h1⟩
      have e1 : (1 : Int) + (i : Int) = ((i + 1 : Nat) : Int) := by omega
      rw [e1]
      refine ⟨_, rfl, _, _, rfl, rfl, .inl ⟨by omega, by omega⟩, _, rfl, _, rfl, _, rfl, d, i + 1, rfl, by omega, by omega, ?_⟩
      refine ⟨c, _, rfl, DPut.k (k := Sum.inr (longS d (i + 1))) h1 ?_, _, _, rfl, same_put s1 hc, ?_⟩
      · unfold dct
        rw [List.length_map, List.length_take]
        omega
      · rw [upd_same]
        have e := dct_put gI (runP_nodup d) (runP_long d hi)
        have e2 : ((i + 1 : Nat) : Int) * 64 = (((i + 1) * 64 : Nat) : Int) := by omega
        dsimp only
        rw [e2]
        exact congrArg (fun l => some (HO.dK l)) e
    · rintro σ H' ⟨v2, v3, rfl, s1, h1⟩
      rw [List.take_of_length_le (by omega)] at h1
      exact ⟨_, rfl, q H' c s1 hc h1⟩
theorem scShifts : FnScope ["shifts", "shift"] [] (defScope sShifts) := ⟨rfl, rfl, rfl, by decide +kernel, rfl, by decide +kernel, by decide +kernel⟩
theorem has_shifts (S : Stands K mg "way_shifts" sShifts []) (T : Txts K mg) (hS : Has P w K mg base "straight_code" 1 ["shift"] spStraight) :
    Has P w K mg base "way_shifts" 2 [] spShifts := by
  refine S.has fun f fd F => ?_
  obtain ⟨t1, g1⟩ := T.pass
  obtain ⟨t2, g2⟩ := T.across
  obtain ⟨t3, g3⟩ := T.reach
  obtain ⟨fs, fds, gs, kps, bs, GS⟩ := hS
  refine F.ok scShifts (fun vs H Q E h => by obtain ⟨rfl, _⟩ := h; rfl) (fun cdv A outer s H vs Q E hr h => ⟨_,
    pss_cons (ps_set (i := 0) scShifts.nd rfl (.inl rfl) (pe_disp (pps_cons (pe_cstr g1) pe_non (pps_cons (pe_cstr g2) pe_non pps_nil)) (by rfl) (by rfl) (fun z => by cases z) (by decide)))
    (pss_cons (ps_for PassesOwn.never rfl (pi_range2 (by rfl) T.range (pa_cons (pe_un un_neg (pe_cint g3)) (pa_cons (pe_op op_add (pe_cint g3) pe_int) pa_nil))) (pg_name (i := 1) scShifts.nd rfl (.inl rfl))
      (pss_one (ps_dput (hu_of hr) (pv 0) (pe_call GS hr rfl gs kps bs .nil pass0 (pa_cons (pv 1) pa_nil)) (pv 1) rfl)))
    (pss_one (ps_ret (pv 0)))), ?_⟩)
  obtain ⟨rfl, q⟩ := h
  have hz : sizeLine = 16777216 := sizeLine_eq
  intro c hc
  refine ⟨upd_same, [(Sum.inr ("0001" : Str), V.non), (Sum.inr ("001" : Str), V.non)], rfl, by decide, ?_⟩
  have e0 : mergeK [] [((Sum.inr ("0001" : Str) : Key), V.non), (Sum.inr ("001" : Str), V.non)] = dct gW (wayP.take 2) := by
    have a1 := dct_put gW wayP_nodup (i := 0) (x := ("0001", 10)) rfl
    have a2 := dct_put gW wayP_nodup (i := 1) (x := ("001", 11)) rfl
    show putK (putK ([] : List (Key × V)) (Sum.inr ("0001" : Str)) V.non) (Sum.inr ("001" : Str)) V.non = _
    rw [← a2, ← a1]
    rfl
  rw [e0]
  refine ⟨_, rfl, _, _, rfl, rfl, -3, 4, rfl, by decide, ?_⟩
  refine for_range (lo := -3) (n := 7) (fun i σ H' => ∃ v1, σ = [some (.ref c), v1] ∧ Same H H' ∧ H' c = some (.dK (dct gW (wayP.take (2 + i)))))
    ⟨none, rfl, same_put (same_new hc) hc, upd_same⟩ ?_ ?_
  · rintro i σ H' hi ⟨v1, rfl, s1, h1⟩
    refine ⟨_, rfl, _, rfl, _, rfl, -3 + (i : Int), rfl, by omega, by omega, ?_⟩
    refine ⟨c, _, rfl, DPut.k (k := Sum.inr (strS (-3 + (i : Int)))) h1 ?_, _, rfl, same_put s1 hc, ?_⟩
    · unfold dct
      rw [List.length_map, List.length_take]
      have : wayP.length = 9 := rfl
      omega
    · rw [upd_same]
      have e := dct_put gW wayP_nodup (wayP_str hi)
      have eg : gW (-3 + (i : Int)) = .int (-3 + (i : Int)) := if_neg (by omega)
      dsimp only at e
      rw [eg] at e
      exact congrArg (fun l => some (HO.dK l)) e
  · rintro σ H' ⟨v1, rfl, s1, h1⟩
    rw [List.take_of_length_le (by show 9 ≤ 2 + 7; decide)] at h1
    exact ⟨_, rfl, q H' c s1 hc h1⟩
end
end Fax

namespace Fax
open PySem PySem.Spec PyProof.Rows L2
open PySem.W (Codec)
/-! ### faults -/
/-- an error of one of the program's classes: its number, its place -/
def FaultAt (K : PySem.W.Frag) (C0 : Addr) (cls : Value) (d : Option Addr) (H' : Hp) (num place : Int) : Prop :=
  ∃ C dd, cls = .ref C ∧ d = some dd ∧ XfC K C ∧ NoAttr K C "number" ∧ NoAttr K C "place" ∧ PySem.W.exmOne K (.ref C) (.ref C0) = some true ∧ H' dd = some (.xd [("place", .int place), ("number", .int num)])
def Fails (K : PySem.W.Frag) (C0 : Addr) (E : XK) (num : Int) (place : Nat) : Prop := ∀ cls d H', FaultAt K C0 cls d H' num (place : Int) → E cls d H'
/-- a reader of the specification, by the program -/
def Does {α : Type} (K : PySem.W.Frag) (C0 : Addr) (T : Str) (r : Ql31.R α) (E : XK) (ok : α → Nat → Prop) : Prop :=
  (∀ x t, r = .ok (x, t) → ∀ p', t = (bits T).drop p' → p' ≤ T.length → ok x p') ∧ (∀ e l, r = .error (e, l) → Fails K C0 E (-10 - (e : Int)) (T.length - l))
def spFaultIK (K : PySem.W.Frag) : Sp := fun vs H Q _ => ∃ (C : Addr), FaxX.ExK K C ∧ NoAttr K C "number" ∧ NoAttr K C "place" ∧ ∃ (a : Addr) (n p : Int) , vs = [.ref a, .int n, .int p] ∧ H a = some (exo a C none) ∧
  ∀ dx H', H dx = none → dx ≠ a → (∀ b, b ≠ a → b ≠ dx → H' b = H b) → H' a = some (exo a C (some dx)) → H' dx = some (exd dx [("place", .int p), ("number", .int n)]) → Q .non H'
def spMade (C : Addr) (n : Int) : Sp := fun vs H Q _ => ∃ (a : Addr) (p : Int) , vs = [.ref a, .int p] ∧ H a = some (exo a C none) ∧
  ∀ dx H', H dx = none → dx ≠ a → (∀ b, b ≠ a → b ≠ dx → H' b = H b) → H' a = some (exo a C (some dx)) → H' dx = some (exd dx [("place", .int p), ("number", .int n)]) → Q .non H'
section
variable {P : Program} {w : World} {K : PySem.W.Frag} {mg : Str → Option Value} {base : Heap} {C0 : Addr}
theorem scFaultI : FnScope ["self", "number", "place"] ["self", "number", "place"] (defScope sFaultI) := ⟨rfl, rfl, rfl, by decide +kernel, rfl, by decide +kernel, by decide +kernel⟩
theorem ok_faultI {f : Addr} {fd : FuncData} (F : Fun K "__init__" "Fault.__init__" sFaultI f fd) : FnOk P w K mg base CX0 1 f fd ["self", "number", "place"] (spFaultIK K) := by
  refine F.ok scFaultI (fun vs H Q E h => by obtain ⟨C, _, _, _, a, n, p, rfl, _⟩ := h; rfl) (fun cdv A outer s H vs Q E hr h => ⟨_,
    pss_cons (FaxX.ps_put (pv 0) (pv 1)) (pss_one (FaxX.ps_put (pv 0) (pv 2))), ?_⟩)
  obtain ⟨C, T, n1, n2, a, n, p, rfl, ha, q⟩ := h
  refine ⟨_, rfl, _, rfl, a, C, rfl, T, n1, .inl ⟨ha, fun dx hdx hne => ?_⟩⟩
  refine ⟨_, rfl, _, rfl, a, C, rfl, T, n2, .inr ⟨dx, [("number", .int n)], upd_same, ?_, (by show 1 ≤ 900; decide), ?_⟩⟩
  · rw [upd_ne hne, upd_same]
  · refine q dx _ hdx hne (fun b h1 h2 => ?_) ?_ upd_same
    · rw [upd_ne h2, upd_ne h1, upd_ne h2]
    · rw [upd_ne (Ne.symm hne), upd_same]
/-- the i-th class over Fault: its number -/
theorem ok_made {C f : Addr} {st : Stmt} {fd : FuncData} {n : Int} (qual : Str) (F : Fun K "__init__" qual st f fd) (sc : FnScope ["self", "place"] ["self", "place"] (defScope st)) (T : FaxX.ExK K C) (n1 : NoAttr K C "number") (n2 : NoAttr K C "place")
    (hn : ∀ (cdv : Value) (A : Around) (outer : List Env) (s : Shared) (H : Hp) (E : XK), Room 1 (A.deeper (envOfC qual (defScope st) s.heap.objs.size f cdv)) →
      PSs (cxOf CX0 P w K mg base ["self", "place"] qual (defScope st) f cdv A outer s H E).nox (defBody st) (fun D σ H' => ∃ v w : V, σ[0]? = some (some v) ∧ σ[1]? = some (some w) ∧ spFaultIK K [v, .int n, w] H' (fun _ H2 => D.nx σ H2) E0)) :
    FnOk P w K mg base CX0 2 f fd ["self", "place"] (spMade C n) := by
  refine F.ok sc (fun vs H Q E h => by obtain ⟨a, p, rfl, _⟩ := h; rfl) (fun cdv A outer s H vs Q E hr h => ⟨_, hn cdv A outer s H E hr, ?_⟩)
  obtain ⟨a, p, rfl, ha, q⟩ := h
  exact ⟨_, _, rfl, rfl, C, T, n1, n2, a, n, p, rfl, ha, q⟩
/-- what the written part says of a class over Fault -/
structure Raisable (P : Program) (w : World) (K : PySem.W.Frag) (mg : Str → Option Value) (base : Heap) (C0 : Addr) (x : Str) (num : Int) (C fI : Addr) (fd : FuncData) : Prop where
  ex : FaxX.ExK K C
  init : PySem.W.findIn K (.ref C) "__init__" = some (some (.ref fI))
  ty : PySem.W.typeIn K (.ref fI) = some (.type "function")
  g : mg x = some (.ref C)
  b : Binds K fd ["self", "place"] []
  F : FnOk P w K mg base CX0 2 fI fd ["self", "place"] (spMade C num)
  xf : XfC K C
  n1 : NoAttr K C "number"
  n2 : NoAttr K C "place"
  em : PySem.W.exmOne K (.ref C) (.ref C0) = some true
def Rs (P : Program) (w : World) (K : PySem.W.Frag) (mg : Str → Option Value) (base : Heap) (C0 : Addr) (x : Str) (num : Int) : Prop := ∃ C fI fd, Raisable P w K mg base C0 x num C fI fd
/-- raise X(e) -/
theorem ps_fault {X : Cx} {W : WX} {C0 C fI : Addr} {fd : FuncData} {x : Str} {num : Int} {e : Expr} {te : TE} {p pos pos2 : Pos} (R : Raisable X.prog X.w X.K X.mg X.base C0 x num C fI fd) (hc : X.calm = true) (tk : Takes X W)
    (hr : Room 3 X.A) (he : PE X e te) (hg : Gl X x := by rfl) (hdb : (x == ("__debug__" : Str)) = false := by decide)
    (hst : starEach (e :: []) X.env = (false, eval e X.env) :: starEach [] X.env := by rfl) (hpl : (backTo pos (starEach [] X.env)).any (·.1) = false := by rfl) :
    PS X (.Raise (some (.Call (.Name x p) [e] [] pos)) none pos2) (fun _ σ H => tMkO C (spMade C num) [] (tCons te tNil) σ H fun cls d H' => W cls d σ H') :=
  ps_raise hc tk (FaxX.pmk_chain (p := p) (pos := pos) R.ex R.init R.ty R.F hr R.b pass0 hg R.g (pa_cons he pa_nil (hs := hst)) hdb hst hpl)
theorem fault_go {C0 C fI : Addr} {fd : FuncData} {x : Str} {num : Int} {E : XK} {pl : Nat} {H1 : Hp} (R : Raisable P w K mg base C0 x num C fI fd) (h : Fails K C0 E num pl) :
    [V.int (pl : Int)].length ≤ 1000 ∧ ∀ a, H1 a = none → spMade C num (.ref a :: ([V.int (pl : Int)] ++ [])) (upd H1 a (exo a C none))
      (fun v H2 => v = .non ∧ ∃ (d : Addr) (fs : List (Str × V)), H2 a = some (exo a C (some d)) ∧ H2 d = some (exd d fs) ∧ H1 d = none ∧ E (.ref C) (some d) (upd (del H2 a) d (.xd fs))) (fun _ _ _ => False) := by
  refine ⟨(by show 1 ≤ 1000; decide), fun a ha => ⟨a, (pl : Int), rfl, upd_same, fun dx H' hdx hne k1 k2 k3 => ⟨rfl, dx, _, k2, k3, ?_, ?_⟩⟩⟩
  · rw [upd_ne hne] at hdx
    exact hdx
  · exact h _ _ _ ⟨C, dx, rfl, rfl, R.xf, R.n1, R.n2, R.em, upd_same⟩
/-! ### the object that holds the bits -/
def bF (T : Str) (p : Nat) : List (Str × V) := [("text", .str T), ("place", .int (p : Int))]
def Bt (CB : Addr) (H : Hp) (a : Addr) (T : Str) (p : Nat) : Prop := ∃ dx, H a = some (.ins CB dx (bF T p))
def Kept (x : Addr) (H H' : Hp) : Prop := ∀ b o, H b = some o → b ≠ x → H' b = some o
theorem Kept.refl (x : Addr) (H : Hp) : Kept x H H := fun _ _ h _ => h
theorem Kept.trans {x : Addr} {H H1 H2 : Hp} (a : Kept x H H1) (b : Kept x H1 H2) : Kept x H H2 := fun c o h n => b c o (a c o h n) n
theorem kept_put {x : Addr} {H : Hp} {o : HO} : Kept x H (upd H x o) := fun b u h n => by
  rw [upd_ne n]
  exact h
theorem kept_same {x : Addr} {H H' : Hp} (h : Same H H') : Kept x H H' := fun b o e _ => h b o e
theorem lk_here {k : Str} {v : V} {r : List (Str × V)} : List.lookup k ((k, v) :: r) = some v := by
  have e : (k == k) = true := beq_self_eq_true k
  simp only [List.lookup, e]
theorem lk_past {k g : Str} {v : V} {r : List (Str × V)} (h : (k == g) = false) : List.lookup k ((g, v) :: r) = List.lookup k r := by
  simp only [List.lookup, h]
theorem bF_text (T : Str) (p : Nat) : (bF T p).lookup ("text" : Str) = some (.str T) := lk_here
theorem bF_place (T : Str) (p : Nat) : (bF T p).lookup ("place" : Str) = some (.int (p : Int)) := (lk_past (by decide +kernel)).trans lk_here
theorem bF_none {m : Str} (T : Str) (p : Nat) (h1 : (m == ("text" : Str)) = false) (h2 : (m == ("place" : Str)) = false) : (bF T p).lookup m = none := (lk_past h1).trans ((lk_past h2).trans rfl)
theorem bF_put (T : Str) (p : Nat) (q : Nat) : putF "place" (.int (q : Int)) (bF T p) = bF T q := by
  unfold bF
  show (if (("text" : Str)) = "place" then _ else _) = _
  rw [if_neg (by decide +kernel)]
  show _ :: (if (("place" : Str)) = "place" then _ else _) = _
  rw [if_pos rfl]
theorem bF_len (T : Str) (p : Nat) : (bF T p).length < 1000 := by show 2 < 1000; decide
/-- what the written part says of the two classes -/
structure Cl (K : PySem.W.Frag) (mg : Str → Option Value) (CB CR : Addr) : Prop where
  cB : Cls K CB
  bT : NoAttr K CB "text"
  bP : NoAttr K CB "place"
  gB : mg "Bits" = some (.ref CB)
  cR : Cls K CR
  rB : NoAttr K CR "bits"
  rW : NoAttr K CR "width"
  rL : NoAttr K CR "lengths"
  rS : NoAttr K CR "shifts"
  gR : mg "RowReader" = some (.ref CR)
def MHas (P : Program) (w : World) (K : PySem.W.Frag) (mg : Str → Option Value) (base : Heap) (CX : CXT) (C : Addr) (m : Str) (k : Nat) (ps : List Str) (sp : Sp) : Prop :=
  ∃ (f : Addr) (fd : FuncData), Meth K C m f ∧ Binds K fd ps [] ∧ FnOk P w K mg base CX k f fd ps sp
def MStands (K : PySem.W.Frag) (C : Addr) (m qual : Str) (st : Stmt) (ps : List Str) : Prop :=
  ∃ (f : Addr) (fd : FuncData), Meth K C m f ∧ Fun K m qual st f fd ∧ Binds K fd ps []
theorem MStands.has {CX : CXT} {C : Addr} {m qual : Str} {st : Stmt} {ps : List Str} {k : Nat} {sp : Sp} (S : MStands K C m qual st ps) (h : ∀ f fd, Fun K m qual st f fd → FnOk P w K mg base CX k f fd ps sp) : MHas P w K mg base CX C m k ps sp := by
  obtain ⟨f, fd, g, F, b⟩ := S
  exact ⟨f, fd, g, b, h f fd F⟩
def HasX (P : Program) (w : World) (K : PySem.W.Frag) (mg : Str → Option Value) (base : Heap) (x : Str) (k : Nat) (ps : List Str) (sp : Sp) : Prop :=
  ∃ (f : Addr) (fd : FuncData), mg x = some (.ref f) ∧ PySem.W.keepIn K (.ref f) = true ∧ Binds K fd ps [] ∧ FnOk P w K mg base (L2.CX P w) k f fd ps sp
theorem Stands.hasX {x : Str} {st : Stmt} {ps : List Str} {k : Nat} {sp : Sp} (S : Stands K mg x st ps)
    (h : ∀ f fd, Fun K x x st f fd → FnOk P w K mg base (L2.CX P w) k f fd ps sp) : HasX P w K mg base x k ps sp := by
  obtain ⟨f, fd, g, F, b⟩ := S
  exact ⟨f, fd, g, F.kp, b, h f fd F⟩
/-! ### bits of bytes -/
theorem four_is : ∀ n : Fin 256, bits (fbL.getD (n.val / 16) "") ++ bits (fbL.getD (n.val % 16) "") = (List.range 8).map fun i => n.val.testBit (7 - i) := by decide +kernel
theorem four_bin : ∀ n : Fin 16, (fbL.getD n.val "").cps.toList.all (fun c => c == 48 || c == 49) = true ∧ (fbL.getD n.val "").length = 4 := by decide +kernel
def byteS (z : Nat) : Str := fbL.getD (z / 16) "" ++ fbL.getD (z % 16) ""
def textS (l : List Nat) : Str := Txt.join "" (l.map byteS)
theorem bin_app {a b : Str} (ha : Bin a) (hb : Bin b) : Bin (a ++ b) := fun c hc => by
  have hc' : c ∈ (a.cps ++ b.cps).toList := hc
  rw [Array.toList_append] at hc'
  rcases List.mem_append.mp hc' with h | h
  · exact ha c h
  · exact hb c h
theorem byte_bin {z : Nat} (h : z < 256) : Bin (byteS z) := by
  have b : ∀ n, n < 16 → Bin (fbL.getD n "") := fun n hn c hc => by
    have := List.all_eq_true.mp (four_bin ⟨n, hn⟩).1 c hc
    simpa using this
  exact bin_app (b _ (by omega)) (b _ (by omega))
theorem byte_bits {z : Nat} (h : z < 256) : bits (byteS z) = (List.range 8).map fun i => z.testBit (7 - i) := by
  unfold byteS
  rw [bits_app]
  exact four_is ⟨z, h⟩
theorem byte_len {z : Nat} (h : z < 256) : (byteS z).length = 8 := by
  rw [← bits_len, byte_bits h, List.length_map, List.length_range]
theorem join_bin : ∀ l : List Str, (∀ s ∈ l, Bin s) → Bin (Txt.join "" l) := fun l h => by
  rw [TL.join_eq]
  induction l with
  | nil => intro c hc; cases hc
  | cons x r ih =>
    cases r with
    | nil => exact h x List.mem_cons_self
    | cons z r =>
      show Bin (x ++ "" ++ Str.join "" (z :: r))
      refine bin_app (bin_app (h x List.mem_cons_self) (fun c hc => ?_)) (ih fun s hs => h s (List.mem_cons_of_mem _ hs))
      have : ("" : Str).cps.toList = [] := by decide +kernel
      rw [this] at hc
      cases hc
theorem text_is {ns : List Int} (h : ∀ z ∈ ns, 0 ≤ z ∧ z ≤ 255) : bits (textS (ns.map Int.toNat)) = Ql31.bitsFrom (Ql31Neutral.octets ns) ∧ Bin (textS (ns.map Int.toNat)) ∧ (textS (ns.map Int.toNat)).length = 8 * ns.length := by
  have hb : bits (textS (ns.map Int.toNat)) = Ql31.bitsFrom (Ql31Neutral.octets ns) := by
    unfold textS Ql31.bitsFrom Ql31Neutral.octets
    rw [bits_joined, List.map_map, List.flatMap_map, List.flatMap_map, List.flatMap_def, List.flatMap_def]
    refine congrArg List.flatten (List.map_congr_left fun z hz => ?_)
    have := h z hz
    show bits (byteS z.toNat) = (List.range 8).map fun i => (UInt8.ofNat z.toNat).toNat.testBit (7 - i)
    rw [byte_bits (by omega), UInt8.toNat_ofNat', Nat.mod_eq_of_lt (by omega)]
  refine ⟨hb, join_bin _ fun s hs => ?_, ?_⟩
  · obtain ⟨n, hn, rfl⟩ := List.mem_map.mp hs
    obtain ⟨z, hz, rfl⟩ := List.mem_map.mp hn
    have := h z hz
    exact byte_bin (by omega)
  · rw [← bits_len, hb, bitsFrom_len]
    unfold Ql31Neutral.octets
    rw [List.length_map]
def spBitText (K : PySem.W.Frag) : Sp := fun vs H Q _ => ∃ (a : Addr) (ns : List Int), vs = [.ref a] ∧ SqL K H a (vI ns) ∧ (∀ z ∈ ns, 0 ≤ z ∧ z ≤ 255) ∧ ns.length ≤ 100000 ∧ ∀ H', Same H H' → Q (.str (textS (ns.map Int.toNat))) H'
theorem scBitText : FnScope ["data", "byte"] ["data"] (defScope sBitText) := ⟨rfl, rfl, rfl, by decide +kernel, rfl, by decide +kernel, by decide +kernel⟩
theorem vS_push (l : List Str) (s : Str) : l.map V.str ++ [V.str s] = (l ++ [s]).map V.str := by
  rw [List.map_append]
  rfl
theorem take_one {α : Type} {l : List α} {i : Nat} {x : α} (h : l[i]? = some x) : l.take (i + 1) = l.take i ++ [x] := by
  obtain ⟨h1, h2⟩ := List.getElem?_eq_some_iff.mp h
  rw [List.take_succ_eq_append_getElem h1, h2]
theorem sum_const {l : List Str} {n : Nat} (h : ∀ s ∈ l, s.length = n) : (l.map (·.length)).sum = l.length * n := by
  induction l with
  | nil => simp
  | cons x r ih =>
    rw [List.map_cons, List.sum_cons, ih fun s hs => h s (List.mem_cons_of_mem _ hs), h x List.mem_cons_self, List.length_cons, Nat.succ_mul, Nat.add_comm]
theorem has_bit_text (S : Stands K mg "bit_text" sBitText ["data"]) (T : Txts K mg) : Has P w K mg base "bit_text" 1 ["data"] (spBitText K) := by
  refine S.has fun f fd F => ?_
  obtain ⟨af, gf, qf⟩ := T.four
  refine F.ok scBitText (fun vs H Q E h => by obtain ⟨a, ns, rfl, _⟩ := h; rfl) (fun cdv A outer s H vs Q E hr h => ⟨_,
    pss_one (ps_ret (pe_join pe_str (pe_lc (own := [("byte", 1)]) (g := gName 1) (tt := tYes) rfl scBitText.nd (pi_list (pv 0)) (blkOk_by (N := ["data", "byte"]) (sc := defScope sBitText) (by decide +kernel))
      (fun _ _ _ _ _ => pg_name (i := 1) scBitText.nd rfl (Or.inl rfl)) (fun _ _ _ _ _ => pts_nil)
      (fun _ _ _ _ _ => pe_op op_add_str (pe_ix (r := rIxT K) ix_tup (pe_cref gf) (pe_op op_shr (pv 1) pe_int) (fun _ _ => rfl)) (pe_ix (r := rIxT K) ix_tup (pe_cref gf) (pe_op op_and (pv 1) pe_int) (fun _ _ => rfl)))))), ?_⟩)
  obtain ⟨a, ns, rfl, hS, hb, hlen, q⟩ := h
  have hz : sizeLine = 16777216 := sizeLine_eq
  have lf : fbL.length = 16 := rfl
  refine ⟨⟨_, rfl⟩, _, rfl, a, rfl, ⟨_, hS⟩, fun D hD => ?_⟩
  have hS0 : SqL K (upd H D (.lst [])) a (vI ns) := (same_new hD).seq hS
  refine lc_list (K := K) (a := a) (xs := vI ns) (fun i H' => Same H H' ∧ H' D = some (.lst ((((ns.map Int.toNat).take i).map byteS).map V.str))) ⟨same_new hD, upd_same⟩ (fun i H' _ p => p.1.seq hS) ?_ ?_
  · rintro i y H' hi ⟨s1, h1⟩
    obtain ⟨z, hzi, rfl⟩ : ∃ z, ns[i]? = some z ∧ y = V.int z := by
      unfold vI at hi
      rw [List.getElem?_map] at hi
      cases e : ns[i]? with
      | none => rw [e] at hi; cases hi
      | some z => rw [e] at hi; exact ⟨z, rfl, (Option.some.inj hi).symm⟩
    have hzr := hb z (List.mem_of_getElem? hzi)
    have hil := (List.getElem?_eq_some_iff.mp hzi).1
    have h16 : z / 2 ^ (4 : Int).toNat = z / 16 := rfl
    have l1 : ∀ n : Nat, n < 16 → (fbL.getD n "").length = 4 := fun n hn => (four_bin ⟨n, hn⟩).2
    have lD : ∀ s ∈ (((ns.map Int.toNat).take i).map byteS), s.length = 8 := fun s hs => by
      obtain ⟨n, hn, rfl⟩ := List.mem_map.mp hs
      obtain ⟨y, hy, rfl⟩ := List.mem_map.mp (List.mem_of_mem_take hn)
      have := hb y hy
      exact byte_len (by omega)
    have e4 : z / 2 ^ (4 : Int).toNat = ((z.toNat / 16 : Nat) : Int) := by
      rw [h16]
      omega
    have e15 : Builtin.bitAnd z 15 = ((z.toNat % 16 : Nat) : Int) := by
      rw [bitAnd_m4]
      omega
    refine ⟨rfl, ?_⟩
    refine ⟨_, rfl, _, _, rfl, rfl, (by decide : (0 : Int) ≤ 4), af, fbL.map V.str, _, .str (fbL.getD (z.toNat / 16) ""), rfl, rfl, qf _, ?_, ?_⟩
    · rw [e4]
      exact atI_nat (by rw [List.getElem?_map, get_in (by omega)]; rfl)
    refine ⟨_, rfl, _, _, rfl, rfl, af, fbL.map V.str, _, .str (fbL.getD (z.toNat % 16) ""), rfl, rfl, qf _, ?_, ?_⟩
    · rw [e15]
      exact atI_nat (by rw [List.getElem?_map, get_in (by omega)]; rfl)
    refine ⟨_, _, rfl, rfl, ?_, _, h1, ?_, same_put s1 hD, ?_⟩
    · rw [l1 _ (by omega), l1 _ (by omega)]
      omega
    · rw [List.length_map, List.length_map, List.length_take, List.length_map]
      omega
    · rw [upd_same, take_one (l := ns.map Int.toNat) (x := z.toNat) (by rw [List.getElem?_map, hzi]; rfl), List.map_append, List.map_append]
      rfl
  · rintro H' ⟨s1, h1⟩
    have hl1 : (vI ns).length = ns.length := by
      unfold vI
      rw [List.length_map]
    rw [hl1, List.take_of_length_le (by rw [List.length_map]; omega)] at h1
    have lD : ∀ s ∈ ((ns.map Int.toNat).map byteS), s.length = 8 := fun s hs => by
      obtain ⟨n, hn, rfl⟩ := List.mem_map.mp hs
      obtain ⟨y, hy, rfl⟩ := List.mem_map.mp hn
      have := hb y hy
      exact byte_len (by omega)
    refine ⟨"", D, (ns.map Int.toNat).map byteS, rfl, rfl, .inl (SqL.of h1), ?_, q H' s1⟩
    rw [sum_const lD, List.length_map, List.length_map]
    have : ("" : Str).length = 0 := by decide +kernel
    rw [this]
    omega
end
end Fax

namespace Fax
open PySem PySem.Spec PyProof.Rows L2
open PySem.W (Codec)
def spBitsI (K : PySem.W.Frag) (CB : Addr) : Sp := fun vs H Q _ => ∃ (x dx a : Addr) (ns : List Int), vs = [.ref x, .ref a] ∧ H x = some (.ins CB dx []) ∧ SqL K H a (vI ns) ∧ (∀ z ∈ ns, 0 ≤ z ∧ z ≤ 255) ∧ ns.length ≤ 100000 ∧
  ∀ H', Bt CB H' x (textS (ns.map Int.toNat)) 0 → Q .non H'
def spBegins (CB : Addr) : Sp := fun vs H Q _ => ∃ (a : Addr) (T c : Str) (p : Nat), vs = [.ref a, .str c] ∧ Bt CB H a T p ∧ Bin T ∧ Bin c ∧ p ≤ T.length ∧ Q (.bl ((bits c).isPrefixOf ((bits T).drop p))) H
def spNextBit (K : PySem.W.Frag) (CB C0 : Addr) : Sp := fun vs H Q E => ∃ (a : Addr) (T : Str) (p : Nat), vs = [.ref a] ∧ Bt CB H a T p ∧ Bin T ∧ p ≤ T.length ∧ T.length ≤ 800000 ∧
  (p = T.length → Fails K C0 E (-14) p) ∧ (∀ x, (bits T)[p]? = some x → ∀ H', Bt CB H' a T (p + 1) → Kept a H H' → Q (.str (if x = true then "1" else "0")) H')
section
variable {P : Program} {w : World} {K : PySem.W.Frag} {mg : Str → Option Value} {base : Heap} {CB CR C0 : Addr}
theorem bF_new (T : Str) : putF "place" (.int 0) (putF "text" (.str T) []) = bF T 0 := by
  show (if (("text" : Str)) = "place" then _ else _) = _
  rw [if_neg (by decide +kernel)]
  rfl
theorem scBitsI : FnScope ["self", "data"] ["self", "data"] (defScope sBitsI) := ⟨rfl, rfl, rfl, by decide +kernel, rfl, by decide +kernel, by decide +kernel⟩
theorem ok_bitsI {f : Addr} {fd : FuncData} (F : Fun K "__init__" "Bits.__init__" sBitsI f fd) (C : Cl K mg CB CR) (hB : Has P w K mg base "bit_text" 1 ["data"] (spBitText K)) : FnOk P w K mg base CX0 2 f fd ["self", "data"] (spBitsI K CB) := by
  obtain ⟨fb, fdb, gb, kpb, bb, GB⟩ := hB
  refine F.ok scBitsI (fun vs H Q E h => by obtain ⟨x, dx, a, ns, rfl, _⟩ := h; rfl) (fun cdv A outer s H vs Q E hr h => ⟨_,
    pss_cons (ps_fld (pv 0) (pe_call GB hr rfl gb kpb bb .nil pass0 (pa_cons (pv 1) pa_nil)) rfl) (pss_one (ps_fld (pv 0) pe_int rfl)), ?_⟩)
  obtain ⟨x, dx, a, ns, rfl, hx, hS, hb, hl, q⟩ := h
  refine ⟨_, rfl, a, ns, rfl, hS, hb, hl, fun H' s1 => ?_⟩
  refine ⟨_, rfl, x, CB, dx, [], rfl, s1 _ _ hx, C.cB, C.bT, (by show 0 < 1000; decide), ?_⟩
  refine ⟨_, rfl, x, CB, dx, _, rfl, upd_same, C.cB, C.bP, (by show 1 < 1000; decide), ?_⟩
  refine q _ ⟨dx, ?_⟩
  rw [upd_same]
  exact congrArg (fun l => some (HO.ins CB dx l)) (bF_new _)
theorem scBegins : FnScope ["self", "code"] ["self", "code"] (defScope sBegins) := ⟨rfl, rfl, rfl, by decide +kernel, rfl, by decide +kernel, by decide +kernel⟩
theorem has_begins (S : MStands K CB "begins_with" "Bits.begins_with" sBegins ["self", "code"]) (C : Cl K mg CB CR) : MHas P w K mg base CX0 CB "begins_with" 1 ["self", "code"] (spBegins CB) := by
  refine S.has fun f fd F => ?_
  refine F.ok scBegins (fun vs H Q E h => by obtain ⟨a, T, c, p, rfl, _⟩ := h; rfl) (fun cdv A outer s H vs Q E hr h => ⟨_,
    pss_one (ps_ret (pe_bm PySem.F.plainAttrs_str PySem.F.slot_str_startswith PySem.F.type_str_startswith mt_startswith3 (pe_fld (pv 0) rfl) (pa_cons (pv 1) (pa_cons (pe_fld (pv 0) rfl) pa_nil)))), ?_⟩)
  obtain ⟨a, T, c, p, rfl, ⟨dx, hB⟩, hT, hc, hp, q⟩ := h
  refine ⟨_, rfl, a, CB, dx, _, _, rfl, hB, C.cB, C.bT, bF_text T p, rfl, _, rfl, _, rfl, a, CB, dx, _, _, rfl, hB, C.cB, C.bP, bF_place T p, _, _, _, rfl, rfl, ?_⟩
  rw [starts3_is hT hc hp]
  exact q
theorem scNextBit : FnScope ["self"] ["self"] (defScope sNextBit) := ⟨rfl, rfl, rfl, by decide +kernel, rfl, by decide +kernel, by decide +kernel⟩
theorem has_next_bit (S : MStands K CB "next_bit" "Bits.next_bit" sNextBit ["self"]) (C : Cl K mg CB CR) (X : Txts K mg) (hD : Rs P w K mg base C0 "DataEnds" (-14)) : MHas P w K mg base (L2.CX P w) CB "next_bit" 4 ["self"] (spNextBit K CB C0) := by
  refine S.has fun f fd F => ?_
  obtain ⟨Cd, fId, fdd, RD⟩ := hD
  refine F.okX scNextBit (fun vs H Q E h => by obtain ⟨a, T, p, rfl, _⟩ := h; rfl) (fun cdv A outer s H vs Q E hr h => ⟨_,
    pss_cons (ps_if (pt_cmpR op_eq (pe_fld (pv 0) rfl) (pe_callB call_len (by rfl) X.len PySem.boot_len (pa_cons (pe_fld (pv 0) rfl) pa_nil)) (nomark _))
      (pss_one (ps_fault (W := fun cls d _ H => E cls d H) RD rfl (takes_of rfl rfl rfl rfl) hr (pe_fld (pv 0) rfl))) pss_nil)
    (pss_cons (ps_fldaug (pv 0) pe_int in_add)
    (pss_one (ps_ret (pe_ix ix_str (pe_fld (pv 0) rfl) (pe_op op_sub (pe_fld (pv 0) rfl) pe_int) (fun _ _ => rfl))))), ?_⟩)
  obtain ⟨a, T, p, rfl, ⟨dx, hB⟩, hT, hp, hl, qF, qO⟩ := h
  have hz : sizeLine = 16777216 := sizeLine_eq
  refine ⟨_, rfl, a, CB, dx, _, _, rfl, hB, C.cB, C.bP, bF_place T p, _, rfl, a, CB, dx, _, _, rfl, hB, C.cB, C.bT, bF_text T p, _, T.length, rfl, ⟨by omega, rfl⟩, rfl, _, rfl, ?_⟩
  have hd : decide (V.int (p : Int) = V.int (T.length : Int)) = decide (p = T.length) := by
    by_cases c : p = T.length
    · rw [decide_eq_true c, c, decide_eq_true rfl]
    · rw [decide_eq_false c, decide_eq_false (fun q => c (by injection q with q; omega))]
  by_cases c : p = T.length
  · refine ifT (hd.trans (decide_eq_true c)) ?_
    exact ⟨_, rfl, a, CB, dx, _, _, rfl, hB, C.cB, C.bP, bF_place T p, fault_go RD (qF c)⟩
  · refine ifF (hd.trans (decide_eq_false c)) ?_
    refine ⟨_, rfl, a, CB, dx, _, _, rfl, hB, C.cB, C.bP, bF_place T p, _, _, rfl, rfl, dx, _, hB, bF_len T p, ?_⟩
    have e1 : (p : Int) + 1 = ((p + 1 : Nat) : Int) := by omega
    dsimp only
    rw [e1, bF_put]
    have hx : ∃ x, (bits T)[p]? = some x := by
      rw [List.getElem?_eq_getElem (by rw [bits_len]; omega)]
      exact ⟨_, rfl⟩
    obtain ⟨x, hx⟩ := hx
    refine ⟨_, rfl, a, CB, dx, _, _, rfl, upd_same, C.cB, C.bT, bF_text T (p + 1), _, rfl, a, CB, dx, _, _, rfl, upd_same, C.cB, C.bP, bF_place T (p + 1), _, _, rfl, rfl, T, _, (if x = true then 49 else 48), rfl, rfl, by omega, ?_, ?_⟩
    · have e2 : ((p + 1 : Nat) : Int) - 1 = (p : Int) := by omega
      rw [e2]
      exact atI_nat (sign_is hT hx)
    · have e3 : V.str ⟨#[if x = true then 49 else 48]⟩ = V.str (if x = true then "1" else "0") := by
        cases x <;> decide +kernel
      rw [e3]
      exact qO x hx _ ⟨dx, upd_same⟩ kept_put
end
end Fax

namespace Fax
open PySem PySem.Spec PyProof.Rows L2
open PySem.W (Codec)
/-- a comprehension over a dict's keys -/
theorem lc_keys {d D : Addr} {o : Obj} {kvs : List (Key × V)} {g : TG} {tt : TT} {te : TE} {vs : List Nat} {σ : L2.St} {H1 : Hp} {Qd : Hp → Prop} (Pv : Nat → Hp → Prop) (h0 : Pv 0 (upd H1 D (.lst []))) (hl : ∀ i H, Pv i H → H d = some (.frz o (.dK kvs)))
    (hs : ∀ i k v H, kvs[i]? = some (k, v) → Pv i H → g (kV k) (wipe σ vs) H fun σ2 H2 => wipe σ2 vs = wipe σ vs ∧ tt σ2 H2 fun b H3 =>
      if b = true then te σ2 H3 fun y H4 => ∃ acc, H4 D = some (.lst acc) ∧ acc.length < sizeLine ∧ Pv (i + 1) (upd H4 D (.lst (acc ++ [y]))) else Pv (i + 1) H3) (hd : ∀ H, Pv kvs.length H → Qd H) :
    ∃ W : Nat → Nat → Hp → Prop, (∃ m, W 0 m (upd H1 D (.lst []))) ∧ ∀ i m H, W i m H →
      ((Itk d o kvs).stop i H ∧ Qd H) ∨ ((Itk d o kvs).go i H ∧ ∃ Nx : Hp → Prop, (∀ H', Nx H' → ∃ m', m' < m ∧ W (i + 1) m' H') ∧ ∀ x H', (Itk d o kvs).yld i H x H' → g x (wipe σ vs) H' fun σ2 H2 => wipe σ2 vs = wipe σ vs ∧ tt σ2 H2 fun b H3 =>
        if b = true then te σ2 H3 fun y H4 => ∃ acc, H4 D = some (.lst acc) ∧ acc.length < sizeLine ∧ Nx (upd H4 D (.lst (acc ++ [y]))) else Nx H3) := by
  refine ⟨fun i m H => m = kvs.length - i ∧ i ≤ kvs.length ∧ Pv i H, ⟨_, rfl, Nat.zero_le _, h0⟩, ?_⟩
  rintro i m H ⟨rfl, hi, p⟩
  by_cases hlt : i < kvs.length
  · refine .inr ⟨⟨hl i H p, hlt⟩, Pv (i + 1), fun H' p' => ⟨kvs.length - (i + 1), by omega, rfl, hlt, p'⟩, fun x H' y => ?_⟩
    obtain ⟨e, k, v, hk, e2⟩ := y
    subst e e2
    exact hs i k v _ hk p
  · have e : i = kvs.length := by omega
    subst e
    exact .inl ⟨⟨hl _ H p, Nat.le_refl _⟩, hd H p⟩
abbrev rdr (T : Str) (p : Nat) : Ql31.Bits := (bits T).drop p
def spNextCode (K : PySem.W.Frag) (CB C0 : Addr) : Sp := fun vs H Q E => ∃ (a da : Addr) (T : Str) (p : Nat) (g : Int → V) (prs : List (Str × Int)) (tbl : List (Int × String)), vs = [.ref a, .ref da] ∧ Bt CB H a T p ∧ Bin T ∧ p ≤ T.length ∧ T.length ≤ 800000 ∧
  H da = some (.dK (dct g prs)) ∧ Book prs tbl ∧ (prs.map (·.1)).Nodup ∧ prs.length ≤ 1000 ∧
  (∀ s z, (s, z) ∈ prs → Ql31.code tbl (rdr T p) = .ok (z, rdr T (p + s.length)) → p + s.length ≤ T.length → ∀ H', Bt CB H' a T (p + s.length) → Kept a H H' → Q (.str s) H') ∧
  (∀ e l, Ql31.code tbl (rdr T p) = .error (e, l) → Fails K C0 E (-10 - (e : Int)) (T.length - l))
section
variable {P : Program} {w : World} {K : PySem.W.Frag} {mg : Str → Option Value} {base : Heap} {CB CR C0 : Addr}
theorem scNextCode : FnScope ["self", "codes", "length", "code", "rest"] ["self", "codes"] (defScope sNextCode) := ⟨rfl, rfl, rfl, by decide +kernel, rfl, by decide +kernel, by decide +kernel⟩
theorem sl_len {T : Str} {p L : Nat} : (cutS T (some (p : Int)) (some ((p + L : Nat) : Int))).length = min L (T.length - p) := by
  rw [← bits_len, cut_bits, List.length_take, List.length_drop, bits_len]
  congr 1
  omega
theorem sl_pre {T : Str} {p L : Nat} : bits (cutS T (some (p : Int)) (some ((p + L : Nat) : Int))) = (rdr T p).take L := by
  rw [cut_bits]
  congr 1
  omega
theorem has_next_code (S : MStands K CB "next_code" "Bits.next_code" sNextCode ["self", "codes"]) (C : Cl K mg CB CR) (X : Txts K mg) (hD : Rs P w K mg base C0 "DataEnds" (-14)) (hN : Rs P w K mg base C0 "NoCode" (-11)) :
    MHas P w K mg base (L2.CX P w) CB "next_code" 4 ["self", "codes"] (spNextCode K CB C0) := by
  refine S.has fun f fd F => ?_
  obtain ⟨Cd, fId, fdd, RD⟩ := hD
  obtain ⟨Cn, fIn, fdn, RN⟩ := hN
  obtain ⟨tl, gl⟩ := X.longCode
  refine F.okX scNextCode (fun vs H Q E h => by obtain ⟨a, da, T, p, g, prs, tbl, rfl, _⟩ := h; rfl) (fun cdv A outer s H vs Q E hr h => ⟨_,
    pss_cons (ps_for (passes_of rfl) rfl (pi_range2 (by rfl) X.range (pa_cons pe_int (pa_cons (pe_op op_add (pe_cint gl) pe_int) pa_nil))) (pg_name (i := 2) scNextCode.nd rfl (.inl rfl))
      (pss_cons (ps_set (i := 3) scNextCode.nd rfl (.inl rfl) (pe_slice sl_str (pe_fld (pv 0) rfl) (po_some (pe_fld (pv 0) rfl)) (po_some (pe_op op_add (pe_fld (pv 0) rfl) (pv 2)))))
      (pss_one (ps_if (pt_cmp (pc_din (hu_of hr) (pv 3) (pv 1)))
        (pss_cons (ps_fldaug (pv 0) (pv 2) in_add) (pss_one (ps_ret (pv 3)))) pss_nil))))
    (pss_cons (ps_set (i := 4) scNextCode.nd rfl (.inr rfl) (pe_slice sl_str (pe_fld (pv 0) rfl) (po_some (pe_fld (pv 0) rfl)) (po_some (pe_op op_add (pe_fld (pv 0) rfl) (pe_cint gl)))))
    (pss_cons (ps_if (pt_val (pe_callB (cr_any rfl) (by rfl) X.any (by decide +kernel) (pa_cons (pe_lock (pe_lc (own := [("code", 3)]) (g := gName 3) (tt := tYes) rfl scNextCode.nd (pi_keys (pv 1)) (blkOk_by (N := ["self", "codes", "length", "code", "rest"]) (sc := defScope sNextCode) (by decide +kernel))
        (fun _ _ _ _ _ => pg_name (i := 3) scNextCode.nd rfl (Or.inl rfl)) (fun _ _ _ _ _ => pts_nil)
        (fun _ _ _ _ _ => pe_m1 PySem.F.slot_str_startswith PySem.F.type_str_startswith mt_startswith (pv 3) (pv 4)))) pa_nil)))
      (pss_one (ps_fault (W := fun cls d _ H => E cls d H) RD rfl (takes_of rfl rfl rfl rfl) hr (pe_fld (pv 0) rfl))) pss_nil)
    (pss_one (ps_fault (W := fun cls d _ H => E cls d H) RN rfl (takes_of rfl rfl rfl rfl) hr (pe_fld (pv 0) rfl))))), ?_⟩)
  obtain ⟨a, da, T, p, g, prs, tbl, rfl, ⟨dx, hB⟩, hT, hp, hl, hda, hbk, hnd, hpl, qO, qE⟩ := h
  have hz : sizeLine = 16777216 := sizeLine_eq
  have hne : a ≠ da := ne_of hB hda (by intro z; cases z)
  have hbl := bits_len T
  refine ⟨_, _, rfl, rfl, 1, 14, rfl, by decide, ?_⟩
  refine for_range (lo := 1) (n := 13) (fun i σ H' => ∃ v2 v3, σ = [some (.ref a), some (.ref da), v2, v3, none] ∧ H' = H ∧ ∀ L, 1 ≤ L → L ≤ i → lk prs (cutS T (some (p : Int)) (some ((p + L : Nat) : Int))) = none)
    ⟨none, none, rfl, rfl, fun L h1 h2 => by omega⟩ ?_ ?_
  · rintro i σ H' hi ⟨v2, v3, rfl, rfl, hno⟩
    have e1 : (1 : Int) + (i : Int) = ((i + 1 : Nat) : Int) := by omega
    have e2 : (p : Int) + ((i + 1 : Nat) : Int) = ((p + (i + 1) : Nat) : Int) := by omega
    rw [e1]
    refine ⟨_, rfl, a, CB, dx, _, _, rfl, hB, C.cB, C.bT, bF_text T p, ?_⟩
    refine ⟨_, rfl, a, CB, dx, _, _, rfl, hB, C.cB, C.bP, bF_place T p, _, rfl, ?_⟩
    refine ⟨_, rfl, a, CB, dx, _, _, rfl, hB, C.cB, C.bP, bF_place T p, _, rfl, _, _, rfl, rfl, _, rfl, T, rfl, by omega, ?_⟩
    rw [e2]
    refine ⟨_, rfl, _, rfl, da, _, rfl, DGet.k (k := Sum.inr (cutS T (some (p : Int)) (some ((p + (i + 1) : Nat) : Int)))) hda, _, rfl, ?_⟩
    rw [dct_val]
    cases hk : lk prs (cutS T (some (p : Int)) (some ((p + (i + 1) : Nat) : Int))) with
    | none =>
      refine ifF rfl ?_
      refine ⟨_, _, rfl, rfl, fun L h1 h2 => ?_⟩
      by_cases h3 : L ≤ i
      · exact hno L h1 h3
      · have : L = i + 1 := by omega
        rw [this]
        exact hk
    | some z =>
      refine ifT rfl ?_
      have hm := lk_mem hk
      have hlen := sl_len (T := T) (p := p) (L := i + 1)
      have hb1 : 1 ≤ (cutS T (some (p : Int)) (some ((p + (i + 1) : Nat) : Int))).length := (hbk.bin _ hm).2.1
      have hLe : i + 1 ≤ T.length - p := by
        by_cases h : i + 1 ≤ T.length - p
        · exact h
        · exfalso
          have h2 := hno (T.length - p) (by omega) (by omega)
          have h3 : cutS T (some (p : Int)) (some ((p + (T.length - p) : Nat) : Int)) = cutS T (some (p : Int)) (some ((p + (i + 1) : Nat) : Int)) := by
            refine bits_inj (cut_bin hT _ _) (cut_bin hT _ _) ?_
            rw [sl_pre, sl_pre, List.take_of_length_le (by rw [List.length_drop]; omega), List.take_of_length_le (by rw [List.length_drop]; omega)]
          rw [h3, hk] at h2
          cases h2
      have hlen2 : (cutS T (some (p : Int)) (some ((p + (i + 1) : Nat) : Int))).length = i + 1 := by omega
      have hpre : (bits (cutS T (some (p : Int)) (some ((p + (i + 1) : Nat) : Int)))).isPrefixOf (rdr T p) = true := by
        rw [sl_pre, List.isPrefixOf_iff_prefix]
        exact List.take_prefix _ _
      have hco := code_found hbk hm hpre
      refine ⟨_, rfl, a, CB, dx, _, _, rfl, hB, C.cB, C.bP, bF_place T p, _, rfl, _, _, rfl, rfl, dx, _, hB, bF_len T p, ?_⟩
      dsimp only
      rw [e2, bF_put]
      refine ⟨_, rfl, qO _ z hm ?_ (by omega) _ ⟨dx, by rw [hlen2]; exact upd_same⟩ kept_put⟩
      rw [hco, hlen2]
      show Except.ok (z, ((bits T).drop p).drop _) = _
      rw [List.drop_drop]
  · rintro σ H' ⟨v2, v3, rfl, rfl, hno⟩
    have e2 : (p : Int) + 13 = ((p + 13 : Nat) : Int) := by omega
    refine ⟨_, rfl, a, CB, dx, _, _, rfl, hB, C.cB, C.bT, bF_text T p, ?_⟩
    refine ⟨_, rfl, a, CB, dx, _, _, rfl, hB, C.cB, C.bP, bF_place T p, _, rfl, ?_⟩
    refine ⟨_, rfl, a, CB, dx, _, _, rfl, hB, C.cB, C.bP, bF_place T p, _, _, rfl, rfl, _, rfl, T, rfl, by omega, ?_⟩
    rw [e2]
    have hnone : ∀ x ∈ prs, ¬ (bits x.1).isPrefixOf (rdr T p) = true := fun x hx hpre => by
      obtain ⟨b1, b2, b3⟩ := hbk.bin x hx
      have hq := List.isPrefixOf_iff_prefix.mp hpre
      have hle := hq.length_le
      rw [bits_len, List.length_drop] at hle
      have h1 := hno x.1.length b2 b3
      have h2 : cutS T (some (p : Int)) (some ((p + x.1.length : Nat) : Int)) = x.1 := by
        refine bits_inj (cut_bin hT _ _) b1 ?_
        rw [sl_pre, ← bits_len]
        exact (List.prefix_iff_eq_take.mp hq).symm
      rw [h2, lk_of hnd hx] at h1
      cases h1
    have hco := code_none hbk hnone
    have hrb : bits (cutS T (some (p : Int)) (some ((p + 13 : Nat) : Int))) = (rdr T p).take 13 := sl_pre
    have hrbin : Bin (cutS T (some (p : Int)) (some ((p + 13 : Nat) : Int))) := cut_bin hT _ _
    have hleft : T.length - (rdr T p).length = p := by rw [List.length_drop, hbl]; omega
    refine ⟨da, _, hda, trivial, fun od => ?_⟩
    refine ⟨_, rfl, da, od, rfl, .inl ⟨_, upd_same, fun D hD => ?_⟩⟩
    have hDda : D ≠ da := fun e => by
      rw [e, upd_same] at hD
      cases hD
    have hDH : H' D = none := by rw [upd_ne hDda] at hD; exact hD
    refine lc_keys (o := od) (kvs := dct g prs) (fun i H2 => (∀ b o, H' b = some o → b ≠ da → H2 b = some o) ∧ H2 da = some (.frz od (.dK (dct g prs))) ∧
      H2 D = some (.lst (((prs.take i).map fun x => Txt.startswith x.1 (cutS T (some (p : Int)) (some ((p + 13 : Nat) : Int)))).map V.bl))) ⟨fun b o h1 h2 => ?_, ?_, upd_same⟩ (fun i H2 h => h.2.1) ?_ ?_
    · rw [upd_ne (ne_of_none h1 hDH), upd_ne h2]
      exact h1
    · rw [upd_ne (Ne.symm hDda), upd_same]
    · rintro i k v H2 hk ⟨k1, k2, k3⟩
      obtain ⟨x, hx, e⟩ : ∃ x, prs[i]? = some x ∧ (Sum.inr x.1, g x.2) = ((k, v) : Key × V) := by
        unfold dct at hk
        rw [List.getElem?_map] at hk
        cases e : prs[i]? with
        | none => rw [e] at hk; cases hk
        | some x => rw [e] at hk; exact ⟨x, rfl, Option.some.inj hk⟩
      obtain ⟨rfl, rfl⟩ := Prod.mk.inj e
      refine ⟨rfl, _, rfl, ⟨_, rfl⟩, _, rfl, _, _, rfl, rfl, _, k3, ?_, fun b o h1 h2 => ?_, ?_, ?_⟩
      · rw [List.length_map, List.length_map, List.length_take]
        omega
      · rw [upd_ne (ne_of_none h1 hDH)]
        exact k1 b o h1 h2
      · rw [upd_ne (Ne.symm hDda)]
        exact k2
      · rw [upd_same, take_one hx, List.map_append, List.map_append]
        rfl
    · rintro H2 ⟨k1, k2, k3⟩
      have hdl : (dct g prs).length = prs.length := by
        unfold dct
        rw [List.length_map]
      rw [hdl, List.take_of_length_le (Nat.le_refl _)] at k3
      refine ⟨k2, D, _, rfl, .of (by rw [upd_ne hDda]; exact k3), _, rfl, ?_⟩
      have hany : ((prs.map fun x => Txt.startswith x.1 (cutS T (some (p : Int)) (some ((p + 13 : Nat) : Int)))).any id) = cutAny prs (rdr T p) := by
        rw [List.any_map]
        unfold cutAny
        rw [Bool.eq_iff_iff, List.any_eq_true, List.any_eq_true]
        constructor
        · rintro ⟨x, hx, e⟩
          refine ⟨x, hx, ?_⟩
          have e' : Txt.startswith x.1 (cutS T (some (p : Int)) (some ((p + 13 : Nat) : Int))) = true := e
          rw [starts_is (hbk.bin x hx).1 hrbin, hrb] at e'
          exact e'
        · rintro ⟨x, hx, e⟩
          refine ⟨x, hx, ?_⟩
          show Txt.startswith x.1 (cutS T (some (p : Int)) (some ((p + 13 : Nat) : Int))) = true
          rw [starts_is (hbk.bin x hx).1 hrbin, hrb]
          exact e
      have hB2 : (upd H2 da (.dK (dct g prs))) a = some (.ins CB dx (bF T p)) := by
        rw [upd_ne hne]
        exact k1 a _ hB hne
      by_cases c : cutAny prs (rdr T p) = true
      · refine ifT (hany.trans c) ?_
        rw [if_pos c] at hco
        have hF := qE _ _ hco
        rw [hleft] at hF
        exact ⟨_, rfl, a, CB, dx, _, _, rfl, hB2, C.cB, C.bP, bF_place T p, fault_go RD hF⟩
      · refine ifF (hany.trans (by simpa using c)) ?_
        rw [if_neg c] at hco
        have hF := qE _ _ hco
        rw [hleft] at hF
        exact ⟨_, rfl, a, CB, dx, _, _, rfl, hB2, C.cB, C.bP, bF_place T p, fault_go RN hF⟩
end
end Fax

namespace Fax
open PySem PySem.Spec PyProof.Rows L2
open PySem.W (Codec)
open Ql31 (EOL)
def spNextEol (K : PySem.W.Frag) (CB C0 : Addr) : Sp := fun vs H Q E => ∃ (a : Addr) (T : Str) (p : Nat), vs = [.ref a] ∧ Bt CB H a T p ∧ Bin T ∧ p ≤ T.length ∧ T.length ≤ 800000 ∧
  (EOL.isPrefixOf (rdr T p) = true → p + 12 ≤ T.length → ∀ H', Bt CB H' a T (p + 12) → Kept a H H' → Q .non H') ∧
  (EOL.isPrefixOf (rdr T p) = false → Fails K C0 E (-10 - ((if (rdr T p).isPrefixOf EOL = true then Ql31.ENDED else Ql31.LINE : Nat) : Int)) p)
def spZeros (K : PySem.W.Frag) (CB C0 : Addr) : Sp := fun vs H Q E => ∃ (a : Addr) (T : Str) (p : Nat), vs = [.ref a] ∧ Bt CB H a T p ∧ Bin T ∧ p ≤ T.length ∧ T.length ≤ 800000 ∧
  (∀ t, Ql31.wantEnd (rdr T p) = .ok ((), t) → ∀ p', t = rdr T p' → p < p' → p' ≤ T.length → ∀ H', Bt CB H' a T p' → Kept a H H' → Q .non H') ∧
  (∀ e l, Ql31.wantEnd (rdr T p) = .error (e, l) → Fails K C0 E (-10 - (e : Int)) (T.length - l))
def spFill (CB : Addr) : Sp := fun vs H Q _ => ∃ (a : Addr) (T : Str) (p : Nat), vs = [.ref a] ∧ Bt CB H a T p ∧ Bin T ∧ p ≤ T.length ∧ T.length ≤ 800000 ∧
  Q (.bl (decide ((rdr T p).length < 8 ∧ ((rdr T p).all fun x => x == false) = true))) H
section
variable {P : Program} {w : World} {K : PySem.W.Frag} {mg : Str → Option Value} {base : Heap} {CB CR C0 : Addr}
theorem eol_len : EOL.length = 12 := by decide +kernel
theorem eol_cut {b : Ql31.Bits} (h : EOL.isPrefixOf b = false) : (b.take 12).isPrefixOf EOL = b.isPrefixOf EOL := by
  rw [Bool.eq_iff_iff, List.isPrefixOf_iff_prefix, List.isPrefixOf_iff_prefix]
  by_cases hl : b.length ≤ 12
  · rw [List.take_of_length_le hl]
  · constructor
    · intro q
      have h12 : (b.take 12).length = 12 := by rw [List.length_take]; omega
      have heq : b.take 12 = EOL := q.eq_of_length (by rw [h12, eol_len])
      have : EOL.isPrefixOf b = true := by
        rw [List.isPrefixOf_iff_prefix, ← heq]
        exact List.take_prefix 12 b
      rw [h] at this
      cases this
    · intro q
      have := q.length_le
      rw [eol_len] at this
      omega
theorem scNextEol : FnScope ["self"] ["self"] (defScope sNextEol) := ⟨rfl, rfl, rfl, by decide +kernel, rfl, by decide +kernel, by decide +kernel⟩
theorem has_next_eol (S : MStands K CB "next_end_of_line" "Bits.next_end_of_line" sNextEol ["self"]) (C : Cl K mg CB CR) (X : Txts K mg) (hD : Rs P w K mg base C0 "DataEnds" (-14)) (hN : Rs P w K mg base C0 "NoEndOfLine" (-13))
    (hB : MHas P w K mg base CX0 CB "begins_with" 1 ["self", "code"] (spBegins CB)) : MHas P w K mg base (L2.CX P w) CB "next_end_of_line" 4 ["self"] (spNextEol K CB C0) := by
  refine S.has fun f fd F => ?_
  obtain ⟨Cd, fId, fdd, RD⟩ := hD
  obtain ⟨Cn, fIn, fdn, RN⟩ := hN
  obtain ⟨fb, fdb, mb, bb, GB⟩ := hB
  obtain ⟨te, ge⟩ := X.eol
  refine F.okX scNextEol (fun vs H Q E h => by obtain ⟨a, T, p, rfl, _⟩ := h; rfl) (fun cdv A outer s H vs Q E hr h => ⟨_,
    have hr1 : Room 1 _ := hr.mono (by decide)
    pss_one (ps_if (pt_val (pe_meth (pv 0) C.cB mb GB hr1 bb .nil pass0 (pa_cons (pe_cstr ge) pa_nil)))
      (pss_one (ps_fldaug (pv 0) (pe_callB call_len (by rfl) X.len PySem.boot_len (pa_cons (pe_cstr ge) pa_nil)) in_add))
      (pss_one (ps_if (pt_val (pe_bm PySem.F.plainAttrs_str PySem.F.slot_str_startswith PySem.F.type_str_startswith mt_startswith (pe_cstr ge)
          (pa_cons (pe_slice sl_str (pe_fld (pv 0) rfl) (po_some (pe_fld (pv 0) rfl)) (po_some (pe_op op_add (pe_fld (pv 0) rfl) (pe_callB call_len (by rfl) X.len PySem.boot_len (pa_cons (pe_cstr ge) pa_nil))))) pa_nil)))
        (pss_one (ps_fault (W := fun cls d _ H => E cls d H) RD rfl (takes_of rfl rfl rfl rfl) hr (pe_fld (pv 0) rfl)))
        (pss_one (ps_fault (W := fun cls d _ H => E cls d H) RN rfl (takes_of rfl rfl rfl rfl) hr (pe_fld (pv 0) rfl)))))), ?_⟩)
  obtain ⟨a, T, p, rfl, ⟨dx, hB⟩, hT, hp, hl, qO, qE⟩ := h
  have hz : sizeLine = 16777216 := sizeLine_eq
  have hl0 := zEol_len
  refine ⟨_, rfl, a, dx, _, rfl, hB, bF_none T p (by decide +kernel) (by decide +kernel), a, T, zEol, p, rfl, ⟨dx, hB⟩, hT, zEol_bin, hp, _, rfl, ?_⟩
  rw [eol_bits]
  have el : (zEol.length : Int) = 12 := by rw [hl0]; rfl
  have e2 : (p : Int) + 12 = ((p + 12 : Nat) : Int) := by omega
  cases c : EOL.isPrefixOf (rdr T p) with
  | true =>
    refine ifT rfl ?_
    refine ⟨_, rfl, a, CB, dx, _, _, rfl, hB, C.cB, C.bP, bF_place T p, _, zEol.length, rfl, ⟨by omega, rfl⟩, _, _, rfl, rfl, dx, _, hB, bF_len T p, ?_⟩
    dsimp only
    rw [el, e2, bF_put]
    have hle := (List.isPrefixOf_iff_prefix.mp c).length_le
    rw [eol_len, List.length_drop, bits_len] at hle
    exact qO c (by omega) _ ⟨dx, upd_same⟩ kept_put
  | false =>
    refine ifF rfl ?_
    have hF := qE c
    refine ⟨rfl, _, rfl, a, CB, dx, _, _, rfl, hB, C.cB, C.bT, bF_text T p, ?_⟩
    refine ⟨_, rfl, a, CB, dx, _, _, rfl, hB, C.cB, C.bP, bF_place T p, _, rfl, ?_⟩
    refine ⟨_, rfl, a, CB, dx, _, _, rfl, hB, C.cB, C.bP, bF_place T p, _, zEol.length, rfl, ⟨by omega, rfl⟩, _, _, rfl, rfl, _, rfl, T, rfl, by omega, ?_⟩
    rw [el, e2]
    refine ⟨_, _, rfl, rfl, _, rfl, ?_⟩
    have hst : Txt.startswith zEol (cutS T (some (p : Int)) (some ((p + 12 : Nat) : Int))) = (rdr T p).isPrefixOf EOL := by
      rw [starts_is zEol_bin (cut_bin hT _ _), sl_pre, eol_bits, eol_cut c]
    by_cases c2 : (rdr T p).isPrefixOf EOL = true
    · refine ifT (hst.trans c2) ?_
      rw [if_pos c2] at hF
      exact ⟨_, rfl, a, CB, dx, _, _, rfl, hB, C.cB, C.bP, bF_place T p, fault_go RD hF⟩
    · refine ifF (hst.trans (eq_false_of_ne_true c2)) ?_
      rw [if_neg c2] at hF
      exact ⟨_, rfl, a, CB, dx, _, _, rfl, hB, C.cB, C.bP, bF_place T p, fault_go RN hF⟩
theorem scZeros : FnScope ["self", "one"] ["self"] (defScope sZeros) := ⟨rfl, rfl, rfl, by decide +kernel, rfl, by decide +kernel, by decide +kernel⟩
theorem has_zeros (S : MStands K CB "end_of_line_behind_zeros" "Bits.end_of_line_behind_zeros" sZeros ["self"]) (C : Cl K mg CB CR) (X : Txts K mg) (hD : Rs P w K mg base C0 "DataEnds" (-14)) (hN : Rs P w K mg base C0 "NoEndOfLine" (-13)) :
    MHas P w K mg base (L2.CX P w) CB "end_of_line_behind_zeros" 4 ["self"] (spZeros K CB C0) := by
  refine S.has fun f fd F => ?_
  obtain ⟨Cd, fId, fdd, RD⟩ := hD
  obtain ⟨Cn, fIn, fdn, RN⟩ := hN
  obtain ⟨te, ge⟩ := X.eol
  refine F.okX scZeros (fun vs H Q E h => by obtain ⟨a, T, p, rfl, _⟩ := h; rfl) (fun cdv A outer s H vs Q E hr h => ⟨_,
    pss_cons (ps_set (i := 1) scZeros.nd rfl (.inl rfl) (pe_bm PySem.F.plainAttrs_str PySem.F.slot_str_find PySem.F.type_str_find mt_find3 (pe_fld (pv 0) rfl) (pa_cons pe_str (pa_cons (pe_fld (pv 0) rfl) pa_nil))))
    (pss_cons (ps_if (pt_cmpR op_lt (pv 1) pe_int (nomark _)) (pss_one (ps_fault (W := fun cls d _ H => E cls d H) RD rfl (takes_of rfl rfl rfl rfl) hr (pe_fld (pv 0) rfl))) pss_nil)
    (pss_cons (ps_if (pt_cmpR op_lt (pe_op op_sub (pe_op op_add (pv 1) pe_int) (pe_fld (pv 0) rfl)) (pe_callB call_len (by rfl) X.len PySem.boot_len (pa_cons (pe_cstr ge) pa_nil)) (nomark _))
      (pss_one (ps_fault (W := fun cls d _ H => E cls d H) RN rfl (takes_of rfl rfl rfl rfl) hr (pe_fld (pv 0) rfl))) pss_nil)
    (pss_one (ps_fld (pv 0) (pe_op op_add (pv 1) pe_int) rfl)))), ?_⟩)
  obtain ⟨a, T, p, rfl, ⟨dx, hB⟩, hT, hp, hl, qO, qE⟩ := h
  have hz : sizeLine = 16777216 := sizeLine_eq
  have hl0 := zEol_len
  have hbl := bits_len T
  have hrl : (rdr T p).length = T.length - p := by rw [List.length_drop, hbl]
  have hleft : T.length - (rdr T p).length = p := by omega
  refine ⟨_, rfl, a, CB, dx, _, _, rfl, hB, C.cB, C.bT, bF_text T p, rfl, _, rfl, a, CB, dx, _, _, rfl, hB, C.cB, C.bP, bF_place T p, _, _, _, rfl, rfl, ?_⟩
  rw [find_zeros hT hp]
  have ez : ((rdr T p).takeWhile fun x => x == false).length = zer (rdr T p) := rfl
  rw [ez]
  by_cases c1 : zer (rdr T p) < (rdr T p).length
  · rw [if_pos c1]
    refine ⟨_, rfl, _, _, rfl, rfl, _, rfl, ?_⟩
    refine ifF (decide_eq_false (by omega)) ?_
    refine ⟨_, rfl, _, _, rfl, rfl, _, rfl, a, CB, dx, _, _, rfl, hB, C.cB, C.bP, bF_place T p, _, _, rfl, rfl, _, zEol.length, rfl, ⟨by omega, rfl⟩, _, _, rfl, rfl, _, rfl, ?_⟩
    by_cases c2 : 11 ≤ zer (rdr T p)
    · refine ifF (decide_eq_false (by omega)) ?_
      refine ⟨_, rfl, _, _, rfl, rfl, _, rfl, a, CB, dx, _, rfl, hB, C.cB, C.bP, bF_len T p, ?_⟩
      have e1 : ((p + zer (rdr T p) : Nat) : Int) + 1 = ((p + zer (rdr T p) + 1 : Nat) : Int) := by omega
      dsimp only
      rw [e1, bF_put]
      refine qO _ (want_ok c2 c1) (p + zer (rdr T p) + 1) ?_ (by omega) (by omega) _ ⟨dx, upd_same⟩ kept_put
      show ((bits T).drop p).drop _ = _
      rw [List.drop_drop]
      rfl
    · refine ifT (decide_eq_true (by omega)) ?_
      have hF := qE _ _ (want_line c2 c1)
      rw [hleft] at hF
      exact ⟨_, rfl, a, CB, dx, _, _, rfl, hB, C.cB, C.bP, bF_place T p, fault_go RN hF⟩
  · rw [if_neg c1]
    refine ⟨_, rfl, _, _, rfl, rfl, _, rfl, ?_⟩
    refine ifT (decide_eq_true (by decide)) ?_
    have hF := qE _ _ (want_ended c1)
    rw [hleft] at hF
    exact ⟨_, rfl, a, CB, dx, _, _, rfl, hB, C.cB, C.bP, bF_place T p, fault_go RD hF⟩
theorem scFill : FnScope ["self"] ["self"] (defScope sFill) := ⟨rfl, rfl, rfl, by decide +kernel, rfl, by decide +kernel, by decide +kernel⟩
theorem has_fill (S : MStands K CB "only_fill_is_left" "Bits.only_fill_is_left" sFill ["self"]) (C : Cl K mg CB CR) (X : Txts K mg) : MHas P w K mg base CX0 CB "only_fill_is_left" 1 ["self"] (spFill CB) := by
  refine S.has fun f fd F => ?_
  refine F.ok scFill (fun vs H Q E h => by obtain ⟨a, T, p, rfl, _⟩ := h; rfl) (fun cdv A outer s H vs Q E hr h => ⟨_,
    pss_one (ps_ret (pe_and (pe_cmpR op_lt (pe_op op_sub (pe_callB call_len (by rfl) X.len PySem.boot_len (pa_cons (pe_fld (pv 0) rfl) pa_nil)) (pe_fld (pv 0) rfl)) pe_int (nomark _))
      (pe_one (pe_cmpR op_lt (pe_bm PySem.F.plainAttrs_str PySem.F.slot_str_find PySem.F.type_str_find mt_find3 (pe_fld (pv 0) rfl) (pa_cons pe_str (pa_cons (pe_fld (pv 0) rfl) pa_nil))) pe_int (nomark _))))), ?_⟩)
  obtain ⟨a, T, p, rfl, ⟨dx, hB⟩, hT, hp, hl, q⟩ := h
  have hz : sizeLine = 16777216 := sizeLine_eq
  have hbl := bits_len T
  have hrl : (rdr T p).length = T.length - p := by rw [List.length_drop, hbl]
  refine ⟨_, rfl, a, CB, dx, _, _, rfl, hB, C.cB, C.bT, bF_text T p, _, T.length, rfl, ⟨by omega, rfl⟩, _, rfl, a, CB, dx, _, _, rfl, hB, C.cB, C.bP, bF_place T p, _, _, rfl, rfl, _, _, rfl, rfl, _, rfl, ?_⟩
  by_cases c1 : (rdr T p).length < 8
  · refine ifT (decide_eq_true (by omega)) ?_
    refine ⟨_, rfl, a, CB, dx, _, _, rfl, hB, C.cB, C.bT, bF_text T p, rfl, _, rfl, a, CB, dx, _, _, rfl, hB, C.cB, C.bP, bF_place T p, _, _, _, rfl, rfl, _, _, rfl, rfl, ?_⟩
    rw [find_zeros hT hp]
    have e : decide ((if (((bits T).drop p).takeWhile fun x => x == false).length < ((bits T).drop p).length then ((p + (((bits T).drop p).takeWhile fun x => x == false).length : Nat) : Int) else -1) < 0) = decide ((rdr T p).length < 8 ∧ ((rdr T p).all fun x => x == false) = true) := by
      refine decide_eq_decide.mpr ?_
      have hz := zer_all (b := rdr T p)
      show (if zer (rdr T p) < (rdr T p).length then ((p + zer (rdr T p) : Nat) : Int) else -1) < 0 ↔ _
      rw [hz]
      by_cases c : zer (rdr T p) < (rdr T p).length
      · rw [if_pos c]
        exact ⟨fun h => by omega, fun h => absurd c h.2⟩
      · rw [if_neg c]
        exact ⟨fun _ => ⟨c1, c⟩, fun _ => by decide⟩
    dsimp only
    rw [e]
    exact q
  · refine ifF (decide_eq_false (by omega)) ?_
    rw [decide_eq_false (fun h => c1 h.1)] at q
    exact q
end
end Fax

namespace Fax
open PySem PySem.Spec PyProof.Rows L2
open PySem.W (Codec)
/-! ### the object that reads rows -/
def rF (ba : Addr) (w : Nat) (la sa : Addr) : List (Str × V) := [("bits", .ref ba), ("width", .int (w : Int)), ("lengths", .ref la), ("shifts", .ref sa)]
theorem rF_bits (ba : Addr) (w : Nat) (la sa : Addr) : (rF ba w la sa).lookup ("bits" : Str) = some (.ref ba) := lk_here
theorem rF_width (ba : Addr) (w : Nat) (la sa : Addr) : (rF ba w la sa).lookup ("width" : Str) = some (.int (w : Int)) := (lk_past (by decide +kernel)).trans lk_here
theorem rF_lengths (ba : Addr) (w : Nat) (la sa : Addr) : (rF ba w la sa).lookup ("lengths" : Str) = some (.ref la) := (lk_past (by decide +kernel)).trans ((lk_past (by decide +kernel)).trans lk_here)
theorem rF_shifts (ba : Addr) (w : Nat) (la sa : Addr) : (rF ba w la sa).lookup ("shifts" : Str) = some (.ref sa) := (lk_past (by decide +kernel)).trans ((lk_past (by decide +kernel)).trans ((lk_past (by decide +kernel)).trans lk_here))
theorem rF_none {m : Str} (ba : Addr) (w : Nat) (la sa : Addr) (h1 : (m == ("bits" : Str)) = false) (h2 : (m == ("width" : Str)) = false) (h3 : (m == ("lengths" : Str)) = false) (h4 : (m == ("shifts" : Str)) = false) : (rF ba w la sa).lookup m = none :=
  (lk_past h1).trans ((lk_past h2).trans ((lk_past h3).trans ((lk_past h4).trans rfl)))
theorem rF_new (ba : Addr) (w : Nat) (la sa : Addr) : putF "shifts" (.ref sa) (putF "lengths" (.ref la) (putF "width" (.int (w : Int)) (putF "bits" (.ref ba) []))) = rF ba w la sa := by
  have e1 : putF "width" (.int (w : Int)) (putF "bits" (.ref ba) []) = [(("bits" : Str), V.ref ba), ("width", .int (w : Int))] := by
    show (if (("bits" : Str)) = "width" then _ else _) = _
    rw [if_neg (by decide +kernel)]
    rfl
  rw [e1]
  have e2 : putF "lengths" (.ref la) [(("bits" : Str), V.ref ba), ("width", .int (w : Int))] = [(("bits" : Str), V.ref ba), ("width", .int (w : Int)), ("lengths", .ref la)] := by
    show (if (("bits" : Str)) = "lengths" then _ else _) = _
    rw [if_neg (by decide +kernel)]
    show _ :: (if (("width" : Str)) = "lengths" then _ else _) = _
    rw [if_neg (by decide +kernel)]
    rfl
  rw [e2]
  show (if (("bits" : Str)) = "shifts" then _ else _) = _
  rw [if_neg (by decide +kernel)]
  show _ :: (if (("width" : Str)) = "shifts" then _ else _) = _
  rw [if_neg (by decide +kernel)]
  show _ :: _ :: (if (("lengths" : Str)) = "shifts" then _ else _) = _
  rw [if_neg (by decide +kernel)]
  rfl
/-- the tables that a reader has -/
structure Tabs (H : Hp) (la sa d0 d1 : Addr) : Prop where
  l : H la = some (.lst [.ref d0, .ref d1])
  w : H d0 = some (.dK (dct gI (runP false)))
  b : H d1 = some (.dK (dct gI (runP true)))
  s : H sa = some (.dK (dct gW wayP))
def Reader (CR : Addr) (H : Hp) (ra ba : Addr) (w : Nat) : Prop := ∃ dx la sa d0 d1, H ra = some (.ins CR dx (rF ba w la sa)) ∧ Tabs H la sa d0 d1
theorem Reader.kept {CR CB : Addr} {H H' : Hp} {ra ba : Addr} {w p : Nat} {T : Str} (R : Reader CR H ra ba w) (B : Bt CB H ba T p) (k : Kept ba H H') : Reader CR H' ra ba w := by
  obtain ⟨dx, la, sa, d0, d1, h, t⟩ := R
  obtain ⟨db, hb⟩ := B
  exact ⟨dx, la, sa, d0, d1, k _ _ h (ne_of h hb (by intro z; cases z)), k _ _ t.l (ne_of t.l hb (by intro z; cases z)), k _ _ t.w (ne_of t.w hb (by intro z; cases z)), k _ _ t.b (ne_of t.b hb (by intro z; cases z)), k _ _ t.s (ne_of t.s hb (by intro z; cases z))⟩
theorem Reader.list {CR : Addr} {H H' : Hp} {ra ba c : Addr} {w : Nat} {xs : List V} (R : Reader CR H ra ba w) (hc : H c = some (.lst xs)) (hn : ∀ d0 d1, xs ≠ [.ref d0, .ref d1]) (k : Kept c H H') : Reader CR H' ra ba w := by
  obtain ⟨dx, la, sa, d0, d1, h, t⟩ := R
  exact ⟨dx, la, sa, d0, d1, k _ _ h (ne_of h hc (by intro z; cases z)), k _ _ t.l (ne_of t.l hc (fun z => hn d0 d1 (HO.lst.inj z).symm)), k _ _ t.w (ne_of t.w hc (by intro z; cases z)), k _ _ t.b (ne_of t.b hc (by intro z; cases z)), k _ _ t.s (ne_of t.s hc (by intro z; cases z))⟩
def spReaderI (CR : Addr) : Sp := fun vs H Q _ => ∃ (x dx a : Addr) (w : Nat), vs = [.ref x, .ref a, .int (w : Int)] ∧ H x = some (.ins CR dx []) ∧ ∀ H', Reader CR H' x a w → Kept x H H' → Q .non H'
/-- what a reader of bits is handed -/
structure Rdg (CR CB : Addr) (H : Hp) (ra ba : Addr) (w : Nat) (T : Str) (p : Nat) : Prop where
  R : Reader CR H ra ba w
  B : Bt CB H ba T p
  bin : Bin T
  le : p ≤ T.length
  len : T.length ≤ 800000
  w1 : 1 ≤ w
  w2 : w ≤ 16384
theorem Rdg.next {CR CB : Addr} {H H' : Hp} {ra ba : Addr} {w p p' : Nat} {T : Str} (R : Rdg CR CB H ra ba w T p) (hp : p' ≤ T.length) (B : Bt CB H' ba T p') (k : Kept ba H H') : Rdg CR CB H' ra ba w T p' :=
  ⟨R.R.kept R.B k, B, R.bin, hp, R.len, R.w1, R.w2⟩
def spRunEnd (K : PySem.W.Frag) (CR CB C0 : Addr) : Sp := fun vs H Q E => ∃ (ra a : Addr) (w : Nat) (T : Str) (p : Nat) (d : Bool) (s : Nat), vs = [.ref ra, .int (b2 d), .int (s : Int)] ∧ Rdg CR CB H ra a w T p ∧ s ≤ w ∧
  (∀ n t, Ql31.readRun d (w + 2) (w - s) 0 (rdr T p) = .ok (n, t) → ∀ p', t = rdr T p' → p' ≤ T.length → s + n ≤ w → ∀ H', Bt CB H' a T p' → Kept a H H' → Q (.int ((s + n : Nat) : Int)) H') ∧
  (∀ e l, Ql31.readRun d (w + 2) (w - s) 0 (rdr T p) = .error (e, l) → Fails K C0 E (-10 - (e : Int)) (T.length - l))
def vN (cs : List Nat) : List V := vI (cs.map fun (x : Nat) => (x : Int))
theorem vN_len (cs : List Nat) : (vN cs).length = cs.length := by
  unfold vN vI
  rw [List.length_map, List.length_map]
theorem vN_app (a b : List Nat) : vN (a ++ b) = vN a ++ vN b := by
  unfold vN vI
  rw [List.map_append, List.map_append]
def spTurn (CR : Addr) : Sp := fun vs H Q _ => ∃ (ra a c : Addr) (w q : Nat) (cs : List Nat), vs = [.ref ra, .ref c, .int (q : Int)] ∧ Reader CR H ra a w ∧ H c = some (.lst (vN cs)) ∧ cs.length ≤ 20000 ∧
  ∀ H', H' c = some (.lst (vN (turnOp w cs q))) → Kept c H H' → Q .non H'
section
variable {P : Program} {w : World} {K : PySem.W.Frag} {mg : Str → Option Value} {base : Heap} {CB CR C0 : Addr}
theorem scReaderI : FnScope ["self", "bits", "width"] ["self", "bits", "width"] (defScope sReaderI) := ⟨rfl, rfl, rfl, by decide +kernel, rfl, by decide +kernel, by decide +kernel⟩
theorem ok_readerI {f : Addr} {fd : FuncData} (F : Fun K "__init__" "RowReader.__init__" sReaderI f fd) (C : Cl K mg CB CR) (X : Txts K mg) (hL : Has P w K mg base "run_lengths" 2 ["colour"] spLengths) (hS : Has P w K mg base "way_shifts" 2 [] spShifts) :
    FnOk P w K mg base CX0 3 f fd ["self", "bits", "width"] (spReaderI CR) := by
  obtain ⟨fl, fdl, gl, kpl, bl, GL⟩ := hL
  obtain ⟨fs, fds, gs, kps, bs, GS⟩ := hS
  obtain ⟨t0, g0⟩ := X.white
  obtain ⟨t1, g1⟩ := X.black
  refine F.ok scReaderI (fun vs H Q E h => by obtain ⟨x, dx, a, w, rfl, _⟩ := h; rfl) (fun cdv A outer s H vs Q E hr h => ⟨_,
    pss_cons (ps_fld (pv 0) (pv 1) rfl)
    (pss_cons (ps_fld (pv 0) (pv 2) rfl)
    (pss_cons (ps_fld (pv 0) (pe_lst (pa_cons (pe_call GL hr rfl gl kpl bl .nil pass0 (pa_cons (pe_cint g0) pa_nil)) (pa_cons (pe_call GL hr rfl gl kpl bl .nil pass0 (pa_cons (pe_cint g1) pa_nil)) pa_nil))) rfl)
    (pss_one (ps_fld (pv 0) (pe_call0 GS hr rfl gs kps bs .nil pass0) rfl)))), ?_⟩)
  obtain ⟨x, dx, a, w, rfl, hx, q⟩ := h
  refine ⟨_, rfl, _, rfl, x, CR, dx, [], rfl, hx, C.cR, C.rB, (by show 0 < 1000; decide), ?_⟩
  refine ⟨_, rfl, _, rfl, x, CR, dx, _, rfl, upd_same, C.cR, C.rW, (by show 1 < 1000; decide), ?_⟩
  refine ⟨false, rfl, fun H1 d0 s1 n0 h0 => ?_⟩
  refine ⟨true, rfl, fun H2 d1 s2 n1 h1 => ?_⟩
  refine ⟨(by show 2 ≤ sizeLine; decide), fun la hla => ?_⟩
  have hx2 := s2 _ _ (s1 _ _ (upd_same (H := upd H x (.ins CR dx (putF "bits" (.ref a) []))) (a := x) (o := .ins CR dx (putF "width" (.int (w : Int)) (putF "bits" (.ref a) [])))))
  have nl : x ≠ la := ne_of_none hx2 hla
  refine ⟨_, rfl, x, CR, dx, _, rfl, (by rw [upd_ne nl]; exact hx2), C.cR, C.rL, (by show 2 < 1000; decide), ?_⟩
  refine ⟨rfl, fun H3 sa s3 n3 h3 => ?_⟩
  have hx3 := s3 _ _ (upd_same (H := upd H2 la (.lst [.ref d0, .ref d1])) (a := x) (o := .ins CR dx (putF "lengths" (.ref la) (putF "width" (.int (w : Int)) (putF "bits" (.ref a) [])))))
  refine ⟨_, rfl, x, CR, dx, _, rfl, hx3, C.cR, C.rS, (by show 3 < 1000; decide), ?_⟩
  have k0 : Kept x H H3 := fun b o hb hn => by
    refine s3 _ _ ?_
    have hb2 : H2 b = some o := s2 _ _ (s1 _ _ (by rw [upd_ne hn, upd_ne hn]; exact hb))
    rw [upd_ne hn, upd_ne (ne_of_none hb2 hla)]
    exact hb2
  have hd0 : H2 d0 = some (.dK (dct gI (runP false))) := s2 _ _ h0
  have hd1 : H2 d1 = some (.dK (dct gI (runP true))) := h1
  have up : ∀ {b : Addr} {o : HO}, H2 b = some o → b ≠ x → H3 b = some o := fun {b o} hb hn => by
    refine s3 _ _ ?_
    rw [upd_ne hn, upd_ne (ne_of_none hb hla)]
    exact hb
  have x0 : d0 ≠ x := ne_of hd0 hx2 (by intro z; cases z)
  have x1 : d1 ≠ x := ne_of hd1 hx2 (by intro z; cases z)
  have x3 : sa ≠ x := ne_of h3 hx3 (by intro z; cases z)
  refine q _ ⟨dx, la, sa, d0, d1, ?_, ?_, ?_, ?_, ?_⟩ (k0.trans kept_put)
  · rw [upd_same]
    exact congrArg (fun l => some (HO.ins CR dx l)) (rF_new a w la sa)
  · rw [upd_ne (Ne.symm nl)]
    refine s3 _ _ ?_
    rw [upd_ne (Ne.symm nl), upd_same]
  · rw [upd_ne x0]
    exact up hd0 x0
  · rw [upd_ne x1]
    exact up hd1 x1
  · rw [upd_ne x3]
    exact h3
theorem runP_nn (d : Bool) : ∀ x ∈ runP d, 0 ≤ x.2 := by
  intro x hx
  unfold runP at hx
  rcases List.mem_append.mp hx with h | h
  · obtain ⟨n, _, rfl⟩ := List.mem_map.mp h
    exact Int.natCast_nonneg _
  · obtain ⟨n, _, rfl⟩ := List.mem_map.mp h
    exact Int.natCast_nonneg _
theorem scRunEnd : FnScope ["self", "colour", "start", "place", "begin", "length"] ["self", "colour", "start"] (defScope sRunEnd) := ⟨rfl, rfl, rfl, by decide +kernel, rfl, by decide +kernel, by decide +kernel⟩
theorem has_run_end (S : MStands K CR "run_end" "RowReader.run_end" sRunEnd ["self", "colour", "start"]) (C : Cl K mg CB CR) (hN : Rs P w K mg base C0 "NotLet" (-12)) (hC : MHas P w K mg base (L2.CX P w) CB "next_code" 4 ["self", "codes"] (spNextCode K CB C0)) :
    MHas P w K mg base (L2.CX P w) CR "run_end" 5 ["self", "colour", "start"] (spRunEnd K CR CB C0) := by
  refine S.has fun f fd F => ?_
  obtain ⟨Cn, fIn, fdn, RN⟩ := hN
  obtain ⟨fc, fdc, mc, bc, GC⟩ := hC
  refine F.okX scRunEnd (fun vs H Q E h => by obtain ⟨ra, a, w, T, p, d, s, rfl, _⟩ := h; rfl) (fun cdv A outer s H vs Q E hr h => ⟨_,
    have hr3 : Room 3 _ := hr.mono (by decide)
    pss_cons (ps_set (i := 3) scRunEnd.nd rfl (.inl rfl) (pv 2))
    (pss_one (ps_while (passes_of rfl) (pt_val pe_bl)
      (pss_cons (ps_set (i := 4) scRunEnd.nd rfl (.inl rfl) (pe_fld (pe_fld (pv 0) rfl) rfl))
      (pss_cons (ps_set (i := 5) scRunEnd.nd rfl (.inl rfl) (pe_dget (hu_of hr) (pe_ix ix_list (pe_fld (pv 0) rfl) (pv 1) (fun _ _ => rfl))
          (pe_meth (pe_fld (pv 0) rfl) C.cB mc GC hr bc .nil (passes_call (E := E) (takes_of rfl rfl rfl rfl) (fun _ _ _ _ h => h)) (pa_cons (pe_ix ix_list (pe_fld (pv 0) rfl) (pv 1) (fun _ _ => rfl)) pa_nil)) (fun _ _ => rfl)))
      (pss_cons (ps_aug (i := 3) scRunEnd.nd rfl (.inl rfl) (pv 5) ip_add)
      (pss_cons (ps_if (pt_cmpR op_gt (pv 3) (pe_fld (pv 0) rfl) (nomark _)) (pss_one (ps_fault (W := fun cls d _ H => E cls d H) RN rfl (takes_of rfl rfl rfl rfl) hr3 (pv 4))) pss_nil)
      (pss_one (ps_if (pt_cmpR op_lt (pv 5) pe_int (nomark _)) (pss_one (ps_ret (pv 3))) pss_nil)))))))), ?_⟩)
  obtain ⟨ra, a, w, T, p, d, s, rfl, hR, hs, qO, qE⟩ := h
  refine ⟨_, rfl, ?_⟩
  refine ⟨fun m σ H' => ∃ (n k p' : Nat) (v4 v5 : Option V), σ = [some (.ref ra), some (.int (b2 d)), some (.int (s : Int)), some (.int ((s + n : Nat) : Int)), v4, v5] ∧ Kept a H H' ∧ Rdg CR CB H' ra a w T p' ∧ s + n ≤ w ∧
    Ql31.readRun d k (w - s) n (rdr T p') = Ql31.readRun d (w + 2) (w - s) 0 (rdr T p) ∧ w - s - n + 1 ≤ k ∧ m = w - s - n, ⟨_, 0, w + 2, p, none, none, rfl, Kept.refl _ _, hR, by omega, rfl, by omega, rfl⟩, ?_⟩
  rintro m σ H' ⟨n, k, p', v4, v5, rfl, k1, R1, hn, heq, hk, rfl⟩
  refine ⟨_, rfl, ifT rfl ?_⟩
  refine ⟨fun σ H2 => ∃ m', m' < w - s - n ∧ ∃ (n k p' : Nat) (v4 v5 : Option V), σ = [some (.ref ra), some (.int (b2 d)), some (.int (s : Int)), some (.int ((s + n : Nat) : Int)), v4, v5] ∧ Kept a H H2 ∧ Rdg CR CB H2 ra a w T p' ∧ s + n ≤ w ∧
    Ql31.readRun d k (w - s) n (rdr T p') = Ql31.readRun d (w + 2) (w - s) 0 (rdr T p) ∧ w - s - n + 1 ≤ k ∧ m' = w - s - n, fun σ' H2 h => h, ?_⟩
  obtain ⟨k', rfl⟩ : ∃ k', k = k' + 1 := ⟨k - 1, by omega⟩
  rw [readRun_step] at heq
  obtain ⟨dx, la, sa, d0, d1, hra, tb⟩ := id R1.R
  obtain ⟨db, hba⟩ := id R1.B
  have hat : atI [V.ref d0, V.ref d1] (b2 d) = some (.ref (if d = true then d1 else d0)) := by cases d <;> rfl
  have hdd : H' (if d = true then d1 else d0) = some (.dK (dct gI (runP d))) := by
    cases d with
    | false => exact tb.w
    | true => exact tb.b
  -- begin
  refine ⟨_, rfl, ra, CR, dx, _, _, rfl, hra, C.cR, C.rB, rF_bits a w la sa, a, CB, db, _, _, rfl, hba, C.cB, C.bP, bF_place T p', ?_⟩
  -- length
  refine ⟨_, rfl, ra, CR, dx, _, _, rfl, hra, C.cR, C.rL, rF_lengths a w la sa, _, rfl, la, _, _, _, rfl, rfl, SqL.of tb.l, hat, ?_⟩
  refine ⟨_, rfl, ra, CR, dx, _, _, rfl, hra, C.cR, C.rB, rF_bits a w la sa, a, db, _, rfl, hba, bF_none T p' (by decide +kernel) (by decide +kernel), ?_⟩
  refine ⟨_, rfl, ra, CR, dx, _, _, rfl, hra, C.cR, C.rL, rF_lengths a w la sa, _, rfl, la, _, _, _, rfl, rfl, SqL.of tb.l, hat, ?_⟩
  refine ⟨a, _, T, p', gI, runP d, rtab d, rfl, ⟨db, hba⟩, R1.bin, R1.le, R1.len, hdd, run_book d, runP_nodup d, by rw [runP_len]; decide, fun z1 z hm hco hle H2 hB2 hk2 => ?_, fun e l hco => ?_⟩
  · rw [hco] at heq
    dsimp only at heq
    have hz0 := runP_nn d _ hm
    have hlk := lk_of (runP_nodup d) hm
    have hd2 : H2 (if d = true then d1 else d0) = some (.dK (dct gI (runP d))) := hk2 _ _ hdd (ne_of hdd hba (by intro z; cases z))
    have hget := DGet.k (k := Sum.inr z1) hd2
    rw [dct_val, hlk] at hget
    have R2 : Rdg CR CB H2 ra a w T (p' + z1.length) := R1.next hle hB2 hk2
    obtain ⟨dx2, la2, sa2, d02, d12, hra2, tb2⟩ := id R2.R
    refine ⟨_, .int z, rfl, hget, ?_⟩
    refine ⟨_, rfl, _, rfl, _, _, rfl, rfl, ?_⟩
    dsimp only at hz0
    have ez : ((s + n : Nat) : Int) + z = ((s + (n + z.toNat) : Nat) : Int) := by omega
    dsimp only
    rw [ez]
    refine ⟨_, rfl, _, rfl, ra, CR, dx2, _, _, rfl, hra2, C.cR, C.rW, rF_width a w la2 sa2, _, _, rfl, rfl, _, rfl, ?_⟩
    by_cases c1 : w - s < n + z.toNat
    · refine ifT (decide_eq_true (by omega)) ?_
      rw [if_pos c1] at heq
      have hF := qE _ _ heq.symm
      have hl0 : T.length - (rdr T p').length = p' := by
        have := R1.le
        rw [List.length_drop, bits_len]
        omega
      rw [hl0] at hF
      exact ⟨_, rfl, fault_go RN hF⟩
    · refine ifF (decide_eq_false (by omega)) ?_
      rw [if_neg c1] at heq
      refine ⟨_, rfl, _, _, rfl, rfl, _, rfl, ?_⟩
      by_cases c2 : z < 64
      · refine ifT (decide_eq_true c2) ?_
        rw [if_pos c2] at heq
        exact ⟨_, rfl, qO _ _ heq.symm _ rfl hle (by omega) H2 hB2 (k1.trans hk2)⟩
      · refine ifF (decide_eq_false c2) ?_
        rw [if_neg c2] at heq
        exact ⟨_, by omega, n + z.toNat, k', p' + z1.length, _, _, rfl, k1.trans hk2, R2, by omega, heq, by omega, rfl⟩
  · rw [hco] at heq
    exact qE _ _ heq.symm
theorem scTurn : FnScope ["self", "changes", "place"] ["self", "changes", "place"] (defScope sTurn) := ⟨rfl, rfl, rfl, by decide +kernel, rfl, by decide +kernel, by decide +kernel⟩
theorem has_turn (S : MStands K CR "turn" "RowReader.turn" sTurn ["self", "changes", "place"]) (C : Cl K mg CB CR) (X : Txts K mg) : MHas P w K mg base CX0 CR "turn" 1 ["self", "changes", "place"] (spTurn CR) := by
  refine S.has fun f fd F => ?_
  refine F.ok scTurn (fun vs H Q E h => by obtain ⟨ra, a, c, w, q, cs, rfl, _⟩ := h; rfl) (fun cdv A outer s H vs Q E hr h => ⟨_,
    pss_one (ps_if (PW.pt (pw_and (pt_cmpR op_gt (pe_callB call_len_seq (by rfl) X.len PySem.boot_len (pa_cons (pv 1) pa_nil)) pe_int (nomark _)) (pw_and1 (pt_cmpR op_eq (pe_ix ix_list (pv 1) (pe_un un_neg pe_int) (fun _ _ => rfl)) (pv 2) (nomark _)))))
      (pss_one (ps_expr (pe_bm0 PySem.F.plainAttrs_list PySem.F.slot_list_pop PySem.F.type_list_pop mt_pop (pv 1))))
      (pss_one (ps_if (pt_cmpR op_lt (pv 2) (pe_fld (pv 0) rfl) (nomark _))
        (pss_one (ps_expr (pe_bm PySem.F.plainAttrs_list PySem.F.slot_list_append PySem.F.type_list_append mt_append (pv 1) (pa_cons (pv 2) pa_nil)))) pss_nil))), ?_⟩)
  obtain ⟨ra, a, c, w, q, cs, rfl, hR, hc, hl, qq⟩ := h
  have hz : sizeLine = 16777216 := sizeLine_eq
  obtain ⟨dx, la, sa, d0, d1, hra, tb⟩ := hR
  have hvl := vN_len cs
  refine ⟨_, rfl, c, _, rfl, .inl (SqL.of hc), _, _, rfl, rfl, _, rfl, ?_⟩
  by_cases hne : cs.getLast? = some q
  · obtain ⟨ini, rfl⟩ := List.getLast?_eq_some_iff.mp hne
    have hp : 0 < ((vN (ini ++ [q])).length : Int) := by
      rw [hvl, List.length_append, List.length_singleton]
      omega
    refine ifT (decide_eq_true hp) ?_
    refine ⟨_, rfl, _, rfl, c, _, _, .int (q : Int), rfl, rfl, SqL.of hc, ?_, _, rfl, rfl, _, rfl, ?_⟩
    · rw [vN_app]
      exact atI_last _ _
    refine ifT (decide_eq_true rfl) ?_
    refine ⟨_, rfl, .inl ⟨rfl, _, SqL.of hc⟩, c, _, .int (q : Int), rfl, rfl, hc, ?_, qq _ ?_ kept_put⟩
    · rw [hvl, vN_app, List.length_append, List.length_singleton, Nat.add_sub_cancel, List.getElem?_append_right (by rw [vN_len]; exact Nat.le_refl _), vN_len, Nat.sub_self]
      rfl
    · rw [upd_same]
      unfold turnOp
      rw [if_pos hne, List.dropLast_concat, vN_app]
      show some (HO.lst ((vN ini ++ [V.int (q : Int)]).dropLast)) = _
      rw [List.dropLast_concat]
  · by_cases hemp : cs = []
    · subst hemp
      refine ifF (decide_eq_false (by show ¬ (0 : Int) < ((0 : Nat) : Int); decide)) ?_
      refine ⟨_, rfl, _, rfl, ra, CR, dx, _, _, rfl, hra, C.cR, C.rW, rF_width a w la sa, _, _, rfl, rfl, _, rfl, ?_⟩
      by_cases c2 : q < w
      · refine ifT (decide_eq_true (by omega)) ?_
        refine ⟨_, rfl, .inl ⟨rfl, _, SqL.of hc⟩, _, rfl, c, _, _, rfl, rfl, hc, by rw [hvl]; omega, qq _ ?_ kept_put⟩
        rw [upd_same]
        unfold turnOp
        rw [if_neg hne, if_pos c2, vN_app [] [q]]
        rfl
      · refine ifF (decide_eq_false (by omega)) (qq _ ?_ (Kept.refl _ _))
        unfold turnOp
        rw [if_neg hne, if_neg c2]
        exact hc
    · obtain ⟨ini, x, rfl⟩ : ∃ ini x, cs = ini ++ [x] := ⟨_, _, (List.dropLast_concat_getLast hemp).symm⟩
      have hp : 0 < ((vN (ini ++ [x])).length : Int) := by
        rw [hvl, List.length_append, List.length_singleton]
        omega
      have hxq : ¬ x = q := fun e => hne (by rw [List.getLast?_append, e]; rfl)
      refine ifT (decide_eq_true hp) ?_
      refine ⟨_, rfl, _, rfl, c, _, _, .int (x : Int), rfl, rfl, SqL.of hc, ?_, _, rfl, rfl, _, rfl, ?_⟩
      · rw [vN_app]
        exact atI_last _ _
      refine ifF (decide_eq_false (fun z => hxq (by injection z with z; omega))) ?_
      refine ⟨_, rfl, _, rfl, ra, CR, dx, _, _, rfl, hra, C.cR, C.rW, rF_width a w la sa, _, _, rfl, rfl, _, rfl, ?_⟩
      by_cases c2 : q < w
      · refine ifT (decide_eq_true (by omega)) ?_
        refine ⟨_, rfl, .inl ⟨rfl, _, SqL.of hc⟩, _, rfl, c, _, _, rfl, rfl, hc, by rw [hvl]; omega, qq _ ?_ kept_put⟩
        rw [upd_same]
        unfold turnOp
        rw [if_neg hne, if_pos c2, vN_app (ini ++ [x]) [q]]
        rfl
      · refine ifF (decide_eq_false (by omega)) (qq _ ?_ (Kept.refl _ _))
        unfold turnOp
        rw [if_neg hne, if_neg c2]
        exact hc
end
end Fax

namespace Fax
open PySem PySem.Spec PyProof.Rows L2
open PySem.W (Codec)
def acr (d : Bool) (w s lb : Nat) (t : Ql31.Bits) : Ql31.R (Nat × Nat) := match Ql31.readRun d (w + 2) (w - s) 0 t with
  | .error e => .error e
  | .ok (n, t1) => match Ql31.readRun (!d) (w + 2) (w - s - n) 0 t1 with
    | .error e => .error e
    | .ok (m, t2) => if n + m = 0 then .error (Ql31.LONG, lb) else .ok ((n, m), t2)
def Kept2 (a c : Addr) (H H' : Hp) : Prop := ∀ b o, H b = some o → b ≠ a → b ≠ c → H' b = some o
theorem Kept.two {a c : Addr} {H H' : Hp} (k : Kept a H H') : Kept2 a c H H' := fun b o h n _ => k b o h n
theorem Kept.two' {a c : Addr} {H H' : Hp} (k : Kept c H H') : Kept2 a c H H' := fun b o h _ n => k b o h n
theorem Kept2.trans {a c : Addr} {H H1 H2 : Hp} (x : Kept2 a c H H1) (y : Kept2 a c H1 H2) : Kept2 a c H H2 := fun b o h n1 n2 => y b o (x b o h n1 n2) n1 n2
theorem kept_new {a c : Addr} {H H1 H2 : Hp} (k : Kept a H H1) (hc : H c = none) (k2 : Kept2 a c H1 H2) : Kept a H H2 := fun b o h n => k2 b o (k b o h n) n (ne_of_none h hc)
theorem vN_ne (cs : List Nat) (d0 d1 : Addr) : vN cs ≠ [.ref d0, .ref d1] := fun z => by
  cases cs with
  | nil => cases z
  | cons x r => cases z
theorem cg_ext' {w n : Nat} {r : List Bool} {d : Bool} (h : r.length < w ∨ n = 0) (h2 : r.length + n ≤ w) : cg w (r ++ List.replicate n d) d = cg w r d := by
  rcases h with h | h
  · exact cg_ext h h2
  · rw [h, List.replicate_zero, List.append_nil]
def spPassed (K : PySem.W.Frag) (CR C0 : Addr) : Sp := fun vs H Q E => ∃ (ra a : Addr) (w bg b2 : Nat), vs = [.ref ra, .int (bg : Int), .int (b2 : Int)] ∧ Reader CR H ra a w ∧ (b2 = w → Fails K C0 E (-12) bg) ∧ (b2 ≠ w → Q (.int (b2 : Int)) H)
def spStraightM (K : PySem.W.Frag) (CR C0 : Addr) : Sp := fun vs H Q E => ∃ (ra a : Addr) (w bg : Nat) (pa ch : Int), vs = [.ref ra, .int (bg : Int), .int pa, .int ch] ∧ Reader CR H ra a w ∧ (ch ≤ pa ∨ (w : Int) < ch → Fails K C0 E (-12) bg) ∧ (¬ (ch ≤ pa ∨ (w : Int) < ch) → Q (.int ch) H)
def spAcrossM (K : PySem.W.Frag) (CR CB C0 : Addr) : Sp := fun vs H Q E => ∃ (ra a c : Addr) (w : Nat) (T : Str) (p bg : Nat) (d : Bool) (r : List Bool), vs = [.ref ra, .int (bg : Int), .ref c, .int (b2 d), .int (r.length : Int)] ∧ Rdg CR CB H ra a w T p ∧ bg ≤ T.length ∧
  H c = some (.lst (vN (cg w r d))) ∧ r.length < w ∧
  (∀ n m t, acr d w r.length (T.length - bg) (rdr T p) = .ok ((n, m), t) → r.length + n + m ≤ w → n + m ≠ 0 → ∀ p', t = rdr T p' → p' ≤ T.length → ∀ H', Bt CB H' a T p' → Kept2 a c H H' →
    H' c = some (.lst (vN (cg w (r ++ (List.replicate n d ++ List.replicate m (!d))) d))) → Q (.int ((r.length + n + m : Nat) : Int)) H') ∧
  (∀ e l, acr d w r.length (T.length - bg) (rdr T p) = .error (e, l) → Fails K C0 E (-10 - (e : Int)) (T.length - l))
section
variable {P : Program} {w : World} {K : PySem.W.Frag} {mg : Str → Option Value} {base : Heap} {CB CR C0 : Addr}
theorem scPassed : FnScope ["self", "begin", "b2"] ["self", "begin", "b2"] (defScope sPassed) := ⟨rfl, rfl, rfl, by decide +kernel, rfl, by decide +kernel, by decide +kernel⟩
theorem dec_nat {a b : Nat} : decide (V.int (a : Int) = V.int (b : Int)) = decide (a = b) := by
  by_cases c : a = b
  · rw [decide_eq_true c, c, decide_eq_true rfl]
  · rw [decide_eq_false c, decide_eq_false (fun q => c (by injection q with q; omega))]
theorem has_passed (S : MStands K CR "passed_over" "RowReader.passed_over" sPassed ["self", "begin", "b2"]) (C : Cl K mg CB CR) (hN : Rs P w K mg base C0 "NotLet" (-12)) :
    MHas P w K mg base (L2.CX P w) CR "passed_over" 4 ["self", "begin", "b2"] (spPassed K CR C0) := by
  refine S.has fun f fd F => ?_
  obtain ⟨Cn, fIn, fdn, RN⟩ := hN
  refine F.okX scPassed (fun vs H Q E h => by obtain ⟨ra, a, w, bg, b2, rfl, _⟩ := h; rfl) (fun cdv A outer s H vs Q E hr h => ⟨_,
    pss_cons (ps_if (pt_cmpR op_eq (pv 2) (pe_fld (pv 0) rfl) (nomark _)) (pss_one (ps_fault (W := fun cls d _ H => E cls d H) RN rfl (takes_of rfl rfl rfl rfl) hr (pv 1))) pss_nil)
    (pss_one (ps_ret (pv 2))), ?_⟩)
  obtain ⟨ra, a, w, bg, b2, rfl, ⟨dx, la, sa, d0, d1, hra, tb⟩, q1, q2⟩ := h
  refine ⟨_, rfl, _, rfl, ra, CR, dx, _, _, rfl, hra, C.cR, C.rW, rF_width a w la sa, rfl, _, rfl, ?_⟩
  by_cases c : b2 = w
  · refine ifT (dec_nat.trans (decide_eq_true c)) ?_
    exact ⟨_, rfl, fault_go RN (q1 c)⟩
  · refine ifF (dec_nat.trans (decide_eq_false c)) ?_
    exact ⟨_, rfl, q2 c⟩
theorem scStraightM : FnScope ["self", "begin", "place", "change"] ["self", "begin", "place", "change"] (defScope sStraightM) := ⟨rfl, rfl, rfl, by decide +kernel, rfl, by decide +kernel, by decide +kernel⟩
theorem has_straightM (S : MStands K CR "straight" "RowReader.straight" sStraightM ["self", "begin", "place", "change"]) (C : Cl K mg CB CR) (hN : Rs P w K mg base C0 "NotLet" (-12)) :
    MHas P w K mg base (L2.CX P w) CR "straight" 4 ["self", "begin", "place", "change"] (spStraightM K CR C0) := by
  refine S.has fun f fd F => ?_
  obtain ⟨Cn, fIn, fdn, RN⟩ := hN
  refine F.okX scStraightM (fun vs H Q E h => by obtain ⟨ra, a, w, bg, pa, ch, rfl, _⟩ := h; rfl) (fun cdv A outer s H vs Q E hr h => ⟨_,
    pss_cons (ps_if (PW.pt (pw_or (pt_cmpR op_le (pv 3) (pv 2) (nomark _)) (pw_or1 (pt_cmpR op_gt (pv 3) (pe_fld (pv 0) rfl) (nomark _)))))
      (pss_one (ps_fault (W := fun cls d _ H => E cls d H) RN rfl (takes_of rfl rfl rfl rfl) hr (pv 1))) pss_nil)
    (pss_one (ps_ret (pv 3))), ?_⟩)
  obtain ⟨ra, a, w, bg, pa, ch, rfl, ⟨dx, la, sa, d0, d1, hra, tb⟩, q1, q2⟩ := h
  refine ⟨_, rfl, _, rfl, _, _, rfl, rfl, _, rfl, ?_⟩
  by_cases c : ch ≤ pa
  · refine ifT (decide_eq_true c) ?_
    refine ifT rfl ?_
    exact ⟨_, rfl, fault_go RN (q1 (.inl c))⟩
  · refine ifF (decide_eq_false c) ?_
    refine ⟨_, rfl, _, rfl, ra, CR, dx, _, _, rfl, hra, C.cR, C.rW, rF_width a w la sa, _, _, rfl, rfl, _, rfl, ?_⟩
    by_cases c2 : (w : Int) < ch
    · refine ifT (decide_eq_true c2) ?_
      exact ⟨_, rfl, fault_go RN (q1 (.inr c2))⟩
    · refine ifF (decide_eq_false c2) ?_
      exact ⟨_, rfl, q2 (fun z => z.elim c c2)⟩
theorem Rdg.left {CR CB : Addr} {H : Hp} {ra ba : Addr} {w p : Nat} {T : Str} (R : Rdg CR CB H ra ba w T p) : T.length - (rdr T p).length = p := by
  have := R.le
  rw [List.length_drop, bits_len]
  omega
theorem scAcrossM : FnScope ["self", "begin", "changes", "colour", "start", "middle", "end"] ["self", "begin", "changes", "colour", "start"] (defScope sAcrossM) := ⟨rfl, rfl, rfl, by decide +kernel, rfl, by decide +kernel, by decide +kernel⟩
theorem has_acrossM (S : MStands K CR "across" "RowReader.across" sAcrossM ["self", "begin", "changes", "colour", "start"]) (C : Cl K mg CB CR) (hN : Rs P w K mg base C0 "NotLet" (-12))
    (hR : MHas P w K mg base (L2.CX P w) CR "run_end" 5 ["self", "colour", "start"] (spRunEnd K CR CB C0)) (hT : MHas P w K mg base CX0 CR "turn" 1 ["self", "changes", "place"] (spTurn CR)) :
    MHas P w K mg base (L2.CX P w) CR "across" 6 ["self", "begin", "changes", "colour", "start"] (spAcrossM K CR CB C0) := by
  refine S.has fun f fd F => ?_
  obtain ⟨Cn, fIn, fdn, RN⟩ := hN
  obtain ⟨fr, fdr, mr, br, GR⟩ := hR
  obtain ⟨ft, fdt, mt, bt, GT⟩ := hT
  refine F.okX scAcrossM (fun vs H Q E h => by obtain ⟨ra, a, c, w, T, p, bg, d, r, rfl, _⟩ := h; rfl) (fun cdv A outer s H vs Q E hr h => ⟨_,
    have hr3 : Room 3 _ := hr.mono (by decide)
    have hr1 : Room 1 _ := hr.mono (by decide)
    pss_cons (ps_set (i := 5) scAcrossM.nd rfl (.inl rfl) (pe_meth (pv 0) C.cR mr GR hr br .nil (passes_call (E := E) (takes_of rfl rfl rfl rfl) (fun _ _ _ _ h => h)) (pa_cons (pv 3) (pa_cons (pv 4) pa_nil))))
    (pss_cons (ps_set (i := 6) scAcrossM.nd rfl (.inl rfl) (pe_meth (pv 0) C.cR mr GR hr br .nil (passes_call (E := E) (takes_of rfl rfl rfl rfl) (fun _ _ _ _ h => h)) (pa_cons (pe_op op_sub pe_int (pv 3)) (pa_cons (pv 5) pa_nil))))
    (pss_cons (ps_if (pt_cmpR op_eq (pv 6) (pv 4) (nomark _)) (pss_one (ps_fault (W := fun cls d _ H => E cls d H) RN rfl (takes_of rfl rfl rfl rfl) hr3 (pv 1))) pss_nil)
    (pss_cons (ps_expr (pe_meth (pv 0) C.cR mt GT hr1 bt .nil pass0 (pa_cons (pv 2) (pa_cons (pv 5) pa_nil))))
    (pss_cons (ps_expr (pe_meth (pv 0) C.cR mt GT hr1 bt .nil pass0 (pa_cons (pv 2) (pa_cons (pv 6) pa_nil))))
    (pss_one (ps_ret (pv 6))))))), ?_⟩)
  obtain ⟨ra, a, c, w, T, p, bg, d, r, rfl, hR, hbg, hc, hrw, qO, qE⟩ := h
  obtain ⟨dx, la, sa, d0, d1, hra, tb⟩ := id hR.R
  obtain ⟨db, hba⟩ := id hR.B
  have hca : c ≠ a := ne_of hc hba (by intro z; cases z)
  have hw2 := hR.w2
  unfold acr at qO qE
  refine ⟨_, rfl, ra, dx, _, rfl, hra, rF_none a w la sa (by decide +kernel) (by decide +kernel) (by decide +kernel) (by decide +kernel), _, rfl, _, rfl, ra, a, w, T, p, d, r.length, rfl, hR, by omega, fun n t hn p1 ht hp1 hle H1 hB1 k1 => ?_, fun e l he => ?_⟩
  · rw [hn] at qO qE
    dsimp only at qO qE
    subst ht
    have R1 := hR.next hp1 hB1 k1
    obtain ⟨dx1, la1, sa1, d01, d11, hra1, tb1⟩ := id R1.R
    have hc1 := k1 _ _ hc hca
    have eb : (1 : Int) - b2 d = b2 (!d) := by cases d <;> rfl
    refine ⟨_, rfl, ra, dx1, _, rfl, hra1, rF_none a w la1 sa1 (by decide +kernel) (by decide +kernel) (by decide +kernel) (by decide +kernel), _, rfl, _, _, rfl, rfl, _, rfl, ra, a, w, T, p1, !d, r.length + n, ?_, R1, hle, fun m t hm p2 ht hp2 hle2 H2 hB2 k2 => ?_, fun e l he => ?_⟩
    · show [V.ref ra, V.int (1 - b2 d), V.int ((r.length + n : Nat) : Int)] = _
      rw [eb]
    · have es : w - (r.length + n) = w - r.length - n := by omega
      rw [es] at hm
      rw [hm] at qO qE
      dsimp only at qO qE
      subst ht
      have R2 := R1.next hp2 hB2 k2
      obtain ⟨dx2, la2, sa2, d02, d12, hra2, tb2⟩ := id R2.R
      have hc2 := k2 _ _ hc1 hca
      refine ⟨_, rfl, _, rfl, rfl, _, rfl, ?_⟩
      by_cases c0 : n + m = 0
      · refine ifT (dec_nat.trans (decide_eq_true (by omega))) ?_
        rw [if_pos c0] at qE
        have hF := qE _ _ rfl
        have e0 : T.length - (T.length - bg) = bg := by omega
        rw [e0] at hF
        exact ⟨_, rfl, fault_go RN hF⟩
      · refine ifF (dec_nat.trans (decide_eq_false (by omega))) ?_
        rw [if_neg c0] at qO
        have l1 : (r ++ List.replicate n d).length = r.length + n := by rw [List.length_append, List.length_replicate]
        have l2 : (r ++ List.replicate n d ++ List.replicate m (!d)).length = r.length + n + m := by rw [List.length_append, l1, List.length_replicate]
        have e1 : turnOp w (cg w r d) (r.length + n) = cg w (r ++ List.replicate n d) (!d) := by
          rw [← cg_ext hrw (by omega : r.length + n ≤ w), ← l1]
          exact cg_turn d (by rw [l1]; exact hle)
        have e2 : turnOp w (cg w (r ++ List.replicate n d) (!d)) (r.length + n + m) = cg w (r ++ (List.replicate n d ++ List.replicate m (!d))) d := by
          have h3 : cg w (r ++ List.replicate n d) (!d) = cg w (r ++ List.replicate n d ++ List.replicate m (!d)) (!d) := (cg_ext' (by rw [l1]; omega) (by rw [l1]; exact hle2)).symm
          rw [h3, ← l2, cg_turn (!d) (by rw [l2]; exact hle2), Bool.not_not, List.append_assoc]
        have hlen : (cg w r d).length ≤ 20000 := by
          have := cg_len (w := w) (r := r) d
          omega
        have hlen2 : (cg w (r ++ List.replicate n d) (!d)).length ≤ 20000 := by
          have := cg_len (w := w) (r := r ++ List.replicate n d) (!d)
          rw [l1] at this
          omega
        refine ⟨_, rfl, ra, dx2, _, rfl, hra2, rF_none a w la2 sa2 (by decide +kernel) (by decide +kernel) (by decide +kernel) (by decide +kernel), _, rfl, _, rfl, ra, a, c, w, r.length + n, _, rfl, R2.R, hc2, hlen, fun H3 h3 k3 => ?_⟩
        rw [e1] at h3
        have Rd3 : Reader CR H3 ra a w := R2.R.list hc2 (vN_ne _) k3
        obtain ⟨dx3, la3, sa3, d03, d13, hra3, tb3⟩ := id Rd3
        refine ⟨_, rfl, ra, dx3, _, rfl, hra3, rF_none a w la3 sa3 (by decide +kernel) (by decide +kernel) (by decide +kernel) (by decide +kernel), _, rfl, _, rfl, ra, a, c, w, r.length + n + m, _, rfl, Rd3, h3, hlen2, fun H4 h4 k4 => ?_⟩
        rw [e2] at h4
        obtain ⟨db2, hb2⟩ := hB2
        exact ⟨_, rfl, qO _ _ _ rfl hle2 c0 _ rfl hp2 H4 ⟨db2, k4 _ _ (k3 _ _ hb2 (Ne.symm hca)) (Ne.symm hca)⟩ ((k1.trans k2).two.trans (k3.two'.trans k4.two')) h4⟩
    · have es : w - (r.length + n) = w - r.length - n := by omega
      rw [es] at he
      rw [he] at qE
      exact qE _ _ rfl
  · rw [he] at qE
    exact qE _ _ rfl
end
end Fax

namespace Fax
open PySem PySem.Spec PyProof.Rows L2
open PySem.W (Codec)
/-- a row that a reader of the specification gives, as its changes in a new list -/
def RowOut (K : PySem.W.Frag) (CB C0 : Addr) (H : Hp) (a : Addr) (w : Nat) (T : Str) (rd : Ql31.R Ql31.Row) (Q : VK) (E : XK) : Prop :=
  (∀ r t, rd = .ok (r, t) → r.length = w → ∀ p', t = rdr T p' → p' ≤ T.length → ∀ H' q, Bt CB H' a T p' → Kept a H H' → H q = none → H' q = some (.lst (vI (chL r))) → Q (.ref q) H') ∧
  (∀ e l, rd = .error (e, l) → Fails K C0 E (-10 - (e : Int)) (T.length - l))
def spRowAlone (K : PySem.W.Frag) (CR CB C0 : Addr) : Sp := fun vs H Q E => ∃ (ra a : Addr) (w : Nat) (T : Str) (p : Nat), vs = [.ref ra] ∧ Rdg CR CB H ra a w T p ∧
  RowOut K CB C0 H a w T (Ql31.readAlone w (w + 4) false [] (rdr T p)) Q E
def spRowAbove (K : PySem.W.Frag) (CR CB C0 : Addr) : Sp := fun vs H Q E => ∃ (ra a ab : Addr) (w : Nat) (T : Str) (p : Nat) (A : Ql31.Row), vs = [.ref ra, .ref ab] ∧ Rdg CR CB H ra a w T p ∧ H ab = some (.lst (vI (chL A))) ∧ A.length = w ∧
  RowOut K CB C0 H a w T (Ql31.readBeside w A (2 * w + 4) (-1) false [] (rdr T p)) Q E
section
variable {P : Program} {w : World} {K : PySem.W.Frag} {mg : Str → Option Value} {base : Heap} {CB CR C0 : Addr}
theorem chL_is {r : Ql31.Row} {w : Nat} (h : r.length = w) : vI ((chs r).map (fun (x : Nat) => (x : Int)) ++ [(w : Int), (w : Int), (w : Int)]) = vI (chL r) := by
  unfold chL
  rw [h]
theorem scRowAlone : FnScope ["self", "changes", "place", "most_runs", "run"] ["self"] (defScope sRowAlone) := ⟨rfl, rfl, rfl, by decide +kernel, rfl, by decide +kernel, by decide +kernel⟩
theorem has_row_alone (S : MStands K CR "row_alone" "RowReader.row_alone" sRowAlone ["self"]) (C : Cl K mg CB CR) (X : Txts K mg) (hN : Rs P w K mg base C0 "NotLet" (-12)) (hE : Has P w K mg base "with_ends" 1 ["changes", "width"] spEnds)
    (hR : MHas P w K mg base (L2.CX P w) CR "run_end" 5 ["self", "colour", "start"] (spRunEnd K CR CB C0)) (hT : MHas P w K mg base CX0 CR "turn" 1 ["self", "changes", "place"] (spTurn CR)) :
    MHas P w K mg base (L2.CX P w) CR "row_alone" 6 ["self"] (spRowAlone K CR CB C0) := by
  refine S.has fun f fd F => ?_
  obtain ⟨Cn, fIn, fdn, RN⟩ := hN
  obtain ⟨fe, fde, ge, kpe, be, GE⟩ := hE
  obtain ⟨fr, fdr, mr, br, GR⟩ := hR
  obtain ⟨ft, fdt, mt, bt, GT⟩ := hT
  refine F.okX scRowAlone (fun vs H Q E h => by obtain ⟨ra, a, w, T, p, rfl, _⟩ := h; rfl) (fun cdv A outer s H vs Q E hr h => ⟨_,
    have hr3 : Room 3 _ := hr.mono (by decide)
    have hr1 : Room 1 _ := hr.mono (by decide)
    pss_cons (ps_set (i := 1) scRowAlone.nd rfl (.inl rfl) (pe_lst pa_nil))
    (pss_cons (ps_set (i := 2) scRowAlone.nd rfl (.inl rfl) pe_int)
    (pss_cons (ps_set (i := 3) scRowAlone.nd rfl (.inl rfl) (pe_op op_add (pe_fld (pv 0) rfl) pe_int))
    (pss_cons (ps_for (passes_of rfl) rfl (pi_range1 (by rfl) X.range (pa_cons (pv 3) pa_nil)) (pg_name (i := 4) scRowAlone.nd rfl (.inl rfl))
      (pss_cons (ps_set (i := 2) scRowAlone.nd rfl (.inl rfl) (pe_meth (pv 0) C.cR mr GR hr br .nil (passes_call (E := E) (takes_of rfl rfl rfl rfl) (fun _ _ _ _ h => h)) (pa_cons (pe_op op_mod (pv 4) pe_int) (pa_cons (pv 2) pa_nil))))
      (pss_cons (ps_if (pt_cmpR op_eq (pv 2) (pe_fld (pv 0) rfl) (nomark _))
        (pss_one (ps_ret (pe_call GE hr1 rfl ge kpe be .nil pass0 (pa_cons (pv 1) (pa_cons (pe_fld (pv 0) rfl) pa_nil))))) pss_nil)
      (pss_one (ps_expr (pe_meth (pv 0) C.cR mt GT hr1 bt .nil pass0 (pa_cons (pv 1) (pa_cons (pv 2) pa_nil))))))))
    (pss_cons (ps_expr (pe_meth (pv 0) C.cR mr GR hr br .nil (passes_call (E := E) (takes_of rfl rfl rfl rfl) (fun _ _ _ _ h => h)) (pa_cons (pe_op op_mod (pv 3) pe_int) (pa_cons (pv 2) pa_nil))))
    (pss_one (ps_fault (W := fun cls d _ H => E cls d H) RN rfl (takes_of rfl rfl rfl rfl) hr3 (pe_fld (pe_fld (pv 0) rfl) rfl))))))), ?_⟩)
  obtain ⟨ra, a, w, T, p, rfl, hR, qO, qE⟩ := h
  have hw1 := hR.w1
  have hw2 := hR.w2
  obtain ⟨db, hba⟩ := id hR.B
  refine ⟨Nat.zero_le _, fun c hc => ?_⟩
  have hac : a ≠ c := ne_of_none hba hc
  have hR0 : Rdg CR CB (upd H c (.lst [])) ra a w T p := hR.next hR.le ⟨db, by rw [upd_ne hac]; exact hba⟩ (kept_same (same_new hc))
  obtain ⟨dx, la, sa, d0, d1, hra, tb⟩ := id hR0.R
  refine ⟨_, rfl, ra, CR, dx, _, _, rfl, hra, C.cR, C.rW, rF_width a w la sa, _, _, rfl, rfl, ?_⟩
  have e3 : (w : Int) + 3 = ((w + 3 : Nat) : Int) := by omega
  dsimp only
  rw [e3]
  refine ⟨_, rfl, w + 3, rfl, by omega, by omega, ?_⟩
  refine for_range (lo := 0) (n := ((w + 3 : Nat) : Int).toNat) (fun i σ H' => ∃ (r : List Bool) (p' : Nat) (v4 : Option V), σ = [some (.ref ra), some (.ref c), some (.int (r.length : Int)), some (.int ((w + 3 : Nat) : Int)), v4] ∧ Kept a H H' ∧ Rdg CR CB H' ra a w T p' ∧
      H' c = some (.lst (vN (cg w r (i % 2 == 1)))) ∧ r.length < w ∧ Ql31.readAlone w (w + 4 - i) (i % 2 == 1) r (rdr T p') = Ql31.readAlone w (w + 4) false [] (rdr T p))
    ⟨[], p, none, rfl, kept_same (same_new hc), hR0, ?_, hw1, rfl⟩ ?_ ?_
  · rw [upd_same]
    show _ = some (HO.lst (vN (cg w [] false)))
    rw [cg_start hw1]
    rfl
  · rintro i σ H' hi ⟨r, p', v4, rfl, k1, R1, h1, hrw, heq⟩
    rw [Int.toNat_natCast] at hi
    obtain ⟨dx1, la1, sa1, d01, d11, hra1, tb1⟩ := id R1.R
    obtain ⟨kf, hkf⟩ : ∃ kf, w + 4 - i = (kf + 1) + 1 := ⟨w + 4 - i - 2, by omega⟩
    rw [hkf, readAlone_step hrw] at heq
    rw [Int.zero_add]
    refine ⟨_, rfl, ra, dx1, _, rfl, hra1, rF_none a w la1 sa1 (by decide +kernel) (by decide +kernel) (by decide +kernel) (by decide +kernel), _, rfl, _, _, rfl, rfl, (by decide : (0 : Int) < 2), _, rfl, ra, a, w, T, p', (i % 2 == 1), r.length, ?_, R1, by omega, fun n t hn p1 ht hp1 hle H1 hB1 k2 => ?_, fun e l he => ?_⟩
    · show [V.ref ra, V.int ((i : Int) % 2), V.int (r.length : Int)] = _
      rw [parity]
    · rw [hn] at heq
      dsimp only at heq
      subst ht
      have R2 := R1.next hp1 hB1 k2
      obtain ⟨dx2, la2, sa2, d02, d12, hra2, tb2⟩ := id R2.R
      have hc2 := k2 _ _ h1 (Ne.symm hac)
      have l1 : (r ++ List.replicate n (i % 2 == 1)).length = r.length + n := by rw [List.length_append, List.length_replicate]
      have hcg := cg_ext (d := (i % 2 == 1)) hrw hle
      refine ⟨_, rfl, _, rfl, ra, CR, dx2, _, _, rfl, hra2, C.cR, C.rW, rF_width a w la2 sa2, rfl, _, rfl, ?_⟩
      by_cases cw : r.length + n = w
      · refine ifT (dec_nat.trans (decide_eq_true cw)) ?_
        rw [readAlone_done (by rw [l1]; exact cw) hw1] at heq
        have hch : cg w r (i % 2 == 1) = chs (r ++ List.replicate n (i % 2 == 1)) := by
          rw [← hcg]
          exact cg_end (by rw [l1]; exact cw) _
        rw [hch] at hc2
        refine ⟨_, rfl, _, rfl, ra, CR, dx2, _, _, rfl, hra2, C.cR, C.rW, rF_width a w la2 sa2, c, (chs (r ++ List.replicate n (i % 2 == 1))).map (fun (x : Nat) => (x : Int)), w, rfl, hc2, ?_, fun H3 q s3 hq hq2 => ?_⟩
        · rw [List.length_map]
          have := chs_len (r ++ List.replicate n (i % 2 == 1))
          omega
        · rw [chL_is (by rw [l1]; exact cw)] at hq2
          obtain ⟨db2, hb2⟩ := hB1
          have hqH : H q = none := by
            cases e : H q with
            | none => rfl
            | some o =>
              exfalso
              by_cases hqa : q = a
              · rw [hqa, hb2] at hq
                cases hq
              · rw [k2 _ _ (k1 _ _ e hqa) hqa] at hq
                cases hq
          exact qO _ _ heq.symm (by rw [l1]; exact cw) _ rfl hp1 H3 q ⟨db2, s3 _ _ hb2⟩ ((k1.trans k2).trans (kept_same s3)) hqH hq2
      · refine ifF (dec_nat.trans (decide_eq_false cw)) ?_
        have hlen : (cg w r (i % 2 == 1)).length ≤ 20000 := by
          have := cg_len (w := w) (r := r) (i % 2 == 1)
          omega
        refine ⟨_, rfl, ra, dx2, _, rfl, hra2, rF_none a w la2 sa2 (by decide +kernel) (by decide +kernel) (by decide +kernel) (by decide +kernel), _, rfl, _, rfl, ra, a, c, w, r.length + n, _, rfl, R2.R, hc2, hlen, fun H3 h3 k3 => ?_⟩
        have e1 : turnOp w (cg w r (i % 2 == 1)) (r.length + n) = cg w (r ++ List.replicate n (i % 2 == 1)) (!(i % 2 == 1)) := by
          rw [← hcg, ← l1]
          exact cg_turn _ (by rw [l1]; exact hle)
        rw [e1] at h3
        have Rd3 : Reader CR H3 ra a w := R2.R.list hc2 (vN_ne _) k3
        obtain ⟨db2, hb2⟩ := hB1
        have ei : w + 4 - (i + 1) = kf + 1 := by omega
        refine ⟨r ++ List.replicate n (i % 2 == 1), p1, some (.int (i : Int)), ?_, kept_new (k1.trans k2) hc k3.two', ⟨Rd3, ⟨db2, k3 _ _ hb2 hac⟩, R2.bin, hp1, R2.len, hw1, hw2⟩, ?_, by rw [l1]; omega, ?_⟩
        · rw [l1]
          rfl
        · rw [odd_succ]
          exact h3
        · rw [odd_succ, ei]
          exact heq
    · rw [he] at heq
      exact qE _ _ heq.symm
  · rintro σ H' ⟨r, p', v4, rfl, k1, R1, h1, hrw, heq⟩
    rw [Int.toNat_natCast] at h1 heq
    obtain ⟨dx1, la1, sa1, d01, d11, hra1, tb1⟩ := id R1.R
    have e1 : w + 4 - (w + 3) = 0 + 1 := by omega
    rw [e1, readAlone_step hrw] at heq
    refine ⟨_, rfl, ra, dx1, _, rfl, hra1, rF_none a w la1 sa1 (by decide +kernel) (by decide +kernel) (by decide +kernel) (by decide +kernel), _, rfl, _, _, rfl, rfl, (by decide : (0 : Int) < 2), _, rfl, ra, a, w, T, p', ((w + 3) % 2 == 1), r.length, ?_, R1, by omega, fun n t hn p1 ht hp1 hle H1 hB1 k2 => ?_, fun e l he => ?_⟩
    · show [V.ref ra, V.int (((w + 3 : Nat) : Int) % 2), V.int (r.length : Int)] = _
      rw [parity]
    · rw [hn] at heq
      dsimp only at heq
      subst ht
      have R2 := R1.next hp1 hB1 k2
      obtain ⟨dx2, la2, sa2, d02, d12, hra2, tb2⟩ := id R2.R
      obtain ⟨db2, hb2⟩ := hB1
      have hF := qE _ _ heq.symm
      rw [R2.left] at hF
      exact ⟨_, rfl, ra, CR, dx2, _, _, rfl, hra2, C.cR, C.rB, rF_bits a w la2 sa2, a, CB, db2, _, _, rfl, hb2, C.cB, C.bP, bF_place T p1, fault_go RN hF⟩
    · rw [he] at heq
      exact qE _ _ heq.symm
end
end Fax

namespace Fax
open PySem PySem.Spec PyProof.Rows L2
open PySem.W (Codec)
section
variable {P : Program} {w : World} {K : PySem.W.Frag} {mg : Str → Option Value} {base : Heap} {CB CR C0 : Addr}
theorem way_cases : ∀ x ∈ wayP, (x.2 = 10 ∧ x.1 = ("0001" : Str)) ∨ (x.2 = 11 ∧ x.1 = ("001" : Str)) ∨ (-3 ≤ x.2 ∧ x.2 ≤ 3 ∧ x.1 ≠ ("0001" : Str) ∧ x.1 ≠ ("001" : Str)) := by decide +kernel
theorem beside_acr {w k : Nat} {A : Ql31.Row} {a : Int} {d : Bool} {r : Ql31.Row} {b t : Ql31.Bits} {b1 : Nat} (h : a < (w : Int)) (h1 : Ql31.change A a (!d) = b1) (hc : Ql31.code Ql31.ways b = .ok (11, t)) :
    Ql31.readBeside w A (k + 1) a d r b = match acr d w r.length b.length t with
      | .error e => .error e
      | .ok ((n, m), t2) => Ql31.readBeside w A k ((r.length : Int) + n + m) d (r ++ (List.replicate n d ++ List.replicate m (!d))) t2 := by
  rw [readBeside_step h h1 rfl, hc]
  unfold acr
  show (match Ql31.readRun d (w + 2) (w - r.length) 0 t with | .error e => _ | .ok (n, t1) => _) = _
  cases e1 : Ql31.readRun d (w + 2) (w - r.length) 0 t with
  | error e => rfl
  | ok x =>
    obtain ⟨n, t1⟩ := x
    dsimp only
    cases e2 : Ql31.readRun (!d) (w + 2) (w - r.length - n) 0 t1 with
    | error e => rfl
    | ok y =>
      obtain ⟨m, t2⟩ := y
      dsimp only
      by_cases c : n + m = 0
      · rw [if_pos c, if_pos c]
      · rw [if_neg c, if_neg c]
theorem scRowAbove : FnScope ["self", "above", "changes", "place", "colour", "index_above", "opposite", "begin", "way"] ["self", "above"] (defScope sRowAbove) := ⟨rfl, rfl, rfl, by decide +kernel, rfl, by decide +kernel, by decide +kernel⟩
/-- the loop's word -/
def WR (CR CB : Addr) (H : Hp) (ra a ab c : Addr) (w : Nat) (T : Str) (A : Ql31.Row) (R0 : Ql31.R Ql31.Row) (m : Nat) (σ : L2.St) (H' : Hp) : Prop :=
  ∃ (pa : Int) (r : List Bool) (d : Bool) (ja k p' : Nat) (v6 v7 v8 : Option V), σ = [some (.ref ra), some (.ref ab), some (.ref c), some (.int pa), some (.int (b2 d)), some (.int (ja : Int)), v6, v7, v8] ∧ Kept a H H' ∧ Rdg CR CB H' ra a w T p' ∧
    H' c = some (.lst (vN (cg w r d))) ∧ -1 ≤ pa ∧ pa ≤ w ∧ r.length = (max pa 0).toNat ∧ (∀ j, ja = j + 1 → (nth A j : Int) ≤ pa) ∧ Ql31.readBeside w A k pa d r (rdr T p') = R0 ∧ ((w : Int) - pa).toNat + 1 ≤ k ∧ m = ((w : Int) - pa).toNat
theorem has_row_above (S : MStands K CR "row_by_above" "RowReader.row_by_above" sRowAbove ["self", "above"]) (C : Cl K mg CB CR) (X : Txts K mg) (hE : Has P w K mg base "with_ends" 1 ["changes", "width"] spEnds)
    (hF : Has P w K mg base "first_behind" 1 ["changes", "index", "place"] (spFirst K)) (hO : Has P w K mg base "opposite_from" 1 ["index", "colour"] spOpposite)
    (hC : MHas P w K mg base (L2.CX P w) CB "next_code" 4 ["self", "codes"] (spNextCode K CB C0)) (hP : MHas P w K mg base (L2.CX P w) CR "passed_over" 4 ["self", "begin", "b2"] (spPassed K CR C0))
    (hS : MHas P w K mg base (L2.CX P w) CR "straight" 4 ["self", "begin", "place", "change"] (spStraightM K CR C0)) (hA : MHas P w K mg base (L2.CX P w) CR "across" 6 ["self", "begin", "changes", "colour", "start"] (spAcrossM K CR CB C0))
    (hT : MHas P w K mg base CX0 CR "turn" 1 ["self", "changes", "place"] (spTurn CR)) :
    MHas P w K mg base (L2.CX P w) CR "row_by_above" 7 ["self", "above"] (spRowAbove K CR CB C0) := by
  refine S.has fun f fd F => ?_
  obtain ⟨fe, fde, ge, kpe, be, GE⟩ := hE
  obtain ⟨ff, fdf, gf, kpf, bf, GF⟩ := hF
  obtain ⟨fo, fdo, go, kpo, bo, GO⟩ := hO
  obtain ⟨fc, fdc, mc, bc, GC⟩ := hC
  obtain ⟨fp, fdp, mp, bp, GP⟩ := hP
  obtain ⟨fs, fds, ms, bs, GS⟩ := hS
  obtain ⟨fa, fda, ma, ba, GA⟩ := hA
  obtain ⟨ft, fdt, mt, bt, GT⟩ := hT
  obtain ⟨t0, g0⟩ := X.white
  obtain ⟨t1, g1⟩ := X.pass
  obtain ⟨t2, g2⟩ := X.across
  refine F.okX scRowAbove (fun vs H Q E h => by obtain ⟨ra, a, ab, w, T, p, A, rfl, _⟩ := h; rfl) (fun cdv A outer s H vs Q E hr h => ⟨_,
    have hr4 : Room 4 _ := hr.mono (by decide)
    have hr1 : Room 1 _ := hr.mono (by decide)
    pss_cons (ps_set (i := 2) scRowAbove.nd rfl (.inl rfl) (pe_lst pa_nil))
    (pss_cons (ps_set (i := 3) scRowAbove.nd rfl (.inl rfl) (pe_un un_neg pe_int))
    (pss_cons (ps_set (i := 4) scRowAbove.nd rfl (.inl rfl) (pe_cint g0))
    (pss_cons (ps_set (i := 5) scRowAbove.nd rfl (.inl rfl) pe_int)
    (pss_cons (ps_while (passes_of rfl) (pt_cmpR op_lt (pv 3) (pe_fld (pv 0) rfl) (nomark _))
      (pss_cons (ps_set (i := 5) scRowAbove.nd rfl (.inl rfl) (pe_call GF hr1 rfl gf kpf bf .nil pass0 (pa_cons (pv 1) (pa_cons (pv 5) (pa_cons (pv 3) pa_nil)))))
      (pss_cons (ps_set (i := 6) scRowAbove.nd rfl (.inl rfl) (pe_call GO hr1 rfl go kpo bo .nil pass0 (pa_cons (pv 5) (pa_cons (pv 4) pa_nil))))
      (pss_cons (ps_set (i := 7) scRowAbove.nd rfl (.inl rfl) (pe_fld (pe_fld (pv 0) rfl) rfl))
      (pss_cons (ps_set (i := 8) scRowAbove.nd rfl (.inl rfl) (pe_meth (pe_fld (pv 0) rfl) C.cB mc GC hr4 bc .nil (passes_call (E := E) (takes_of rfl rfl rfl rfl) (fun _ _ _ _ h => h)) (pa_cons (pe_fld (pv 0) rfl) pa_nil)))
      (pss_one (ps_if (pt_cmpR op_eq (pv 8) (pe_cstr g1) (nomark _))
        (pss_one (ps_set (i := 3) scRowAbove.nd rfl (.inl rfl) (pe_meth (pv 0) C.cR mp GP hr4 bp .nil (passes_call (E := E) (takes_of rfl rfl rfl rfl) (fun _ _ _ _ h => h)) (pa_cons (pv 7) (pa_cons (pe_ix ix_list (pv 1) (pe_op op_add (pv 6) pe_int) (fun _ _ => rfl)) pa_nil)))))
        (pss_one (ps_if (pt_cmpR op_eq (pv 8) (pe_cstr g2) (nomark _))
          (pss_one (ps_set (i := 3) scRowAbove.nd rfl (.inl rfl) (pe_meth (pv 0) C.cR ma GA hr ba .nil (passes_call (E := E) (takes_of rfl rfl rfl rfl) (fun _ _ _ _ h => h))
            (pa_cons (pv 7) (pa_cons (pv 2) (pa_cons (pv 4) (pa_cons (pe_callB (call_max2 rfl) (by rfl) X.max (by decide +kernel) (pa_cons (pv 3) (pa_cons pe_int pa_nil))) pa_nil)))))))
          (pss_cons (ps_set (i := 3) scRowAbove.nd rfl (.inl rfl) (pe_meth (pv 0) C.cR ms GS hr4 bs .nil (passes_call (E := E) (takes_of rfl rfl rfl rfl) (fun _ _ _ _ h => h))
            (pa_cons (pv 7) (pa_cons (pv 3) (pa_cons (pe_op op_add (pe_ix ix_list (pv 1) (pv 6) (fun _ _ => rfl)) (pe_dget (hu_of hr) (pe_fld (pv 0) rfl) (pv 8) (fun _ _ => rfl))) pa_nil)))))
          (pss_cons (ps_expr (pe_meth (pv 0) C.cR mt GT hr1 bt .nil pass0 (pa_cons (pv 2) (pa_cons (pv 3) pa_nil))))
          (pss_one (ps_set (i := 4) scRowAbove.nd rfl (.inl rfl) (pe_op op_sub pe_int (pv 4)))))))))))))))
    (pss_one (ps_ret (pe_call GE hr1 rfl ge kpe be .nil pass0 (pa_cons (pv 2) (pa_cons (pe_fld (pv 0) rfl) pa_nil))))))))), ?_⟩)
  obtain ⟨ra, a, ab, w, T, p, A, rfl, hR, hab, hAl, qO, qE⟩ := h
  have hw1 := hR.w1
  have hw2 := hR.w2
  have hz : sizeLine = 16777216 := sizeLine_eq
  obtain ⟨db, hba⟩ := id hR.B
  have haba : ab ≠ a := ne_of hab hba (by intro z; cases z)
  refine ⟨Nat.zero_le _, fun c hc => ?_⟩
  have hac : a ≠ c := ne_of_none hba hc
  have hR0 : Rdg CR CB (upd H c (.lst [])) ra a w T p := hR.next hR.le ⟨db, by rw [upd_ne hac]; exact hba⟩ (kept_same (same_new hc))
  refine ⟨_, rfl, ?_⟩
  refine ⟨WR CR CB H ra a ab c w T A (Ql31.readBeside w A (2 * w + 4) (-1) false [] (rdr T p)), ⟨_, -1, [], false, 0, 2 * w + 4, p, none, none, none, rfl, kept_same (same_new hc), hR0, ?_, Int.le_refl _, by omega, rfl, fun j hj => by omega, rfl, by omega, rfl⟩, ?_⟩
  · rw [upd_same, cg_start hw1]
    rfl
  rintro m σ H' ⟨pa, r, d, ja, k, p', v6, v7, v8, rfl, k1, R1, h1, hp1, hp2, hrl, hja, heq, hk, rfl⟩
  obtain ⟨dx1, la1, sa1, d01, d11, hra1, tb1⟩ := id R1.R
  obtain ⟨db1, hba1⟩ := id R1.B
  refine ⟨_, rfl, _, rfl, ra, CR, dx1, _, _, rfl, hra1, C.cR, C.rW, rF_width a w la1 sa1, _, _, rfl, rfl, _, rfl, ?_⟩
  by_cases c1 : pa < (w : Int)
  · refine ifT (decide_eq_true c1) ?_
    refine ⟨fun σ H2 => ∃ m', m' < ((w : Int) - pa).toNat ∧ WR CR CB H ra a ab c w T A (Ql31.readBeside w A (2 * w + 4) (-1) false [] (rdr T p)) m' σ H2, fun σ' H2 h => h, ?_⟩
    obtain ⟨k', rfl⟩ : ∃ k', k = k' + 1 := ⟨k - 1, by omega⟩
    have hab1 := k1 _ _ hab haba
    -- index_above
    refine ⟨_, rfl, _, rfl, _, rfl, ab, A, ja, pa, rfl, SqL.of hab1, hp1, by omega, hja, fun jb sa => ?_⟩
    have hjb := seg_le sa
    -- opposite
    refine ⟨_, rfl, _, rfl, _, _, rfl, ?_⟩
    obtain ⟨o, ho, hop, hoe⟩ : ∃ o : Nat, (o = jb ∨ o = jb + 1) ∧ (o % 2 == 1) = d ∧ (jb : Int) + ((jb : Int) + b2 d) % 2 = (o : Int) := by
      cases d with
      | false =>
        have eb : b2 false = 0 := rfl
        by_cases e : jb % 2 = 0
        · exact ⟨jb, .inl rfl, by rw [e]; rfl, by rw [eb]; omega⟩
        · exact ⟨jb + 1, .inr rfl, by rw [show (jb + 1) % 2 = 0 by omega]; rfl, by rw [eb]; omega⟩
      | true =>
        have eb : b2 true = 1 := rfl
        by_cases e : jb % 2 = 1
        · exact ⟨jb, .inl rfl, by rw [e]; rfl, by rw [eb]; omega⟩
        · exact ⟨jb + 1, .inr rfl, by rw [show (jb + 1) % 2 = 1 by omega]; rfl, by rw [eb]; omega⟩
    dsimp only
    rw [hoe]
    have hol : o + 1 < (chs A).length + 3 := by omega
    have hb1 : Ql31.change A pa (!d) = nth A o := change_is sa ho hop
    have hb2 : Ql31.other A (nth A o) (!d) = nth A (o + 1) := other_next _ (by rw [hop, Bool.not_not])
    have hlow : (nth A jb : Int) ≤ nth A o := by
      rcases ho with e | e
      · rw [e]
        exact Int.le_refl _
      · rw [e]
        have := nth_mono A jb
        omega
    have hmono : nth A o ≤ nth A (o + 1) := nth_mono A o
    have hbh := sa.behind
    have hAw : nth A (o + 1) ≤ w := by
      have := nth_le A (o + 1)
      omega
    have hrw : r.length < w := by omega
    -- begin
    refine ⟨_, rfl, ra, CR, dx1, _, _, rfl, hra1, C.cR, C.rB, rF_bits a w la1 sa1, a, CB, db1, _, _, rfl, hba1, C.cB, C.bP, bF_place T p', ?_⟩
    -- way
    refine ⟨_, rfl, ra, CR, dx1, _, _, rfl, hra1, C.cR, C.rB, rF_bits a w la1 sa1, a, db1, _, rfl, hba1, bF_none T p' (by decide +kernel) (by decide +kernel), ?_⟩
    refine ⟨_, rfl, ra, CR, dx1, _, _, rfl, hra1, C.cR, C.rS, rF_shifts a w la1 sa1, ?_⟩
    refine ⟨a, sa1, T, p', gW, wayP, Ql31.ways, rfl, ⟨db1, hba1⟩, R1.bin, R1.le, R1.len, tb1.s, way_book, wayP_nodup, by decide, fun z1 z hm hco hle H2 hB2 hk2 => ?_, fun e l hco => ?_⟩
    · have R2 : Rdg CR CB H2 ra a w T (p' + z1.length) := R1.next hle hB2 hk2
      obtain ⟨dx2, la2, sa2, d02, d12, hra2, tb2⟩ := id R2.R
      have hc2 := hk2 _ _ h1 (Ne.symm hac)
      have hab2 := hk2 _ _ hab1 haba
      have hg2 := lk_of wayP_nodup hm
      have hbl : (rdr T p').length = T.length - p' := by rw [List.length_drop, bits_len]
      have hlen : (cg w r d).length ≤ 20000 := by
        have := cg_len (w := w) (r := r) d
        omega
      refine ⟨_, rfl, rfl, _, rfl, ?_⟩
      rcases way_cases _ hm with ⟨ez, es⟩ | ⟨ez, es⟩ | ⟨ez1, ez2, es1, es2⟩
      · -- passed over
        dsimp only at ez es
        subst ez es
        refine ifT (decide_eq_true rfl) ?_
        rw [readBeside_step c1 hb1 hb2, hco] at heq
        dsimp only at heq
        rw [if_pos rfl] at heq
        refine ⟨_, rfl, ra, dx2, _, rfl, hra2, rF_none a w la2 sa2 (by decide +kernel) (by decide +kernel) (by decide +kernel) (by decide +kernel), _, rfl, _, rfl, _, rfl, _, _, rfl, rfl, ab, _, _, _, rfl, rfl, SqL.of hab2, (by
          have e := at_ch (r := A) (j := o + 1) hol
          exact e), ?_⟩
        refine ⟨ra, a, w, p', nth A (o + 1), rfl, R2.R, fun e => ?_, fun e => ?_⟩
        · rw [if_pos (by omega)] at heq
          have hF := qE _ _ heq.symm
          rw [R1.left] at hF
          exact hF
        · rw [if_neg (by omega)] at heq
          have l1 : (r ++ List.replicate (nth A (o + 1) - r.length) d).length = nth A (o + 1) := by
            rw [List.length_append, List.length_replicate]
            omega
          refine ⟨((w : Int) - (nth A (o + 1) : Int)).toNat, by omega, (nth A (o + 1) : Int), r ++ List.replicate (nth A (o + 1) - r.length) d, d, jb, k', p' + ("0001" : Str).length, _, _, _, rfl, k1.trans hk2, R2, ?_, by omega, by omega, by rw [l1]; omega, fun j hj => ?_, heq, by omega, rfl⟩
          · rw [cg_ext hrw (by omega)]
            exact hc2
          · have := sa.before j hj
            omega
      · -- across
        dsimp only at ez es
        subst ez es
        refine ifF (by decide +kernel) ?_
        refine ⟨_, rfl, rfl, _, rfl, ?_⟩
        refine ifT (decide_eq_true rfl) ?_
        rw [beside_acr c1 hb1 hco] at heq
        have em : (if (0 : Int) > pa then 0 else pa) = (r.length : Int) := by
          by_cases c : (0 : Int) > pa
          · rw [if_pos c]
            omega
          · rw [if_neg c]
            omega
        refine ⟨_, rfl, ra, dx2, _, rfl, hra2, rF_none a w la2 sa2 (by decide +kernel) (by decide +kernel) (by decide +kernel) (by decide +kernel), _, rfl, _, rfl, _, rfl, _, rfl, pa, 0, rfl, ?_⟩
        dsimp only
        rw [em]
        have elb : (rdr T p').length = T.length - p' := hbl
        rw [elb] at heq
        refine ⟨ra, a, c, w, T, p' + ("001" : Str).length, p', d, r, rfl, R2, R1.le, hc2, hrw, fun n m t hacr hnm hne p3 ht hp3 H3 hB3 k3 h3 => ?_, fun e l he => ?_⟩
        · rw [hacr] at heq
          dsimp only at heq
          subst ht
          have l1 : (r ++ (List.replicate n d ++ List.replicate m (!d))).length = r.length + n + m := by
            rw [List.length_append, List.length_append, List.length_replicate, List.length_replicate]
            omega
          have ep : (r.length : Int) + n + m = ((r.length + n + m : Nat) : Int) := by omega
          rw [ep] at heq
          have kk := kept_new (k1.trans hk2) hc k3
          obtain ⟨dx3, hb3⟩ := hB3
          have R3 : Rdg CR CB H3 ra a w T p3 := by
            refine ⟨?_, ⟨dx3, hb3⟩, R2.bin, hp3, R2.len, hw1, hw2⟩
            exact hR.R.kept hR.B kk
          exact ⟨((w : Int) - ((r.length + n + m : Nat) : Int)).toNat, by omega, ((r.length + n + m : Nat) : Int), r ++ (List.replicate n d ++ List.replicate m (!d)), d, jb, k', p3, _, _, _, rfl, kk, R3, h3, by omega, by omega, by rw [l1]; omega, fun j hj => (by
            have := sa.before j hj
            omega), heq, by omega, rfl⟩
        · rw [he] at heq
          exact qE _ _ heq.symm
      · -- straight
        dsimp only at ez1 ez2 es1 es2
        refine ifF (decide_eq_false (fun q => es1 (by injection q))) ?_
        refine ⟨_, rfl, rfl, _, rfl, ?_⟩
        refine ifF (decide_eq_false (fun q => es2 (by injection q))) ?_
        rw [readBeside_step c1 hb1 hb2, hco] at heq
        dsimp only at heq
        rw [if_neg (by omega), if_neg (by omega)] at heq
        have hget := DGet.k (k := Sum.inr z1) tb2.s
        rw [dct_val, hg2] at hget
        have eg : gW z = .int z := if_neg (by omega)
        refine ⟨_, rfl, ra, dx2, _, rfl, hra2, rF_none a w la2 sa2 (by decide +kernel) (by decide +kernel) (by decide +kernel) (by decide +kernel), _, rfl, _, rfl, _, rfl, _, rfl, ab, _, _, _, rfl, rfl, SqL.of hab2, at_ch (r := A) (j := o) (by omega), ?_⟩
        refine ⟨_, rfl, ra, CR, dx2, _, _, rfl, hra2, C.cR, C.rS, rF_shifts a w la2 sa2, _, rfl, sa2, gW z, rfl, hget, ?_⟩
        rw [eg]
        refine ⟨_, _, rfl, rfl, ?_⟩
        refine ⟨ra, a, w, p', pa, (nth A o : Int) + z, rfl, R2.R, fun e => ?_, fun e => ?_⟩
        · rw [if_pos (by omega)] at heq
          have hF := qE _ _ heq.symm
          rw [R1.left] at hF
          exact hF
        · rw [if_neg (by omega)] at heq
          have hq0 : (((nth A o : Int) + z).toNat : Int) = (nth A o : Int) + z := by omega
          have l1 : (r ++ List.replicate (((nth A o : Int) + z).toNat - r.length) d).length = ((nth A o : Int) + z).toNat := by
            rw [List.length_append, List.length_replicate]
            omega
          have hcg := cg_ext (d := d) (n := ((nth A o : Int) + z).toNat - r.length) hrw (by omega)
          have e1 : turnOp w (cg w r d) ((nth A o : Int) + z).toNat = cg w (r ++ List.replicate (((nth A o : Int) + z).toNat - r.length) d) (!d) := by
            have e2 := cg_turn (w := w) (r := r ++ List.replicate (((nth A o : Int) + z).toNat - r.length) d) d (by rw [l1]; omega)
            rw [l1, hcg] at e2
            exact e2
          refine ⟨_, rfl, ra, dx2, _, rfl, hra2, rF_none a w la2 sa2 (by decide +kernel) (by decide +kernel) (by decide +kernel) (by decide +kernel), _, rfl, _, rfl, ra, a, c, w, ((nth A o : Int) + z).toNat, _, ?_, R2.R, hc2, hlen, fun H3 h3 k3 => ?_⟩
          · rw [hq0]
            rfl
          · rw [e1] at h3
            have eb : (1 : Int) - b2 d = b2 (!d) := by cases d <;> rfl
            refine ⟨_, rfl, _, _, rfl, rfl, ?_⟩
            dsimp only
            rw [eb]
            obtain ⟨dx3, hb3⟩ := hB2
            have kk := kept_new (k1.trans hk2) hc k3.two'
            have R3 : Rdg CR CB H3 ra a w T (p' + z1.length) := ⟨R2.R.list hc2 (vN_ne _) k3, ⟨dx3, k3 _ _ hb3 hac⟩, R2.bin, hle, R2.len, hw1, hw2⟩
            exact ⟨((w : Int) - ((nth A o : Int) + z)).toNat, by omega, (nth A o : Int) + z, r ++ List.replicate (((nth A o : Int) + z).toNat - r.length) d, !d, jb, k', p' + z1.length, _, _, _, rfl, kk, R3, h3, by omega, by omega, by rw [l1]; omega, fun j hj => (by
              have := sa.before j hj
              omega), heq, by omega, rfl⟩
    · rw [readBeside_step c1 hb1 hb2, hco] at heq
      exact qE _ _ heq.symm
  · refine ifF (decide_eq_false c1) ?_
    have hpw : pa = (w : Int) := by omega
    have hrw : r.length = w := by omega
    obtain ⟨k', rfl⟩ : ∃ k', k = k' + 1 := ⟨k - 1, by omega⟩
    rw [readBeside_done (by omega)] at heq
    rw [cg_end hrw] at h1
    refine ⟨_, rfl, _, rfl, ra, CR, dx1, _, _, rfl, hra1, C.cR, C.rW, rF_width a w la1 sa1, c, (chs r).map (fun (x : Nat) => (x : Int)), w, rfl, h1, ?_, fun H3 q s3 hq hq2 => ?_⟩
    · rw [List.length_map]
      have := chs_len r
      omega
    · rw [chL_is hrw] at hq2
      have hqH : H q = none := by
        cases e : H q with
        | none => rfl
        | some o =>
          exfalso
          by_cases hqa : q = a
          · rw [hqa, hba1] at hq
            cases hq
          · rw [k1 _ _ e hqa] at hq
            cases hq
      exact qO _ _ heq.symm hrw _ rfl R1.le H3 q ⟨db1, s3 _ _ hba1⟩ (k1.trans (kept_same s3)) hqH hq2
end
end Fax

namespace Fax
open PySem PySem.Spec PyProof.Rows L2
open PySem.W (Codec)
open Ql31 (stride rowBytes)
/-- a list's last item, to be stored again -/
theorem get_last {X : Cx} : PGet X (fun o i H Q => ∃ p xs v, o = .ref p ∧ i = .int (-1) ∧ SqL X.K H p (xs ++ [v]) ∧ Q v H) := by
  intro pins s σ H o i ov iv Q I ro ri h
  obtain ⟨p, xs, z, rfl, rfl, hq, q⟩ := h
  cases ro
  obtain ⟨t, rfl⟩ := ri
  obtain ⟨its, r, pl, hz⟩ := I.list hq
  obtain ⟨j, h1, h2, h3, h4, h5⟩ := atI_get (atI_last xs z)
  obtain ⟨w, ew, rw'⟩ := r.get h2
  have hl := r.length
  have hn := line63
  have hj : ((-1 : Int) + (its.toArray.size : Int)).toNat = j := by
    rw [seqIndex_neg (by omega) h4] at h1
    rw [List.size_toArray, ← hl]
    exact Option.some.inj h1
  exact wpAny_getItem_list_neg pl.isList (by omega) (by rw [List.size_toArray] <;> omega) (by omega) (by rw [hj]; simpa using ew) ⟨z, H, I, rw', q⟩
theorem ix_last (n : Nat) : ixN (n + 1) (-1) = some n := by
  unfold ixN
  rw [if_neg (by omega), if_pos (by omega)]
  congr 1
  omega
theorem and_nat (a b : Nat) : Builtin.bitAnd (a : Int) (b : Int) = ((a &&& b : Nat) : Int) := by
  unfold Builtin.bitAnd
  rw [decide_eq_true (Int.natCast_nonneg a), decide_eq_true (Int.natCast_nonneg b)]
  rfl
theorem xor_nat (a b : Nat) : Builtin.bitXor (a : Int) (b : Int) = ((a ^^^ b : Nat) : Int) := by
  rw [_root_.Bits.bitXor_pp (Int.natCast_nonneg a) (Int.natCast_nonneg b)]
  rfl
theorem rep_one {α : Type} (x : α) : ∀ n : Nat, (List.replicate n [x]).flatten = List.replicate n x
  | 0 => rfl
  | n + 1 => by
    rw [List.replicate_succ, List.flatten_cons, rep_one x n]
    rfl
theorem vN_rep (n x : Nat) : vN (List.replicate n x) = List.replicate n (V.int (x : Int)) := by
  unfold vN vI
  rw [List.map_replicate, List.map_replicate]
def spBytesRow (K : PySem.W.Frag) : Sp := fun vs H Q _ => ∃ (a : Addr) (r : Ql31.Row), vs = [.ref a, .int (r.length : Int)] ∧ SqL K H a (vI (chL r)) ∧ 1 ≤ r.length ∧ r.length ≤ 16384 ∧
  ∀ H' q, Same H H' → H q = none → H' q = some (.lst (vN ((rowBytes r).map fun b => b.toNat))) → Q (.ref q) H'
section
variable {P : Program} {w : World} {K : PySem.W.Frag} {mg : Str → Option Value} {base : Heap} {CB CR C0 : Addr}
theorem shr_nat (x : Nat) : (255 : Int) / 2 ^ ((x : Int) % 8).toNat = ((255 / 2 ^ (x % 8) : Nat) : Int) := by
  have e : ((x : Int) % 8).toNat = x % 8 := by omega
  rw [e, Int.natCast_ediv, Int.natCast_pow]
  rfl
theorem scBytesRow : FnScope ["changes", "width", "row", "value", "behind", "place"] ["changes", "width"] (defScope sBytesRow) := ⟨rfl, rfl, rfl, by decide +kernel, rfl, by decide +kernel, by decide +kernel⟩
/-- the loop's word -/
def WB (H : Hp) (a c : Addr) (r : Ql31.Row) (i : Nat) (σ : L2.St) (H' : Hp) : Prop :=
  ∃ (row : List Nat) (value behind : Nat) (v5 : Option V), σ = [some (.ref a), some (.int (r.length : Int)), some (.ref c), some (.int (value : Int)), some (.int (behind : Int)), v5] ∧ Same H H' ∧ H' c = some (.lst (vN row)) ∧
    i ≤ (chs r).length ∧ Bytes ((chs r).take i) row value behind ∧ (∀ x ∈ (chs r).drop i, row.length ≤ x / 8) ∧ row.length < stride r.length
theorem has_bytes_row (S : Stands K mg "bytes_of_row" sBytesRow ["changes", "width"]) (X : Txts K mg) : Has P w K mg base "bytes_of_row" 1 ["changes", "width"] (spBytesRow K) := by
  refine S.has fun f fd F => ?_
  refine F.ok scBytesRow (fun vs H Q E h => by obtain ⟨a, r, rfl, _⟩ := h; rfl) (fun cdv A outer s H vs Q E hr h => ⟨_,
    pss_cons (ps_set (i := 2) scBytesRow.nd rfl (.inl rfl) (pe_lst pa_nil))
    (pss_cons (ps_set (i := 3) scBytesRow.nd rfl (.inl rfl) pe_int)
    (pss_cons (ps_set (i := 4) scBytesRow.nd rfl (.inl rfl) pe_int)
    (pss_cons (ps_for PassesOwn.never rfl (pi_list (pv 0)) (pg_name (i := 5) scBytesRow.nd rfl (.inl rfl))
      (pss_cons (ps_if (pt_cmpR op_eq (pv 5) (pv 1) (nomark _)) (pss_one ps_break) pss_nil)
      (pss_cons (ps_if (pt_cmpR op_gt (pe_op op_fdiv (pv 5) pe_int) (pe_callB call_len_seq (by rfl) X.len PySem.boot_len (pa_cons (pv 2) pa_nil)) (nomark _))
        (pss_cons (ps_expr (pe_bm PySem.F.plainAttrs_list PySem.F.slot_list_append PySem.F.type_list_append mt_append (pv 2) (pa_cons (pv 3) pa_nil)))
        (pss_cons (ps_expr (pe_bm PySem.F.plainAttrs_list PySem.F.slot_list_extend PySem.F.type_list_extend mt_extend (pv 2) (pa_cons (pe_op op_rep (pe_lst (pa_cons (pv 4) pa_nil)) (pe_op op_sub (pe_op op_fdiv (pv 5) pe_int) (pe_callB call_len_seq (by rfl) X.len PySem.boot_len (pa_cons (pv 2) pa_nil)))) pa_nil)))
        (pss_one (ps_set (i := 3) scBytesRow.nd rfl (.inl rfl) (pv 4))))) pss_nil)
      (pss_cons (ps_aug (i := 3) scBytesRow.nd rfl (.inl rfl) (pe_op op_shr pe_int (pe_op op_mod (pv 5) pe_int)) iop_xor)
      (pss_one (ps_aug (i := 4) scBytesRow.nd rfl (.inl rfl) pe_int iop_xor))))))
    (pss_cons (ps_expr (pe_bm PySem.F.plainAttrs_list PySem.F.slot_list_append PySem.F.type_list_append mt_append (pv 2) (pa_cons (pv 3) pa_nil)))
    (pss_cons (ps_expr (pe_bm PySem.F.plainAttrs_list PySem.F.slot_list_extend PySem.F.type_list_extend mt_extend (pv 2) (pa_cons (pe_op op_rep (pe_lst (pa_cons (pv 4) pa_nil)) (pe_op op_sub (pe_op op_fdiv (pe_op op_add (pv 1) pe_int) pe_int) (pe_callB call_len_seq (by rfl) X.len PySem.boot_len (pa_cons (pv 2) pa_nil)))) pa_nil)))
    (pss_cons (ps_augS (pv 2) (pe_un un_neg pe_int) get_last (pe_op op_shl pe_int (pe_op op_mod (pe_un un_neg (pv 1)) pe_int)) iop_and set_list)
    (pss_one (ps_ret (pv 2))))))))), ?_⟩)
  obtain ⟨a, r, rfl, hS, hw1, hw2, q⟩ := h
  have hz : sizeLine = 16777216 := sizeLine_eq
  have hstr : stride r.length = (r.length + 7) / 8 := rfl
  refine ⟨Nat.zero_le _, fun c hc => ?_⟩
  refine ⟨_, rfl, a, rfl, ⟨_, (same_new hc).seq hS⟩, for_list (K := K) (a := a) (xs := vI (chL r)) (WB H a c r)
    ⟨[], 0, 0, none, rfl, same_new hc, upd_same, Nat.zero_le _, Bytes.start, fun x _ => Nat.zero_le _, by show 0 < (r.length + 7) / 8; omega⟩ (fun i σ H' _ ⟨_, _, _, _, _, s1, _⟩ => s1.seq hS) ?_ ?_⟩
  · rintro i y σ H' hi ⟨row, value, behind, v5, rfl, s1, h1, hil, B, hlater, hrl⟩
    have hy : y = V.int (nth r i : Int) := by
      have e := chL_get (r := r) (j := i) (by omega)
      unfold vI at hi
      rw [List.getElem?_map, e] at hi
      exact (Option.some.inj hi).symm
    subst hy
    refine ⟨_, rfl, _, rfl, rfl, _, rfl, ?_⟩
    by_cases ci : i < (chs r).length
    · -- a change
      have hni : nth r i = (chs r)[i] := by
        unfold nth
        rw [List.getD_eq_getElem?_getD, List.getElem?_eq_getElem ci]
        rfl
      have hxw : nth r i < r.length := by
        rw [hni]
        exact chs_lt (List.getElem_mem ci)
      generalize hx : nth r i = x at *
      refine ifF (dec_nat.trans (decide_eq_false (by omega))) ?_
      have hdrop : (chs r).drop i = x :: (chs r).drop (i + 1) := by
        rw [List.drop_eq_getElem_cons ci, hni]
      have hle := hlater x (by rw [hdrop]; exact List.mem_cons_self)
      have htake : (chs r).take (i + 1) = (chs r).take i ++ [x] := by
        rw [List.take_succ_eq_append_getElem ci, hni]
      have hlater2 : ∀ y ∈ (chs r).drop (i + 1), x / 8 ≤ y / 8 := fun y hy => by
        have hpw : ((chs r).drop i).Pairwise (· < ·) := (chsAux_pw r false 0).sublist (List.drop_sublist _ _)
        rw [hdrop] at hpw
        have := (List.pairwise_cons.mp hpw).1 y hy
        omega
      have hxs : x / 8 < stride r.length := by
        rw [hstr]
        omega
      have hvl := vN_len row
      refine ⟨_, rfl, _, _, rfl, rfl, ⟨by decide, by decide⟩, _, rfl, c, _, rfl, .inl (SqL.of h1), _, _, rfl, rfl, _, rfl, ?_⟩
      by_cases c1 : row.length < x / 8
      · refine ifT (decide_eq_true (by rw [hvl]; omega)) ?_
        refine ⟨_, rfl, .inl ⟨rfl, _, SqL.of h1⟩, _, rfl, c, _, _, rfl, rfl, h1, by rw [hvl]; omega, ?_⟩
        have h2 : upd H' c (.lst (vN row ++ [V.int (value : Int)])) c = some (.lst (vN (row ++ [value]))) := by
          rw [upd_same, vN_app row [value]]
          rfl
        have s2 : Same H (upd H' c (.lst (vN row ++ [V.int (value : Int)]))) := same_put s1 hc
        refine ⟨_, rfl, .inl ⟨rfl, _, SqL.of h2⟩, _, rfl, (by show 1 ≤ sizeLine; omega), fun l hl => ?_⟩
        have ncl : c ≠ l := ne_of_none h2 hl
        have h2' : upd (upd H' c (.lst (vN row ++ [V.int (value : Int)]))) l (.lst [V.int (behind : Int)]) c = some (.lst (vN (row ++ [value]))) := by
          rw [upd_ne ncl]
          exact h2
        have hlH : H l = none := Same.free s2 hl
        have s3 : Same H (upd (upd H' c (.lst (vN row ++ [V.int (value : Int)]))) l (.lst [V.int (behind : Int)])) := same_put s2 hlH
        refine ⟨_, rfl, _, _, rfl, rfl, ⟨by decide, by decide⟩, _, rfl, c, _, rfl, .inl (SqL.of h2'), _, _, rfl, rfl, ?_⟩
        have ek : (x : Int) / 8 - ((vN (row ++ [value])).length : Int) = ((x / 8 - (row.length + 1) : Nat) : Int) := by
          rw [vN_len, List.length_append, List.length_singleton]
          omega
        dsimp only
        rw [ek]
        refine ⟨l, _, _, rfl, rfl, upd_same, by omega, by omega, ?_, fun q2 hq2 => ?_⟩
        · rw [Int.toNat_natCast]
          show 1 * _ ≤ _
          omega
        rw [Int.toNat_natCast, rep_one, ← vN_rep]
        have ncq : c ≠ q2 := ne_of_none h2' hq2
        have hq2H : H q2 = none := Same.free s3 hq2
        refine ⟨c, q2, vN (row ++ [value]), _, rfl, rfl, ?_, upd_same, ?_, ?_⟩
        · rw [upd_ne ncq]
          exact h2'
        · rw [vN_len, vN_len, List.length_append, List.length_singleton, List.length_replicate]
          omega
        have B2 := B.upto c1
        have hl2 : (row ++ [value] ++ List.replicate (x / 8 - (row.length + 1)) behind).length = x / 8 := by
          rw [List.length_append, List.length_append, List.length_replicate, List.length_singleton]
          omega
        have B3 := B2.turn (c := x) (by rw [hl2])
        refine ⟨_, rfl, ?_⟩
        refine ⟨_, rfl, _, rfl, _, _, rfl, rfl, (by decide : (0 : Int) < 8), _, _, rfl, rfl, ?_, _, _, rfl, rfl, ?_⟩
        · show (0 : Int) ≤ (x : Int) % 8
          omega
        refine ⟨_, rfl, _, _, rfl, rfl, ?_⟩
        refine ⟨row ++ [value] ++ List.replicate (x / 8 - (row.length + 1)) behind, behind ^^^ (255 / 2 ^ (x % 8)), behind ^^^ 255, some (.int (x : Int)), ?_, ?_, ?_, ci, ?_, ?_, ?_⟩
        · dsimp only
          rw [shr_nat, xor_nat, show (255 : Int) = ((255 : Nat) : Int) from rfl, xor_nat]
          rfl
        · exact same_put (same_put s3 hq2H) hc
        · rw [upd_same, ← vN_app]
        · rw [htake]
          exact B3
        · rw [hl2]
          exact hlater2
        · rw [hl2]
          exact hxs
      · refine ifF (decide_eq_false (by rw [hvl]; omega)) ?_
        have B3 := B.turn (c := x) (by omega)
        refine ⟨_, rfl, _, rfl, _, _, rfl, rfl, (by decide : (0 : Int) < 8), _, _, rfl, rfl, ?_, _, _, rfl, rfl, ?_⟩
        · show (0 : Int) ≤ (x : Int) % 8
          omega
        refine ⟨_, rfl, _, _, rfl, rfl, ?_⟩
        refine ⟨row, value ^^^ (255 / 2 ^ (x % 8)), behind ^^^ 255, some (.int (x : Int)), ?_, s1, h1, ci, ?_, ?_, hrl⟩
        · dsimp only
          rw [shr_nat, xor_nat, show (255 : Int) = ((255 : Nat) : Int) from rfl, xor_nat]
          rfl
        · rw [htake]
          exact B3
        · intro y hy
          have := hlater2 y hy
          omega
    · -- the end
      have hi2 : i = (chs r).length := by omega
      have hnw : nth r i = r.length := nth_beyond (by omega)
      refine ifT (dec_nat.trans (decide_eq_true hnw)) ?_
      rw [hi2, List.take_length] at B
      have hvl := vN_len row
      refine ⟨_, rfl, .inl ⟨rfl, _, SqL.of h1⟩, _, rfl, c, _, _, rfl, rfl, h1, by rw [hvl]; omega, ?_⟩
      have h2 : upd H' c (.lst (vN row ++ [V.int (value : Int)])) c = some (.lst (vN (row ++ [value]))) := by
        rw [upd_same, vN_app row [value]]
        rfl
      have s2 : Same H (upd H' c (.lst (vN row ++ [V.int (value : Int)]))) := same_put s1 hc
      refine ⟨_, rfl, .inl ⟨rfl, _, SqL.of h2⟩, _, rfl, (by show 1 ≤ sizeLine; omega), fun l hl => ?_⟩
      have ncl : c ≠ l := ne_of_none h2 hl
      have h2' : upd (upd H' c (.lst (vN row ++ [V.int (value : Int)]))) l (.lst [V.int (behind : Int)]) c = some (.lst (vN (row ++ [value]))) := by
        rw [upd_ne ncl]
        exact h2
      have hlH : H l = none := Same.free s2 hl
      have s3 : Same H (upd (upd H' c (.lst (vN row ++ [V.int (value : Int)]))) l (.lst [V.int (behind : Int)])) := same_put s2 hlH
      refine ⟨_, rfl, _, _, rfl, rfl, _, _, rfl, rfl, ⟨by decide, by decide⟩, _, rfl, c, _, rfl, .inl (SqL.of h2'), _, _, rfl, rfl, ?_⟩
      have ek : ((r.length : Int) + 7) / 8 - ((vN (row ++ [value])).length : Int) = ((stride r.length - (row.length + 1) : Nat) : Int) := by
        rw [vN_len, List.length_append, List.length_singleton, hstr]
        omega
      dsimp only
      rw [ek]
      refine ⟨l, _, _, rfl, rfl, upd_same, by omega, by omega, ?_, fun q2 hq2 => ?_⟩
      · rw [Int.toNat_natCast]
        show 1 * _ ≤ _
        omega
      rw [Int.toNat_natCast, rep_one, ← vN_rep]
      have ncq : c ≠ q2 := ne_of_none h2' hq2
      have hq2H : H q2 = none := Same.free s3 hq2
      refine ⟨c, q2, vN (row ++ [value]), _, rfl, rfl, ?_, upd_same, ?_, ?_⟩
      · rw [upd_ne ncq]
        exact h2'
      · rw [vN_len, vN_len, List.length_append, List.length_singleton, List.length_replicate]
        omega
      rw [← vN_app]
      have B2 := B.upto hrl
      have hl2 : (row ++ [value] ++ List.replicate (stride r.length - (row.length + 1)) behind).length = stride r.length := by
        rw [List.length_append, List.length_append, List.length_replicate, List.length_singleton]
        omega
      have hR := B2.rows
      rw [hl2] at hR
      generalize row ++ [value] ++ List.replicate (stride r.length - (row.length + 1)) behind = R at hR hl2 ⊢
      obtain ⟨n, hn⟩ : ∃ n, stride r.length = n + 1 := ⟨stride r.length - 1, by omega⟩
      have hsplit : R = (List.range n).map (byteN (bitF (chs r))) ++ [byteN (bitF (chs r)) n] := by
        rw [hR, hn, List.range_succ, List.map_append]
        rfl
      have hk8 : ((-(r.length : Int)) % 8).toNat < 8 := by omega
      have hk2 : 8 * stride r.length = r.length + ((-(r.length : Int)) % 8).toNat := by
        rw [hstr]
        omega
      have hstop := B.stop hw1 hrl _ hk8 hk2
      have hvR : vN R = vN ((List.range n).map (byteN (bitF (chs r)))) ++ [V.int ((byteN (bitF (chs r)) n : Nat) : Int)] := by
        rw [hsplit, vN_app]
        rfl
      refine ⟨_, rfl, _, rfl, c, _, _, rfl, rfl, SqL.of (by rw [upd_same, hvR]), ?_⟩
      refine ⟨_, rfl, _, rfl, _, _, rfl, rfl, (by decide : (0 : Int) < 8), _, _, rfl, rfl, ⟨?_, ?_, by decide⟩, _, _, rfl, rfl, ?_⟩
      · show (0 : Int) ≤ (-(r.length : Int)) % 8
        omega
      · show (-(r.length : Int)) % 8 ≤ 1000000
        omega
      refine ⟨c, _, _, n, rfl, rfl, upd_same, ?_, ?_⟩
      · rw [vN_len, hl2, hn]
        exact ix_last n
      refine ⟨_, rfl, q _ c ?_ hc ?_⟩
      · exact same_put (same_put (same_put s3 hq2H) hc) hc
      · rw [upd_same]
        have e255 : (255 : Int) * 2 ^ ((-(r.length : Int)) % 8).toNat = ((255 * 2 ^ ((-(r.length : Int)) % 8).toNat : Nat) : Int) := by
          rw [Int.natCast_mul, Int.natCast_pow]
          rfl
        dsimp only
        rw [e255, and_nat]
        have e3 : (rowBytes r).map (fun b => b.toNat) = R.set n (byteN (bitF (chs r)) n &&& (255 * 2 ^ ((-(r.length : Int)) % 8).toNat)) := by
          rw [hstop, hR, hn]
          rfl
        rw [e3]
        unfold vN vI
        rw [List.map_set, List.map_set]
  · rintro σ H' ⟨row, value, behind, v5, rfl, s1, h1, hil, B, hlater, hrl⟩
    exfalso
    have hll : (vI (chL r)).length = (chs r).length + 3 := by
      unfold vI
      rw [List.length_map, chL_len]
    omega
end
end Fax

namespace Fax
open PySem PySem.Spec PyProof.Rows L2
open PySem.W (Codec)
open Ql31 (EOL)
/-- where the bits stand, with what is to be known of them -/
structure Bs (CB : Addr) (H : Hp) (a : Addr) (T : Str) (p : Nat) : Prop where
  B : Bt CB H a T p
  bin : Bin T
  le : p ≤ T.length
  len : T.length ≤ 800000
theorem Bs.left {CB : Addr} {H : Hp} {a : Addr} {p : Nat} {T : Str} (R : Bs CB H a T p) : T.length - (rdr T p).length = p := by
  have := R.le
  rw [List.length_drop, bits_len]
  omega
theorem rdr_len {T : Str} {p : Nat} : (rdr T p).length = T.length - p := by rw [List.length_drop, bits_len]
theorem rdr_drop {T : Str} {p n : Nat} : (rdr T p).drop n = rdr T (p + n) := by
  show ((bits T).drop p).drop n = _
  rw [List.drop_drop]
theorem rdr_cons {T : Str} {p : Nat} {x : Bool} {r : List Bool} (h : rdr T p = x :: r) : (bits T)[p]? = some x ∧ r = rdr T (p + 1) ∧ p < T.length := by
  have h1 := congrArg (fun l => l[0]?) h
  have h2 := congrArg (fun l => l.drop 1) h
  have h3 := congrArg List.length h
  rw [rdr_len, List.length_cons] at h3
  refine ⟨by simpa using h1, ?_, by omega⟩
  rw [← rdr_drop]
  exact h2.symm
theorem tag_str (x : Bool) : decide (V.str (if x = true then "1" else "0") = V.str "0") = !x := by cases x <;> decide +kernel
theorem tag_str1 (x : Bool) : decide (V.str (if x = true then "1" else "0") = V.str "1") = x := by cases x <;> decide +kernel
def spRestEnd (K : PySem.W.Frag) (CB C0 : Addr) : Sp := fun vs H Q E => ∃ (kind : Nat) (a : Addr) (T : Str) (p : Nat), vs = [.int (kind : Int), .ref a] ∧ kind ≤ 1 ∧ Bs CB H a T p ∧
  (∀ t, fiveE (kind == 1) 5 (rdr T p) = .ok ((), t) → ∀ p', t = rdr T p' → p' ≤ T.length → ∀ H', Bt CB H' a T p' → Kept a H H' → Q .non H') ∧
  (∀ e l, fiveE (kind == 1) 5 (rdr T p) = .error (e, l) → Fails K C0 E (-10 - (e : Int)) (T.length - l))
section
variable {P : Program} {w : World} {K : PySem.W.Frag} {mg : Str → Option Value} {base : Heap} {CB CR C0 : Addr}
theorem scRestEnd : FnScope ["kind", "bits", "line", "bit_place"] ["kind", "bits"] (defScope sReadEnd) := ⟨rfl, rfl, rfl, by decide +kernel, rfl, by decide +kernel, by decide +kernel⟩
theorem has_rest_end (S : Stands K mg "read_rest_of_end" sReadEnd ["kind", "bits"]) (C : Cl K mg CB CR) (X : Txts K mg) (hN : Rs P w K mg base C0 "NoEndOfLine" (-13)) (hE : MHas P w K mg base (L2.CX P w) CB "next_end_of_line" 4 ["self"] (spNextEol K CB C0))
    (hB : MHas P w K mg base (L2.CX P w) CB "next_bit" 4 ["self"] (spNextBit K CB C0)) : HasX P w K mg base "read_rest_of_end" 5 ["kind", "bits"] (spRestEnd K CB C0) := by
  refine S.hasX fun f fd F => ?_
  obtain ⟨Cn, fIn, fdn, RN⟩ := hN
  obtain ⟨fe, fde, me, be, GE⟩ := hE
  obtain ⟨fb, fdb, mb, bb, GB⟩ := hB
  obtain ⟨tk, gk⟩ := X.kMixed
  refine F.okX scRestEnd (fun vs H Q E h => by obtain ⟨kind, a, T, p, rfl, _⟩ := h; rfl) (fun cdv A outer s H vs Q E hr h => ⟨_,
    have hr3 : Room 3 _ := hr.mono (by decide)
    pss_one (ps_for (passes_of rfl) rfl (pi_range1 (by rfl) X.range (pa_cons pe_int pa_nil)) (pg_name (i := 2) scRestEnd.nd rfl (.inl rfl))
      (pss_cons (ps_expr (pe_meth0 (pv 1) C.cB me GE hr be .nil (passes_call (E := E) (takes_of rfl rfl rfl rfl) (fun _ _ _ _ h => h))))
      (pss_cons (ps_set (i := 3) scRestEnd.nd rfl (.inl rfl) (pe_fld (pv 1) rfl))
      (pss_one (ps_if (PW.pt (pw_and (pt_cmpR op_eq (pv 0) (pe_cint gk) (nomark _)) (pw_and1 (pt_cmpR op_eq (pe_meth0 (pv 1) C.cB mb GB hr bb .nil (passes_call (E := E) (takes_of rfl rfl rfl rfl) (fun _ _ _ _ h => h))) pe_str (nomark _)))))
        (pss_one (ps_fault (W := fun cls d _ H => E cls d H) RN rfl (takes_of rfl rfl rfl rfl) hr3 (pv 3))) pss_nil))))), ?_⟩)
  obtain ⟨kind, a, T, p, rfl, hkd, hB0, qO, qE⟩ := h
  refine ⟨5, rfl, by decide, by decide, ?_⟩
  refine for_range (lo := 0) (n := 5) (fun i σ H' => ∃ (p' : Nat) (v2 v3 : Option V), σ = [some (.int (kind : Int)), some (.ref a), v2, v3] ∧ Kept a H H' ∧ Bs CB H' a T p' ∧ fiveE (kind == 1) (5 - i) (rdr T p') = fiveE (kind == 1) 5 (rdr T p))
    ⟨p, none, none, rfl, Kept.refl _ _, hB0, rfl⟩ ?_ ?_
  · rintro i σ H' hi ⟨p', v2, v3, rfl, k1, B1, heq⟩
    obtain ⟨k, hk⟩ : ∃ k, 5 - i = k + 1 := ⟨5 - i - 1, by omega⟩
    have hk2 : 5 - (i + 1) = k := by omega
    rw [hk] at heq
    unfold fiveE at heq
    obtain ⟨dx, hb⟩ := id B1.B
    refine ⟨_, rfl, a, dx, _, rfl, hb, bF_none T p' (by decide +kernel) (by decide +kernel), a, T, p', rfl, B1.B, B1.bin, B1.le, B1.len, fun hpre hle H1 hB1 k2 => ?_, fun hpre => ?_⟩
    · rw [if_neg (by rw [hpre]; decide), rdr_drop] at heq
      have B2 : Bs CB H1 a T (p' + 12) := ⟨hB1, B1.bin, hle, B1.len⟩
      obtain ⟨dx1, hb1⟩ := id hB1
      refine ⟨_, rfl, a, CB, dx1, _, _, rfl, hb1, C.cB, C.bP, bF_place T (p' + 12), ?_⟩
      refine ⟨_, rfl, rfl, _, rfl, ?_⟩
      have hkk := dec_nat (a := kind) (b := 1)
      by_cases ck : kind = 1
      · refine ifT (hkk.trans (decide_eq_true ck)) ?_
        subst ck
        have ht : tagOf (1 == 1) (rdr T (p' + 12)) = match rdr T (p' + 12) with
            | x :: r => .ok (x, r)
            | [] => .error (Ql31.ENDED, 0) := rfl
        rw [ht] at heq
        refine ⟨_, rfl, a, dx1, _, rfl, hb1, bF_none T _ (by decide +kernel) (by decide +kernel), a, T, p' + 12, rfl, hB1, B1.bin, hle, B1.len, fun hend => ?_, fun x hx H2 hB2 k3 => ?_⟩
        · have hnil : rdr T (p' + 12) = [] := List.drop_eq_nil_of_le (by rw [bits_len]; omega)
          rw [hnil] at heq
          have hF := qE _ _ heq.symm
          rw [Nat.sub_zero, ← hend] at hF
          exact hF
        · have hlt : p' + 12 < T.length := by
            have := (List.getElem?_eq_some_iff.mp hx).1
            rw [bits_len] at this
            exact this
          have hcons : rdr T (p' + 12) = x :: rdr T (p' + 12 + 1) := by
            show (bits T).drop _ = _
            obtain ⟨h1, h2⟩ := List.getElem?_eq_some_iff.mp hx
            rw [List.drop_eq_getElem_cons h1, h2]
          rw [hcons] at heq
          dsimp only at heq
          refine ⟨rfl, _, rfl, ?_⟩
          cases x with
          | false =>
            refine ifT (tag_str false) ?_
            rw [if_pos rfl, ← hcons] at heq
            have hF := qE _ _ heq.symm
            rw [B2.left] at hF
            exact ⟨_, rfl, fault_go RN hF⟩
          | true =>
            refine ifF (tag_str true) ?_
            rw [if_neg (by decide)] at heq
            exact ⟨p' + 12 + 1, _, _, rfl, (k1.trans k2).trans k3, ⟨hB2, B1.bin, hlt, B1.len⟩, by rw [hk2]; exact heq⟩
      · refine ifF (hkk.trans (decide_eq_false ck)) ?_
        have hk0 : kind = 0 := by omega
        subst hk0
        have ht : tagOf (0 == 1) (rdr T (p' + 12)) = .ok (true, rdr T (p' + 12)) := rfl
        rw [ht] at heq
        dsimp only at heq
        rw [if_neg (by decide)] at heq
        refine ifF rfl ?_
        exact ⟨p' + 12, _, _, rfl, k1.trans k2, B2, by rw [hk2]; exact heq⟩
    · rw [if_pos hpre] at heq
      have hF := qE _ _ heq.symm
      rw [B1.left] at hF
      exact hF
  · rintro σ H' ⟨p', v2, v3, rfl, k1, B1, heq⟩
    exact qO _ heq.symm p' rfl B1.le H' B1.B k1
end
end Fax

namespace Fax
open PySem PySem.Spec PyProof.Rows L2
open PySem.W (Codec)
open Ql31 (EOL)
/-- rows as their changes, in lists of their own -/
structure RowsAt (H : Hp) (as : List Addr) (l : List Ql31.Row) : Prop where
  len : as.length = l.length
  at_ : ∀ (i : Nat) (x : Addr) (r : Ql31.Row), as[i]? = some x → l[i]? = some r → H x = some (.lst (vI (chL r)))
def PageAt (H : Hp) (q : Addr) (w : Nat) (l : List Ql31.Row) : Prop := ∃ as, H q = some (.lst (as.map V.ref)) ∧ RowsAt H as l ∧ ∀ r ∈ l, r.length = w
theorem RowsAt.nil (H : Hp) : RowsAt H [] [] := ⟨rfl, fun i x r h => by simp at h⟩
theorem RowsAt.mono {H H' : Hp} {as : List Addr} {l : List Ql31.Row} (R : RowsAt H as l) (h : ∀ x r, H x = some (.lst (vI (chL r))) → H' x = some (.lst (vI (chL r)))) : RowsAt H' as l :=
  ⟨R.len, fun i x r h1 h2 => h x r (R.at_ i x r h1 h2)⟩
theorem RowsAt.push {H : Hp} {as : List Addr} {l : List Ql31.Row} {q : Addr} {r : Ql31.Row} (R : RowsAt H as l) (h : H q = some (.lst (vI (chL r)))) : RowsAt H (as ++ [q]) (l ++ [r]) := by
  refine ⟨by rw [List.length_append, List.length_append, R.len]; rfl, fun i x s h1 h2 => ?_⟩
  by_cases hi : i < as.length
  · rw [List.getElem?_append_left hi] at h1
    rw [List.getElem?_append_left (by rw [← R.len]; exact hi)] at h2
    exact R.at_ i x s h1 h2
  · rw [List.getElem?_append_right (by omega)] at h1
    rw [List.getElem?_append_right (by rw [← R.len]; omega), ← R.len] at h2
    have e : i - as.length = 0 := by
      have := (List.getElem?_eq_some_iff.mp h1).1
      rw [List.length_singleton] at this
      omega
    rw [e] at h1 h2
    obtain rfl : q = x := Option.some.inj h1
    obtain rfl : r = s := Option.some.inj h2
    exact h
theorem vI_ne (r : Ql31.Row) (as : List Addr) : vI (chL r) ≠ as.map V.ref := fun z => by
  have h3 := chL_len r
  cases hc : chL r with
  | nil =>
    rw [hc] at h3
    simp at h3
  | cons x t =>
    rw [hc] at z
    cases as with
    | nil => cases z
    | cons a as => cases z
theorem vI_white (w : Nat) : vI (chL (List.replicate w false)) ≠ [] := fun z => vI_ne _ [] z
theorem last_row {H : Hp} {as : List Addr} {l : List Ql31.Row} (R : RowsAt H as l) (h : l ≠ []) : ∃ ini x r, as = ini ++ [x] ∧ l.getLast?.getD (List.replicate w false) = r ∧ r ∈ l ∧ H x = some (.lst (vI (chL r))) := by
  have ha : as ≠ [] := fun e => h (List.length_eq_zero_iff.mp (by rw [← R.len, e]; rfl))
  refine ⟨as.dropLast, as.getLast ha, l.getLast h, (List.dropLast_concat_getLast ha).symm, by rw [List.getLast?_eq_some_getLast h]; rfl, List.getLast_mem h, ?_⟩
  refine R.at_ (as.length - 1) _ _ ?_ ?_
  · rw [List.getLast_eq_getElem, List.getElem?_eq_getElem (by have := List.length_pos_iff.mpr ha; omega)]
  · rw [R.len, List.getLast_eq_getElem, List.getElem?_eq_getElem (by have := List.length_pos_iff.mpr h; omega)]
/-- a page is read: the rows in a list -/
def PageOut (K : PySem.W.Frag) (CB C0 : Addr) (H : Hp) (a : Addr) (w most : Nat) (T : Str) (rd : Ql31.R (List Ql31.Row)) (Q : VK) (E : XK) : Prop :=
  (∀ l t, rd = .ok (l, t) → l.length ≤ most → ∀ p', t = rdr T p' → p' ≤ T.length → ∀ H' q, Bt CB H' a T p' → Kept a H H' → PageAt H' q w l → Q (.ref q) H') ∧
  (∀ e l, rd = .error (e, l) → Fails K C0 E (-10 - (e : Int)) (T.length - l))
def spAbovePage (K : PySem.W.Frag) (CR CB C0 : Addr) : Sp := fun vs H Q E => ∃ (ra a : Addr) (w most : Nat) (T : Str) (p : Nat), vs = [.ref ra, .int (w : Int), .int (most : Int), .ref a] ∧ Rdg CR CB H ra a w T p ∧ most ≤ 16384 ∧
  PageOut K CB C0 H a w most T (plainE w most (most + 2) [] (rdr T p)) Q E
def spLinesPage (K : PySem.W.Frag) (CR CB C0 : Addr) : Sp := fun vs H Q E => ∃ (kind : Nat) (ra a : Addr) (w most : Nat) (T : Str) (p : Nat), vs = [.int (kind : Int), .ref ra, .int (most : Int), .ref a] ∧ kind ≤ 1 ∧ Rdg CR CB H ra a w T p ∧ most ≤ 16384 ∧
  PageOut K CB C0 H a w most T (linesE w most (kind == 1) (most + 2) [] (rdr T p)) Q E
section
variable {P : Program} {w : World} {K : PySem.W.Frag} {mg : Str → Option Value} {base : Heap} {CB CR C0 : Addr}
theorem scAbovePage : FnScope ["reader", "width", "most", "bits", "page", "above"] ["reader", "width", "most", "bits"] (defScope sReadAbove) := ⟨rfl, rfl, rfl, by decide +kernel, rfl, by decide +kernel, by decide +kernel⟩
/-- the loop's word -/
def WQ (CB : Addr) (H : Hp) (ra a pg : Addr) (w most : Nat) (T : Str) (R0 : Ql31.R (List Ql31.Row)) (m : Nat) (σ : L2.St) (H' : Hp) : Prop :=
  ∃ (as : List Addr) (l : List Ql31.Row) (ab : Addr) (k p' : Nat), σ = [some (.ref ra), some (.int (w : Int)), some (.int (most : Int)), some (.ref a), some (.ref pg), some (.ref ab)] ∧ Kept a H H' ∧ Bs CB H' a T p' ∧
    H' pg = some (.lst (as.map V.ref)) ∧ RowsAt H' as l ∧ (∀ r ∈ l, r.length = w) ∧ H' ab = some (.lst (vI (chL (l.getLast?.getD (List.replicate w false))))) ∧ l.length ≤ most ∧
    plainE w most k l (rdr T p') = R0 ∧ k = most + 2 - l.length ∧ m = most - l.length
theorem has_above_page (S : Stands K mg "read_rows_by_above" sReadAbove ["reader", "width", "most", "bits"]) (C : Cl K mg CB CR) (X : Txts K mg) (hM : Rs P w K mg base C0 "RowTooMany" (-16)) (hW : Has P w K mg base "white_row" 2 ["width"] spWhite)
    (hEnd : Has P w K mg base "page_end" 1 ["kind"] spEnd2) (hB : MHas P w K mg base CX0 CB "begins_with" 1 ["self", "code"] (spBegins CB)) (hE : MHas P w K mg base (L2.CX P w) CB "next_end_of_line" 4 ["self"] (spNextEol K CB C0))
    (hR : MHas P w K mg base (L2.CX P w) CR "row_by_above" 7 ["self", "above"] (spRowAbove K CR CB C0)) : HasX P w K mg base "read_rows_by_above" 8 ["reader", "width", "most", "bits"] (spAbovePage K CR CB C0) := by
  refine S.hasX fun f fd F => ?_
  obtain ⟨Cm, fIm, fdm, RM⟩ := hM
  obtain ⟨fw, fdw, gw, kpw, bw, GW⟩ := hW
  obtain ⟨fp, fdp, gp, kpp, bp, GP⟩ := hEnd
  obtain ⟨fb, fdb, mb, bb, GB⟩ := hB
  obtain ⟨fe, fde, me, be, GE⟩ := hE
  obtain ⟨fr, fdr, mr, br, GR⟩ := hR
  obtain ⟨tk, gk⟩ := X.kAbove
  refine F.okX scAbovePage (fun vs H Q E h => by obtain ⟨ra, a, w, most, T, p, rfl, _⟩ := h; rfl) (fun cdv A outer s H vs Q E hr h => ⟨_,
    have hr4 : Room 4 _ := hr.mono (by decide)
    have hr3 : Room 3 _ := hr.mono (by decide)
    have hr2 : Room 2 _ := hr.mono (by decide)
    have hr1 : Room 1 _ := hr.mono (by decide)
    pss_cons (ps_set (i := 4) scAbovePage.nd rfl (.inl rfl) (pe_lst pa_nil))
    (pss_cons (ps_set (i := 5) scAbovePage.nd rfl (.inl rfl) (pe_call GW hr2 rfl gw kpw bw .nil pass0 (pa_cons (pv 1) pa_nil)))
    (pss_cons (ps_while (passes_of rfl) (pt_not (pt_val (pe_meth (pv 3) C.cB mb GB hr1 bb .nil pass0 (pa_cons (pe_call GP hr1 rfl gp kpp bp .nil pass0 (pa_cons (pe_cint gk) pa_nil)) pa_nil))))
      (pss_cons (ps_if (pt_cmpR op_eq (pe_callB call_len_seq (by rfl) X.len PySem.boot_len (pa_cons (pv 4) pa_nil)) (pv 2) (nomark _)) (pss_one (ps_fault (W := fun cls d _ H => E cls d H) RM rfl (takes_of rfl rfl rfl rfl) hr3 (pe_fld (pv 3) rfl))) pss_nil)
      (pss_cons (ps_set (i := 5) scAbovePage.nd rfl (.inl rfl) (pe_meth (pv 0) C.cR mr GR hr br .nil (passes_call (E := E) (takes_of rfl rfl rfl rfl) (fun _ _ _ _ h => h)) (pa_cons (pv 5) pa_nil)))
      (pss_one (ps_expr (pe_bm PySem.F.plainAttrs_list PySem.F.slot_list_append PySem.F.type_list_append mt_append (pv 4) (pa_cons (pv 5) pa_nil)))))))
    (pss_cons (ps_expr (pe_meth0 (pv 3) C.cB me GE hr4 be .nil (passes_call (E := E) (takes_of rfl rfl rfl rfl) (fun _ _ _ _ h => h))))
    (pss_cons (ps_expr (pe_meth0 (pv 3) C.cB me GE hr4 be .nil (passes_call (E := E) (takes_of rfl rfl rfl rfl) (fun _ _ _ _ h => h))))
    (pss_one (ps_ret (pv 4))))))), ?_⟩)
  obtain ⟨ra, a, w, most, T, p, rfl, hR, hmost, qO, qE⟩ := h
  have hz : sizeLine = 16777216 := sizeLine_eq
  obtain ⟨db, hba⟩ := id hR.B
  refine ⟨Nat.zero_le _, fun pg hpg => ?_⟩
  have npa : pg ≠ a := fun e => by
    rw [e, hba] at hpg
    cases hpg
  refine ⟨_, rfl, w, rfl, fun H1 ab s1 hab hab1 => ?_⟩
  have k0 : Kept a H H1 := kept_same ((same_new hpg).trans s1)
  refine ⟨WQ CB H ra a pg w most T (plainE w most (most + 2) [] (rdr T p)), ⟨_, [], [], ab, most + 2, p, rfl, k0, ⟨⟨db, s1 _ _ (by rw [upd_ne (Ne.symm npa)]; exact hba)⟩, hR.bin, hR.le, hR.len⟩, s1 _ _ upd_same, RowsAt.nil _, (fun r h => absurd h List.not_mem_nil), hab1, Nat.zero_le _, rfl, rfl, rfl⟩, ?_⟩
  rintro m σ H' ⟨as, l, ab', k, p', rfl, k1, B1, h1, hrows, hlen, hab', hlm, heq, rfl, rfl⟩
  obtain ⟨dx, hb⟩ := id B1.B
  refine ⟨_, rfl, a, dx, _, rfl, hb, bF_none T p' (by decide +kernel) (by decide +kernel), rfl, fun z hzb hzbin hzl => ?_⟩
  refine ⟨a, T, z, p', rfl, B1.B, B1.bin, hzbin, B1.le, _, rfl, ?_⟩
  rw [hzb]
  obtain ⟨k', hk'⟩ : ∃ k', most + 2 - l.length = k' + 1 := ⟨most + 2 - l.length - 1, by omega⟩
  rw [hk'] at heq
  unfold plainE at heq
  by_cases c1 : (EOL ++ EOL).isPrefixOf (rdr T p') = true
  · -- the end
    rw [if_pos c1] at heq
    refine ifF (by rw [c1]; rfl) ?_
    have hpre := List.isPrefixOf_iff_prefix.mp c1
    have hle := hpre.length_le
    have h24 : (EOL ++ EOL).length = 24 := by decide +kernel
    rw [h24, rdr_len] at hle
    have p1 : EOL.isPrefixOf (rdr T p') = true := List.isPrefixOf_iff_prefix.mpr ((List.prefix_append EOL EOL).trans hpre)
    have p2 : EOL.isPrefixOf (rdr T (p' + 12)) = true := by
      obtain ⟨t, ht⟩ := hpre
      rw [List.isPrefixOf_iff_prefix, ← rdr_drop]
      refine ⟨t, ?_⟩
      rw [← ht, List.append_assoc, List.drop_left' eol_len]
    refine ⟨_, rfl, a, dx, _, rfl, hb, bF_none T p' (by decide +kernel) (by decide +kernel), a, T, p', rfl, B1.B, B1.bin, B1.le, B1.len, fun _ hle1 H2 hB2 k2 => ?_, fun hn => by rw [p1] at hn; cases hn⟩
    obtain ⟨dx2, hb2⟩ := id hB2
    refine ⟨_, rfl, a, dx2, _, rfl, hb2, bF_none T _ (by decide +kernel) (by decide +kernel), a, T, p' + 12, rfl, hB2, B1.bin, hle1, B1.len, fun _ hle2 H3 hB3 k3 => ?_, fun hn => by rw [p2] at hn; cases hn⟩
    have kk := k2.trans k3
    rw [rdr_drop] at heq
    refine ⟨_, rfl, qO l _ heq.symm hlm _ rfl hle2 H3 pg ⟨hB3.choose, hB3.choose_spec⟩ (k1.trans kk) ⟨as, kk _ _ h1 npa, hrows.mono fun x r hx => kk _ _ hx (ne_of hx hb (by intro z; cases z)), hlen⟩⟩
  · rw [if_neg c1] at heq
    refine ifT (by rw [eq_false_of_ne_true c1]; rfl) ?_
    refine ⟨fun σ H2 => ∃ m', m' < most - l.length ∧ WQ CB H ra a pg w most T (plainE w most (most + 2) [] (rdr T p)) m' σ H2, fun σ' H2 h => h, ?_⟩
    have hvl : (as.map V.ref).length = l.length := by rw [List.length_map, hrows.len]
    refine ⟨_, rfl, pg, _, rfl, .inl (SqL.of h1), _, rfl, rfl, _, rfl, ?_⟩
    rw [hvl]
    by_cases c2 : l.length = most
    · refine ifT (dec_nat.trans (decide_eq_true c2)) ?_
      rw [if_pos (by omega)] at heq
      have hF := qE _ _ heq.symm
      rw [B1.left] at hF
      exact ⟨_, rfl, a, CB, dx, _, _, rfl, hb, C.cB, C.bP, bF_place T p', fault_go RM hF⟩
    · refine ifF (dec_nat.trans (decide_eq_false c2)) ?_
      rw [if_neg (by omega)] at heq
      have Rd1 : Reader CR H' ra a w := hR.R.kept hR.B k1
      obtain ⟨dxr, la, sa, d0, d1, hra, tb⟩ := id Rd1
      have R1 : Rdg CR CB H' ra a w T p' := ⟨Rd1, B1.B, B1.bin, B1.le, B1.len, hR.w1, hR.w2⟩
      have hAl : (l.getLast?.getD (List.replicate w false)).length = w := by
        cases hl : l.getLast? with
        | none => exact List.length_replicate
        | some r => exact hlen r (List.mem_of_getLast? hl)
      refine ⟨_, rfl, ra, dxr, _, rfl, hra, rF_none a w la sa (by decide +kernel) (by decide +kernel) (by decide +kernel) (by decide +kernel), _, rfl, ra, a, ab', w, T, p', _, rfl, R1, hab', hAl, fun r t hrd hrl p2 ht hp2 H2 q hB2 k2 hq hq2 => ?_, fun e l hrd => ?_⟩
      · rw [hrd] at heq
        dsimp only at heq
        subst ht
        obtain ⟨dx2, hb2⟩ := id hB2
        have h1' := k2 _ _ h1 npa
        have nqp : q ≠ pg := fun e => by
          rw [e, h1] at hq
          cases hq
        refine ⟨_, rfl, .inl ⟨rfl, _, SqL.of h1'⟩, _, rfl, pg, _, _, rfl, rfl, h1', by rw [hvl]; omega, ?_⟩
        have kp : Kept2 a pg H2 (upd H2 pg (.lst (as.map V.ref ++ [V.ref q]))) := Kept.two' kept_put
        refine ⟨most - (l ++ [r]).length, ?_, as ++ [q], l ++ [r], q, most + 2 - (l ++ [r]).length, p2, rfl, kept_new (k1.trans k2) (by
          cases e : H pg with
          | none => rfl
          | some o => rw [e] at hpg; cases hpg) kp, ⟨⟨dx2, by rw [upd_ne (Ne.symm npa)]; exact hb2⟩, B1.bin, hp2, B1.len⟩, ?_, ?_, ?_, ?_, ?_, ?_, rfl, rfl⟩
        · rw [List.length_append, List.length_singleton]
          omega
        · rw [upd_same, List.map_append]
          rfl
        · refine RowsAt.push (hrows.mono fun x s hx => ?_) (by rw [upd_ne nqp]; exact hq2)
          have nxp : x ≠ pg := ne_of hx h1 (fun z => vI_ne s as (HO.lst.inj z))
          rw [upd_ne nxp]
          exact k2 _ _ hx (ne_of hx hb (by intro z; cases z))
        · intro s hs
          rcases List.mem_append.mp hs with h | h
          · exact hlen s h
          · rw [List.mem_singleton.mp h]
            exact hrl
        · rw [upd_ne nqp, List.getLast?_append]
          exact hq2
        · rw [List.length_append, List.length_singleton]
          omega
        · have : most + 2 - (l ++ [r]).length = k' := by
            rw [List.length_append, List.length_singleton]
            omega
          rw [this]
          exact heq
      · rw [hrd] at heq
        exact qE _ _ heq.symm
end
end Fax

namespace Fax
open PySem PySem.Spec PyProof.Rows L2
open PySem.W (Codec)
open Ql31 (EOL)
theorem pe_of {X : Cx} {e : Expr} {t t' : TE} (h : PE X e t) (imp : ∀ σ H Q, t' σ H Q → t σ H Q) : PE X e t' := ⟨fun pins s σ H Q I q => h.run pins s σ H Q I (imp σ H Q q)⟩
theorem pt_of {X : Cx} {e : Expr} {t t' : TT} (h : PT X e t) (imp : ∀ σ H Q, t' σ H Q → t σ H Q) : PT X e t' := ⟨fun pins s σ H Q I q => h.run pins s σ H Q I (imp σ H Q q)⟩
def tFull : TT := fun σ H Q => ∃ (pg : Addr) (xs : List V) (m : Nat) (y : Bool), σ[4]? = some (some (.ref pg)) ∧ σ[2]? = some (some (.int (m : Int))) ∧ σ[7]? = some (some (.bl y)) ∧ H pg = some (.lst xs) ∧ Q (decide (xs.length = m) && !y) H
def tBad : TT := fun σ H Q => ∃ (pg : Addr) (xs : List V) (x y : Bool), σ[4]? = some (some (.ref pg)) ∧ σ[6]? = some (some (.bl x)) ∧ σ[7]? = some (some (.bl y)) ∧ H pg = some (.lst xs) ∧ Q (!x && (y || decide (xs.length = 0))) H
def tTag (K : PySem.W.Frag) (CB C0 : Addr) (E : XK) : TE := fun σ H Q => ∃ (kind : Nat) (a : Addr) (T : Str) (p : Nat), σ[0]? = some (some (.int (kind : Int))) ∧ σ[3]? = some (some (.ref a)) ∧ kind ≤ 1 ∧ Bs CB H a T p ∧
  (∀ e l, tagOf (kind == 1) (rdr T p) = .error (e, l) → Fails K C0 E (-10 - (e : Int)) (T.length - l)) ∧
  ∀ x p3 H3, tagOf (kind == 1) (rdr T p) = .ok (x, rdr T p3) → (x = false → p3 = p + 1) → Bs CB H3 a T p3 → Kept a H H3 → Q (.bl x) H3
def tRow (K : PySem.W.Frag) (CR CB C0 : Addr) (E : XK) : TE := fun σ H Q => ∃ (ra a pg : Addr) (x : Bool) (as : List Addr) (l : List Ql31.Row) (w : Nat) (T : Str) (p : Nat), σ[1]? = some (some (.ref ra)) ∧ σ[4]? = some (some (.ref pg)) ∧ σ[6]? = some (some (.bl x)) ∧
  Rdg CR CB H ra a w T p ∧ H pg = some (.lst (as.map V.ref)) ∧ RowsAt H as l ∧ (∀ r ∈ l, r.length = w) ∧ (x = false → l ≠ []) ∧
  RowOut K CB C0 H a w T (if x = true then Ql31.readAlone w (w + 4) false [] (rdr T p) else Ql31.readBeside w (l.getLast?.getD (List.replicate w false)) (2 * w + 4) (-1) false [] (rdr T p)) Q E
section
variable {P : Program} {w : World} {K : PySem.W.Frag} {mg : Str → Option Value} {base : Heap} {CB CR C0 : Addr}
theorem scLinesPage : FnScope ["kind", "reader", "most", "bits", "page", "bit_place", "alone", "at_end"] ["kind", "reader", "most", "bits"] (defScope sReadLines) := ⟨rfl, rfl, rfl, by decide +kernel, rfl, by decide +kernel, by decide +kernel⟩
/-- the loop's word -/
def WL (CB : Addr) (H : Hp) (ra a pg : Addr) (kind w most : Nat) (T : Str) (R0 : Ql31.R (List Ql31.Row)) (m : Nat) (σ : L2.St) (H' : Hp) : Prop :=
  ∃ (as : List Addr) (l : List Ql31.Row) (k p' : Nat) (v5 v6 v7 : Option V), σ = [some (.int (kind : Int)), some (.ref ra), some (.int (most : Int)), some (.ref a), some (.ref pg), v5, v6, v7] ∧ Kept a H H' ∧ Bs CB H' a T p' ∧
    H' pg = some (.lst (as.map V.ref)) ∧ RowsAt H' as l ∧ (∀ r ∈ l, r.length = w) ∧ l.length ≤ most ∧
    linesE w most (kind == 1) k l (rdr T p') = R0 ∧ k = most + 2 - l.length ∧ m = most - l.length
theorem has_lines_page (S : Stands K mg "read_rows_in_lines" sReadLines ["kind", "reader", "most", "bits"]) (C : Cl K mg CB CR) (X : Txts K mg) (hM : Rs P w K mg base C0 "RowTooMany" (-16)) (hN : Rs P w K mg base C0 "NoEndOfLine" (-13))
    (hB : MHas P w K mg base CX0 CB "begins_with" 1 ["self", "code"] (spBegins CB)) (hZ : MHas P w K mg base (L2.CX P w) CB "end_of_line_behind_zeros" 4 ["self"] (spZeros K CB C0)) (hNB : MHas P w K mg base (L2.CX P w) CB "next_bit" 4 ["self"] (spNextBit K CB C0))
    (hA : MHas P w K mg base (L2.CX P w) CR "row_alone" 6 ["self"] (spRowAlone K CR CB C0)) (hR : MHas P w K mg base (L2.CX P w) CR "row_by_above" 7 ["self", "above"] (spRowAbove K CR CB C0))
    (hE : HasX P w K mg base "read_rest_of_end" 5 ["kind", "bits"] (spRestEnd K CB C0)) : HasX P w K mg base "read_rows_in_lines" 8 ["kind", "reader", "most", "bits"] (spLinesPage K CR CB C0) := by
  refine S.hasX fun f fd F => ?_
  obtain ⟨Cm, fIm, fdm, RM⟩ := hM
  obtain ⟨Cn, fIn, fdn, RN⟩ := hN
  obtain ⟨fb, fdb, mb, bb, GB⟩ := hB
  obtain ⟨fz, fdz, mz, bz, GZ⟩ := hZ
  obtain ⟨fn, fdnb, mn, bn, GN⟩ := hNB
  obtain ⟨fa, fda, ma, ba, GA⟩ := hA
  obtain ⟨fr, fdr, mr, br, GR⟩ := hR
  obtain ⟨fe, fde, ge, kpe, be, GE⟩ := hE
  obtain ⟨tk, gk⟩ := X.kAlone
  obtain ⟨te, gl⟩ := X.eol
  refine F.okX scLinesPage (fun vs H Q E h => by obtain ⟨kind, ra, a, w, most, T, p, rfl, _⟩ := h; rfl) (fun cdv A outer s H vs Q E hr h => ⟨_,
    have hr6 : Room 6 _ := hr.mono (by decide)
    have hr5 : Room 5 _ := hr.mono (by decide)
    have hr4 : Room 4 _ := hr.mono (by decide)
    have hr3 : Room 3 _ := hr.mono (by decide)
    have hr1 : Room 1 _ := hr.mono (by decide)
    pss_cons (ps_set (i := 4) scLinesPage.nd rfl (.inl rfl) (pe_lst pa_nil))
    (pss_one (ps_while (passes_of rfl) (pt_val pe_bl)
      (pss_cons (ps_expr (pe_meth0 (pv 3) C.cB mz GZ hr4 bz .nil (passes_call (E := E) (takes_of rfl rfl rfl rfl) (fun _ _ _ _ h => h))))
      (pss_cons (ps_set (i := 5) scLinesPage.nd rfl (.inl rfl) (pe_fld (pv 3) rfl))
      (pss_cons (ps_set (i := 6) scLinesPage.nd rfl (.inl rfl) (pe_of (t' := tTag K CB C0 E) (pe_or (pe_cmpR op_eq (pv 0) (pe_cint gk) (nomark _)) (pe_one (pe_cmpR op_eq (pe_meth0 (pv 3) C.cB mn GN hr4 bn .nil (passes_call (E := E) (takes_of rfl rfl rfl rfl) (fun _ _ _ _ h => h))) pe_str (nomark _)))) (by
        rintro σ H Q ⟨kind, a, T, p, h0, h3, hk, B, qe, qo⟩
        obtain ⟨dx, hb⟩ := id B.B
        refine ⟨_, h0, rfl, _, rfl, ?_⟩
        by_cases ck : kind = 0
        · refine ifT (dec_nat.trans (decide_eq_true ck)) ?_
          subst ck
          exact qo true p H rfl (fun e => by cases e) B (Kept.refl _ _)
        · refine ifF (dec_nat.trans (decide_eq_false ck)) ?_
          have hk1 : kind = 1 := by omega
          subst hk1
          have ht : tagOf (1 == 1) (rdr T p) = match rdr T p with
              | x :: r => .ok (x, r)
              | [] => .error (Ql31.ENDED, 0) := rfl
          rw [ht] at qe qo
          refine ⟨_, h3, a, dx, _, rfl, hb, bF_none T _ (by decide +kernel) (by decide +kernel), a, T, p, rfl, B.B, B.bin, B.le, B.len, fun hend => ?_, fun x hx H2 hB2 k3 => ?_⟩
          · have hnil : rdr T p = [] := List.drop_eq_nil_of_le (by rw [bits_len]; omega)
            rw [hnil] at qe
            have hF := qe _ _ rfl
            rw [Nat.sub_zero, ← hend] at hF
            exact hF
          · have hlt : p < T.length := by
              have := (List.getElem?_eq_some_iff.mp hx).1
              rw [bits_len] at this
              exact this
            have hcons : rdr T p = x :: rdr T (p + 1) := by
              show (bits T).drop _ = _
              obtain ⟨h1, h2⟩ := List.getElem?_eq_some_iff.mp hx
              rw [List.drop_eq_getElem_cons h1, h2]
            rw [hcons] at qo
            refine ⟨rfl, ?_⟩
            have e1 : decide (V.str (if x = true then "1" else "0") = V.str "1") = x := tag_str1 x
            rw [e1]
            exact qo x (p + 1) H2 rfl (fun _ => rfl) ⟨hB2, B.bin, hlt, B.len⟩ k3)))
      (pss_cons (ps_set (i := 7) scLinesPage.nd rfl (.inl rfl) (pe_meth (pv 3) C.cB mb GB hr1 bb .nil pass0 (pa_cons (pe_cstr gl) pa_nil)))
      (pss_cons (ps_if (pt_of (t' := tFull) (PW.pt (pw_and (pt_cmpR op_eq (pe_callB call_len_seq (by rfl) X.len PySem.boot_len (pa_cons (pv 4) pa_nil)) (pv 2) (nomark _)) (pw_and1 (pt_not (pt_val (pv 7)))))) (by
          rintro σ H Q ⟨pg, xs, m, y, h4, h2, h7, hp, q⟩
          refine ⟨_, h4, pg, _, rfl, .inl (SqL.of hp), _, h2, rfl, _, rfl, ?_⟩
          by_cases c : xs.length = m
          · refine ifT (dec_nat.trans (decide_eq_true c)) ?_
            rw [decide_eq_true c] at q
            exact ⟨_, h7, y, rfl, q⟩
          · refine ifF (dec_nat.trans (decide_eq_false c)) ?_
            rw [decide_eq_false c] at q
            exact q))
        (pss_one (ps_fault (W := fun cls d _ H => E cls d H) RM rfl (takes_of rfl rfl rfl rfl) hr3 (pe_fld (pv 3) rfl))) pss_nil)
      (pss_cons (ps_if (pt_of (t' := tBad) (PW.pt (pw_and (pt_not (pt_val (pv 6))) (pw_and1 (PW.pt (pw_or (pt_val (pv 7)) (pw_or1 (pt_cmpR op_eq (pe_callB call_len_seq (by rfl) X.len PySem.boot_len (pa_cons (pv 4) pa_nil)) pe_int (nomark _)))))))) (by
          rintro σ H Q ⟨pg, xs, x, y, h4, h6, h7, hp, q⟩
          refine ⟨_, h6, x, rfl, ?_⟩
          cases x with
          | true =>
            refine ifF rfl ?_
            exact q
          | false =>
            refine ifT rfl ?_
            refine ⟨_, h7, y, rfl, ?_⟩
            cases y with
            | true =>
              refine ifT rfl ?_
              exact q
            | false =>
              refine ifF rfl ?_
              refine ⟨_, h4, pg, _, rfl, .inl (SqL.of hp), rfl, _, rfl, ?_⟩
              have e : decide (V.int (xs.length : Int) = V.int 0) = (!false && (false || decide (xs.length = 0))) := by
                rw [Bool.false_or]
                exact dec_nat (b := 0)
              rw [e]
              exact q))
        (pss_one (ps_fault (W := fun cls d _ H => E cls d H) RN rfl (takes_of rfl rfl rfl rfl) hr3 (pv 5))) pss_nil)
      (pss_cons (ps_if (pt_val (pv 7))
        (pss_cons (ps_expr (pe_call GE hr5 rfl ge kpe be .nil (passes_call (E := E) (takes_of rfl rfl rfl rfl) (fun _ _ _ _ h => h)) (pa_cons (pv 0) (pa_cons (pv 3) pa_nil)))) (pss_one (ps_ret (pv 4)))) pss_nil)
      (pss_one (ps_expr (pe_bm PySem.F.plainAttrs_list PySem.F.slot_list_append PySem.F.type_list_append mt_append (pv 4) (pa_cons (pe_of (t' := tRow K CR CB C0 E) (pe_ifExp (pt_val (pv 6))
          (pe_meth0 (pv 1) C.cR ma GA hr6 ba .nil (passes_call (E := E) (takes_of rfl rfl rfl rfl) (fun _ _ _ _ h => h)))
          (pe_meth (pv 1) C.cR mr GR hr br .nil (passes_call (E := E) (takes_of rfl rfl rfl rfl) (fun _ _ _ _ h => h)) (pa_cons (pe_ix ix_list (pv 4) (pe_un un_neg pe_int) (fun _ _ => rfl)) pa_nil))) (by
        rintro σ H Q ⟨ra, a, pg, x, as, l, w, T, p, h1, h4, h6, R, hpg, hrows, hlen, hne, hout⟩
        obtain ⟨dxr, la, sa, d0, d1, hra, tb⟩ := id R.R
        refine ⟨_, h6, x, rfl, ?_⟩
        cases x with
        | true =>
          refine ifT rfl ?_
          rw [if_pos rfl] at hout
          exact ⟨_, h1, ra, dxr, _, rfl, hra, rF_none a w la sa (by decide +kernel) (by decide +kernel) (by decide +kernel) (by decide +kernel), ra, a, w, T, p, rfl, R, hout⟩
        | false =>
          refine ifF rfl ?_
          rw [if_neg (by decide)] at hout
          obtain ⟨ini, y, r, has, hlast, hmem, hy⟩ := last_row (w := w) hrows (hne rfl)
          rw [hlast] at hout
          refine ⟨_, h1, ra, dxr, _, rfl, hra, rF_none a w la sa (by decide +kernel) (by decide +kernel) (by decide +kernel) (by decide +kernel), _, h4, _, rfl, pg, _, _, .ref y, rfl, rfl, SqL.of hpg, ?_, ra, a, y, w, T, p, r, rfl, R, hy, hlen r hmem, hout⟩
          rw [has, List.map_append]
          exact atI_last _ _)) pa_nil))))))))))))), ?_⟩)
  obtain ⟨kind, ra, a, w, most, T, p, rfl, hkd, hR, hmost, qO, qE⟩ := h
  have hz : sizeLine = 16777216 := sizeLine_eq
  obtain ⟨db, hba⟩ := id hR.B
  refine ⟨Nat.zero_le _, fun pg hpg => ?_⟩
  have npa : pg ≠ a := fun e => by
    rw [e, hba] at hpg
    cases hpg
  have k0 : Kept a H (upd H pg (.lst [])) := kept_same (same_new hpg)
  refine ⟨WL CB H ra a pg kind w most T (linesE w most (kind == 1) (most + 2) [] (rdr T p)), ⟨_, [], [], most + 2, p, none, none, none, rfl, k0, ⟨⟨db, by rw [upd_ne (Ne.symm npa)]; exact hba⟩, hR.bin, hR.le, hR.len⟩, upd_same, RowsAt.nil _, (fun r h => absurd h List.not_mem_nil), Nat.zero_le _, rfl, rfl, rfl⟩, ?_⟩
  rintro m σ H' ⟨as, l, k, p', v5, v6, v7, rfl, k1, B1, h1, hrows, hlen, hlm, heq, rfl, rfl⟩
  refine ⟨_, rfl, ifT rfl ?_⟩
  refine ⟨fun σ H2 => ∃ m', m' < most - l.length ∧ WL CB H ra a pg kind w most T (linesE w most (kind == 1) (most + 2) [] (rdr T p)) m' σ H2, fun σ' H2 h => h, ?_⟩
  obtain ⟨dx, hb⟩ := id B1.B
  obtain ⟨k', hk'⟩ : ∃ k', most + 2 - l.length = k' + 1 := ⟨most + 2 - l.length - 1, by omega⟩
  rw [hk'] at heq
  unfold linesE at heq
  refine ⟨_, rfl, a, dx, _, rfl, hb, bF_none T p' (by decide +kernel) (by decide +kernel), a, T, p', rfl, B1.B, B1.bin, B1.le, B1.len, fun t hwe p2 ht hpp hp2 H2 hB2 k2 => ?_, fun e l hwe => ?_⟩
  · rw [hwe] at heq
    dsimp only at heq
    subst ht
    have B2 : Bs CB H2 a T p2 := ⟨hB2, B1.bin, hp2, B1.len⟩
    obtain ⟨dx2, hb2⟩ := id hB2
    refine ⟨_, rfl, a, CB, dx2, _, _, rfl, hb2, C.cB, C.bP, bF_place T p2, ?_⟩
    refine ⟨kind, a, T, p2, rfl, rfl, hkd, B2, fun e l' htag => ?_, fun x p3 H3 htag hx3 B3 k3 => ?_⟩
    · rw [htag] at heq
      exact qE _ _ heq.symm
    · rw [htag] at heq
      dsimp only at heq
      obtain ⟨dx3, hb3⟩ := id B3.B
      have kk := k2.trans k3
      have h3 := kk _ _ h1 npa
      have hrows3 : RowsAt H3 as l := hrows.mono fun y r hy => kk _ _ hy (ne_of hy hb (by intro z; cases z))
      have hvl : (as.map V.ref).length = l.length := by rw [List.length_map, hrows.len]
      refine ⟨_, rfl, a, dx3, _, rfl, hb3, bF_none T p3 (by decide +kernel) (by decide +kernel), a, T, zEol, p3, rfl, B3.B, B3.bin, zEol_bin, B3.le, ?_⟩
      rw [eol_bits]
      have hpl : x = false → T.length - ((rdr T p3).length + 1) = p2 := fun e => by
        have := hx3 e
        have := B3.le
        rw [rdr_len]
        omega
      refine ⟨pg, _, most, _, rfl, rfl, rfl, h3, ?_⟩
      rw [hvl]
      cases ca : EOL.isPrefixOf (rdr T p3) with
      | true =>
        -- the page's end
        rw [if_pos ca] at heq
        refine ifF (by rw [Bool.not_true, Bool.and_false]) ?_
        refine ⟨pg, _, x, _, rfl, rfl, rfl, h3, ?_⟩
        cases x with
        | false =>
          refine ifT rfl ?_
          rw [if_pos rfl] at heq
          have hF := qE _ _ heq.symm
          rw [hpl rfl] at hF
          exact ⟨_, rfl, fault_go RN hF⟩
        | true =>
          refine ifF rfl ?_
          rw [if_neg (by decide)] at heq
          refine ⟨_, rfl, _, rfl, ifT rfl ?_⟩
          refine ⟨_, rfl, _, rfl, kind, a, T, p3, rfl, hkd, B3, fun t ht p4 htt hp4 H4 hB4 k4 => ?_, fun e l' he => ?_⟩
          · rw [ht] at heq
            dsimp only at heq
            refine ⟨_, rfl, qO l t heq.symm hlm p4 htt hp4 H4 pg hB4 ((k1.trans kk).trans k4) ⟨as, k4 _ _ h3 npa, hrows3.mono fun y r hy => k4 _ _ hy (ne_of hy hb3 (by intro z; cases z)), hlen⟩⟩
          · rw [he] at heq
            exact qE _ _ heq.symm
      | false =>
        rw [if_neg (by rw [ca]; decide)] at heq
        by_cases c2 : l.length = most
        · refine ifT (by rw [decide_eq_true c2]; rfl) ?_
          rw [if_pos (by omega)] at heq
          have hF := qE _ _ heq.symm
          rw [B3.left] at hF
          exact ⟨_, rfl, a, CB, dx3, _, _, rfl, hb3, C.cB, C.bP, bF_place T p3, fault_go RM hF⟩
        · refine ifF (by rw [decide_eq_false c2]; rfl) ?_
          rw [if_neg (by omega)] at heq
          refine ⟨pg, _, x, _, rfl, rfl, rfl, h3, ?_⟩
          rw [hvl]
          by_cases cb : x = false ∧ l = []
          · obtain ⟨rfl, rfl⟩ := cb
            refine ifT rfl ?_
            rw [if_neg (by decide), if_pos rfl] at heq
            have hF := qE _ _ heq.symm
            rw [hpl rfl] at hF
            exact ⟨_, rfl, fault_go RN hF⟩
          · have hll : x = false → l.length ≠ 0 := fun hx h0 => cb ⟨hx, List.length_eq_zero_iff.mp h0⟩
            have htest : (!x && (false || decide (l.length = 0))) = false := by
              rw [Bool.false_or]
              cases x with
              | true => rfl
              | false =>
                rw [decide_eq_false (hll rfl)]
                rfl
            refine ifF htest ?_
            refine ⟨_, rfl, _, rfl, ifF rfl ?_⟩
            have Rd3 : Reader CR H3 ra a w := hR.R.kept hR.B (k1.trans kk)
            have R3 : Rdg CR CB H3 ra a w T p3 := ⟨Rd3, B3.B, B3.bin, B3.le, B3.len, hR.w1, hR.w2⟩
            refine ⟨_, rfl, .inl ⟨rfl, _, SqL.of h3⟩, ra, a, pg, x, as, l, w, T, p3, rfl, rfl, rfl, R3, h3, hrows3, hlen, fun hx e => hll hx (by rw [e]; rfl), ?_⟩
            have heq2 : (if x = true then Ql31.readAlone w (w + 4) false [] (rdr T p3) else if l = [] then .error (Ql31.LINE, (rdr T p3).length + 1) else Ql31.readBeside w (l.getLast?.getD (List.replicate w false)) (2 * w + 4) (-1) false [] (rdr T p3) : Ql31.R Ql31.Row) =
                if x = true then Ql31.readAlone w (w + 4) false [] (rdr T p3) else Ql31.readBeside w (l.getLast?.getD (List.replicate w false)) (2 * w + 4) (-1) false [] (rdr T p3) := by
              cases x with
              | true => rfl
              | false =>
                rw [if_neg (by decide), if_neg (show ¬ l = [] from fun e => hll rfl (by rw [e]; rfl)), if_neg (by decide)]
            rw [heq2] at heq
            refine ⟨fun r t hrd hrl p4 ht hp4 H4 q hB4 k4 hq hq2 => ?_, fun e l' hrd => ?_⟩
            · rw [hrd] at heq
              dsimp only at heq
              subst ht
              obtain ⟨dx4, hb4⟩ := id hB4
              have h4 := k4 _ _ h3 npa
              have nqp : q ≠ pg := fun e => by
                rw [e, h3] at hq
                cases hq
              refine ⟨pg, _, _, rfl, rfl, h4, by rw [hvl]; omega, ?_⟩
              have kp : Kept2 a pg H4 (upd H4 pg (.lst (as.map V.ref ++ [V.ref q]))) := Kept.two' kept_put
              refine ⟨most - (l ++ [r]).length, ?_, as ++ [q], l ++ [r], most + 2 - (l ++ [r]).length, p4, _, _, _, rfl, kept_new ((k1.trans kk).trans k4) hpg kp, ⟨⟨dx4, by rw [upd_ne (Ne.symm npa)]; exact hb4⟩, B1.bin, hp4, B1.len⟩, ?_, ?_, ?_, ?_, ?_, rfl, rfl⟩
              · rw [List.length_append, List.length_singleton]
                omega
              · rw [upd_same, List.map_append]
                rfl
              · refine RowsAt.push (hrows3.mono fun y s hy => ?_) (by rw [upd_ne nqp]; exact hq2)
                have nyp : y ≠ pg := ne_of hy h3 (fun z => vI_ne s as (HO.lst.inj z))
                rw [upd_ne nyp]
                exact k4 _ _ hy (ne_of hy hb3 (by intro z; cases z))
              · intro s hs
                rcases List.mem_append.mp hs with h | h
                · exact hlen s h
                · rw [List.mem_singleton.mp h]
                  exact hrl
              · rw [List.length_append, List.length_singleton]
                omega
              · have : most + 2 - (l ++ [r]).length = k' := by
                  rw [List.length_append, List.length_singleton]
                  omega
                rw [this]
                exact heq
            · rw [hrd] at heq
              exact qE _ _ heq.symm
  · rw [hwe] at heq
    exact qE _ _ heq.symm
end
end Fax

namespace Fax
open PySem PySem.Spec PyProof.Rows L2
open PySem.W (Codec)
open Ql31 (EOL)
theorem ps_of {X : Cx} {st : Stmt} {t t' : TS} (h : PS X st t) (imp : ∀ D σ H, t' D σ H → t D σ H) : PS X st t' := ⟨fun pins s σ H D I q => h.run pins s σ H D I (imp D σ H q)⟩
def pageE (kind w most : Nat) (b : Ql31.Bits) : Ql31.R (List Ql31.Row) := if kind = 2 then plainE w most (most + 2) [] b else linesE w most (kind == 1) (most + 2) [] b
theorem read_is (kind w most : Nat) (d : List UInt8) : Ql31.read kind w most d = match behindE (pageE kind w most (Ql31.bitsFrom d)) with
    | .ok (x, _) => .ok x
    | .error e => .error (e.1, (Ql31.bitsFrom d).length - e.2) := by
  unfold Ql31.read pageE
  dsimp only
  by_cases h : kind = 2
  · rw [if_pos h, if_pos h, plain_is]
    rfl
  · rw [if_neg h, if_neg h, lines_is]
    rfl
def tPick (K : PySem.W.Frag) (CR CB C0 : Addr) (E : XK) : TS := fun D σ H => ∃ (kind : Nat) (ra a : Addr) (w most : Nat) (T : Str) (p : Nat), σ[0]? = some (some (.int (kind : Int))) ∧ σ[1]? = some (some (.int (w : Int))) ∧ σ[2]? = some (some (.int (most : Int))) ∧ σ[3]? = some (some (.ref a)) ∧ σ[4]? = some (some (.ref ra)) ∧
  kind ≤ 2 ∧ Rdg CR CB H ra a w T p ∧ most ≤ 16384 ∧ PageOut K CB C0 H a w most T (pageE kind w most (rdr T p)) (fun v H' => D.nx (σ.set 5 (some v)) H') E
def spReadPage (K : PySem.W.Frag) (CB C0 : Addr) : Sp := fun vs H Q E => ∃ (kind w most : Nat) (a : Addr) (T : Str) (p : Nat), vs = [.int (kind : Int), .int (w : Int), .int (most : Int), .ref a] ∧ kind ≤ 2 ∧ 1 ≤ w ∧ w ≤ 16384 ∧ most ≤ 16384 ∧ Bs CB H a T p ∧
  (∀ l t, behindE (pageE kind w most (rdr T p)) = .ok (l, t) → l.length ≤ most → ∀ H' q, PageAt H' q w l → Q (.ref q) H') ∧
  (∀ e l, behindE (pageE kind w most (rdr T p)) = .error (e, l) → Fails K C0 E (-10 - (e : Int)) (T.length - l))
section
variable {P : Program} {w : World} {K : PySem.W.Frag} {mg : Str → Option Value} {base : Heap} {CB CR C0 : Addr}
theorem scReadPage : FnScope ["kind", "width", "most", "bits", "reader", "page"] ["kind", "width", "most", "bits"] (defScope sReadPage) := ⟨rfl, rfl, rfl, by decide +kernel, rfl, by decide +kernel, by decide +kernel⟩
theorem has_read_page {fRI : Addr} {fdRI : FuncData} (S : Stands K mg "read_page" sReadPage ["kind", "width", "most", "bits"]) (C : Cl K mg CB CR) (X : Txts K mg) (hM : Rs P w K mg base C0 "MoreBehind" (-15)) (MR : Mk K CR fRI) (bR : Binds K fdRI ["self", "bits", "width"] [])
    (GRI : FnOk P w K mg base CX0 3 fRI fdRI ["self", "bits", "width"] (spReaderI CR)) (hF : MHas P w K mg base CX0 CB "only_fill_is_left" 1 ["self"] (spFill CB))
    (hA : HasX P w K mg base "read_rows_by_above" 8 ["reader", "width", "most", "bits"] (spAbovePage K CR CB C0)) (hL : HasX P w K mg base "read_rows_in_lines" 8 ["kind", "reader", "most", "bits"] (spLinesPage K CR CB C0)) :
    HasX P w K mg base "read_page" 9 ["kind", "width", "most", "bits"] (spReadPage K CB C0) := by
  refine S.hasX fun f fd F => ?_
  obtain ⟨Cm, fIm, fdm, RM⟩ := hM
  obtain ⟨ff, fdf, mf, bf, GF⟩ := hF
  obtain ⟨fa, fda, ga, kpa, ba, GA⟩ := hA
  obtain ⟨fl, fdl, gl, kpl, bl, GL⟩ := hL
  obtain ⟨tk, gk⟩ := X.kAbove
  refine F.okX scReadPage (fun vs H Q E h => by obtain ⟨kind, w, most, a, T, p, rfl, _⟩ := h; rfl) (fun cdv A outer s H vs Q E hr h => ⟨_,
    have hr4 : Room 4 _ := hr.mono (by decide)
    have hr3 : Room 3 _ := hr.mono (by decide)
    have hr1 : Room 1 _ := hr.mono (by decide)
    pss_cons (ps_set (i := 4) scReadPage.nd rfl (.inl rfl) (pe_make MR GRI hr4 rfl C.gR bR .nil pass0 (pa_cons (pv 3) (pa_cons (pv 1) pa_nil))))
    (pss_cons (ps_of (t' := tPick K CR CB C0 E) (ps_if (pt_cmpR op_eq (pv 0) (pe_cint gk) (nomark _))
        (pss_one (ps_set (i := 5) scReadPage.nd rfl (.inl rfl) (pe_call GA hr rfl ga kpa ba .nil (passes_call (E := E) (takes_of rfl rfl rfl rfl) (fun _ _ _ _ h => h)) (pa_cons (pv 4) (pa_cons (pv 1) (pa_cons (pv 2) (pa_cons (pv 3) pa_nil)))))))
        (pss_one (ps_set (i := 5) scReadPage.nd rfl (.inl rfl) (pe_call GL hr rfl gl kpl bl .nil (passes_call (E := E) (takes_of rfl rfl rfl rfl) (fun _ _ _ _ h => h)) (pa_cons (pv 0) (pa_cons (pv 4) (pa_cons (pv 2) (pa_cons (pv 3) pa_nil)))))))) (by
        rintro D σ H ⟨kind, ra, a, w, most, T, p, h0, h1, h2, h3, h4, hkd, R, hm, hout⟩
        refine ⟨_, h0, rfl, _, rfl, ?_⟩
        unfold pageE at hout
        by_cases c : kind = 2
        · refine ifT ((dec_nat (b := 2)).trans (decide_eq_true c)) ?_
          rw [if_pos c] at hout
          exact ⟨_, h4, _, h1, _, h2, _, h3, ra, a, w, most, T, p, rfl, R, hm, hout⟩
        · refine ifF ((dec_nat (b := 2)).trans (decide_eq_false c)) ?_
          rw [if_neg c] at hout
          exact ⟨_, h0, _, h4, _, h2, _, h3, kind, ra, a, w, most, T, p, rfl, by omega, R, hm, hout⟩))
    (pss_cons (ps_if (pt_not (pt_val (pe_meth0 (pv 3) C.cB mf GF hr1 bf .nil pass0))) (pss_one (ps_fault (W := fun cls d _ H => E cls d H) RM rfl (takes_of rfl rfl rfl rfl) hr3 (pe_fld (pv 3) rfl))) pss_nil)
    (pss_one (ps_ret (pv 5))))), ?_⟩)
  obtain ⟨kind, w, most, a, T, p, rfl, hkd, hw1, hw2, hm, B, qO, qE⟩ := h
  obtain ⟨db, hba⟩ := id B.B
  refine ⟨_, rfl, _, rfl, fun x dx hx hdx hne => ?_⟩
  have nax : a ≠ x := ne_of_none hba hx
  have nadx : a ≠ dx := ne_of_none hba hdx
  refine ⟨x, dx, a, w, rfl, upd_same, fun H1 hR k1 => ⟨rfl, ?_⟩⟩
  have hb1 : H1 a = some (.ins CB db (bF T p)) := k1 _ _ (by rw [upd_ne nax, upd_ne nadx]; exact hba) nax
  have kH : ∀ b o, H b = some o → H1 b = some o := fun b o hb => k1 _ _ (by rw [upd_ne (ne_of_none hb hx), upd_ne (ne_of_none hb hdx)]; exact hb) (ne_of_none hb hx)
  refine ⟨kind, x, a, w, most, T, p, rfl, rfl, rfl, rfl, rfl, hkd, ⟨hR, ⟨db, hb1⟩, B.bin, B.le, B.len, hw1, hw2⟩, hm, fun l t hrd hlm p2 ht hp2 H2 q hB2 k2 hpg => ?_, fun e l hrd => ?_⟩
  · rw [hrd] at qO qE
    unfold behindE at qO qE
    dsimp only at qO qE
    rw [finished_is, ht] at qO qE
    obtain ⟨dx2, hb2⟩ := id hB2
    refine ⟨_, rfl, a, dx2, _, rfl, hb2, bF_none T p2 (by decide +kernel) (by decide +kernel), a, T, p2, rfl, hB2, B.bin, hp2, B.len, _, rfl, ?_⟩
    by_cases c : (rdr T p2).length < 8 ∧ ((rdr T p2).all fun x => x == false) = true
    · refine ifF (by rw [decide_eq_true c]; rfl) ?_
      rw [if_pos c] at qO
      exact ⟨_, rfl, qO _ _ rfl hlm H2 q hpg⟩
    · refine ifT (by rw [decide_eq_false c]; rfl) ?_
      rw [if_neg c] at qE
      have hF := qE _ _ rfl
      have e0 : T.length - (rdr T p2).length = p2 := by
        rw [rdr_len]
        omega
      rw [e0] at hF
      exact ⟨_, rfl, a, CB, dx2, _, _, rfl, hb2, C.cB, C.bP, bF_place T p2, fault_go RM hF⟩
  · rw [hrd] at qE
    exact qE _ _ rfl
/-! ### fax_read -/
def BadR (kind w most n : Int) : Prop := 2 < kind ∨ w = 0 ∨ (16384 : Int) < w ∨ (16384 : Int) < most ∨ (67108864 : Int) < n
theorem read_bad {kind w most : Int} {d : List Int} (h : BadR kind w most d.length) : PyQl31.fax_read kind w most d = [-1] := by
  show (if 2 < kind ∨ w = 0 ∨ (16384 : Int) < w ∨ (16384 : Int) < most ∨ (67108864 : Int) < (d.length : Int) then [-1] else _) = _
  exact if_pos h
theorem read_good {kind w most : Int} {d : List Int} (h : ¬ BadR kind w most d.length) : PyQl31.fax_read kind w most d = match Ql31.read kind.toNat w.toNat most.toNat (Ql31Neutral.octets d) with
    | .ok r => (r.length : Int) :: Ql31Neutral.byteInts (r.flatMap Ql31.rowBytes)
    | .error e => [-10 - (e.1 : Int), (e.2 : Int)] := by
  show (if 2 < kind ∨ w = 0 ∨ (16384 : Int) < w ∨ (16384 : Int) < most ∨ (67108864 : Int) < (d.length : Int) then [-1] else _) = _
  exact if_neg h
def tBadR (K : PySem.W.Frag) : TT := fun σ H Q => ∃ (kind w most : Int) (a : Addr) (xs : List V), σ[0]? = some (some (.int kind)) ∧ σ[1]? = some (some (.int w)) ∧ σ[2]? = some (some (.int most)) ∧ σ[3]? = some (some (.ref a)) ∧ SqL K H a xs ∧
  (BadR kind w most xs.length → Q true H) ∧ (¬ BadR kind w most xs.length → Q false H)
def tErr (K : PySem.W.Frag) (a : Addr) (cls : Value) (d : Option Addr) (n : Str) (te : TE) : TE := fun σ H Q => te σ H fun x H1 => x = .ref a ∧ ∃ (C dd : Addr) (fs : List (Str × V)) (v : V), cls = .ref C ∧ XfC K C ∧ PySem.W.findIn K (.ref C) n = some none ∧ d = some dd ∧ H1 dd = some (.xd fs) ∧ fs.lookup n = some v ∧ Q v H1
theorem pe_err {X : Cx} {e : Expr} {te : TE} {pos : Pos} {a : Addr} {oe : Obj} {cls : Value} {d : Option Addr} {pn : List (Addr × Obj)} {n : Str} (hz : Zc cls d oe) (hf : ∃ vs, oe.data = .fields vs) (he : PE (X.suite a ((a, oe) :: pn)) e te)
    (hb : attributeBase e n X.env (eval e X.env) = eval e X.env := by rfl) : PE (X.suite a ((a, oe) :: pn)) (.Attribute e n pos) (tErr X.K a cls d n te) := FaxX.pe_of_err hz hf he hb
def tSuite (K : PySem.W.Frag) : Addr → Value → Option Addr → TS := fun a cls d => tRet (tLst (tCons (tErr K a cls d "number" (tVar 5)) (tCons (tErr K a cls d "place" (tVar 5)) tNil)))
def spRead (K : PySem.W.Frag) : Sp := fun vs H Q _ => ∃ (kind w most : Int) (a : Addr) (ns : List Int), vs = [.int kind, .int w, .int most, .ref a] ∧ SqL K H a (vI ns) ∧ ns.length ≤ 100000 ∧ (0 ≤ kind ∧ 0 ≤ w ∧ 0 ≤ most) ∧ (∀ z ∈ ns, 0 ≤ z ∧ z ≤ 255) ∧
  (PyQl31.fax_read kind w most ns).length ≤ 10000000 ∧ ∀ (H' : Hp) (p : Addr), H' p = some (.lst (vI (PyQl31.fax_read kind w most ns))) → Q (.ref p) H'
abbrev nRead : List Str := ["kind", "width", "most", "data", "page", "fault", "answer", "row"]
abbrev pRead : List Str := ["kind", "width", "most", "data"]
theorem scRead : FnScope nRead pRead (defScope sRead) := ⟨rfl, rfl, rfl, by decide +kernel, rfl, by decide +kernel, by decide +kernel⟩
theorem vN_bytes (o : List UInt8) : vN (o.map fun b => b.toNat) = vI (Ql31Neutral.byteInts o) := by
  unfold vN Ql31Neutral.byteInts
  rw [List.map_map]
  rfl
theorem byteInts_app (a b : List UInt8) : Ql31Neutral.byteInts (a ++ b) = Ql31Neutral.byteInts a ++ Ql31Neutral.byteInts b := by
  unfold Ql31Neutral.byteInts
  rw [List.map_append]
theorem vI_app (a b : List Int) : vI (a ++ b) = vI a ++ vI b := by
  unfold vI
  rw [List.map_append]
theorem vI_len (a : List Int) : (vI a).length = a.length := by
  unfold vI
  rw [List.length_map]
theorem byteInts_len (a : List UInt8) : (Ql31Neutral.byteInts a).length = a.length := by
  unfold Ql31Neutral.byteInts
  rw [List.length_map]
theorem flat_le (l : List Ql31.Row) (n : Nat) : ((l.take n).flatMap Ql31.rowBytes).length ≤ (l.flatMap Ql31.rowBytes).length := by
  have e : l.flatMap Ql31.rowBytes = (l.take n).flatMap Ql31.rowBytes ++ (l.drop n).flatMap Ql31.rowBytes := by
    rw [← List.flatMap_append, List.take_append_drop]
  rw [e, List.length_append]
  omega
theorem ok_read {f fBI : Addr} {fd fdBI : FuncData} (F : Fun K "fax_read" "fax_read" sRead f fd) (C : Cl K mg CB CR) (X : Txts K mg) (g0 : mg "Fault" = some (.ref C0)) (MB : Mk K CB fBI) (bB : Binds K fdBI ["self", "data"] []) (GBI : FnOk P w K mg base CX0 2 fBI fdBI ["self", "data"] (spBitsI K CB))
    (hP : HasX P w K mg base "read_page" 9 ["kind", "width", "most", "bits"] (spReadPage K CB C0)) (hR : Has P w K mg base "bytes_of_row" 1 ["changes", "width"] (spBytesRow K)) : FnOk P w K mg base CX0 10 f fd pRead (spRead K) := by
  obtain ⟨fp, fdp, gp, kpp, bp, GP⟩ := hP
  obtain ⟨fr, fdr, gr, kpr, br, GR⟩ := hR
  obtain ⟨t1, g1⟩ := X.kAbove
  obtain ⟨t2, g2⟩ := X.mWidth
  obtain ⟨t3, g3⟩ := X.mRows
  obtain ⟨t4, g4⟩ := X.mLength
  refine F.ok scRead (fun vs H Q E h => by obtain ⟨kind, w, most, a, ns, rfl, _⟩ := h; rfl) (fun cdv A outer s H vs Q E hr h => ⟨_,
    have hr3 : Room 3 _ := hr.mono (by decide)
    have hr1 : Room 1 _ := hr.mono (by decide)
    pss_cons (ps_if (pt_of (t' := tBadR K) (PW.pt (pw_or (pt_cmpR op_gt (pv 0) (pe_cint g1) (nomark _)) (pw_or (pt_cmpR op_eq (pv 1) pe_int (nomark _))
        (pw_or (pt_cmpR op_gt (pv 1) (pe_cint g2) (nomark _)) (pw_or (pt_cmpR op_gt (pv 2) (pe_cint g3) (nomark _)) (pw_or1 (pt_cmpR op_gt (pe_callB call_len_seq (by rfl) X.len PySem.boot_len (pa_cons (pv 3) pa_nil)) (pe_cint g4) (nomark _)))))))) (by
        rintro σ H Q ⟨kind, w, most, a, xs, h0, h1, h2, h3, hS, qt, qf⟩
        have de : ∀ x y : Int, decide (V.int x = V.int y) = decide (x = y) := fun x y => by
          by_cases c : x = y
          · rw [decide_eq_true c, c, decide_eq_true rfl]
          · rw [decide_eq_false c, decide_eq_false (fun q => c (by injection q))]
        refine ⟨_, h0, _, _, rfl, rfl, _, rfl, ?_⟩
        by_cases c0 : 2 < kind
        · exact ifT (decide_eq_true c0) (qt (.inl c0))
        · refine ifF (decide_eq_false c0) ⟨_, h1, rfl, _, rfl, ?_⟩
          by_cases c1 : w = 0
          · exact ifT ((de _ _).trans (decide_eq_true c1)) (qt (.inr (.inl c1)))
          · refine ifF ((de _ _).trans (decide_eq_false c1)) ⟨_, h1, _, _, rfl, rfl, _, rfl, ?_⟩
            by_cases c2 : 16384 < w
            · exact ifT (decide_eq_true c2) (qt (.inr (.inr (.inl c2))))
            · refine ifF (decide_eq_false c2) ⟨_, h2, _, _, rfl, rfl, _, rfl, ?_⟩
              by_cases c3 : 16384 < most
              · exact ifT (decide_eq_true c3) (qt (.inr (.inr (.inr (.inl c3)))))
              · refine ifF (decide_eq_false c3) ⟨_, h3, a, _, rfl, .inl hS, _, _, rfl, rfl, _, rfl, ?_⟩
                by_cases c4 : 67108864 < (xs.length : Int)
                · rw [decide_eq_true c4]
                  exact qt (.inr (.inr (.inr (.inr c4))))
                · rw [decide_eq_false c4]
                  refine qf fun h => ?_
                  rcases h with h | h | h | h | h
                  · exact c0 h
                  · exact c1 h
                  · exact c2 h
                  · exact c3 h
                  · exact c4 h))
      (pss_one (ps_ret (pe_lst (pa_cons (pe_un un_neg pe_int) pa_nil)))) pss_nil)
    (pss_cons (ps_try_as (i := 5) (tb := fun W => tAsg (tCallS (spReadPage K CB C0) (WE W) (tCons (tVar 0) (tCons (tVar 1) (tCons (tVar 2) (tCons (tMake CB (spBitsI K CB) [] E0 (tCons (tVar 3) tNil)) tNil))))) (gName 4)) (ts := tSuite K) (Wout := fun _ _ _ _ => False) rfl rfl scRead.nd rfl rfl ⟨rfl, by decide, Or.inl g0⟩ takes0
      (fun W pn xe tk _ => pss_one (ps_set (i := 4) scRead.nd rfl (.inl rfl) (by exact (pe_callS GP hr rfl gp kpp bp (fun σ => passAt tk σ) (by exact (pa_cons (pv 0) (pa_cons (pv 1) (pa_cons (pv 2) (pa_cons (pe_make MB GBI hr3 rfl C.gB bB .nil pass0 (pa_cons (pv 3) pa_nil)) pa_nil)))))))))
      (fun a oe cls d pn hz hf => pss_one (ps_ret (by exact (pe_lst (pa_cons (pe_err hz hf (pv 5)) (pa_cons (pe_err hz hf (pv 5)) pa_nil)))))))
    (pss_cons (ps_set (i := 6) scRead.nd rfl (.inl rfl) (pe_lst (pa_cons (pe_callB call_len_seq (by rfl) X.len PySem.boot_len (pa_cons (pv 4) pa_nil)) pa_nil)))
    (pss_cons (ps_for PassesOwn.never rfl (pi_list (pv 4)) (pg_name (i := 7) scRead.nd rfl (.inl rfl))
      (pss_one (ps_expr (pe_bm PySem.F.plainAttrs_list PySem.F.slot_list_extend PySem.F.type_list_extend mt_extend (pv 6) (pa_cons (pe_call GR hr1 rfl gr kpr br .nil pass0 (pa_cons (pv 7) (pa_cons (pv 1) pa_nil))) pa_nil)))))
    (pss_one (ps_ret (pv 6)))))), ?_⟩)
  obtain ⟨kind, wd, most, a, ns, rfl, hS, hmax, ⟨p0, p1, p2⟩, hbytes, hshort, q⟩ := h
  have hz : sizeLine = 16777216 := sizeLine_eq
  refine ⟨kind, wd, most, a, vI ns, rfl, rfl, rfl, rfl, hS, fun hbad => ?_, fun hgood => ?_⟩
  · rw [vI_len] at hbad
    refine ifT rfl ?_
    refine ⟨_, rfl, (by show 1 ≤ sizeLine; omega), fun p hp => q _ p ?_⟩
    rw [upd_same, read_bad hbad]
    rfl
  · rw [vI_len] at hgood
    refine ifF rfl ?_
    have hkd : ¬ 2 < kind := fun e => hgood (.inl e)
    have hw0 : ¬ wd = 0 := fun e => hgood (.inr (.inl e))
    have hw1 : ¬ 16384 < wd := fun e => hgood (.inr (.inr (.inl e)))
    have hm1 : ¬ 16384 < most := fun e => hgood (.inr (.inr (.inr (.inl e))))
    have hval := read_good hgood
    obtain ⟨kindN, rfl⟩ : ∃ n : Nat, kind = n := ⟨kind.toNat, (Int.toNat_of_nonneg p0).symm⟩
    obtain ⟨wN, rfl⟩ : ∃ n : Nat, wd = n := ⟨wd.toNat, (Int.toNat_of_nonneg p1).symm⟩
    obtain ⟨mN, rfl⟩ : ∃ n : Nat, most = n := ⟨most.toNat, (Int.toNat_of_nonneg p2).symm⟩
    rw [Int.toNat_natCast, Int.toNat_natCast, Int.toNat_natCast, read_is] at hval
    obtain ⟨tb, tbin, tlen⟩ := text_is hbytes
    have hr0 : rdr (textS (ns.map Int.toNat)) 0 = Ql31.bitsFrom (Ql31Neutral.octets ns) := by
      show (bits _).drop 0 = _
      rw [List.drop_zero, tb]
    rw [← hr0] at hval
    have hl0 : (rdr (textS (ns.map Int.toNat)) 0).length = (textS (ns.map Int.toNat)).length := by
      rw [rdr_len]
      omega
    rw [hl0] at hval
    refine ⟨_, rfl, _, rfl, _, rfl, _, rfl, fun x dx hx hdx hne => ?_⟩
    refine ⟨x, dx, a, ns, rfl, upd_same, ?_, hbytes, hmax, fun H1 hB1 => ⟨rfl, ?_⟩⟩
    · refine Same.seq (H := H) (fun b o hb => ?_) hS
      rw [upd_ne (ne_of_none hb hx), upd_ne (ne_of_none hb hdx)]
      exact hb
    refine ⟨kindN, wN, mN, x, textS (ns.map Int.toNat), 0, rfl, by omega, by omega, by omega, by omega, ⟨hB1, tbin, Nat.zero_le _, by omega⟩, fun l t hrd hlm H2 pg hpg => ?_, fun e l hrd => ?_⟩
    · rw [hrd] at hval
      dsimp only at hval
      obtain ⟨as, h2, hrows, hlen⟩ := hpg
      have hvl : (as.map V.ref).length = l.length := by rw [List.length_map, hrows.len]
      rw [hval, List.length_cons, byteInts_len] at hshort
      refine ⟨_, rfl, pg, _, rfl, .inl (SqL.of h2), (by show 1 ≤ sizeLine; omega), fun an han => ?_⟩
      have s0 : Same H2 (upd H2 an (.lst [V.int ((as.map V.ref).length : Int)])) := same_new han
      refine ⟨_, rfl, pg, rfl, ⟨_, SqL.of (s0 _ _ h2)⟩, for_list (K := K) (a := pg) (xs := as.map V.ref) (fun i σ H' => ∃ v7, σ = [some (.int (kindN : Int)), some (.int (wN : Int)), some (.int (mN : Int)), some (.ref a), some (.ref pg), none, some (.ref an), v7] ∧ Same H2 H' ∧
        H' an = some (.lst (vI ((l.length : Int) :: Ql31Neutral.byteInts ((l.take i).flatMap Ql31.rowBytes))))) ⟨none, rfl, s0, ?_⟩ (fun i σ H' _ ⟨_, _, s1, _⟩ => SqL.of (s1 _ _ h2)) ?_ ?_⟩
      · rw [upd_same, hvl]
        rfl
      · rintro i y σ H' hi ⟨v7, rfl, s1, h3⟩
        obtain ⟨xr, hxr, rfl⟩ : ∃ xr, as[i]? = some xr ∧ y = V.ref xr := by
          rw [List.getElem?_map] at hi
          cases e : as[i]? with
          | none => rw [e] at hi; cases hi
          | some xr => rw [e] at hi; exact ⟨xr, rfl, (Option.some.inj hi).symm⟩
        have hil : i < l.length := by
          rw [← hrows.len]
          exact (List.getElem?_eq_some_iff.mp hxr).1
        have hli : l[i]? = some l[i] := List.getElem?_eq_getElem hil
        have hxl := hrows.at_ i xr l[i] hxr hli
        have hrl := hlen l[i] (List.getElem_mem hil)
        have htake : (l.take (i + 1)).flatMap Ql31.rowBytes = (l.take i).flatMap Ql31.rowBytes ++ Ql31.rowBytes l[i] := by
          rw [List.take_succ_eq_append_getElem hil, List.flatMap_append, List.flatMap_cons, List.flatMap_nil, List.append_nil]
        have hsz := flat_le l (i + 1)
        refine ⟨_, rfl, .inl ⟨rfl, _, SqL.of h3⟩, _, rfl, _, rfl, xr, l[i], ?_, SqL.of (s1 _ _ hxl), by omega, by omega, fun H3 q3 s3 hq3 hq4 => ?_⟩
        · show [V.ref xr, V.int (wN : Int)] = _
          rw [hrl]
        · have h3' := s3 _ _ h3
          rw [vN_bytes] at hq4
          refine ⟨an, q3, _, _, rfl, rfl, h3', hq4, ?_, ?_⟩
          · rw [vI_len, vI_len, List.length_cons, byteInts_len, byteInts_len]
            rw [htake, List.length_append] at hsz
            omega
          · refine ⟨_, rfl, same_put (s1.trans s3) han, ?_⟩
            rw [upd_same, htake, byteInts_app, ← vI_app]
            rfl
      · rintro σ H' ⟨v7, rfl, s1, h3⟩
        rw [hvl, List.take_length] at h3
        refine ⟨_, rfl, q _ an ?_⟩
        rw [hval]
        exact h3
    · rw [hrd] at hval
      dsimp only at hval
      rintro cls d H2 ⟨Cc, dd, rfl, rfl, xf, n1, n2, em, hdd⟩
      refine ⟨true, em, fun _ a0 ha0 => ?_, fun z => by cases z⟩
      refine ⟨_, rfl, rfl, Cc, dd, _, .int (-10 - (e : Int)), rfl, xf, n1, rfl, hdd, (lk_past (by decide +kernel)).trans lk_here, ?_⟩
      refine ⟨_, rfl, rfl, Cc, dd, _, .int (((textS (ns.map Int.toNat)).length - l : Nat) : Int), rfl, xf, n2, rfl, hdd, lk_here, ?_⟩
      refine ⟨(by show 2 ≤ sizeLine; omega), fun p hp => q _ p ?_⟩
      rw [upd_same, hval]
      rfl
end
end Fax

namespace Fax
open PySem PySem.Spec PyProof.Rows L2
open PySem.W (Codec)
/-! ### what the top has written -/
def strsIn : List Value → Option (List Str)
  | [] => some []
  | .str x _ :: r => (strsIn r).map fun l => x :: l
  | _ => none
theorem vals_strs : ∀ {us : List Value} {xs : List Str}, strsIn us = some xs → Vals (xs.map V.str) us
  | [], xs, h => by
    obtain rfl : [] = xs := Option.some.inj h
    exact .nil
  | .str x t :: r, xs, h => by
    have h' : (strsIn r).map (fun l => x :: l) = some xs := h
    cases e : strsIn r with
    | none =>
      rw [e] at h'
      cases h'
    | some l =>
      rw [e] at h'
      obtain rfl : x :: l = xs := Option.some.inj h'
      exact .cons ⟨t, rfl⟩ (vals_strs e)
  | .none :: r, xs, h => by cases h
  | .bool _ :: r, xs, h => by cases h
  | .int _ _ :: r, xs, h => by cases h
  | .bytes _ _ :: r, xs, h => by cases h
  | .float _ _ :: r, xs, h => by cases h
  | .ref _ :: r, xs, h => by cases h
  | .type _ :: r, xs, h => by cases h
  | .builtin _ :: r, xs, h => by cases h
  | .notImplemented :: r, xs, h => by cases h
  | .ellipsis :: r, xs, h => by cases h
theorem cint_mk {K : PySem.W.Frag} {h : Heap} {mg : Str → Option Value} {x : Str} {i : Int} {t : Tok} (X : K.In h) (G : h.Ns mainGlobals mg) (a : PySem.W.nsIn K mainGlobals x = some (some (.int i t))) : CInt mg x i := ⟨t, PySem.W.mg_of X G a⟩
theorem cstr_mk {K : PySem.W.Frag} {h : Heap} {mg : Str → Option Value} {x : Str} {z : Str} {t : Tok} (X : K.In h) (G : h.Ns mainGlobals mg) (a : PySem.W.nsIn K mainGlobals x = some (some (.str z t))) : CStr mg x z := ⟨t, PySem.W.mg_of X G a⟩
theorem ctup_mk {K : PySem.W.Frag} {h : Heap} {mg : Str → Option Value} {x : Str} {l : List Str} {f : Addr} {od : Option Addr} {its : List Value} {n : Nat} {sl : Array (Option Value)} (X : K.In h) (G : h.Ns mainGlobals mg) (a : PySem.W.nsIn K mainGlobals x = some (some (.ref f)))
    (o : K.lookup f = some ⟨.type "tuple", od, .seq its.toArray n, sl⟩) (v : strsIn its = some l) (z : l.length ≤ 1000) : CTup K mg x l := by
  refine ⟨f, PySem.W.mg_of X G a, fun H => .inr ⟨_, its.toArray, n, o, rfl, rfl, ?_, by simpa using vals_strs v⟩⟩
  have e := (vals_strs v).length
  rw [List.length_map] at e
  rw [List.size_toArray, ← e, sizeLine_eq]
  omega
theorem stands_mk {K : PySem.W.Frag} {h : Heap} {mg : Str → Option Value} {x : Str} {st : Stmt} {ps : List Str} {f : Addr} {od an : Option Addr} {sl : Array (Option Value)} {oc kV dc pm cd ct : Value} (X : K.In h) (G : h.Ns mainGlobals mg)
    (b : ∀ (kV doc pm : Value) (an : Option Addr) (cdv ct : Value) (us : List Value), us.length = ps.length → bindArgs (PySem.W.fnOf x x (defArgs st) (defBody st) (defScope st) .none kV doc pm an cdv ct) ⟨us, []⟩ = pure (ps.zip us))
    (a : PySem.W.nsIn K mainGlobals x = some (some (.ref f))) (l : K.lookup f = some ⟨oc, od, .func (PySem.W.fnOf x x (defArgs st) (defBody st) (defScope st) .none kV dc pm an cd ct), sl⟩) (c : PySem.W.codeIn K cd x = true) (k : PySem.W.keepIn K (.ref f) = true) : Stands K mg x st ps := by
  have F := fun_mk (st := st) l c k
  exact ⟨f, _, PySem.W.mg_of X G a, F, F.binds b⟩


theorem exm_sub {K : PySem.W.Frag} {cls : Value} {S : Addr} (h1 : PySem.W.subIn K (.ref S) (.type "BaseException") = some true) (h2 : PySem.W.isClsIn K S = true) (h3 : PySem.W.typeIn K (.ref S) = some (.type "type")) (h4 : PySem.W.subIn K cls (.ref S) = some true) :
    PySem.W.exmOne K cls (.ref S) = some true := by
  have a1 : (PySem.W.subIn K (.ref S) (.type "BaseException") == some true) = true := by rw [h1]; rfl
  have a2 : ((PySem.W.clsIn K S).isSome && PySem.W.typeIn K (.ref S) == some (.type "type")) = true := by
    rw [show (PySem.W.clsIn K S).isSome = true from h2, h3]
    rfl
  show (if (PySem.W.subIn K (.ref S) (.type "BaseException") == some true) = true then (if ((PySem.W.clsIn K S).isSome && PySem.W.typeIn K (.ref S) == some (.type "type")) = true then PySem.W.subIn K cls (.ref S) else none) else none) = some true
  rw [if_pos a1, if_pos a2, h4]
theorem mstands_mk {K : PySem.W.Frag} {C : Addr} {m qual : Str} {st : Stmt} {ps : List Str} {f : Addr} {od an : Option Addr} {sl : Array (Option Value)} {oc kV dc pm cd ct : Value}
    (b : ∀ (kV doc pm : Value) (an : Option Addr) (cdv ct : Value) (us : List Value), us.length = ps.length → bindArgs (PySem.W.fnOf m qual (defArgs st) (defBody st) (defScope st) .none kV doc pm an cdv ct) ⟨us, []⟩ = pure (ps.zip us))
    (a : PySem.W.findIn K (.ref C) m = some (some (.ref f))) (i : PySem.W.isFn K (.ref f) = true) (l : K.lookup f = some ⟨oc, od, .func (PySem.W.fnOf m qual (defArgs st) (defBody st) (defScope st) .none kV dc pm an cd ct), sl⟩) (c : PySem.W.codeIn K cd qual = true) (k : PySem.W.keepIn K (.ref f) = true) : MStands K C m qual st ps := by
  have F := fun_mk (st := st) l c k
  exact ⟨f, _, ⟨a, i, k⟩, F, F.binds b⟩
/-- a class over Fault, of its parts -/
theorem raisable_mk {P : Program} {w : World} {K : PySem.W.Frag} {mg : Str → Option Value} {base : Heap} {C0 C fI : Addr} {x qual : Str} {num : Int} {st : Stmt} {od an : Option Addr} {sl : Array (Option Value)} {oc kV dc pm cd ct : Value}
    (T : FaxX.ExK K C) (n1 : NoAttr K C "number") (n2 : NoAttr K C "place") (iC : PySem.W.findIn K (.ref C) "__init__" = some (some (.ref fI))) (tI : PySem.W.typeIn K (.ref fI) = some (.type "function")) (g : mg x = some (.ref C)) (xf : XfC K C) (em : PySem.W.exmOne K (.ref C) (.ref C0) = some true)
    (b : ∀ (kV doc pm : Value) (an : Option Addr) (cdv ct : Value) (us : List Value), us.length = (["self", "place"] : List Str).length → bindArgs (PySem.W.fnOf "__init__" qual (defArgs st) (defBody st) (defScope st) .none kV doc pm an cdv ct) ⟨us, []⟩ = pure ((["self", "place"] : List Str).zip us))
    (l : K.lookup fI = some ⟨oc, od, .func (PySem.W.fnOf "__init__" qual (defArgs st) (defBody st) (defScope st) .none kV dc pm an cd ct), sl⟩) (c : PySem.W.codeIn K cd qual = true) (k : PySem.W.keepIn K (.ref fI) = true)
    (ok : ∀ fd, Fun K "__init__" qual st fI fd → FnOk P w K mg base CX0 2 fI fd ["self", "place"] (spMade C num)) : Rs P w K mg base C0 x num := by
  have F := fun_mk (st := st) l c k
  exact ⟨C, fI, _, T, iC, tI, g, F.binds b, ok _ F, xf, n1, n2, em⟩
section
variable {P : Program} {w : World} {K : PySem.W.Frag} {mg : Str → Option Value} {base : Heap}

theorem made_1 {C C0 f f0 : Addr} {fd fd0 : FuncData} (F : Fun K "__init__" "NoCode.__init__" (sExcI 1) f fd) (T : FaxX.ExK K C) (n1 : NoAttr K C "number") (n2 : NoAttr K C "place") (g0 : mg "Fault" = some (.ref C0)) (r : ClX.CRead K C0 (.type "type"))
    (c : PySem.W.findCls K (.ref C0) (.type "type") "__init__" = some (.val (.ref f0))) (kg : PySem.W.keepIn K (.ref f0) = true) (b0 : Binds K fd0 ["self", "number", "place"] []) (F0 : FnOk P w K mg base CX0 1 f0 fd0 ["self", "number", "place"] (spFaultIK K)) :
    FnOk P w K mg base CX0 2 f fd ["self", "place"] (spMade C (-11)) :=
  ok_made "NoCode.__init__" F ⟨rfl, rfl, rfl, by decide +kernel, rfl, by decide +kernel, by decide +kernel⟩ T n1 n2 (fun cdv A outer s H E hr =>
    pss_one (ps_of (ps_expr (FaxX.pe_base (pe_cref g0) r c kg F0 hr b0 pass0 (pa_cons (pv 0) (pa_cons (pe_un un_neg pe_int) (pa_cons (pv 1) pa_nil))))) (fun D σ H' ⟨v, u, h0, h1, h⟩ => ⟨rfl, _, h0, 11, rfl, _, h1, h⟩)))

theorem made_2 {C C0 f f0 : Addr} {fd fd0 : FuncData} (F : Fun K "__init__" "NotLet.__init__" (sExcI 2) f fd) (T : FaxX.ExK K C) (n1 : NoAttr K C "number") (n2 : NoAttr K C "place") (g0 : mg "Fault" = some (.ref C0)) (r : ClX.CRead K C0 (.type "type"))
    (c : PySem.W.findCls K (.ref C0) (.type "type") "__init__" = some (.val (.ref f0))) (kg : PySem.W.keepIn K (.ref f0) = true) (b0 : Binds K fd0 ["self", "number", "place"] []) (F0 : FnOk P w K mg base CX0 1 f0 fd0 ["self", "number", "place"] (spFaultIK K)) :
    FnOk P w K mg base CX0 2 f fd ["self", "place"] (spMade C (-12)) :=
  ok_made "NotLet.__init__" F ⟨rfl, rfl, rfl, by decide +kernel, rfl, by decide +kernel, by decide +kernel⟩ T n1 n2 (fun cdv A outer s H E hr =>
    pss_one (ps_of (ps_expr (FaxX.pe_base (pe_cref g0) r c kg F0 hr b0 pass0 (pa_cons (pv 0) (pa_cons (pe_un un_neg pe_int) (pa_cons (pv 1) pa_nil))))) (fun D σ H' ⟨v, u, h0, h1, h⟩ => ⟨rfl, _, h0, 12, rfl, _, h1, h⟩)))

theorem made_3 {C C0 f f0 : Addr} {fd fd0 : FuncData} (F : Fun K "__init__" "NoEndOfLine.__init__" (sExcI 3) f fd) (T : FaxX.ExK K C) (n1 : NoAttr K C "number") (n2 : NoAttr K C "place") (g0 : mg "Fault" = some (.ref C0)) (r : ClX.CRead K C0 (.type "type"))
    (c : PySem.W.findCls K (.ref C0) (.type "type") "__init__" = some (.val (.ref f0))) (kg : PySem.W.keepIn K (.ref f0) = true) (b0 : Binds K fd0 ["self", "number", "place"] []) (F0 : FnOk P w K mg base CX0 1 f0 fd0 ["self", "number", "place"] (spFaultIK K)) :
    FnOk P w K mg base CX0 2 f fd ["self", "place"] (spMade C (-13)) :=
  ok_made "NoEndOfLine.__init__" F ⟨rfl, rfl, rfl, by decide +kernel, rfl, by decide +kernel, by decide +kernel⟩ T n1 n2 (fun cdv A outer s H E hr =>
    pss_one (ps_of (ps_expr (FaxX.pe_base (pe_cref g0) r c kg F0 hr b0 pass0 (pa_cons (pv 0) (pa_cons (pe_un un_neg pe_int) (pa_cons (pv 1) pa_nil))))) (fun D σ H' ⟨v, u, h0, h1, h⟩ => ⟨rfl, _, h0, 13, rfl, _, h1, h⟩)))

theorem made_4 {C C0 f f0 : Addr} {fd fd0 : FuncData} (F : Fun K "__init__" "DataEnds.__init__" (sExcI 4) f fd) (T : FaxX.ExK K C) (n1 : NoAttr K C "number") (n2 : NoAttr K C "place") (g0 : mg "Fault" = some (.ref C0)) (r : ClX.CRead K C0 (.type "type"))
    (c : PySem.W.findCls K (.ref C0) (.type "type") "__init__" = some (.val (.ref f0))) (kg : PySem.W.keepIn K (.ref f0) = true) (b0 : Binds K fd0 ["self", "number", "place"] []) (F0 : FnOk P w K mg base CX0 1 f0 fd0 ["self", "number", "place"] (spFaultIK K)) :
    FnOk P w K mg base CX0 2 f fd ["self", "place"] (spMade C (-14)) :=
  ok_made "DataEnds.__init__" F ⟨rfl, rfl, rfl, by decide +kernel, rfl, by decide +kernel, by decide +kernel⟩ T n1 n2 (fun cdv A outer s H E hr =>
    pss_one (ps_of (ps_expr (FaxX.pe_base (pe_cref g0) r c kg F0 hr b0 pass0 (pa_cons (pv 0) (pa_cons (pe_un un_neg pe_int) (pa_cons (pv 1) pa_nil))))) (fun D σ H' ⟨v, u, h0, h1, h⟩ => ⟨rfl, _, h0, 14, rfl, _, h1, h⟩)))

theorem made_5 {C C0 f f0 : Addr} {fd fd0 : FuncData} (F : Fun K "__init__" "MoreBehind.__init__" (sExcI 5) f fd) (T : FaxX.ExK K C) (n1 : NoAttr K C "number") (n2 : NoAttr K C "place") (g0 : mg "Fault" = some (.ref C0)) (r : ClX.CRead K C0 (.type "type"))
    (c : PySem.W.findCls K (.ref C0) (.type "type") "__init__" = some (.val (.ref f0))) (kg : PySem.W.keepIn K (.ref f0) = true) (b0 : Binds K fd0 ["self", "number", "place"] []) (F0 : FnOk P w K mg base CX0 1 f0 fd0 ["self", "number", "place"] (spFaultIK K)) :
    FnOk P w K mg base CX0 2 f fd ["self", "place"] (spMade C (-15)) :=
  ok_made "MoreBehind.__init__" F ⟨rfl, rfl, rfl, by decide +kernel, rfl, by decide +kernel, by decide +kernel⟩ T n1 n2 (fun cdv A outer s H E hr =>
    pss_one (ps_of (ps_expr (FaxX.pe_base (pe_cref g0) r c kg F0 hr b0 pass0 (pa_cons (pv 0) (pa_cons (pe_un un_neg pe_int) (pa_cons (pv 1) pa_nil))))) (fun D σ H' ⟨v, u, h0, h1, h⟩ => ⟨rfl, _, h0, 15, rfl, _, h1, h⟩)))

theorem made_6 {C C0 f f0 : Addr} {fd fd0 : FuncData} (F : Fun K "__init__" "RowTooMany.__init__" (sExcI 6) f fd) (T : FaxX.ExK K C) (n1 : NoAttr K C "number") (n2 : NoAttr K C "place") (g0 : mg "Fault" = some (.ref C0)) (r : ClX.CRead K C0 (.type "type"))
    (c : PySem.W.findCls K (.ref C0) (.type "type") "__init__" = some (.val (.ref f0))) (kg : PySem.W.keepIn K (.ref f0) = true) (b0 : Binds K fd0 ["self", "number", "place"] []) (F0 : FnOk P w K mg base CX0 1 f0 fd0 ["self", "number", "place"] (spFaultIK K)) :
    FnOk P w K mg base CX0 2 f fd ["self", "place"] (spMade C (-16)) :=
  ok_made "RowTooMany.__init__" F ⟨rfl, rfl, rfl, by decide +kernel, rfl, by decide +kernel, by decide +kernel⟩ T n1 n2 (fun cdv A outer s H E hr =>
    pss_one (ps_of (ps_expr (FaxX.pe_base (pe_cref g0) r c kg F0 hr b0 pass0 (pa_cons (pv 0) (pa_cons (pe_un un_neg pe_int) (pa_cons (pv 1) pa_nil))))) (fun D σ H' ⟨v, u, h0, h1, h⟩ => ⟨rfl, _, h0, 16, rfl, _, h1, h⟩)))

end

theorem all_has {P : Program} {w : World} {K : PySem.W.Frag} {mg : Str → Option Value} {base : Heap} {CB CR C0 fBI fRI fw : Addr} {fdBI fdRI fdw : FuncData} (T : Txts K mg) (C : Cl K mg CB CR) (g0 : mg "Fault" = some (.ref C0))
    (R1 : Rs P w K mg base C0 "NoCode" (-11))
    (R2 : Rs P w K mg base C0 "NotLet" (-12))
    (R3 : Rs P w K mg base C0 "NoEndOfLine" (-13))
    (R4 : Rs P w K mg base C0 "DataEnds" (-14))
    (R5 : Rs P w K mg base C0 "MoreBehind" (-15))
    (R6 : Rs P w K mg base C0 "RowTooMany" (-16))
    (S_short_code : Stands K mg "short_code" sShort ["colour", "length"])
    (S_long_code : Stands K mg "long_code" sLong ["colour", "sixty_fours"])
    (S_straight_code : Stands K mg "straight_code" sStraight ["shift"])
    (S_run_lengths : Stands K mg "run_lengths" sLengths ["colour"])
    (S_way_shifts : Stands K mg "way_shifts" sShifts [])
    (S_bit_text : Stands K mg "bit_text" sBitText ["data"])
    (S_with_ends : Stands K mg "with_ends" sEnds ["changes", "width"])
    (S_white_row : Stands K mg "white_row" sWhite ["width"])
    (S_bytes_of_row : Stands K mg "bytes_of_row" sBytesRow ["changes", "width"])
    (S_first_behind : Stands K mg "first_behind" sFirst ["changes", "index", "place"])
    (S_opposite_from : Stands K mg "opposite_from" sOpposite ["index", "colour"])
    (S_page_end : Stands K mg "page_end" sEnd ["kind"])
    (S_read_page : Stands K mg "read_page" sReadPage ["kind", "width", "most", "bits"])
    (S_read_rows_by_above : Stands K mg "read_rows_by_above" sReadAbove ["reader", "width", "most", "bits"])
    (S_read_rows_in_lines : Stands K mg "read_rows_in_lines" sReadLines ["kind", "reader", "most", "bits"])
    (S_read_rest_of_end : Stands K mg "read_rest_of_end" sReadEnd ["kind", "bits"])
    (B_begins_with : MStands K CB "begins_with" "Bits.begins_with" sBegins ["self", "code"])
    (B_next_bit : MStands K CB "next_bit" "Bits.next_bit" sNextBit ["self"])
    (B_next_code : MStands K CB "next_code" "Bits.next_code" sNextCode ["self", "codes"])
    (B_next_end_of_line : MStands K CB "next_end_of_line" "Bits.next_end_of_line" sNextEol ["self"])
    (B_end_of_line_behind_zeros : MStands K CB "end_of_line_behind_zeros" "Bits.end_of_line_behind_zeros" sZeros ["self"])
    (B_only_fill_is_left : MStands K CB "only_fill_is_left" "Bits.only_fill_is_left" sFill ["self"])
    (M_run_end : MStands K CR "run_end" "RowReader.run_end" sRunEnd ["self", "colour", "start"])
    (M_turn : MStands K CR "turn" "RowReader.turn" sTurn ["self", "changes", "place"])
    (M_row_alone : MStands K CR "row_alone" "RowReader.row_alone" sRowAlone ["self"])
    (M_row_by_above : MStands K CR "row_by_above" "RowReader.row_by_above" sRowAbove ["self", "above"])
    (M_passed_over : MStands K CR "passed_over" "RowReader.passed_over" sPassed ["self", "begin", "b2"])
    (M_across : MStands K CR "across" "RowReader.across" sAcrossM ["self", "begin", "changes", "colour", "start"])
    (M_straight : MStands K CR "straight" "RowReader.straight" sStraightM ["self", "begin", "place", "change"])
    (MB : Mk K CB fBI) (FB : Fun K "__init__" "Bits.__init__" sBitsI fBI fdBI) (bB : Binds K fdBI ["self", "data"] []) (MR : Mk K CR fRI) (FR : Fun K "__init__" "RowReader.__init__" sReaderI fRI fdRI) (bR : Binds K fdRI ["self", "bits", "width"] [])
    (F : Fun K "fax_read" "fax_read" sRead fw fdw) : FnOk P w K mg base CX0 10 fw fdw pRead (spRead K) := by
  have h1 : Has P w K mg base "short_code" 1 ["colour", "length"] spShort := has_short S_short_code T
  have h2 : Has P w K mg base "long_code" 1 ["colour", "sixty_fours"] spLong := has_long S_long_code T
  have h3 : Has P w K mg base "straight_code" 1 ["shift"] spStraight := has_straight S_straight_code T
  have h4 : Has P w K mg base "run_lengths" 2 ["colour"] spLengths := has_lengths S_run_lengths T h1 h2
  have h5 : Has P w K mg base "way_shifts" 2 [] spShifts := has_shifts S_way_shifts T h3
  have h6 : Has P w K mg base "bit_text" 1 ["data"] (spBitText K) := has_bit_text S_bit_text T
  have h7 : Has P w K mg base "with_ends" 1 ["changes", "width"] spEnds := has_ends S_with_ends
  have h8 : Has P w K mg base "white_row" 2 ["width"] spWhite := has_white S_white_row h7
  have h9 : Has P w K mg base "bytes_of_row" 1 ["changes", "width"] (spBytesRow K) := has_bytes_row S_bytes_of_row T
  have h10 : Has P w K mg base "first_behind" 1 ["changes", "index", "place"] (spFirst K) := has_first S_first_behind
  have h11 : Has P w K mg base "opposite_from" 1 ["index", "colour"] spOpposite := has_opposite S_opposite_from
  have h12 : Has P w K mg base "page_end" 1 ["kind"] spEnd2 := has_end S_page_end T
  have b1 := has_begins (P := P) (w := w) (base := base) B_begins_with C
  have b2 := has_next_bit B_next_bit C T R4
  have b3 := has_next_code B_next_code C T R4 R1
  have b4 := has_next_eol B_next_end_of_line C T R4 R3 b1
  have b5 := has_zeros B_end_of_line_behind_zeros C T R4 R3
  have b6 := has_fill (P := P) (w := w) (base := base) B_only_fill_is_left C T
  have GBI := ok_bitsI FB C h6
  have GRI := ok_readerI FR C T h4 h5
  have m1 := has_run_end M_run_end C R2 b3
  have m2 := has_turn (P := P) (w := w) (base := base) (CB := CB) M_turn C T
  have m3 := has_passed M_passed_over C R2
  have m4 := has_straightM M_straight C R2
  have m5 := has_acrossM M_across C R2 m1 m2
  have m6 := has_row_alone M_row_alone C T R2 h7 m1 m2
  have m7 := has_row_above M_row_by_above C T h7 h10 h11 b3 m3 m4 m5 m2
  have p1 := has_rest_end S_read_rest_of_end C T R3 b4 b2
  have p2 := has_above_page S_read_rows_by_above C T R6 h8 h12 b1 b4 m7
  have p3 := has_lines_page S_read_rows_in_lines C T R6 R3 b1 b5 b2 m6 m7 p1
  have p4 := has_read_page S_read_page C T R5 MR bR GRI b6 p2 p3
  exact ok_read F C T g0 MB bB GBI p4 h9

theorem all_mk {P : Program} {w : World} {K : PySem.W.Frag} {h : Heap} {mg : Str → Option Value} {fw : Addr} (X : K.In h) (G : h.Ns mainGlobals mg) (hfw : mg "fax_read" = some (.ref fw))
    {f0 : Addr} {od0 an0 : Option Addr} {sl0 : Array (Option Value)} {oc0 kV0 dc0 pm0 cd0 ct0 : Value}
    (a0 : PySem.W.nsIn K mainGlobals "short_code" = some (some (.ref f0)))
    (l0 : K.lookup f0 = some ⟨oc0, od0, .func (PySem.W.fnOf "short_code" "short_code" (defArgs sShort) (defBody sShort) (defScope sShort) .none kV0 dc0 pm0 an0 cd0 ct0), sl0⟩)
    (c0 : PySem.W.codeIn K cd0 "short_code" = true)
    (k0 : PySem.W.keepIn K (.ref f0) = true)
    {f1 : Addr} {od1 an1 : Option Addr} {sl1 : Array (Option Value)} {oc1 kV1 dc1 pm1 cd1 ct1 : Value}
    (a1 : PySem.W.nsIn K mainGlobals "long_code" = some (some (.ref f1)))
    (l1 : K.lookup f1 = some ⟨oc1, od1, .func (PySem.W.fnOf "long_code" "long_code" (defArgs sLong) (defBody sLong) (defScope sLong) .none kV1 dc1 pm1 an1 cd1 ct1), sl1⟩)
    (c1 : PySem.W.codeIn K cd1 "long_code" = true)
    (k1 : PySem.W.keepIn K (.ref f1) = true)
    {f2 : Addr} {od2 an2 : Option Addr} {sl2 : Array (Option Value)} {oc2 kV2 dc2 pm2 cd2 ct2 : Value}
    (a2 : PySem.W.nsIn K mainGlobals "straight_code" = some (some (.ref f2)))
    (l2 : K.lookup f2 = some ⟨oc2, od2, .func (PySem.W.fnOf "straight_code" "straight_code" (defArgs sStraight) (defBody sStraight) (defScope sStraight) .none kV2 dc2 pm2 an2 cd2 ct2), sl2⟩)
    (c2 : PySem.W.codeIn K cd2 "straight_code" = true)
    (k2 : PySem.W.keepIn K (.ref f2) = true)
    {f3 : Addr} {od3 an3 : Option Addr} {sl3 : Array (Option Value)} {oc3 kV3 dc3 pm3 cd3 ct3 : Value}
    (a3 : PySem.W.nsIn K mainGlobals "run_lengths" = some (some (.ref f3)))
    (l3 : K.lookup f3 = some ⟨oc3, od3, .func (PySem.W.fnOf "run_lengths" "run_lengths" (defArgs sLengths) (defBody sLengths) (defScope sLengths) .none kV3 dc3 pm3 an3 cd3 ct3), sl3⟩)
    (c3 : PySem.W.codeIn K cd3 "run_lengths" = true)
    (k3 : PySem.W.keepIn K (.ref f3) = true)
    {f4 : Addr} {od4 an4 : Option Addr} {sl4 : Array (Option Value)} {oc4 kV4 dc4 pm4 cd4 ct4 : Value}
    (a4 : PySem.W.nsIn K mainGlobals "way_shifts" = some (some (.ref f4)))
    (l4 : K.lookup f4 = some ⟨oc4, od4, .func (PySem.W.fnOf "way_shifts" "way_shifts" (defArgs sShifts) (defBody sShifts) (defScope sShifts) .none kV4 dc4 pm4 an4 cd4 ct4), sl4⟩)
    (c4 : PySem.W.codeIn K cd4 "way_shifts" = true)
    (k4 : PySem.W.keepIn K (.ref f4) = true)
    {f5 : Addr} {od5 an5 : Option Addr} {sl5 : Array (Option Value)} {oc5 kV5 dc5 pm5 cd5 ct5 : Value}
    (a5 : PySem.W.nsIn K mainGlobals "bit_text" = some (some (.ref f5)))
    (l5 : K.lookup f5 = some ⟨oc5, od5, .func (PySem.W.fnOf "bit_text" "bit_text" (defArgs sBitText) (defBody sBitText) (defScope sBitText) .none kV5 dc5 pm5 an5 cd5 ct5), sl5⟩)
    (c5 : PySem.W.codeIn K cd5 "bit_text" = true)
    (k5 : PySem.W.keepIn K (.ref f5) = true)
    {f6 : Addr} {od6 an6 : Option Addr} {sl6 : Array (Option Value)} {oc6 kV6 dc6 pm6 cd6 ct6 : Value}
    (a6 : PySem.W.nsIn K mainGlobals "with_ends" = some (some (.ref f6)))
    (l6 : K.lookup f6 = some ⟨oc6, od6, .func (PySem.W.fnOf "with_ends" "with_ends" (defArgs sEnds) (defBody sEnds) (defScope sEnds) .none kV6 dc6 pm6 an6 cd6 ct6), sl6⟩)
    (c6 : PySem.W.codeIn K cd6 "with_ends" = true)
    (k6 : PySem.W.keepIn K (.ref f6) = true)
    {f7 : Addr} {od7 an7 : Option Addr} {sl7 : Array (Option Value)} {oc7 kV7 dc7 pm7 cd7 ct7 : Value}
    (a7 : PySem.W.nsIn K mainGlobals "white_row" = some (some (.ref f7)))
    (l7 : K.lookup f7 = some ⟨oc7, od7, .func (PySem.W.fnOf "white_row" "white_row" (defArgs sWhite) (defBody sWhite) (defScope sWhite) .none kV7 dc7 pm7 an7 cd7 ct7), sl7⟩)
    (c7 : PySem.W.codeIn K cd7 "white_row" = true)
    (k7 : PySem.W.keepIn K (.ref f7) = true)
    {f8 : Addr} {od8 an8 : Option Addr} {sl8 : Array (Option Value)} {oc8 kV8 dc8 pm8 cd8 ct8 : Value}
    (a8 : PySem.W.nsIn K mainGlobals "bytes_of_row" = some (some (.ref f8)))
    (l8 : K.lookup f8 = some ⟨oc8, od8, .func (PySem.W.fnOf "bytes_of_row" "bytes_of_row" (defArgs sBytesRow) (defBody sBytesRow) (defScope sBytesRow) .none kV8 dc8 pm8 an8 cd8 ct8), sl8⟩)
    (c8 : PySem.W.codeIn K cd8 "bytes_of_row" = true)
    (k8 : PySem.W.keepIn K (.ref f8) = true)
    {f9 : Addr} {od9 an9 : Option Addr} {sl9 : Array (Option Value)} {oc9 kV9 dc9 pm9 cd9 ct9 : Value}
    (a9 : PySem.W.nsIn K mainGlobals "first_behind" = some (some (.ref f9)))
    (l9 : K.lookup f9 = some ⟨oc9, od9, .func (PySem.W.fnOf "first_behind" "first_behind" (defArgs sFirst) (defBody sFirst) (defScope sFirst) .none kV9 dc9 pm9 an9 cd9 ct9), sl9⟩)
    (c9 : PySem.W.codeIn K cd9 "first_behind" = true)
    (k9 : PySem.W.keepIn K (.ref f9) = true)
    {f10 : Addr} {od10 an10 : Option Addr} {sl10 : Array (Option Value)} {oc10 kV10 dc10 pm10 cd10 ct10 : Value}
    (a10 : PySem.W.nsIn K mainGlobals "opposite_from" = some (some (.ref f10)))
    (l10 : K.lookup f10 = some ⟨oc10, od10, .func (PySem.W.fnOf "opposite_from" "opposite_from" (defArgs sOpposite) (defBody sOpposite) (defScope sOpposite) .none kV10 dc10 pm10 an10 cd10 ct10), sl10⟩)
    (c10 : PySem.W.codeIn K cd10 "opposite_from" = true)
    (k10 : PySem.W.keepIn K (.ref f10) = true)
    {f11 : Addr} {od11 an11 : Option Addr} {sl11 : Array (Option Value)} {oc11 kV11 dc11 pm11 cd11 ct11 : Value}
    (a11 : PySem.W.nsIn K mainGlobals "page_end" = some (some (.ref f11)))
    (l11 : K.lookup f11 = some ⟨oc11, od11, .func (PySem.W.fnOf "page_end" "page_end" (defArgs sEnd) (defBody sEnd) (defScope sEnd) .none kV11 dc11 pm11 an11 cd11 ct11), sl11⟩)
    (c11 : PySem.W.codeIn K cd11 "page_end" = true)
    (k11 : PySem.W.keepIn K (.ref f11) = true)
    {f12 : Addr} {od12 an12 : Option Addr} {sl12 : Array (Option Value)} {oc12 kV12 dc12 pm12 cd12 ct12 : Value}
    (a12 : PySem.W.nsIn K mainGlobals "read_page" = some (some (.ref f12)))
    (l12 : K.lookup f12 = some ⟨oc12, od12, .func (PySem.W.fnOf "read_page" "read_page" (defArgs sReadPage) (defBody sReadPage) (defScope sReadPage) .none kV12 dc12 pm12 an12 cd12 ct12), sl12⟩)
    (c12 : PySem.W.codeIn K cd12 "read_page" = true)
    (k12 : PySem.W.keepIn K (.ref f12) = true)
    {f13 : Addr} {od13 an13 : Option Addr} {sl13 : Array (Option Value)} {oc13 kV13 dc13 pm13 cd13 ct13 : Value}
    (a13 : PySem.W.nsIn K mainGlobals "read_rows_by_above" = some (some (.ref f13)))
    (l13 : K.lookup f13 = some ⟨oc13, od13, .func (PySem.W.fnOf "read_rows_by_above" "read_rows_by_above" (defArgs sReadAbove) (defBody sReadAbove) (defScope sReadAbove) .none kV13 dc13 pm13 an13 cd13 ct13), sl13⟩)
    (c13 : PySem.W.codeIn K cd13 "read_rows_by_above" = true)
    (k13 : PySem.W.keepIn K (.ref f13) = true)
    {f14 : Addr} {od14 an14 : Option Addr} {sl14 : Array (Option Value)} {oc14 kV14 dc14 pm14 cd14 ct14 : Value}
    (a14 : PySem.W.nsIn K mainGlobals "read_rows_in_lines" = some (some (.ref f14)))
    (l14 : K.lookup f14 = some ⟨oc14, od14, .func (PySem.W.fnOf "read_rows_in_lines" "read_rows_in_lines" (defArgs sReadLines) (defBody sReadLines) (defScope sReadLines) .none kV14 dc14 pm14 an14 cd14 ct14), sl14⟩)
    (c14 : PySem.W.codeIn K cd14 "read_rows_in_lines" = true)
    (k14 : PySem.W.keepIn K (.ref f14) = true)
    {f15 : Addr} {od15 an15 : Option Addr} {sl15 : Array (Option Value)} {oc15 kV15 dc15 pm15 cd15 ct15 : Value}
    (a15 : PySem.W.nsIn K mainGlobals "read_rest_of_end" = some (some (.ref f15)))
    (l15 : K.lookup f15 = some ⟨oc15, od15, .func (PySem.W.fnOf "read_rest_of_end" "read_rest_of_end" (defArgs sReadEnd) (defBody sReadEnd) (defScope sReadEnd) .none kV15 dc15 pm15 an15 cd15 ct15), sl15⟩)
    (c15 : PySem.W.codeIn K cd15 "read_rest_of_end" = true)
    (k15 : PySem.W.keepIn K (.ref f15) = true)
    {f16 : Addr} {od16 an16 : Option Addr} {sl16 : Array (Option Value)} {oc16 kV16 dc16 pm16 cd16 ct16 : Value}
    (a16 : PySem.W.nsIn K mainGlobals "fax_read" = some (some (.ref f16)))
    (l16 : K.lookup f16 = some ⟨oc16, od16, .func (PySem.W.fnOf "fax_read" "fax_read" (defArgs sRead) (defBody sRead) (defScope sRead) .none kV16 dc16 pm16 an16 cd16 ct16), sl16⟩)
    (c16 : PySem.W.codeIn K cd16 "fax_read" = true)
    (k16 : PySem.W.keepIn K (.ref f16) = true)
    {CB : Addr}
    (zB : PySem.W.nsIn K mainGlobals "Bits" = some (some (.ref CB)))
    (pgB : PySem.W.plainGet K CB Str.empty = true)
    (hdB : PySem.W.hasDictIn K CB = true)
    (poB : PySem.W.plainOver K CB = true)
    (saB : PySem.W.findIn K (.ref CB) "__setattr__" = some (some (.builtin "object.__setattr__")))
    (mkB : PySem.W.makesIn K CB = true)
    (kcB : PySem.W.keepIn K (.ref CB) = true)
    (nB0 : PySem.W.findIn K (.ref CB) "text" = some none)
    (nB1 : PySem.W.findIn K (.ref CB) "place" = some none)
    {fB0 : Addr} {odB0 anB0 : Option Addr} {slB0 : Array (Option Value)} {ocB0 kVB0 dcB0 pmB0 cdB0 ctB0 : Value}
    (aB0 : PySem.W.findIn K (.ref CB) "__init__" = some (some (.ref fB0)))
    (iB0 : PySem.W.isFn K (.ref fB0) = true)
    (lB0 : K.lookup fB0 = some ⟨ocB0, odB0, .func (PySem.W.fnOf "__init__" "Bits.__init__" (defArgs sBitsI) (defBody sBitsI) (defScope sBitsI) .none kVB0 dcB0 pmB0 anB0 cdB0 ctB0), slB0⟩)
    (cB0 : PySem.W.codeIn K cdB0 "Bits.__init__" = true)
    (kB0 : PySem.W.keepIn K (.ref fB0) = true)
    {fB1 : Addr} {odB1 anB1 : Option Addr} {slB1 : Array (Option Value)} {ocB1 kVB1 dcB1 pmB1 cdB1 ctB1 : Value}
    (aB1 : PySem.W.findIn K (.ref CB) "begins_with" = some (some (.ref fB1)))
    (iB1 : PySem.W.isFn K (.ref fB1) = true)
    (lB1 : K.lookup fB1 = some ⟨ocB1, odB1, .func (PySem.W.fnOf "begins_with" "Bits.begins_with" (defArgs sBegins) (defBody sBegins) (defScope sBegins) .none kVB1 dcB1 pmB1 anB1 cdB1 ctB1), slB1⟩)
    (cB1 : PySem.W.codeIn K cdB1 "Bits.begins_with" = true)
    (kB1 : PySem.W.keepIn K (.ref fB1) = true)
    {fB2 : Addr} {odB2 anB2 : Option Addr} {slB2 : Array (Option Value)} {ocB2 kVB2 dcB2 pmB2 cdB2 ctB2 : Value}
    (aB2 : PySem.W.findIn K (.ref CB) "next_bit" = some (some (.ref fB2)))
    (iB2 : PySem.W.isFn K (.ref fB2) = true)
    (lB2 : K.lookup fB2 = some ⟨ocB2, odB2, .func (PySem.W.fnOf "next_bit" "Bits.next_bit" (defArgs sNextBit) (defBody sNextBit) (defScope sNextBit) .none kVB2 dcB2 pmB2 anB2 cdB2 ctB2), slB2⟩)
    (cB2 : PySem.W.codeIn K cdB2 "Bits.next_bit" = true)
    (kB2 : PySem.W.keepIn K (.ref fB2) = true)
    {fB3 : Addr} {odB3 anB3 : Option Addr} {slB3 : Array (Option Value)} {ocB3 kVB3 dcB3 pmB3 cdB3 ctB3 : Value}
    (aB3 : PySem.W.findIn K (.ref CB) "next_code" = some (some (.ref fB3)))
    (iB3 : PySem.W.isFn K (.ref fB3) = true)
    (lB3 : K.lookup fB3 = some ⟨ocB3, odB3, .func (PySem.W.fnOf "next_code" "Bits.next_code" (defArgs sNextCode) (defBody sNextCode) (defScope sNextCode) .none kVB3 dcB3 pmB3 anB3 cdB3 ctB3), slB3⟩)
    (cB3 : PySem.W.codeIn K cdB3 "Bits.next_code" = true)
    (kB3 : PySem.W.keepIn K (.ref fB3) = true)
    {fB4 : Addr} {odB4 anB4 : Option Addr} {slB4 : Array (Option Value)} {ocB4 kVB4 dcB4 pmB4 cdB4 ctB4 : Value}
    (aB4 : PySem.W.findIn K (.ref CB) "next_end_of_line" = some (some (.ref fB4)))
    (iB4 : PySem.W.isFn K (.ref fB4) = true)
    (lB4 : K.lookup fB4 = some ⟨ocB4, odB4, .func (PySem.W.fnOf "next_end_of_line" "Bits.next_end_of_line" (defArgs sNextEol) (defBody sNextEol) (defScope sNextEol) .none kVB4 dcB4 pmB4 anB4 cdB4 ctB4), slB4⟩)
    (cB4 : PySem.W.codeIn K cdB4 "Bits.next_end_of_line" = true)
    (kB4 : PySem.W.keepIn K (.ref fB4) = true)
    {fB5 : Addr} {odB5 anB5 : Option Addr} {slB5 : Array (Option Value)} {ocB5 kVB5 dcB5 pmB5 cdB5 ctB5 : Value}
    (aB5 : PySem.W.findIn K (.ref CB) "end_of_line_behind_zeros" = some (some (.ref fB5)))
    (iB5 : PySem.W.isFn K (.ref fB5) = true)
    (lB5 : K.lookup fB5 = some ⟨ocB5, odB5, .func (PySem.W.fnOf "end_of_line_behind_zeros" "Bits.end_of_line_behind_zeros" (defArgs sZeros) (defBody sZeros) (defScope sZeros) .none kVB5 dcB5 pmB5 anB5 cdB5 ctB5), slB5⟩)
    (cB5 : PySem.W.codeIn K cdB5 "Bits.end_of_line_behind_zeros" = true)
    (kB5 : PySem.W.keepIn K (.ref fB5) = true)
    {fB6 : Addr} {odB6 anB6 : Option Addr} {slB6 : Array (Option Value)} {ocB6 kVB6 dcB6 pmB6 cdB6 ctB6 : Value}
    (aB6 : PySem.W.findIn K (.ref CB) "only_fill_is_left" = some (some (.ref fB6)))
    (iB6 : PySem.W.isFn K (.ref fB6) = true)
    (lB6 : K.lookup fB6 = some ⟨ocB6, odB6, .func (PySem.W.fnOf "only_fill_is_left" "Bits.only_fill_is_left" (defArgs sFill) (defBody sFill) (defScope sFill) .none kVB6 dcB6 pmB6 anB6 cdB6 ctB6), slB6⟩)
    (cB6 : PySem.W.codeIn K cdB6 "Bits.only_fill_is_left" = true)
    (kB6 : PySem.W.keepIn K (.ref fB6) = true)
    {CR : Addr}
    (zR : PySem.W.nsIn K mainGlobals "RowReader" = some (some (.ref CR)))
    (pgR : PySem.W.plainGet K CR Str.empty = true)
    (hdR : PySem.W.hasDictIn K CR = true)
    (poR : PySem.W.plainOver K CR = true)
    (saR : PySem.W.findIn K (.ref CR) "__setattr__" = some (some (.builtin "object.__setattr__")))
    (mkR : PySem.W.makesIn K CR = true)
    (kcR : PySem.W.keepIn K (.ref CR) = true)
    (nR0 : PySem.W.findIn K (.ref CR) "bits" = some none)
    (nR1 : PySem.W.findIn K (.ref CR) "width" = some none)
    (nR2 : PySem.W.findIn K (.ref CR) "lengths" = some none)
    (nR3 : PySem.W.findIn K (.ref CR) "shifts" = some none)
    {fR0 : Addr} {odR0 anR0 : Option Addr} {slR0 : Array (Option Value)} {ocR0 kVR0 dcR0 pmR0 cdR0 ctR0 : Value}
    (aR0 : PySem.W.findIn K (.ref CR) "__init__" = some (some (.ref fR0)))
    (iR0 : PySem.W.isFn K (.ref fR0) = true)
    (lR0 : K.lookup fR0 = some ⟨ocR0, odR0, .func (PySem.W.fnOf "__init__" "RowReader.__init__" (defArgs sReaderI) (defBody sReaderI) (defScope sReaderI) .none kVR0 dcR0 pmR0 anR0 cdR0 ctR0), slR0⟩)
    (cR0 : PySem.W.codeIn K cdR0 "RowReader.__init__" = true)
    (kR0 : PySem.W.keepIn K (.ref fR0) = true)
    {fR1 : Addr} {odR1 anR1 : Option Addr} {slR1 : Array (Option Value)} {ocR1 kVR1 dcR1 pmR1 cdR1 ctR1 : Value}
    (aR1 : PySem.W.findIn K (.ref CR) "run_end" = some (some (.ref fR1)))
    (iR1 : PySem.W.isFn K (.ref fR1) = true)
    (lR1 : K.lookup fR1 = some ⟨ocR1, odR1, .func (PySem.W.fnOf "run_end" "RowReader.run_end" (defArgs sRunEnd) (defBody sRunEnd) (defScope sRunEnd) .none kVR1 dcR1 pmR1 anR1 cdR1 ctR1), slR1⟩)
    (cR1 : PySem.W.codeIn K cdR1 "RowReader.run_end" = true)
    (kR1 : PySem.W.keepIn K (.ref fR1) = true)
    {fR2 : Addr} {odR2 anR2 : Option Addr} {slR2 : Array (Option Value)} {ocR2 kVR2 dcR2 pmR2 cdR2 ctR2 : Value}
    (aR2 : PySem.W.findIn K (.ref CR) "turn" = some (some (.ref fR2)))
    (iR2 : PySem.W.isFn K (.ref fR2) = true)
    (lR2 : K.lookup fR2 = some ⟨ocR2, odR2, .func (PySem.W.fnOf "turn" "RowReader.turn" (defArgs sTurn) (defBody sTurn) (defScope sTurn) .none kVR2 dcR2 pmR2 anR2 cdR2 ctR2), slR2⟩)
    (cR2 : PySem.W.codeIn K cdR2 "RowReader.turn" = true)
    (kR2 : PySem.W.keepIn K (.ref fR2) = true)
    {fR3 : Addr} {odR3 anR3 : Option Addr} {slR3 : Array (Option Value)} {ocR3 kVR3 dcR3 pmR3 cdR3 ctR3 : Value}
    (aR3 : PySem.W.findIn K (.ref CR) "row_alone" = some (some (.ref fR3)))
    (iR3 : PySem.W.isFn K (.ref fR3) = true)
    (lR3 : K.lookup fR3 = some ⟨ocR3, odR3, .func (PySem.W.fnOf "row_alone" "RowReader.row_alone" (defArgs sRowAlone) (defBody sRowAlone) (defScope sRowAlone) .none kVR3 dcR3 pmR3 anR3 cdR3 ctR3), slR3⟩)
    (cR3 : PySem.W.codeIn K cdR3 "RowReader.row_alone" = true)
    (kR3 : PySem.W.keepIn K (.ref fR3) = true)
    {fR4 : Addr} {odR4 anR4 : Option Addr} {slR4 : Array (Option Value)} {ocR4 kVR4 dcR4 pmR4 cdR4 ctR4 : Value}
    (aR4 : PySem.W.findIn K (.ref CR) "row_by_above" = some (some (.ref fR4)))
    (iR4 : PySem.W.isFn K (.ref fR4) = true)
    (lR4 : K.lookup fR4 = some ⟨ocR4, odR4, .func (PySem.W.fnOf "row_by_above" "RowReader.row_by_above" (defArgs sRowAbove) (defBody sRowAbove) (defScope sRowAbove) .none kVR4 dcR4 pmR4 anR4 cdR4 ctR4), slR4⟩)
    (cR4 : PySem.W.codeIn K cdR4 "RowReader.row_by_above" = true)
    (kR4 : PySem.W.keepIn K (.ref fR4) = true)
    {fR5 : Addr} {odR5 anR5 : Option Addr} {slR5 : Array (Option Value)} {ocR5 kVR5 dcR5 pmR5 cdR5 ctR5 : Value}
    (aR5 : PySem.W.findIn K (.ref CR) "passed_over" = some (some (.ref fR5)))
    (iR5 : PySem.W.isFn K (.ref fR5) = true)
    (lR5 : K.lookup fR5 = some ⟨ocR5, odR5, .func (PySem.W.fnOf "passed_over" "RowReader.passed_over" (defArgs sPassed) (defBody sPassed) (defScope sPassed) .none kVR5 dcR5 pmR5 anR5 cdR5 ctR5), slR5⟩)
    (cR5 : PySem.W.codeIn K cdR5 "RowReader.passed_over" = true)
    (kR5 : PySem.W.keepIn K (.ref fR5) = true)
    {fR6 : Addr} {odR6 anR6 : Option Addr} {slR6 : Array (Option Value)} {ocR6 kVR6 dcR6 pmR6 cdR6 ctR6 : Value}
    (aR6 : PySem.W.findIn K (.ref CR) "across" = some (some (.ref fR6)))
    (iR6 : PySem.W.isFn K (.ref fR6) = true)
    (lR6 : K.lookup fR6 = some ⟨ocR6, odR6, .func (PySem.W.fnOf "across" "RowReader.across" (defArgs sAcrossM) (defBody sAcrossM) (defScope sAcrossM) .none kVR6 dcR6 pmR6 anR6 cdR6 ctR6), slR6⟩)
    (cR6 : PySem.W.codeIn K cdR6 "RowReader.across" = true)
    (kR6 : PySem.W.keepIn K (.ref fR6) = true)
    {fR7 : Addr} {odR7 anR7 : Option Addr} {slR7 : Array (Option Value)} {ocR7 kVR7 dcR7 pmR7 cdR7 ctR7 : Value}
    (aR7 : PySem.W.findIn K (.ref CR) "straight" = some (some (.ref fR7)))
    (iR7 : PySem.W.isFn K (.ref fR7) = true)
    (lR7 : K.lookup fR7 = some ⟨ocR7, odR7, .func (PySem.W.fnOf "straight" "RowReader.straight" (defArgs sStraightM) (defBody sStraightM) (defScope sStraightM) .none kVR7 dcR7 pmR7 anR7 cdR7 ctR7), slR7⟩)
    (cR7 : PySem.W.codeIn K cdR7 "RowReader.straight" = true)
    (kR7 : PySem.W.keepIn K (.ref fR7) = true)
    {C0 N0 fi0 : Addr} {nm0 q0 : Str} {bs0 bm0 : List Value} {sn0 : List Str} {sub0 : List Value} {ab0 : Bool} {col0 : Option Bool} {dd0 : Option Addr} {m00 m01 m02 m03 m05 : Option Value}
    {odx0 anx0 : Option Addr} {slx0 : Array (Option Value)} {ocx0 kVx0 dcx0 pmx0 cdx0 ctx0 : Value}
    (xa0 : PySem.W.nsIn K mainGlobals "Fault" = some (some (.ref C0)))
    (xo0 : K.lookup C0 = some (excClassObj nm0 q0 C0 N0 bs0 bm0 true sn0 sub0 ab0 col0 dd0 m00 m01 m02 m03 m05 "Exception.__new__"))
    (xc0 : ∃ cs : List Addr, bm0 = cs.map Value.ref ++ FaxX.exT)
    (xs0 : PySem.W.findIn K (.ref C0) "__setattr__" = some (some (.builtin "object.__setattr__")))
    (xg0 : PySem.W.findIn K (.ref C0) "__getattribute__" = some (some (.builtin "BaseException.__getattribute__")))
    (xh0 : PySem.W.findIn K (.ref C0) "__getattr__" = some none)
    (xn0 : PySem.W.findIn K (.ref C0) "number" = some none)
    (xp0 : PySem.W.findIn K (.ref C0) "place" = some none)
    (xi0 : PySem.W.findIn K (.ref C0) "__init__" = some (some (.ref fi0)))
    (xt0 : PySem.W.typeIn K (.ref fi0) = some (.type "function"))
    (xk0 : PySem.W.keepIn K (.ref C0) = true)
    (xe0 : PySem.W.subIn K (.ref C0) (.type "BaseException") = some true)
    (xy0 : PySem.W.typeIn K (.ref C0) = some (.type "type"))
    (xd0 : PySem.W.hasDictIn K C0 = true)
    (xb0 : PySem.W.subIn K (.ref C0) (.ref C0) = some true)
    (lx0 : K.lookup fi0 = some ⟨ocx0, odx0, .func (PySem.W.fnOf "__init__" "Fault.__init__" (defArgs sFaultI) (defBody sFaultI) (defScope sFaultI) .none kVx0 dcx0 pmx0 anx0 cdx0 ctx0), slx0⟩)
    (cx0 : PySem.W.codeIn K cdx0 "Fault.__init__" = true)
    (kx0 : PySem.W.keepIn K (.ref fi0) = true)
    {C1 N1 fi1 : Addr} {nm1 q1 : Str} {bs1 bm1 : List Value} {sn1 : List Str} {sub1 : List Value} {ab1 : Bool} {col1 : Option Bool} {dd1 : Option Addr} {m10 m11 m12 m13 m15 : Option Value}
    {odx1 anx1 : Option Addr} {slx1 : Array (Option Value)} {ocx1 kVx1 dcx1 pmx1 cdx1 ctx1 : Value}
    (xa1 : PySem.W.nsIn K mainGlobals "NoCode" = some (some (.ref C1)))
    (xo1 : K.lookup C1 = some (excClassObj nm1 q1 C1 N1 bs1 bm1 true sn1 sub1 ab1 col1 dd1 m10 m11 m12 m13 m15 "Exception.__new__"))
    (xc1 : ∃ cs : List Addr, bm1 = cs.map Value.ref ++ FaxX.exT)
    (xs1 : PySem.W.findIn K (.ref C1) "__setattr__" = some (some (.builtin "object.__setattr__")))
    (xg1 : PySem.W.findIn K (.ref C1) "__getattribute__" = some (some (.builtin "BaseException.__getattribute__")))
    (xh1 : PySem.W.findIn K (.ref C1) "__getattr__" = some none)
    (xn1 : PySem.W.findIn K (.ref C1) "number" = some none)
    (xp1 : PySem.W.findIn K (.ref C1) "place" = some none)
    (xi1 : PySem.W.findIn K (.ref C1) "__init__" = some (some (.ref fi1)))
    (xt1 : PySem.W.typeIn K (.ref fi1) = some (.type "function"))
    (xk1 : PySem.W.keepIn K (.ref C1) = true)
    (xe1 : PySem.W.subIn K (.ref C1) (.type "BaseException") = some true)
    (xy1 : PySem.W.typeIn K (.ref C1) = some (.type "type"))
    (xd1 : PySem.W.hasDictIn K C1 = true)
    (xb1 : PySem.W.subIn K (.ref C1) (.ref C0) = some true)
    (lx1 : K.lookup fi1 = some ⟨ocx1, odx1, .func (PySem.W.fnOf "__init__" "NoCode.__init__" (defArgs (sExcI 1)) (defBody (sExcI 1)) (defScope (sExcI 1)) .none kVx1 dcx1 pmx1 anx1 cdx1 ctx1), slx1⟩)
    (cx1 : PySem.W.codeIn K cdx1 "NoCode.__init__" = true)
    (kx1 : PySem.W.keepIn K (.ref fi1) = true)
    {C2 N2 fi2 : Addr} {nm2 q2 : Str} {bs2 bm2 : List Value} {sn2 : List Str} {sub2 : List Value} {ab2 : Bool} {col2 : Option Bool} {dd2 : Option Addr} {m20 m21 m22 m23 m25 : Option Value}
    {odx2 anx2 : Option Addr} {slx2 : Array (Option Value)} {ocx2 kVx2 dcx2 pmx2 cdx2 ctx2 : Value}
    (xa2 : PySem.W.nsIn K mainGlobals "NotLet" = some (some (.ref C2)))
    (xo2 : K.lookup C2 = some (excClassObj nm2 q2 C2 N2 bs2 bm2 true sn2 sub2 ab2 col2 dd2 m20 m21 m22 m23 m25 "Exception.__new__"))
    (xc2 : ∃ cs : List Addr, bm2 = cs.map Value.ref ++ FaxX.exT)
    (xs2 : PySem.W.findIn K (.ref C2) "__setattr__" = some (some (.builtin "object.__setattr__")))
    (xg2 : PySem.W.findIn K (.ref C2) "__getattribute__" = some (some (.builtin "BaseException.__getattribute__")))
    (xh2 : PySem.W.findIn K (.ref C2) "__getattr__" = some none)
    (xn2 : PySem.W.findIn K (.ref C2) "number" = some none)
    (xp2 : PySem.W.findIn K (.ref C2) "place" = some none)
    (xi2 : PySem.W.findIn K (.ref C2) "__init__" = some (some (.ref fi2)))
    (xt2 : PySem.W.typeIn K (.ref fi2) = some (.type "function"))
    (xk2 : PySem.W.keepIn K (.ref C2) = true)
    (xe2 : PySem.W.subIn K (.ref C2) (.type "BaseException") = some true)
    (xy2 : PySem.W.typeIn K (.ref C2) = some (.type "type"))
    (xd2 : PySem.W.hasDictIn K C2 = true)
    (xb2 : PySem.W.subIn K (.ref C2) (.ref C0) = some true)
    (lx2 : K.lookup fi2 = some ⟨ocx2, odx2, .func (PySem.W.fnOf "__init__" "NotLet.__init__" (defArgs (sExcI 2)) (defBody (sExcI 2)) (defScope (sExcI 2)) .none kVx2 dcx2 pmx2 anx2 cdx2 ctx2), slx2⟩)
    (cx2 : PySem.W.codeIn K cdx2 "NotLet.__init__" = true)
    (kx2 : PySem.W.keepIn K (.ref fi2) = true)
    {C3 N3 fi3 : Addr} {nm3 q3 : Str} {bs3 bm3 : List Value} {sn3 : List Str} {sub3 : List Value} {ab3 : Bool} {col3 : Option Bool} {dd3 : Option Addr} {m30 m31 m32 m33 m35 : Option Value}
    {odx3 anx3 : Option Addr} {slx3 : Array (Option Value)} {ocx3 kVx3 dcx3 pmx3 cdx3 ctx3 : Value}
    (xa3 : PySem.W.nsIn K mainGlobals "NoEndOfLine" = some (some (.ref C3)))
    (xo3 : K.lookup C3 = some (excClassObj nm3 q3 C3 N3 bs3 bm3 true sn3 sub3 ab3 col3 dd3 m30 m31 m32 m33 m35 "Exception.__new__"))
    (xc3 : ∃ cs : List Addr, bm3 = cs.map Value.ref ++ FaxX.exT)
    (xs3 : PySem.W.findIn K (.ref C3) "__setattr__" = some (some (.builtin "object.__setattr__")))
    (xg3 : PySem.W.findIn K (.ref C3) "__getattribute__" = some (some (.builtin "BaseException.__getattribute__")))
    (xh3 : PySem.W.findIn K (.ref C3) "__getattr__" = some none)
    (xn3 : PySem.W.findIn K (.ref C3) "number" = some none)
    (xp3 : PySem.W.findIn K (.ref C3) "place" = some none)
    (xi3 : PySem.W.findIn K (.ref C3) "__init__" = some (some (.ref fi3)))
    (xt3 : PySem.W.typeIn K (.ref fi3) = some (.type "function"))
    (xk3 : PySem.W.keepIn K (.ref C3) = true)
    (xe3 : PySem.W.subIn K (.ref C3) (.type "BaseException") = some true)
    (xy3 : PySem.W.typeIn K (.ref C3) = some (.type "type"))
    (xd3 : PySem.W.hasDictIn K C3 = true)
    (xb3 : PySem.W.subIn K (.ref C3) (.ref C0) = some true)
    (lx3 : K.lookup fi3 = some ⟨ocx3, odx3, .func (PySem.W.fnOf "__init__" "NoEndOfLine.__init__" (defArgs (sExcI 3)) (defBody (sExcI 3)) (defScope (sExcI 3)) .none kVx3 dcx3 pmx3 anx3 cdx3 ctx3), slx3⟩)
    (cx3 : PySem.W.codeIn K cdx3 "NoEndOfLine.__init__" = true)
    (kx3 : PySem.W.keepIn K (.ref fi3) = true)
    {C4 N4 fi4 : Addr} {nm4 q4 : Str} {bs4 bm4 : List Value} {sn4 : List Str} {sub4 : List Value} {ab4 : Bool} {col4 : Option Bool} {dd4 : Option Addr} {m40 m41 m42 m43 m45 : Option Value}
    {odx4 anx4 : Option Addr} {slx4 : Array (Option Value)} {ocx4 kVx4 dcx4 pmx4 cdx4 ctx4 : Value}
    (xa4 : PySem.W.nsIn K mainGlobals "DataEnds" = some (some (.ref C4)))
    (xo4 : K.lookup C4 = some (excClassObj nm4 q4 C4 N4 bs4 bm4 true sn4 sub4 ab4 col4 dd4 m40 m41 m42 m43 m45 "Exception.__new__"))
    (xc4 : ∃ cs : List Addr, bm4 = cs.map Value.ref ++ FaxX.exT)
    (xs4 : PySem.W.findIn K (.ref C4) "__setattr__" = some (some (.builtin "object.__setattr__")))
    (xg4 : PySem.W.findIn K (.ref C4) "__getattribute__" = some (some (.builtin "BaseException.__getattribute__")))
    (xh4 : PySem.W.findIn K (.ref C4) "__getattr__" = some none)
    (xn4 : PySem.W.findIn K (.ref C4) "number" = some none)
    (xp4 : PySem.W.findIn K (.ref C4) "place" = some none)
    (xi4 : PySem.W.findIn K (.ref C4) "__init__" = some (some (.ref fi4)))
    (xt4 : PySem.W.typeIn K (.ref fi4) = some (.type "function"))
    (xk4 : PySem.W.keepIn K (.ref C4) = true)
    (xe4 : PySem.W.subIn K (.ref C4) (.type "BaseException") = some true)
    (xy4 : PySem.W.typeIn K (.ref C4) = some (.type "type"))
    (xd4 : PySem.W.hasDictIn K C4 = true)
    (xb4 : PySem.W.subIn K (.ref C4) (.ref C0) = some true)
    (lx4 : K.lookup fi4 = some ⟨ocx4, odx4, .func (PySem.W.fnOf "__init__" "DataEnds.__init__" (defArgs (sExcI 4)) (defBody (sExcI 4)) (defScope (sExcI 4)) .none kVx4 dcx4 pmx4 anx4 cdx4 ctx4), slx4⟩)
    (cx4 : PySem.W.codeIn K cdx4 "DataEnds.__init__" = true)
    (kx4 : PySem.W.keepIn K (.ref fi4) = true)
    {C5 N5 fi5 : Addr} {nm5 q5 : Str} {bs5 bm5 : List Value} {sn5 : List Str} {sub5 : List Value} {ab5 : Bool} {col5 : Option Bool} {dd5 : Option Addr} {m50 m51 m52 m53 m55 : Option Value}
    {odx5 anx5 : Option Addr} {slx5 : Array (Option Value)} {ocx5 kVx5 dcx5 pmx5 cdx5 ctx5 : Value}
    (xa5 : PySem.W.nsIn K mainGlobals "MoreBehind" = some (some (.ref C5)))
    (xo5 : K.lookup C5 = some (excClassObj nm5 q5 C5 N5 bs5 bm5 true sn5 sub5 ab5 col5 dd5 m50 m51 m52 m53 m55 "Exception.__new__"))
    (xc5 : ∃ cs : List Addr, bm5 = cs.map Value.ref ++ FaxX.exT)
    (xs5 : PySem.W.findIn K (.ref C5) "__setattr__" = some (some (.builtin "object.__setattr__")))
    (xg5 : PySem.W.findIn K (.ref C5) "__getattribute__" = some (some (.builtin "BaseException.__getattribute__")))
    (xh5 : PySem.W.findIn K (.ref C5) "__getattr__" = some none)
    (xn5 : PySem.W.findIn K (.ref C5) "number" = some none)
    (xp5 : PySem.W.findIn K (.ref C5) "place" = some none)
    (xi5 : PySem.W.findIn K (.ref C5) "__init__" = some (some (.ref fi5)))
    (xt5 : PySem.W.typeIn K (.ref fi5) = some (.type "function"))
    (xk5 : PySem.W.keepIn K (.ref C5) = true)
    (xe5 : PySem.W.subIn K (.ref C5) (.type "BaseException") = some true)
    (xy5 : PySem.W.typeIn K (.ref C5) = some (.type "type"))
    (xd5 : PySem.W.hasDictIn K C5 = true)
    (xb5 : PySem.W.subIn K (.ref C5) (.ref C0) = some true)
    (lx5 : K.lookup fi5 = some ⟨ocx5, odx5, .func (PySem.W.fnOf "__init__" "MoreBehind.__init__" (defArgs (sExcI 5)) (defBody (sExcI 5)) (defScope (sExcI 5)) .none kVx5 dcx5 pmx5 anx5 cdx5 ctx5), slx5⟩)
    (cx5 : PySem.W.codeIn K cdx5 "MoreBehind.__init__" = true)
    (kx5 : PySem.W.keepIn K (.ref fi5) = true)
    {C6 N6 fi6 : Addr} {nm6 q6 : Str} {bs6 bm6 : List Value} {sn6 : List Str} {sub6 : List Value} {ab6 : Bool} {col6 : Option Bool} {dd6 : Option Addr} {m60 m61 m62 m63 m65 : Option Value}
    {odx6 anx6 : Option Addr} {slx6 : Array (Option Value)} {ocx6 kVx6 dcx6 pmx6 cdx6 ctx6 : Value}
    (xa6 : PySem.W.nsIn K mainGlobals "RowTooMany" = some (some (.ref C6)))
    (xo6 : K.lookup C6 = some (excClassObj nm6 q6 C6 N6 bs6 bm6 true sn6 sub6 ab6 col6 dd6 m60 m61 m62 m63 m65 "Exception.__new__"))
    (xc6 : ∃ cs : List Addr, bm6 = cs.map Value.ref ++ FaxX.exT)
    (xs6 : PySem.W.findIn K (.ref C6) "__setattr__" = some (some (.builtin "object.__setattr__")))
    (xg6 : PySem.W.findIn K (.ref C6) "__getattribute__" = some (some (.builtin "BaseException.__getattribute__")))
    (xh6 : PySem.W.findIn K (.ref C6) "__getattr__" = some none)
    (xn6 : PySem.W.findIn K (.ref C6) "number" = some none)
    (xp6 : PySem.W.findIn K (.ref C6) "place" = some none)
    (xi6 : PySem.W.findIn K (.ref C6) "__init__" = some (some (.ref fi6)))
    (xt6 : PySem.W.typeIn K (.ref fi6) = some (.type "function"))
    (xk6 : PySem.W.keepIn K (.ref C6) = true)
    (xe6 : PySem.W.subIn K (.ref C6) (.type "BaseException") = some true)
    (xy6 : PySem.W.typeIn K (.ref C6) = some (.type "type"))
    (xd6 : PySem.W.hasDictIn K C6 = true)
    (xb6 : PySem.W.subIn K (.ref C6) (.ref C0) = some true)
    (lx6 : K.lookup fi6 = some ⟨ocx6, odx6, .func (PySem.W.fnOf "__init__" "RowTooMany.__init__" (defArgs (sExcI 6)) (defBody (sExcI 6)) (defScope (sExcI 6)) .none kVx6 dcx6 pmx6 anx6 cdx6 ctx6), slx6⟩)
    (cx6 : PySem.W.codeIn K cdx6 "RowTooMany.__init__" = true)
    (kx6 : PySem.W.keepIn K (.ref fi6) = true)
    (xl0 : PySem.W.isClsIn K C0 = true)
    (rr : PySem.W.readsIn K C0 (.type "type") = true)
    (rg : PySem.W.specialIn K (.ref C0) "__getattribute__" = some (some (.builtin "type.__getattribute__")))
    (rc : PySem.W.findCls K (.ref C0) (.type "type") "__init__" = some (.val (.ref fi0)))
    {ti0 : Tok}
    (ci0 : PySem.W.nsIn K mainGlobals "WHITE" = some (some (.int 0 ti0)))
    {ti1 : Tok}
    (ci1 : PySem.W.nsIn K mainGlobals "BLACK" = some (some (.int 1 ti1)))
    {ti2 : Tok}
    (ci2 : PySem.W.nsIn K mainGlobals "LONGEST" = some (some (.int 2560 ti2)))
    {ti3 : Tok}
    (ci3 : PySem.W.nsIn K mainGlobals "LONGEST_CODE" = some (some (.int 13 ti3)))
    {ti4 : Tok}
    (ci4 : PySem.W.nsIn K mainGlobals "STRAIGHT_REACH" = some (some (.int 3 ti4)))
    {ti5 : Tok}
    (ci5 : PySem.W.nsIn K mainGlobals "ALONE" = some (some (.int 0 ti5)))
    {ti6 : Tok}
    (ci6 : PySem.W.nsIn K mainGlobals "MIXED" = some (some (.int 1 ti6)))
    {ti7 : Tok}
    (ci7 : PySem.W.nsIn K mainGlobals "BY_ABOVE" = some (some (.int 2 ti7)))
    {ti8 : Tok}
    (ci8 : PySem.W.nsIn K mainGlobals "MOST_WIDTH" = some (some (.int 16384 ti8)))
    {ti9 : Tok}
    (ci9 : PySem.W.nsIn K mainGlobals "MOST_ROWS" = some (some (.int 16384 ti9)))
    {ti10 : Tok}
    (ci10 : PySem.W.nsIn K mainGlobals "MOST_LENGTH" = some (some (.int 67108864 ti10)))
    {ts0 : Tok}
    (cs0 : PySem.W.nsIn K mainGlobals "PASSED_OVER" = some (some (.str "0001" ts0)))
    {ts1 : Tok}
    (cs1 : PySem.W.nsIn K mainGlobals "ACROSS" = some (some (.str "001" ts1)))
    {ts2 : Tok}
    (cs2 : PySem.W.nsIn K mainGlobals "END_OF_LINE" = some (some (.str zEol ts2)))
    {u0 : Addr} {ut0 : Option Addr} {its0 : List Value} {un0 : Nat} {us0 : Array (Option Value)}
    (t0 : PySem.W.nsIn K mainGlobals "WHITE_SHORT" = some (some (.ref u0)))
    (o0 : K.lookup u0 = some ⟨.type "tuple", ut0, .seq its0.toArray un0, us0⟩)
    (v0 : strsIn its0 = some wsL)
    {u1 : Addr} {ut1 : Option Addr} {its1 : List Value} {un1 : Nat} {us1 : Array (Option Value)}
    (t1 : PySem.W.nsIn K mainGlobals "WHITE_LONG" = some (some (.ref u1)))
    (o1 : K.lookup u1 = some ⟨.type "tuple", ut1, .seq its1.toArray un1, us1⟩)
    (v1 : strsIn its1 = some wlL)
    {u2 : Addr} {ut2 : Option Addr} {its2 : List Value} {un2 : Nat} {us2 : Array (Option Value)}
    (t2 : PySem.W.nsIn K mainGlobals "BLACK_SHORT" = some (some (.ref u2)))
    (o2 : K.lookup u2 = some ⟨.type "tuple", ut2, .seq its2.toArray un2, us2⟩)
    (v2 : strsIn its2 = some bsL)
    {u3 : Addr} {ut3 : Option Addr} {its3 : List Value} {un3 : Nat} {us3 : Array (Option Value)}
    (t3 : PySem.W.nsIn K mainGlobals "BLACK_LONG" = some (some (.ref u3)))
    (o3 : K.lookup u3 = some ⟨.type "tuple", ut3, .seq its3.toArray un3, us3⟩)
    (v3 : strsIn its3 = some blL)
    {u4 : Addr} {ut4 : Option Addr} {its4 : List Value} {un4 : Nat} {us4 : Array (Option Value)}
    (t4 : PySem.W.nsIn K mainGlobals "BOTH_LONG" = some (some (.ref u4)))
    (o4 : K.lookup u4 = some ⟨.type "tuple", ut4, .seq its4.toArray un4, us4⟩)
    (v4 : strsIn its4 = some boL)
    {u5 : Addr} {ut5 : Option Addr} {its5 : List Value} {un5 : Nat} {us5 : Array (Option Value)}
    (t5 : PySem.W.nsIn K mainGlobals "STRAIGHT" = some (some (.ref u5)))
    (o5 : K.lookup u5 = some ⟨.type "tuple", ut5, .seq its5.toArray un5, us5⟩)
    (v5 : strsIn its5 = some stL)
    {u6 : Addr} {ut6 : Option Addr} {its6 : List Value} {un6 : Nat} {us6 : Array (Option Value)}
    (t6 : PySem.W.nsIn K mainGlobals "FOUR_BITS" = some (some (.ref u6)))
    (o6 : K.lookup u6 = some ⟨.type "tuple", ut6, .seq its6.toArray un6, us6⟩)
    (v6 : strsIn its6 = some fbL)
    (no0 : PySem.W.nsIn K mainGlobals "len" = some none)
    (no1 : PySem.W.nsIn K mainGlobals "range" = some none)
    (no2 : PySem.W.nsIn K mainGlobals "max" = some none)
    (no3 : PySem.W.nsIn K mainGlobals "any" = some none)
    : ∃ fd : FuncData, (∀ (s : Shared) (us : List Value), us.length = pRead.length → BindsTo s fd ⟨us, []⟩ (pRead.zip us)) ∧ ∀ base : Heap, K.In base → base.Ns mainGlobals mg → FnOk P w K mg base CX0 10 fw fd pRead (spRead K) := by
  have S_short_code : Stands K mg "short_code" sShort ["colour", "length"] := stands_mk X G (fun _ _ _ _ _ _ us hl => match us, hl with | [_, _], _ => rfl) a0 l0 c0 k0
  have S_long_code : Stands K mg "long_code" sLong ["colour", "sixty_fours"] := stands_mk X G (fun _ _ _ _ _ _ us hl => match us, hl with | [_, _], _ => rfl) a1 l1 c1 k1
  have S_straight_code : Stands K mg "straight_code" sStraight ["shift"] := stands_mk X G (fun _ _ _ _ _ _ us hl => match us, hl with | [_], _ => rfl) a2 l2 c2 k2
  have S_run_lengths : Stands K mg "run_lengths" sLengths ["colour"] := stands_mk X G (fun _ _ _ _ _ _ us hl => match us, hl with | [_], _ => rfl) a3 l3 c3 k3
  have S_way_shifts : Stands K mg "way_shifts" sShifts [] := stands_mk X G (fun _ _ _ _ _ _ us hl => match us, hl with | [], _ => rfl) a4 l4 c4 k4
  have S_bit_text : Stands K mg "bit_text" sBitText ["data"] := stands_mk X G (fun _ _ _ _ _ _ us hl => match us, hl with | [_], _ => rfl) a5 l5 c5 k5
  have S_with_ends : Stands K mg "with_ends" sEnds ["changes", "width"] := stands_mk X G (fun _ _ _ _ _ _ us hl => match us, hl with | [_, _], _ => rfl) a6 l6 c6 k6
  have S_white_row : Stands K mg "white_row" sWhite ["width"] := stands_mk X G (fun _ _ _ _ _ _ us hl => match us, hl with | [_], _ => rfl) a7 l7 c7 k7
  have S_bytes_of_row : Stands K mg "bytes_of_row" sBytesRow ["changes", "width"] := stands_mk X G (fun _ _ _ _ _ _ us hl => match us, hl with | [_, _], _ => rfl) a8 l8 c8 k8
  have S_first_behind : Stands K mg "first_behind" sFirst ["changes", "index", "place"] := stands_mk X G (fun _ _ _ _ _ _ us hl => match us, hl with | [_, _, _], _ => rfl) a9 l9 c9 k9
  have S_opposite_from : Stands K mg "opposite_from" sOpposite ["index", "colour"] := stands_mk X G (fun _ _ _ _ _ _ us hl => match us, hl with | [_, _], _ => rfl) a10 l10 c10 k10
  have S_page_end : Stands K mg "page_end" sEnd ["kind"] := stands_mk X G (fun _ _ _ _ _ _ us hl => match us, hl with | [_], _ => rfl) a11 l11 c11 k11
  have S_read_page : Stands K mg "read_page" sReadPage ["kind", "width", "most", "bits"] := stands_mk X G (fun _ _ _ _ _ _ us hl => match us, hl with | [_, _, _, _], _ => rfl) a12 l12 c12 k12
  have S_read_rows_by_above : Stands K mg "read_rows_by_above" sReadAbove ["reader", "width", "most", "bits"] := stands_mk X G (fun _ _ _ _ _ _ us hl => match us, hl with | [_, _, _, _], _ => rfl) a13 l13 c13 k13
  have S_read_rows_in_lines : Stands K mg "read_rows_in_lines" sReadLines ["kind", "reader", "most", "bits"] := stands_mk X G (fun _ _ _ _ _ _ us hl => match us, hl with | [_, _, _, _], _ => rfl) a14 l14 c14 k14
  have S_read_rest_of_end : Stands K mg "read_rest_of_end" sReadEnd ["kind", "bits"] := stands_mk X G (fun _ _ _ _ _ _ us hl => match us, hl with | [_, _], _ => rfl) a15 l15 c15 k15
  have B_begins_with : MStands K CB "begins_with" "Bits.begins_with" sBegins ["self", "code"] := mstands_mk (fun _ _ _ _ _ _ us hl => match us, hl with | [_, _], _ => rfl) aB1 iB1 lB1 cB1 kB1
  have B_next_bit : MStands K CB "next_bit" "Bits.next_bit" sNextBit ["self"] := mstands_mk (fun _ _ _ _ _ _ us hl => match us, hl with | [_], _ => rfl) aB2 iB2 lB2 cB2 kB2
  have B_next_code : MStands K CB "next_code" "Bits.next_code" sNextCode ["self", "codes"] := mstands_mk (fun _ _ _ _ _ _ us hl => match us, hl with | [_, _], _ => rfl) aB3 iB3 lB3 cB3 kB3
  have B_next_end_of_line : MStands K CB "next_end_of_line" "Bits.next_end_of_line" sNextEol ["self"] := mstands_mk (fun _ _ _ _ _ _ us hl => match us, hl with | [_], _ => rfl) aB4 iB4 lB4 cB4 kB4
  have B_end_of_line_behind_zeros : MStands K CB "end_of_line_behind_zeros" "Bits.end_of_line_behind_zeros" sZeros ["self"] := mstands_mk (fun _ _ _ _ _ _ us hl => match us, hl with | [_], _ => rfl) aB5 iB5 lB5 cB5 kB5
  have B_only_fill_is_left : MStands K CB "only_fill_is_left" "Bits.only_fill_is_left" sFill ["self"] := mstands_mk (fun _ _ _ _ _ _ us hl => match us, hl with | [_], _ => rfl) aB6 iB6 lB6 cB6 kB6
  have MKB : Mk K CB fB0 := ⟨mkB, aB0, iB0, kcB⟩
  have FB := fun_mk (st := sBitsI) lB0 cB0 kB0
  have bB := FB.binds (ps := ["self", "data"]) (fun _ _ _ _ _ _ us hl => match us, hl with | [_, _], _ => rfl)
  have M_run_end : MStands K CR "run_end" "RowReader.run_end" sRunEnd ["self", "colour", "start"] := mstands_mk (fun _ _ _ _ _ _ us hl => match us, hl with | [_, _, _], _ => rfl) aR1 iR1 lR1 cR1 kR1
  have M_turn : MStands K CR "turn" "RowReader.turn" sTurn ["self", "changes", "place"] := mstands_mk (fun _ _ _ _ _ _ us hl => match us, hl with | [_, _, _], _ => rfl) aR2 iR2 lR2 cR2 kR2
  have M_row_alone : MStands K CR "row_alone" "RowReader.row_alone" sRowAlone ["self"] := mstands_mk (fun _ _ _ _ _ _ us hl => match us, hl with | [_], _ => rfl) aR3 iR3 lR3 cR3 kR3
  have M_row_by_above : MStands K CR "row_by_above" "RowReader.row_by_above" sRowAbove ["self", "above"] := mstands_mk (fun _ _ _ _ _ _ us hl => match us, hl with | [_, _], _ => rfl) aR4 iR4 lR4 cR4 kR4
  have M_passed_over : MStands K CR "passed_over" "RowReader.passed_over" sPassed ["self", "begin", "b2"] := mstands_mk (fun _ _ _ _ _ _ us hl => match us, hl with | [_, _, _], _ => rfl) aR5 iR5 lR5 cR5 kR5
  have M_across : MStands K CR "across" "RowReader.across" sAcrossM ["self", "begin", "changes", "colour", "start"] := mstands_mk (fun _ _ _ _ _ _ us hl => match us, hl with | [_, _, _, _, _], _ => rfl) aR6 iR6 lR6 cR6 kR6
  have M_straight : MStands K CR "straight" "RowReader.straight" sStraightM ["self", "begin", "place", "change"] := mstands_mk (fun _ _ _ _ _ _ us hl => match us, hl with | [_, _, _, _], _ => rfl) aR7 iR7 lR7 cR7 kR7
  have MKR : Mk K CR fR0 := ⟨mkR, aR0, iR0, kcR⟩
  have FR := fun_mk (st := sReaderI) lR0 cR0 kR0
  have bR := FR.binds (ps := ["self", "bits", "width"]) (fun _ _ _ _ _ _ us hl => match us, hl with | [_, _, _], _ => rfl)
  have T_white : CInt mg "WHITE" 0 := cint_mk X G ci0
  have T_black : CInt mg "BLACK" 1 := cint_mk X G ci1
  have T_longest : CInt mg "LONGEST" 2560 := cint_mk X G ci2
  have T_longCode : CInt mg "LONGEST_CODE" 13 := cint_mk X G ci3
  have T_reach : CInt mg "STRAIGHT_REACH" 3 := cint_mk X G ci4
  have T_kAlone : CInt mg "ALONE" 0 := cint_mk X G ci5
  have T_kMixed : CInt mg "MIXED" 1 := cint_mk X G ci6
  have T_kAbove : CInt mg "BY_ABOVE" 2 := cint_mk X G ci7
  have T_mWidth : CInt mg "MOST_WIDTH" 16384 := cint_mk X G ci8
  have T_mRows : CInt mg "MOST_ROWS" 16384 := cint_mk X G ci9
  have T_mLength : CInt mg "MOST_LENGTH" 67108864 := cint_mk X G ci10
  have T_pass : CStr mg "PASSED_OVER" "0001" := cstr_mk X G cs0
  have T_across : CStr mg "ACROSS" "001" := cstr_mk X G cs1
  have T_eol : CStr mg "END_OF_LINE" zEol := cstr_mk X G cs2
  have T_ws : CTup K mg "WHITE_SHORT" wsL := ctup_mk X G t0 o0 v0 (by decide)
  have T_wl : CTup K mg "WHITE_LONG" wlL := ctup_mk X G t1 o1 v1 (by decide)
  have T_bs : CTup K mg "BLACK_SHORT" bsL := ctup_mk X G t2 o2 v2 (by decide)
  have T_bl : CTup K mg "BLACK_LONG" blL := ctup_mk X G t3 o3 v3 (by decide)
  have T_bo : CTup K mg "BOTH_LONG" boL := ctup_mk X G t4 o4 v4 (by decide)
  have T_st : CTup K mg "STRAIGHT" stL := ctup_mk X G t5 o5 v5 (by decide)
  have T_four : CTup K mg "FOUR_BITS" fbL := ctup_mk X G t6 o6 v6 (by decide)
  have T_len : mg "len" = none := PySem.W.mg_none_of X G no0
  have T_range : mg "range" = none := PySem.W.mg_none_of X G no1
  have T_max : mg "max" = none := PySem.W.mg_none_of X G no2
  have T_any : mg "any" = none := PySem.W.mg_none_of X G no3
  have T : Txts K mg := ⟨T_white, T_black, T_ws, T_wl, T_bs, T_bl, T_bo, T_longest, T_longCode, T_pass, T_across, T_st, T_reach, T_eol, T_four, T_kAlone, T_kMixed, T_kAbove, T_mWidth, T_mRows, T_mLength, T_len, T_range, T_max, T_any⟩
  have C : Cl K mg CB CR := ⟨⟨pgB, hdB, poB, saB⟩, nB0, nB1, PySem.W.mg_of X G zB, ⟨pgR, hdR, poR, saR⟩, nR0, nR1, nR2, nR3, PySem.W.mg_of X G zR⟩
  have E0 : FaxX.ExK K C0 := ⟨⟨nm0, q0, N0, bs0, bm0, sn0, sub0, ab0, col0, dd0, m00, m01, m02, m03, m05, xo0, xc0⟩, xs0, xe0, xy0, xk0⟩
  have E1 : FaxX.ExK K C1 := ⟨⟨nm1, q1, N1, bs1, bm1, sn1, sub1, ab1, col1, dd1, m10, m11, m12, m13, m15, xo1, xc1⟩, xs1, xe1, xy1, xk1⟩
  have E2 : FaxX.ExK K C2 := ⟨⟨nm2, q2, N2, bs2, bm2, sn2, sub2, ab2, col2, dd2, m20, m21, m22, m23, m25, xo2, xc2⟩, xs2, xe2, xy2, xk2⟩
  have E3 : FaxX.ExK K C3 := ⟨⟨nm3, q3, N3, bs3, bm3, sn3, sub3, ab3, col3, dd3, m30, m31, m32, m33, m35, xo3, xc3⟩, xs3, xe3, xy3, xk3⟩
  have E4 : FaxX.ExK K C4 := ⟨⟨nm4, q4, N4, bs4, bm4, sn4, sub4, ab4, col4, dd4, m40, m41, m42, m43, m45, xo4, xc4⟩, xs4, xe4, xy4, xk4⟩
  have E5 : FaxX.ExK K C5 := ⟨⟨nm5, q5, N5, bs5, bm5, sn5, sub5, ab5, col5, dd5, m50, m51, m52, m53, m55, xo5, xc5⟩, xs5, xe5, xy5, xk5⟩
  have E6 : FaxX.ExK K C6 := ⟨⟨nm6, q6, N6, bs6, bm6, sn6, sub6, ab6, col6, dd6, m60, m61, m62, m63, m65, xo6, xc6⟩, xs6, xe6, xy6, xk6⟩
  have g0 : mg "Fault" = some (.ref C0) := PySem.W.mg_of X G xa0
  have F0 := fun_mk (st := sFaultI) lx0 cx0 kx0
  have b0 := F0.binds (ps := ["self", "number", "place"]) (fun _ _ _ _ _ _ us hl => match us, hl with | [_, _, _], _ => rfl)
  have e := hfw.symm.trans (PySem.W.mg_of X G a16)
  cases e
  have F := fun_mk (st := sRead) l16 c16 k16
  refine ⟨PySem.W.fnOf "fax_read" "fax_read" (defArgs sRead) (defBody sRead) (defScope sRead) .none kV16 dc16 pm16 an16 cd16 ct16, fun s us hu => match us, hu with | [_, _, _, _], _ => .of_eq rfl, fun base _ _ => ?_⟩
  have G0 := ok_faultI (P := P) (w := w) (mg := mg) (base := base) F0
  have R1 : Rs P w K mg base C0 "NoCode" (-11) := raisable_mk E1 xn1 xp1 xi1 xt1 (PySem.W.mg_of X G xa1) ⟨xg1, xh1, xe1, xd1⟩ (exm_sub xe0 xl0 xy0 xb1) (fun _ _ _ _ _ _ us hl => match us, hl with | [_, _], _ => rfl) lx1 cx1 kx1 (fun fd Fi => made_1 Fi E1 xn1 xp1 g0 ⟨rr, rg⟩ rc kx0 b0 G0)
  have R2 : Rs P w K mg base C0 "NotLet" (-12) := raisable_mk E2 xn2 xp2 xi2 xt2 (PySem.W.mg_of X G xa2) ⟨xg2, xh2, xe2, xd2⟩ (exm_sub xe0 xl0 xy0 xb2) (fun _ _ _ _ _ _ us hl => match us, hl with | [_, _], _ => rfl) lx2 cx2 kx2 (fun fd Fi => made_2 Fi E2 xn2 xp2 g0 ⟨rr, rg⟩ rc kx0 b0 G0)
  have R3 : Rs P w K mg base C0 "NoEndOfLine" (-13) := raisable_mk E3 xn3 xp3 xi3 xt3 (PySem.W.mg_of X G xa3) ⟨xg3, xh3, xe3, xd3⟩ (exm_sub xe0 xl0 xy0 xb3) (fun _ _ _ _ _ _ us hl => match us, hl with | [_, _], _ => rfl) lx3 cx3 kx3 (fun fd Fi => made_3 Fi E3 xn3 xp3 g0 ⟨rr, rg⟩ rc kx0 b0 G0)
  have R4 : Rs P w K mg base C0 "DataEnds" (-14) := raisable_mk E4 xn4 xp4 xi4 xt4 (PySem.W.mg_of X G xa4) ⟨xg4, xh4, xe4, xd4⟩ (exm_sub xe0 xl0 xy0 xb4) (fun _ _ _ _ _ _ us hl => match us, hl with | [_, _], _ => rfl) lx4 cx4 kx4 (fun fd Fi => made_4 Fi E4 xn4 xp4 g0 ⟨rr, rg⟩ rc kx0 b0 G0)
  have R5 : Rs P w K mg base C0 "MoreBehind" (-15) := raisable_mk E5 xn5 xp5 xi5 xt5 (PySem.W.mg_of X G xa5) ⟨xg5, xh5, xe5, xd5⟩ (exm_sub xe0 xl0 xy0 xb5) (fun _ _ _ _ _ _ us hl => match us, hl with | [_, _], _ => rfl) lx5 cx5 kx5 (fun fd Fi => made_5 Fi E5 xn5 xp5 g0 ⟨rr, rg⟩ rc kx0 b0 G0)
  have R6 : Rs P w K mg base C0 "RowTooMany" (-16) := raisable_mk E6 xn6 xp6 xi6 xt6 (PySem.W.mg_of X G xa6) ⟨xg6, xh6, xe6, xd6⟩ (exm_sub xe0 xl0 xy0 xb6) (fun _ _ _ _ _ _ us hl => match us, hl with | [_, _], _ => rfl) lx6 cx6 kx6 (fun fd Fi => made_6 Fi E6 xn6 xp6 g0 ⟨rr, rg⟩ rc kx0 b0 G0)
  exact all_has T C g0 R1 R2 R3 R4 R5 R6 S_short_code S_long_code S_straight_code S_run_lengths S_way_shifts S_bit_text S_with_ends S_white_row S_bytes_of_row S_first_behind S_opposite_from S_page_end S_read_page S_read_rows_by_above S_read_rows_in_lines S_read_rest_of_end B_begins_with B_next_bit B_next_code B_next_end_of_line B_end_of_line_behind_zeros B_only_fill_is_left M_run_end M_turn M_row_alone M_row_by_above M_passed_over M_across M_straight MKB FB bB MKR FR bR F
end Fax

open PySem PySem.W PyProof.Rows
set_option maxRecDepth 100000 in
set_option maxHeartbeats 8000000 in
theorem PySem.Challenge.cw_faxpages_s02_fax_read_holds : PySem.Challenge.rw_faxpages_s02_fax_read.Holds := by
  w_on; k_headS; (case hw => exact ⟨[.int 3, .int 0, .int 0, .list []], by decide +kernel, by decide +kernel⟩)
  k_fillS
  refine L2.walk_specK (r := PySem.Challenge.rw_faxpages_s02_fax_read) (k := 10) (CX := L2.CX0) (ps := Fax.pRead) (sp := Fax.spRead) (by decide +kernel) rfl rfl ⟨rfl, by decide, by decide⟩ (fun w h Y => PySem.W.kIn_of Y) ?F ?S (fun _ _ _ _ z => z)
  case F =>
    intro w mg fa h Y KX G hmg
    refine' Fax.all_mk KX G hmg ?a0 ?l0 ?c0 ?k0 ?a1 ?l1 ?c1 ?k1 ?a2 ?l2 ?c2 ?k2 ?a3 ?l3 ?c3 ?k3 ?a4 ?l4 ?c4 ?k4 ?a5 ?l5 ?c5 ?k5 ?a6 ?l6 ?c6 ?k6 ?a7 ?l7 ?c7 ?k7 ?a8 ?l8 ?c8 ?k8 ?a9 ?l9 ?c9 ?k9 ?a10 ?l10 ?c10 ?k10 ?a11 ?l11 ?c11 ?k11 ?a12 ?l12 ?c12 ?k12 ?a13 ?l13 ?c13 ?k13 ?a14 ?l14 ?c14 ?k14 ?a15 ?l15 ?c15 ?k15 ?a16 ?l16 ?c16 ?k16 ?zB ?pgB ?hdB ?poB ?saB ?mkB ?kcB ?nB0 ?nB1 ?aB0 ?iB0 ?lB0 ?cB0 ?kB0 ?aB1 ?iB1 ?lB1 ?cB1 ?kB1 ?aB2 ?iB2 ?lB2 ?cB2 ?kB2 ?aB3 ?iB3 ?lB3 ?cB3 ?kB3 ?aB4 ?iB4 ?lB4 ?cB4 ?kB4 ?aB5 ?iB5 ?lB5 ?cB5 ?kB5 ?aB6 ?iB6 ?lB6 ?cB6 ?kB6 ?zR ?pgR ?hdR ?poR ?saR ?mkR ?kcR ?nR0 ?nR1 ?nR2 ?nR3 ?aR0 ?iR0 ?lR0 ?cR0 ?kR0 ?aR1 ?iR1 ?lR1 ?cR1 ?kR1 ?aR2 ?iR2 ?lR2 ?cR2 ?kR2 ?aR3 ?iR3 ?lR3 ?cR3 ?kR3 ?aR4 ?iR4 ?lR4 ?cR4 ?kR4 ?aR5 ?iR5 ?lR5 ?cR5 ?kR5 ?aR6 ?iR6 ?lR6 ?cR6 ?kR6 ?aR7 ?iR7 ?lR7 ?cR7 ?kR7 ?xa0 ?xo0 ?xc0 ?xs0 ?xg0 ?xh0 ?xn0 ?xp0 ?xi0 ?xt0 ?xk0 ?xe0 ?xy0 ?xd0 ?xb0 ?lx0 ?cx0 ?kx0 ?xa1 ?xo1 ?xc1 ?xs1 ?xg1 ?xh1 ?xn1 ?xp1 ?xi1 ?xt1 ?xk1 ?xe1 ?xy1 ?xd1 ?xb1 ?lx1 ?cx1 ?kx1 ?xa2 ?xo2 ?xc2 ?xs2 ?xg2 ?xh2 ?xn2 ?xp2 ?xi2 ?xt2 ?xk2 ?xe2 ?xy2 ?xd2 ?xb2 ?lx2 ?cx2 ?kx2 ?xa3 ?xo3 ?xc3 ?xs3 ?xg3 ?xh3 ?xn3 ?xp3 ?xi3 ?xt3 ?xk3 ?xe3 ?xy3 ?xd3 ?xb3 ?lx3 ?cx3 ?kx3 ?xa4 ?xo4 ?xc4 ?xs4 ?xg4 ?xh4 ?xn4 ?xp4 ?xi4 ?xt4 ?xk4 ?xe4 ?xy4 ?xd4 ?xb4 ?lx4 ?cx4 ?kx4 ?xa5 ?xo5 ?xc5 ?xs5 ?xg5 ?xh5 ?xn5 ?xp5 ?xi5 ?xt5 ?xk5 ?xe5 ?xy5 ?xd5 ?xb5 ?lx5 ?cx5 ?kx5 ?xa6 ?xo6 ?xc6 ?xs6 ?xg6 ?xh6 ?xn6 ?xp6 ?xi6 ?xt6 ?xk6 ?xe6 ?xy6 ?xd6 ?xb6 ?lx6 ?cx6 ?kx6 ?xl0 ?rr ?rg ?rc ?ci0 ?ci1 ?ci2 ?ci3 ?ci4 ?ci5 ?ci6 ?ci7 ?ci8 ?ci9 ?ci10 ?cs0 ?cs1 ?cs2 ?t0 ?o0 ?v0 ?t1 ?o1 ?v1 ?t2 ?o2 ?v2 ?t3 ?o3 ?v3 ?t4 ?o4 ?v4 ?t5 ?o5 ?v5 ?t6 ?o6 ?v6 ?no0 ?no1 ?no2 ?no3
    (case a0 => k_is)
    (case l0 => k_is)
    (case c0 => k_is)
    (case k0 => k_is)
    (case a1 => k_is)
    (case l1 => k_is)
    (case c1 => k_is)
    (case k1 => k_is)
    (case a2 => k_is)
    (case l2 => k_is)
    (case c2 => k_is)
    (case k2 => k_is)
    (case a3 => k_is)
    (case l3 => k_is)
    (case c3 => k_is)
    (case k3 => k_is)
    (case a4 => k_is)
    (case l4 => k_is)
    (case c4 => k_is)
    (case k4 => k_is)
    (case a5 => k_is)
    (case l5 => k_is)
    (case c5 => k_is)
    (case k5 => k_is)
    (case a6 => k_is)
    (case l6 => k_is)
    (case c6 => k_is)
    (case k6 => k_is)
    (case a7 => k_is)
    (case l7 => k_is)
    (case c7 => k_is)
    (case k7 => k_is)
    (case a8 => k_is)
    (case l8 => k_is)
    (case c8 => k_is)
    (case k8 => k_is)
    (case a9 => k_is)
    (case l9 => k_is)
    (case c9 => k_is)
    (case k9 => k_is)
    (case a10 => k_is)
    (case l10 => k_is)
    (case c10 => k_is)
    (case k10 => k_is)
    (case a11 => k_is)
    (case l11 => k_is)
    (case c11 => k_is)
    (case k11 => k_is)
    (case a12 => k_is)
    (case l12 => k_is)
    (case c12 => k_is)
    (case k12 => k_is)
    (case a13 => k_is)
    (case l13 => k_is)
    (case c13 => k_is)
    (case k13 => k_is)
    (case a14 => k_is)
    (case l14 => k_is)
    (case c14 => k_is)
    (case k14 => k_is)
    (case a15 => k_is)
    (case l15 => k_is)
    (case c15 => k_is)
    (case k15 => k_is)
    (case a16 => k_is)
    (case l16 => k_is)
    (case c16 => k_is)
    (case k16 => k_is)
    (case zB => k_is)
    (case pgB => k_is)
    (case hdB => k_is)
    (case poB => k_is)
    (case saB => k_is)
    (case mkB => k_is)
    (case kcB => k_is)
    (case nB0 => k_is)
    (case nB1 => k_is)
    (case aB0 => k_is)
    (case iB0 => k_is)
    (case lB0 => k_is)
    (case cB0 => k_is)
    (case kB0 => k_is)
    (case aB1 => k_is)
    (case iB1 => k_is)
    (case lB1 => k_is)
    (case cB1 => k_is)
    (case kB1 => k_is)
    (case aB2 => k_is)
    (case iB2 => k_is)
    (case lB2 => k_is)
    (case cB2 => k_is)
    (case kB2 => k_is)
    (case aB3 => k_is)
    (case iB3 => k_is)
    (case lB3 => k_is)
    (case cB3 => k_is)
    (case kB3 => k_is)
    (case aB4 => k_is)
    (case iB4 => k_is)
    (case lB4 => k_is)
    (case cB4 => k_is)
    (case kB4 => k_is)
    (case aB5 => k_is)
    (case iB5 => k_is)
    (case lB5 => k_is)
    (case cB5 => k_is)
    (case kB5 => k_is)
    (case aB6 => k_is)
    (case iB6 => k_is)
    (case lB6 => k_is)
    (case cB6 => k_is)
    (case kB6 => k_is)
    (case zR => k_is)
    (case pgR => k_is)
    (case hdR => k_is)
    (case poR => k_is)
    (case saR => k_is)
    (case mkR => k_is)
    (case kcR => k_is)
    (case nR0 => k_is)
    (case nR1 => k_is)
    (case nR2 => k_is)
    (case nR3 => k_is)
    (case aR0 => k_is)
    (case iR0 => k_is)
    (case lR0 => k_is)
    (case cR0 => k_is)
    (case kR0 => k_is)
    (case aR1 => k_is)
    (case iR1 => k_is)
    (case lR1 => k_is)
    (case cR1 => k_is)
    (case kR1 => k_is)
    (case aR2 => k_is)
    (case iR2 => k_is)
    (case lR2 => k_is)
    (case cR2 => k_is)
    (case kR2 => k_is)
    (case aR3 => k_is)
    (case iR3 => k_is)
    (case lR3 => k_is)
    (case cR3 => k_is)
    (case kR3 => k_is)
    (case aR4 => k_is)
    (case iR4 => k_is)
    (case lR4 => k_is)
    (case cR4 => k_is)
    (case kR4 => k_is)
    (case aR5 => k_is)
    (case iR5 => k_is)
    (case lR5 => k_is)
    (case cR5 => k_is)
    (case kR5 => k_is)
    (case aR6 => k_is)
    (case iR6 => k_is)
    (case lR6 => k_is)
    (case cR6 => k_is)
    (case kR6 => k_is)
    (case aR7 => k_is)
    (case iR7 => k_is)
    (case lR7 => k_is)
    (case cR7 => k_is)
    (case kR7 => k_is)
    (case xa0 => k_is)
    (case xo0 => k_is)
    (case xc0 => exact ⟨[], rfl⟩)
    (case xs0 => k_is)
    (case xg0 => k_is)
    (case xh0 => k_is)
    (case xn0 => k_is)
    (case xp0 => k_is)
    (case xi0 => k_is)
    (case xt0 => k_is)
    (case xk0 => k_is)
    (case xe0 => k_is)
    (case xy0 => k_is)
    (case xd0 => k_is)
    (case xb0 => first | rfl | k_is)
    (case lx0 => k_is)
    (case cx0 => k_is)
    (case kx0 => k_is)
    (case xa1 => k_is)
    (case xo1 => k_is)
    (case xc1 => exact ⟨[_], rfl⟩)
    (case xs1 => k_is)
    (case xg1 => k_is)
    (case xh1 => k_is)
    (case xn1 => k_is)
    (case xp1 => k_is)
    (case xi1 => k_is)
    (case xt1 => k_is)
    (case xk1 => k_is)
    (case xe1 => k_is)
    (case xy1 => k_is)
    (case xd1 => k_is)
    (case xb1 => first | rfl | k_is)
    (case lx1 => k_is)
    (case cx1 => k_is)
    (case kx1 => k_is)
    (case xa2 => k_is)
    (case xo2 => k_is)
    (case xc2 => exact ⟨[_], rfl⟩)
    (case xs2 => k_is)
    (case xg2 => k_is)
    (case xh2 => k_is)
    (case xn2 => k_is)
    (case xp2 => k_is)
    (case xi2 => k_is)
    (case xt2 => k_is)
    (case xk2 => k_is)
    (case xe2 => k_is)
    (case xy2 => k_is)
    (case xd2 => k_is)
    (case xb2 => first | rfl | k_is)
    (case lx2 => k_is)
    (case cx2 => k_is)
    (case kx2 => k_is)
    (case xa3 => k_is)
    (case xo3 => k_is)
    (case xc3 => exact ⟨[_], rfl⟩)
    (case xs3 => k_is)
    (case xg3 => k_is)
    (case xh3 => k_is)
    (case xn3 => k_is)
    (case xp3 => k_is)
    (case xi3 => k_is)
    (case xt3 => k_is)
    (case xk3 => k_is)
    (case xe3 => k_is)
    (case xy3 => k_is)
    (case xd3 => k_is)
    (case xb3 => first | rfl | k_is)
    (case lx3 => k_is)
    (case cx3 => k_is)
    (case kx3 => k_is)
    (case xa4 => k_is)
    (case xo4 => k_is)
    (case xc4 => exact ⟨[_], rfl⟩)
    (case xs4 => k_is)
    (case xg4 => k_is)
    (case xh4 => k_is)
    (case xn4 => k_is)
    (case xp4 => k_is)
    (case xi4 => k_is)
    (case xt4 => k_is)
    (case xk4 => k_is)
    (case xe4 => k_is)
    (case xy4 => k_is)
    (case xd4 => k_is)
    (case xb4 => first | rfl | k_is)
    (case lx4 => k_is)
    (case cx4 => k_is)
    (case kx4 => k_is)
    (case xa5 => k_is)
    (case xo5 => k_is)
    (case xc5 => exact ⟨[_], rfl⟩)
    (case xs5 => k_is)
    (case xg5 => k_is)
    (case xh5 => k_is)
    (case xn5 => k_is)
    (case xp5 => k_is)
    (case xi5 => k_is)
    (case xt5 => k_is)
    (case xk5 => k_is)
    (case xe5 => k_is)
    (case xy5 => k_is)
    (case xd5 => k_is)
    (case xb5 => first | rfl | k_is)
    (case lx5 => k_is)
    (case cx5 => k_is)
    (case kx5 => k_is)
    (case xa6 => k_is)
    (case xo6 => k_is)
    (case xc6 => exact ⟨[_], rfl⟩)
    (case xs6 => k_is)
    (case xg6 => k_is)
    (case xh6 => k_is)
    (case xn6 => k_is)
    (case xp6 => k_is)
    (case xi6 => k_is)
    (case xt6 => k_is)
    (case xk6 => k_is)
    (case xe6 => k_is)
    (case xy6 => k_is)
    (case xd6 => k_is)
    (case xb6 => first | rfl | k_is)
    (case lx6 => k_is)
    (case cx6 => k_is)
    (case kx6 => k_is)
    (case xl0 => k_is)
    (case rr => k_is)
    (case rg => k_is)
    (case rc => k_is)
    (case ci0 => k_is)
    (case ci1 => k_is)
    (case ci2 => k_is)
    (case ci3 => k_is)
    (case ci4 => k_is)
    (case ci5 => k_is)
    (case ci6 => k_is)
    (case ci7 => k_is)
    (case ci8 => k_is)
    (case ci9 => k_is)
    (case ci10 => k_is)
    (case cs0 => k_is)
    (case cs1 => k_is)
    (case cs2 => k_is)
    (case t0 => k_is)
    (case o0 => k_is)
    (case v0 => rfl)
    (case t1 => k_is)
    (case o1 => k_is)
    (case v1 => rfl)
    (case t2 => k_is)
    (case o2 => k_is)
    (case v2 => rfl)
    (case t3 => k_is)
    (case o3 => k_is)
    (case v3 => rfl)
    (case t4 => k_is)
    (case o4 => k_is)
    (case v4 => rfl)
    (case t5 => k_is)
    (case o5 => k_is)
    (case v5 => rfl)
    (case t6 => k_is)
    (case o6 => k_is)
    (case v6 => rfl)
    (case no0 => k_is)
    (case no1 => k_is)
    (case no2 => k_is)
    (case no3 => k_is)
  case S =>
    intro K H xs a hO hwi hask hx
    obtain ⟨kind, w, most, p, u⟩ := a
    cases hx with
    | cons h1 hx =>
    cases hx with
    | cons h2 hx =>
    cases hx with
    | cons h3 hx =>
    cases hx with
    | cons h4 hx =>
    cases hx
    cases h1
    cases h2
    cases h3
    cases h4 with
    | lst hs ha =>
      have e := L2.ints_dw p _ ha
      subst e
      have q : (Codec.inInt 0 4294967295 kind && (Codec.inInt 0 4294967295 w && (Codec.inInt 0 4294967295 most && ((Codec.inLen 0 100000 p && p.all (Codec.inInt 0 255)) && true)))) = true := hwi
      rw [Bool.and_eq_true, Bool.and_eq_true, Bool.and_eq_true, Bool.and_eq_true, Bool.and_eq_true] at q
      obtain ⟨q1, q2, q3, ⟨q6, q7⟩, _⟩ := q
      have q8 : (_ && PyFlat.short 10000000 (PyQl31.fax_read kind w most p)) = true := hask
      rw [Bool.and_eq_true] at q8
      have q9 : (PyQl31.fax_read kind w most p).length ≤ 10000000 := of_decide_eq_true q8.2
      refine ⟨kind, w, most, _, p, rfl, hs, (Codec.inNat_iff.mp q6).2, ⟨(Codec.inInt_iff.mp q1).1, (Codec.inInt_iff.mp q2).1, (Codec.inInt_iff.mp q3).1⟩, fun z hz => Codec.inInt_iff.mp (List.all_eq_true.mp q7 z hz), q9, fun H' p hp => ?_⟩
      exact .lst (L2.SqL.of hp) (L2.dw_ints _)
#print axioms PySem.Challenge.cw_faxpages_s02_fax_read_holds

