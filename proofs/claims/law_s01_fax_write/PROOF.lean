import PyProof.Rows.All
import Wide.All
import OpenK.AllK
import Wide.FinOn
import Open.SpecLaws
import KE.OsGo
import HandS.ForSpec
import HandS.Iter
import KE.BitLaws
import PySem.Challenge.RW_faxpages_s01_fax_write
set_option Elab.async false
set_option maxRecDepth 100000
set_option maxHeartbeats 4000000
namespace Fax
open Ql31

/-! ### changes of a row -/
def chsAux : Bool → Nat → List Bool → List Nat
  | _, _, [] => []
  | c, p, b :: r => if (b != c) = true then p :: chsAux b (p + 1) r else chsAux c (p + 1) r
def chs (r : List Bool) : List Nat := chsAux false 0 r
def nth (r : List Bool) (j : Nat) : Nat := (chs r).getD j r.length

theorem chsAux_t {c : Bool} {p : Nat} {b : Bool} {r : List Bool} (h : (b != c) = true) : chsAux c p (b :: r) = p :: chsAux b (p + 1) r := by
  show (if (b != c) = true then _ else _) = _
  rw [if_pos h]
theorem chsAux_f {c : Bool} {p : Nat} {b : Bool} {r : List Bool} (h : ¬ (b != c) = true) : chsAux c p (b :: r) = chsAux c (p + 1) r := by
  show (if (b != c) = true then _ else _) = _
  rw [if_neg h]
theorem chsAux_mem : ∀ (r : List Bool) (c : Bool) (p x : Nat), x ∈ chsAux c p r → p ≤ x ∧ x < p + r.length
  | [], _, _, _, h => by cases h
  | b :: r, c, p, x, h => by
    rw [List.length_cons]
    by_cases e : (b != c) = true
    · rw [chsAux_t e] at h
      rcases List.mem_cons.mp h with q | q
      · omega
      · have := chsAux_mem r b (p + 1) x q
        omega
    · rw [chsAux_f e] at h
      have := chsAux_mem r c (p + 1) x h
      omega
theorem chsAux_pw : ∀ (r : List Bool) (c : Bool) (p : Nat), (chsAux c p r).Pairwise (· < ·)
  | [], _, _ => List.Pairwise.nil
  | b :: r, c, p => by
    by_cases e : (b != c) = true
    · rw [chsAux_t e]
      refine List.Pairwise.cons (fun x hx => ?_) (chsAux_pw r b (p + 1))
      have := chsAux_mem r b (p + 1) x hx
      omega
    · rw [chsAux_f e]
      exact chsAux_pw r c (p + 1)
theorem getD_range {l : List Nat} {lo hi : Nat} (h : ∀ x ∈ l, lo ≤ x ∧ x < hi) (j : Nat) (hle : lo ≤ hi) : lo ≤ l.getD j hi ∧ l.getD j hi ≤ hi := by
  rw [List.getD_eq_getElem?_getD]
  cases e : l[j]? with
  | none => exact ⟨hle, Nat.le_refl _⟩
  | some x =>
    have := h x (List.mem_of_getElem? e)
    exact ⟨this.1, Nat.le_of_lt this.2⟩
theorem odd_succ (j : Nat) : ((j + 1) % 2 == 1) = !(j % 2 == 1) := by
  rcases Nat.mod_two_eq_zero_or_one j with h | h
  · have : (j + 1) % 2 = 1 := by omega
    rw [h, this]
    rfl
  · have : (j + 1) % 2 = 0 := by omega
    rw [h, this]
    rfl
theorem col_aux : ∀ (r : List Bool) (c : Bool) (p j x : Nat), p ≤ x → x < p + r.length → (∀ k, j = k + 1 → (chsAux c p r).getD k (p + r.length) ≤ x) → x < (chsAux c p r).getD j (p + r.length) →
    r.getD (x - p) false = (c ^^ (j % 2 == 1))
  | [], _, p, _, x, h1, h2, _, _ => by
    rw [List.length_nil] at h2
    omega
  | b :: r, c, p, j, x, h1, h2, h3, h4 => by
    rw [List.length_cons] at h2 h3 h4
    have el : p + (r.length + 1) = (p + 1) + r.length := by omega
    rw [el] at h2 h3 h4
    by_cases e : (b != c) = true
    · have bc : b = !c := by
        cases b <;> cases c <;> first | rfl | cases e
      rw [chsAux_t e] at h3 h4
      cases j with
      | zero =>
        rw [List.getD_cons_zero] at h4
        omega
      | succ j =>
        rw [List.getD_cons_succ] at h4
        rw [odd_succ]
        by_cases hx : x = p
        · subst hx
          rw [Nat.sub_self, List.getD_cons_zero]
          cases j with
          | zero => rw [bc]; cases c <;> rfl
          | succ k =>
            have h5 := h3 (k + 1) rfl
            rw [List.getD_cons_succ] at h5
            have h6 := (getD_range (chsAux_mem r b (x + 1)) k (by omega)).1
            omega
        · have ih := col_aux r b (p + 1) j x (by omega) h2 (fun k hk => by
            have h5 := h3 (k + 1) (by omega)
            rw [List.getD_cons_succ] at h5
            exact h5) h4
          have ex : x - p = (x - (p + 1)) + 1 := by omega
          rw [ex, List.getD_cons_succ, ih, bc]
          cases c <;> cases (j % 2 == 1) <;> rfl
    · have bc : b = c := by
        cases b <;> cases c <;> first | rfl | exact absurd rfl e
      rw [chsAux_f e] at h3 h4
      by_cases hx : x = p
      · subst hx
        rw [Nat.sub_self, List.getD_cons_zero]
        cases j with
        | zero => rw [bc]; cases c <;> rfl
        | succ k =>
          have h5 := h3 k rfl
          have h6 := (getD_range (chsAux_mem r c (x + 1)) k (by omega)).1
          omega
      · have ih := col_aux r c (p + 1) j x (by omega) h2 h3 h4
        have ex : x - p = (x - (p + 1)) + 1 := by omega
        rw [ex, List.getD_cons_succ, ih]

theorem nth_le (r : List Bool) (j : Nat) : nth r j ≤ r.length := by
  have h := (getD_range (l := chs r) (lo := 0) (hi := r.length) (fun x hx => by
    have := chsAux_mem r false 0 x hx
    omega) j (Nat.zero_le _)).2
  exact h
theorem nth_lt {r : List Bool} {j : Nat} (h : nth r j < r.length) : nth r j < nth r (j + 1) := by
  unfold nth at h ⊢
  rw [List.getD_eq_getElem?_getD] at h ⊢
  rw [List.getD_eq_getElem?_getD]
  cases e : (chs r)[j]? with
  | none =>
    rw [e] at h
    exact absurd h (Nat.lt_irrefl _)
  | some x =>
    rw [e] at h
    obtain ⟨h1, e1⟩ := List.getElem?_eq_some_iff.mp e
    cases e2 : (chs r)[j + 1]? with
    | none => exact h
    | some y =>
      obtain ⟨h3, e3⟩ := List.getElem?_eq_some_iff.mp e2
      have := List.pairwise_iff_getElem.mp (chsAux_pw r false 0) j (j + 1) h1 h3 (by omega)
      show x < y
      rw [← e1, ← e3]
      exact this
theorem nth_end {r : List Bool} {j : Nat} (h : nth r j = r.length) : nth r (j + 1) = r.length := by
  have hm : ∀ x ∈ chs r, x < r.length := fun x hx => by
    have := chsAux_mem r false 0 x hx
    omega
  unfold nth at h ⊢
  rw [List.getD_eq_getElem?_getD] at h ⊢
  cases e : (chs r)[j]? with
  | none =>
    have : (chs r).length ≤ j := List.getElem?_eq_none_iff.mp e
    rw [List.getElem?_eq_none (by omega)]
    rfl
  | some x =>
    rw [e] at h
    have h' : x = r.length := h
    have := hm x (List.mem_of_getElem? e)
    omega
theorem nth_mono (r : List Bool) (j : Nat) : nth r j ≤ nth r (j + 1) := by
  by_cases h : nth r j < r.length
  · exact Nat.le_of_lt (nth_lt h)
  · have e : nth r j = r.length := Nat.le_antisymm (nth_le r j) (by omega)
    rw [nth_end e, e]
    exact Nat.le_refl _
theorem nth_beyond {r : List Bool} {j : Nat} (h : (chs r).length ≤ j) : nth r j = r.length := by
  unfold nth
  rw [List.getD_eq_getElem?_getD, List.getElem?_eq_none h]
  rfl
/-- the colour between two changes -/
theorem colour {r : List Bool} {j x : Nat} (hx : x < r.length) (h1 : ∀ k, j = k + 1 → nth r k ≤ x) (h2 : x < nth r j) : r.getD x false = (j % 2 == 1) := by
  have h := col_aux r false 0 j x (Nat.zero_le _) (by omega) (fun k hk => by
    rw [Nat.zero_add]
    exact h1 k hk) (by
    rw [Nat.zero_add]
    exact h2)
  rw [Nat.sub_zero] at h
  rw [h]
  cases (j % 2 == 1) <;> rfl
theorem at_nat (r : Row) (x : Nat) : at_ r (x : Int) = r.getD x false := by
  unfold at_
  rw [if_neg (by omega)]
  rfl
theorem at_neg (r : Row) {x : Int} (h : x < 0) : at_ r x = false := by
  unfold at_
  rw [if_pos h]

/-! ### the specification's searches -/
theorem find_is {w m : Nat} {P : Nat → Bool} (h1 : m ≤ w) (h2 : ∀ x, x < m → P x = false) (h3 : m < w → P m = true) : ((List.range w).find? P).getD w = m := by
  by_cases h : m < w
  · have e : (List.range w).find? P = some m := by
      rw [List.find?_range_eq_some]
      refine ⟨h3 h, List.mem_range.mpr h, fun j hj => by rw [h2 j hj]; rfl⟩
    rw [e]
    rfl
  · have e : (List.range w).find? P = none := by
      rw [List.find?_range_eq_none]
      intro i hi
      rw [h2 i (by omega)]
      rfl
    rw [e]
    show w = m
    omega
/-- a stands in the j-th stretch -/
structure Seg (r : List Bool) (a : Int) (j : Nat) : Prop where
  lo : -1 ≤ a
  hi : a < r.length
  before : ∀ k, j = k + 1 → (nth r k : Int) ≤ a
  behind : a < nth r j
theorem other_is {r : Row} {a : Int} {j : Nat} (h : Seg r a j) : other r a (j % 2 == 1) = nth r j := by
  have hlo := h.lo
  refine find_is (nth_le r j) (fun x hx => ?_) fun hm => ?_
  · by_cases hax : a < (x : Int)
    · have := colour (r := r) (j := j) (x := x) (Nat.lt_of_lt_of_le hx (nth_le r j)) (fun k hk => by
        have := h.before k hk
        omega) hx
      rw [at_nat, this]
      cases (j % 2 == 1) <;> simp
    · rw [decide_eq_false hax]
      rfl
  · have := colour (r := r) (j := j + 1) (x := nth r j) hm (fun k hk => by
      have : k = j := by omega
      subst this
      exact Nat.le_refl _) (nth_lt hm)
    rw [at_nat, this, odd_succ, decide_eq_true h.behind]
    cases (j % 2 == 1) <;> rfl
theorem other_end {r : Row} {a : Int} (d : Bool) (h : (r.length : Int) ≤ a) : other r a d = r.length := by
  refine find_is (Nat.le_refl _) (fun x hx => ?_) fun hm => absurd hm (Nat.lt_irrefl _)
  rw [decide_eq_false (by omega)]
  rfl
theorem seg_next {r : Row} {j : Nat} (h : nth r j < r.length) : Seg r (nth r j) (j + 1) :=
  ⟨by omega, by omega, fun k hk => by
    have : k = j := by omega
    subst this
    exact Int.le_refl _, by
    have := nth_lt h
    omega⟩
/-- the change behind a change -/
theorem other_next {r : Row} {j : Nat} (d : Bool) (hd : (j % 2 == 1) = !d) : other r (nth r j) d = nth r (j + 1) := by
  by_cases h : nth r j < r.length
  · have e := other_is (seg_next h)
    rw [odd_succ, hd, Bool.not_not] at e
    exact e
  · have e : nth r j = r.length := Nat.le_antisymm (nth_le r j) (by omega)
    rw [nth_end e, e]
    exact other_end d (Int.le_refl _)
/-- the next change that leads to the other colour than d -/
theorem change_is {r : Row} {a : Int} {j o : Nat} {d : Bool} (h : Seg r a j) (ho : o = j ∨ o = j + 1) (hd : (o % 2 == 1) = d) : change r a (!d) = nth r o := by
  have hlo := h.lo
  have bounds : nth r j ≤ nth r o := by
    rcases ho with rfl | rfl
    · exact Nat.le_refl _
    · exact nth_mono r j
  have at_m1 : ∀ x : Nat, 0 < x → at_ r ((x : Int) - 1) = r.getD (x - 1) false := fun x hx => by
    have e : (x : Int) - 1 = ((x - 1 : Nat) : Int) := by omega
    rw [e, at_nat]
  refine find_is (nth_le r o) (fun x hx => ?_) fun hm => ?_
  · by_cases hax : a < (x : Int)
    · rw [decide_eq_true hax, Bool.true_and]
      by_cases hxj : x < nth r j
      · have c1 := colour (r := r) (j := j) (x := x) (Nat.lt_of_lt_of_le hxj (nth_le r j)) (fun k hk => by
          have := h.before k hk
          omega) hxj
        rw [at_nat, c1]
        rcases ho with rfl | rfl
        · rw [hd]
          cases d <;> rfl
        · rw [odd_succ] at hd
          have e1 : (j % 2 == 1) = !d := by rw [← hd, Bool.not_not]
          have e2 : at_ r ((x : Int) - 1) = !d := by
            by_cases hx0 : 0 < x
            · rw [at_m1 x hx0]
              have c2 := colour (r := r) (j := j) (x := x - 1) (by have := nth_le r j; omega) (fun k hk => by
                have := h.before k hk
                omega) (by omega)
              rw [c2, e1]
            · rw [at_neg r (by omega)]
              have hj : j = 0 := by
                cases j with
                | zero => rfl
                | succ k =>
                  have := h.before k rfl
                  omega
              subst hj
              rw [← e1]
              rfl
          rw [e1, e2]
          cases d <;> rfl
      · rcases ho with rfl | rfl
        · exact absurd hx hxj
        · have c1 := colour (r := r) (j := j + 1) (x := x) (by have := nth_le r (j + 1); omega) (fun k hk => by
            have : k = j := by omega
            subst this
            omega) hx
          rw [at_nat, c1, hd]
          cases d <;> rfl
    · rw [decide_eq_false hax]
      rfl
  · have hb : a < (nth r o : Int) := by
      have := h.behind
      omega
    have c1 := colour (r := r) (j := o + 1) (x := nth r o) hm (fun k hk => by
      have : k = o := by omega
      subst this
      exact Nat.le_refl _) (nth_lt hm)
    rw [decide_eq_true hb, at_nat, c1, odd_succ, hd]
    have e2 : at_ r ((nth r o : Int) - 1) = d := by
      by_cases h0 : 0 < nth r o
      · rw [at_m1 _ h0]
        have c2 := colour (r := r) (j := o) (x := nth r o - 1) (by omega) (fun k hk => by
          subst hk
          by_cases hk2 : nth r k < r.length
          · have := nth_lt hk2
            omega
          · have e : nth r k = r.length := Nat.le_antisymm (nth_le r k) (by omega)
            have := nth_end e
            omega) (by omega)
        rw [c2, hd]
      · rw [at_neg r (by omega)]
        have hj : j = 0 := by
          cases j with
          | zero => rfl
          | succ k =>
            have := h.before k rfl
            have := nth_mono r k
            omega
        have ho0 : o = 0 := by
          rcases ho with q | q
          · omega
          · rw [q] at h0 hm
            have := nth_lt (r := r) (j := j) (by
              have := nth_mono r j
              omega)
            omega
        subst ho0
        rw [← hd]
        rfl
    rw [e2]
    cases d <;> rfl
end Fax

namespace Fax
open Ql31
open PySem (Str)

/-! ### texts of 0 and 1 as bits -/
def bits (s : Str) : Bits := s.cps.toList.map fun c => decide (c = 49)
theorem bits_app (a b : Str) : bits (a ++ b) = bits a ++ bits b := by
  show (a.cps ++ b.cps).toList.map _ = _
  rw [Array.toList_append, List.map_append]
  rfl
theorem bits_len (s : Str) : (bits s).length = s.length := by
  unfold bits
  rw [List.length_map, Array.length_toList]
  rfl
def allBits (l : List Str) : Bits := l.flatMap bits
theorem allBits_app (a b : List Str) : allBits (a ++ b) = allBits a ++ allBits b := by
  unfold allBits
  rw [List.flatMap_append]
theorem allBits_one (s : Str) : allBits [s] = bits s := by
  unfold allBits
  rw [List.flatMap_cons, List.flatMap_nil, List.append_nil]
theorem allBits_push (l : List Str) (s : Str) : allBits (l ++ [s]) = allBits l ++ bits s := by
  rw [allBits_app, allBits_one]

/-! ### the tables -/
def wsL : List Str := (["00110101", "000111", "0111", "1000", "1011", "1100", "1110", "1111", "10011", "10100", "00111", "01000", "001000", "000011", "110100", "110101", "101010", "101011", "0100111", "0001100", "0001000", "0010111", "0000011", "0000100", "0101000", "0101011", "0010011", "0100100", "0011000", "00000010", "00000011", "00011010", "00011011", "00010010", "00010011", "00010100", "00010101", "00010110", "00010111", "00101000", "00101001", "00101010", "00101011", "00101100", "00101101", "00000100", "00000101", "00001010", "00001011", "01010010", "01010011", "01010100", "01010101", "00100100", "00100101", "01011000", "01011001", "01011010", "01011011", "01001010", "01001011", "00110010", "00110011", "00110100"] : List String).map Str.ofString
def wlL : List Str := (["11011", "10010", "010111", "0110111", "00110110", "00110111", "01100100", "01100101", "01101000", "01100111", "011001100", "011001101", "011010010", "011010011", "011010100", "011010101", "011010110", "011010111", "011011000", "011011001", "011011010", "011011011", "010011000", "010011001", "010011010", "011000", "010011011"] : List String).map Str.ofString
def bsL : List Str := (["0000110111", "010", "11", "10", "011", "0011", "0010", "00011", "000101", "000100", "0000100", "0000101", "0000111", "00000100", "00000111", "000011000", "0000010111", "0000011000", "0000001000", "00001100111", "00001101000", "00001101100", "00000110111", "00000101000", "00000010111", "00000011000", "000011001010", "000011001011", "000011001100", "000011001101", "000001101000", "000001101001", "000001101010", "000001101011", "000011010010", "000011010011", "000011010100", "000011010101", "000011010110", "000011010111", "000001101100", "000001101101", "000011011010", "000011011011", "000001010100", "000001010101", "000001010110", "000001010111", "000001100100", "000001100101", "000001010010", "000001010011", "000000100100", "000000110111", "000000111000", "000000100111", "000000101000", "000001011000", "000001011001", "000000101011", "000000101100", "000001011010", "000001100110", "000001100111"] : List String).map Str.ofString
def blL : List Str := (["0000001111", "000011001000", "000011001001", "000001011011", "000000110011", "000000110100", "000000110101", "0000001101100", "0000001101101", "0000001001010", "0000001001011", "0000001001100", "0000001001101", "0000001110010", "0000001110011", "0000001110100", "0000001110101", "0000001110110", "0000001110111", "0000001010010", "0000001010011", "0000001010100", "0000001010101", "0000001011010", "0000001011011", "0000001100100", "0000001100101"] : List String).map Str.ofString
def boL : List Str := (["00000001000", "00000001100", "00000001101", "000000010010", "000000010011", "000000010100", "000000010101", "000000010110", "000000010111", "000000011100", "000000011101", "000000011110", "000000011111"] : List String).map Str.ofString
def stL : List Str := (["0000010", "000010", "010", "1", "011", "000011", "0000011"] : List String).map Str.ofString
def zEol : Str := "000000000001"
def z2560 : Str := "000000011111"

theorem ws_ok : ∀ n : Fin 64, ∃ s, wsL[n.val]? = some s ∧ bits s = codeOf false n.val ∧ s.length ≤ 13 := by
  intro n
  have h : ∀ n : Fin 64, bits (wsL.getD n.val "") = codeOf false n.val ∧ (wsL.getD n.val "").length ≤ 13 := by decide +kernel
  have e := h n
  have hl : n.val < wsL.length := n.isLt
  rw [List.getD_eq_getElem?_getD, List.getElem?_eq_getElem hl] at e
  exact ⟨_, List.getElem?_eq_getElem hl, e.1, e.2⟩
theorem bs_ok : ∀ n : Fin 64, ∃ s, bsL[n.val]? = some s ∧ bits s = codeOf true n.val ∧ s.length ≤ 13 := by
  intro n
  have h : ∀ n : Fin 64, bits (bsL.getD n.val "") = codeOf true n.val ∧ (bsL.getD n.val "").length ≤ 13 := by decide +kernel
  have e := h n
  have hl : n.val < bsL.length := n.isLt
  rw [List.getD_eq_getElem?_getD, List.getElem?_eq_getElem hl] at e
  exact ⟨_, List.getElem?_eq_getElem hl, e.1, e.2⟩
theorem wl_ok : ∀ n : Fin 27, ∃ s, wlL[n.val]? = some s ∧ bits s = codeOf false ((n.val + 1) * 64) ∧ s.length ≤ 13 := by
  intro n
  have h : ∀ n : Fin 27, bits (wlL.getD n.val "") = codeOf false ((n.val + 1) * 64) ∧ (wlL.getD n.val "").length ≤ 13 := by decide +kernel
  have e := h n
  have hl : n.val < wlL.length := n.isLt
  rw [List.getD_eq_getElem?_getD, List.getElem?_eq_getElem hl] at e
  exact ⟨_, List.getElem?_eq_getElem hl, e.1, e.2⟩
theorem bl_ok : ∀ n : Fin 27, ∃ s, blL[n.val]? = some s ∧ bits s = codeOf true ((n.val + 1) * 64) ∧ s.length ≤ 13 := by
  intro n
  have h : ∀ n : Fin 27, bits (blL.getD n.val "") = codeOf true ((n.val + 1) * 64) ∧ (blL.getD n.val "").length ≤ 13 := by decide +kernel
  have e := h n
  have hl : n.val < blL.length := n.isLt
  rw [List.getD_eq_getElem?_getD, List.getElem?_eq_getElem hl] at e
  exact ⟨_, List.getElem?_eq_getElem hl, e.1, e.2⟩
theorem bo_ok : ∀ (d : Bool) (n : Fin 13), ∃ s, boL[n.val]? = some s ∧ bits s = codeOf d ((n.val + 28) * 64) ∧ s.length ≤ 13 := by
  intro d n
  have h : ∀ (d : Bool) (n : Fin 13), bits (boL.getD n.val "") = codeOf d ((n.val + 28) * 64) ∧ (boL.getD n.val "").length ≤ 13 := by decide +kernel
  have e := h d n
  have hl : n.val < boL.length := n.isLt
  rw [List.getD_eq_getElem?_getD, List.getElem?_eq_getElem hl] at e
  exact ⟨_, List.getElem?_eq_getElem hl, e.1, e.2⟩
theorem st_ok (d : Int) (h1 : -3 ≤ d) (h2 : d ≤ 3) : ∃ s, stL[(3 + d).toNat]? = some s ∧ bits s = vertical d ∧ s.length ≤ 13 := by
  have h : ∀ n : Fin 7, bits (stL.getD n.val "") = vertical ((n.val : Int) - 3) ∧ (stL.getD n.val "").length ≤ 13 := by decide +kernel
  have hl : (3 + d).toNat < stL.length := by
    show (3 + d).toNat < 7
    omega
  have e := h ⟨(3 + d).toNat, hl⟩
  have ed : (((3 + d).toNat : Nat) : Int) - 3 = d := by omega
  rw [ed, List.getD_eq_getElem?_getD, List.getElem?_eq_getElem hl] at e
  exact ⟨_, List.getElem?_eq_getElem hl, e.1, e.2⟩
theorem eol_bits : bits zEol = EOL := by decide +kernel
theorem b2560_bits (d : Bool) : bits z2560 = codeOf d 2560 := by cases d <;> decide +kernel
theorem bo_last : boL[12]? = some z2560 := by decide +kernel
theorem z2560_len : z2560.length = 12 := by decide +kernel
theorem zEol_len : zEol.length = 12 := by decide +kernel
theorem pass_bits : bits "0001" = PASS := by decide +kernel
theorem across_bits : bits "001" = ACROSS := by decide +kernel
theorem short_ok (d : Bool) (n : Nat) (h : n < 64) : ∃ s, (if d then bsL else wsL)[n]? = some s ∧ bits s = codeOf d n ∧ s.length ≤ 13 := by
  cases d
  · exact ws_ok ⟨n, h⟩
  · exact bs_ok ⟨n, h⟩
/-- a code of 64s: what long_code gives -/
theorem long_own (d : Bool) (k : Nat) (h0 : 1 ≤ k) (h : k ≤ 27) : ∃ s, (if d then blL else wlL)[k - 1]? = some s ∧ bits s = codeOf d (k * 64) ∧ s.length ≤ 13 := by
  cases d
  · have e := wl_ok ⟨k - 1, by omega⟩
    have q : (k - 1 + 1) * 64 = k * 64 := by omega
    rw [← q]
    exact e
  · have e := bl_ok ⟨k - 1, by omega⟩
    have q : (k - 1 + 1) * 64 = k * 64 := by omega
    rw [← q]
    exact e
theorem long_both (d : Bool) (k : Nat) (h0 : 28 ≤ k) (h : k < 40) : ∃ s, boL[k - 28]? = some s ∧ bits s = codeOf d (k * 64) ∧ s.length ≤ 13 := by
  have e := bo_ok d ⟨k - 28, by omega⟩
  have q : (k - 28 + 28) * 64 = k * 64 := by omega
  rw [← q]
  exact e
/-- a run's bits, in the order in which run_code makes them -/
theorem run_is (d : Bool) (n : Nat) (b0 bl bs : Bits) (h0 : b0 = (List.replicate (n / 2560) (codeOf d 2560)).flatten) (hs : bs = codeOf d (n % 2560 % 64))
    (hl : bl = if 64 ≤ n % 2560 then codeOf d (n % 2560 / 64 * 64) else []) : b0 ++ bl ++ bs = run d n := by
  unfold run
  rw [h0, hl, hs, List.append_assoc]

/-! ### a row alone -/
theorem takeWhile_len {l : List Bool} {d : Bool} {n : Nat} (h1 : n ≤ l.length) (h2 : ∀ x, x < n → l.getD x false = d) (h3 : n < l.length → l.getD n false = !d) : (l.takeWhile fun b => b == d).length = n := by
  induction l generalizing n with
  | nil =>
    rw [List.length_nil] at h1
    rw [List.takeWhile_nil, List.length_nil]
    omega
  | cons b r ih =>
    cases n with
    | zero =>
      have e := h3 (by simp)
      rw [List.getD_cons_zero] at e
      rw [List.takeWhile_cons_of_neg (by rw [e]; cases d <;> decide)]
      rfl
    | succ n =>
      have e := h2 0 (by omega)
      rw [List.getD_cons_zero] at e
      rw [List.takeWhile_cons_of_pos (by rw [e]; cases d <;> decide), List.length_cons, ih (by simpa using h1) (fun x hx => by
        have := h2 (x + 1) (by omega)
        rwa [List.getD_cons_succ] at this) fun hn => by
        have := h3 (by simpa using hn)
        rwa [List.getD_cons_succ] at this]
theorem getD_drop (l : List Bool) (p x : Nat) : (l.drop p).getD x false = l.getD (p + x) false := by
  rw [List.getD_eq_getElem?_getD, List.getD_eq_getElem?_getD, List.getElem?_drop]
/-- p: where the j-th run begins -/
theorem alone_step {r : Row} {j p f : Nat} (hp : p < r.length) (h1 : ∀ k, j = k + 1 → nth r k = p) (h0 : j = 0 → p = 0) :
    p ≤ nth r j ∧ alone (f + 1) (r.drop p) (j % 2 == 1) = run (j % 2 == 1) (nth r j - p) ++ (if nth r j = r.length then [] else alone f (r.drop (nth r j)) ((j + 1) % 2 == 1)) := by
  have hle : p ≤ nth r j := by
    cases j with
    | zero => rw [h0 rfl]; exact Nat.zero_le _
    | succ k =>
      rw [← h1 k rfl]
      exact nth_mono r k
  have hw := nth_le r j
  have e : ((r.drop p).takeWhile fun b => b == (j % 2 == 1)).length = nth r j - p := by
    refine takeWhile_len (by rw [List.length_drop]; omega) (fun x hx => ?_) fun hn => ?_
    · rw [getD_drop]
      exact colour (by omega) (fun k hk => by rw [h1 k hk]; omega) (by omega)
    · rw [List.length_drop] at hn
      have e2 : p + (nth r j - p) = nth r j := by omega
      rw [getD_drop, e2, ← odd_succ]
      exact colour (by omega) (fun k hk => by
        have : k = j := by omega
        subst this
        exact Nat.le_refl _) (nth_lt (by omega))
  refine ⟨hle, ?_⟩
  show (let n := ((r.drop p).takeWhile fun b => b == (j % 2 == 1)).length; run (j % 2 == 1) n ++ (if n = (r.drop p).length then [] else alone f ((r.drop p).drop n) !(j % 2 == 1))) = _
  rw [e, odd_succ]
  dsimp only
  rw [List.drop_drop, List.length_drop]
  have e2 : p + (nth r j - p) = nth r j := by omega
  rw [e2]
  by_cases hq : nth r j = r.length
  · rw [if_pos hq, if_pos (by omega)]
  · rw [if_neg hq, if_neg (by omega)]

/-! ### a row by the one above -/
theorem beside_end {above r : Row} {f : Nat} {a : Int} {d : Bool} (h : (r.length : Int) ≤ a) : beside above r f a d = [] := by
  cases f with
  | zero => rfl
  | succ f =>
    show (if (r.length : Int) ≤ a then [] else _) = _
    rw [if_pos h]
theorem beside_step {above r : Row} {a : Int} {ja j o f : Nat} (sa : Seg above a ja) (sr : Seg r a j) (ho : o = ja ∨ o = ja + 1) (hp : o % 2 = j % 2) :
    beside above r (f + 1) a (j % 2 == 1) =
      if nth above (o + 1) < nth r j then PASS ++ beside above r f (nth above (o + 1)) (j % 2 == 1)
      else if -3 ≤ (nth r j : Int) - (nth above o : Int) ∧ (nth r j : Int) - (nth above o : Int) ≤ 3 then vertical ((nth r j : Int) - (nth above o : Int)) ++ beside above r f (nth r j) ((j + 1) % 2 == 1)
      else ACROSS ++ (run (j % 2 == 1) (nth r j - (max a 0).toNat) ++ (run ((j + 1) % 2 == 1) (nth r (j + 1) - nth r j) ++ beside above r f (nth r (j + 1)) (j % 2 == 1))) := by
  have hd : (o % 2 == 1) = (j % 2 == 1) := by rw [hp]
  have e1 : change above a (!(j % 2 == 1)) = nth above o := change_is sa ho hd
  have e2 : other above (nth above o) (!(j % 2 == 1)) = nth above (o + 1) := other_next _ (by rw [hd, Bool.not_not])
  have e3 : other r a (j % 2 == 1) = nth r j := other_is sr
  have e4 : other r (nth r j) (!(j % 2 == 1)) = nth r (j + 1) := other_next _ (by rw [Bool.not_not])
  have hhi := sr.hi
  show (if (r.length : Int) ≤ a then [] else
      let b1 := change above a (!(j % 2 == 1))
      let b2 := other above b1 (!(j % 2 == 1))
      let a1 := other r a (j % 2 == 1)
      if b2 < a1 then PASS ++ beside above r f b2 (j % 2 == 1)
      else
        let d : Int := (a1 : Int) - b1
        if -3 ≤ d ∧ d ≤ 3 then vertical d ++ beside above r f a1 !(j % 2 == 1)
        else
          let a2 := other r a1 !(j % 2 == 1)
          ACROSS ++ (run (j % 2 == 1) (a1 - (max a 0).toNat) ++ (run (!(j % 2 == 1)) (a2 - a1) ++ beside above r f a2 (j % 2 == 1)))) = _
  rw [if_neg (by omega)]
  dsimp only
  rw [e1, e2, e3, e4, odd_succ]
theorem seg_mono {r : Row} {a b : Int} {j : Nat} (s : Seg r a j) (h1 : a ≤ b) (h2 : b < nth r j) : Seg r b j :=
  ⟨by have := s.lo; omega, by have := nth_le r j; omega, fun k hk => by have := s.before k hk; omega, h2⟩
theorem seg_skip {r : Row} {j : Nat} (h : nth r (j + 1) < r.length) : Seg r (nth r (j + 1)) (j + 2) := seg_next h
end Fax

namespace Fax
open Ql31
open PySem (Str)

/-! ### bits in bytes -/
def byteVal (b : Bits) : Nat := (List.range 8).foldl (fun n i => 2 * n + (b.getD i false).toNat) 0
def packAll (b : Bits) : List UInt8 := bytesOf (b.length / 8 + 1) b
theorem bytesOf_nil (k : Nat) : bytesOf k [] = [] := by cases k <;> rfl
theorem bytesOf_cons {k : Nat} {b : Bits} (h : b ≠ []) : bytesOf (k + 1) b = UInt8.ofNat (byteVal b) :: bytesOf k (b.drop 8) := by
  cases b with
  | nil => exact absurd rfl h
  | cons x r => rfl
theorem bytesOf_any : ∀ (n k k' : Nat) (b : Bits), b.length ≤ n → b.length ≤ 8 * k → b.length ≤ 8 * k' → bytesOf k b = bytesOf k' b
  | n, k, k', [], _, _, _ => by rw [bytesOf_nil, bytesOf_nil]
  | 0, k, k', x :: r, h, _, _ => by simp at h
  | n + 1, 0, k', x :: r, _, h, _ => by simp at h
  | n + 1, k + 1, 0, x :: r, _, _, h => by simp at h
  | n + 1, k + 1, k' + 1, x :: r, h, h1, h2 => by
    rw [bytesOf_cons (by simp), bytesOf_cons (by simp)]
    rw [bytesOf_any n k k' ((x :: r).drop 8) (by rw [List.length_drop]; rw [List.length_cons] at h ⊢; omega) (by rw [List.length_drop]; omega) (by rw [List.length_drop]; omega)]
theorem packAll_nil : packAll [] = [] := rfl
theorem packAll_eq (k : Nat) (b : Bits) (h : b.length ≤ 8 * k) : bytesOf k b = packAll b := bytesOf_any b.length _ _ b (Nat.le_refl _) h (by omega)
theorem packAll_cons {b : Bits} (h : b ≠ []) : packAll b = UInt8.ofNat (byteVal b) :: packAll (b.drop 8) := by
  unfold packAll
  rw [bytesOf_cons h]
  rw [packAll_eq (b.length / 8) (b.drop 8) (by rw [List.length_drop]; omega)]
  rfl
theorem packAll_len : ∀ (n : Nat) (b : Bits), b.length ≤ n → (packAll b).length ≤ (b.length + 7) / 8
  | _, [], _ => Nat.zero_le _
  | 0, x :: r, h => by simp at h
  | n + 1, x :: r, h => by
    rw [packAll_cons (by simp), List.length_cons]
    have := packAll_len n ((x :: r).drop 8) (by rw [List.length_drop]; rw [List.length_cons] at h ⊢; omega)
    rw [List.length_drop] at this
    rw [List.length_cons] at this ⊢
    omega
/-- the value of bits read from the highest on -/
def valOf (b : Bits) : Nat := b.foldl (fun n x => 2 * n + x.toNat) 0
theorem valOf_push (b : Bits) (x : Bool) : valOf (b ++ [x]) = 2 * valOf b + x.toNat := by
  unfold valOf
  rw [List.foldl_append]
  rfl
theorem valOf_lt : ∀ (n : Nat) (b : Bits), b.length = n → valOf b < 2 ^ n
  | 0, b, h => by
    have : b = [] := List.length_eq_zero_iff.mp h
    subst this
    decide
  | n + 1, b, h => by
    have hb : b ≠ [] := by
      intro e
      rw [e] at h
      cases h
    have e := List.dropLast_concat_getLast hb
    rw [← e, valOf_push]
    have := valOf_lt n b.dropLast (by rw [List.length_dropLast]; omega)
    have h2 : (b.getLast hb).toNat ≤ 1 := by cases b.getLast hb <;> decide
    rw [Nat.pow_succ]
    omega
theorem valOf_zeros (b : Bits) : ∀ k : Nat, valOf (b ++ List.replicate k false) = valOf b * 2 ^ k
  | 0 => by simp
  | k + 1 => by
    rw [List.replicate_succ', ← List.append_assoc, valOf_push, valOf_zeros b k, Nat.pow_succ]
    show 2 * (valOf b * 2 ^ k) + 0 = _
    rw [Nat.add_zero, Nat.mul_comm 2, Nat.mul_assoc]
theorem byteVal_8 (a b c d e f g h : Bool) (r : Bits) : byteVal (a :: b :: c :: d :: e :: f :: g :: h :: r) = valOf [a, b, c, d, e, f, g, h] := rfl
theorem byteVal_app {b : Bits} (h : b.length = 8) (r : Bits) : byteVal (b ++ r) = valOf b := by
  match b, h with
  | [x1, x2, x3, x4, x5, x6, x7, x8], _ => rfl
theorem getD_pad (b : Bits) (k i : Nat) : (b ++ List.replicate k false).getD i false = b.getD i false := by
  rw [List.getD_eq_getElem?_getD, List.getD_eq_getElem?_getD]
  by_cases h : i < b.length
  · rw [List.getElem?_append_left h]
  · rw [List.getElem?_append_right (by omega), List.getElem?_eq_none (l := b) (by omega)]
    by_cases h2 : i - b.length < k
    · rw [List.getElem?_replicate, if_pos h2]
      rfl
    · rw [List.getElem?_replicate, if_neg h2]
theorem byteVal_short {b : Bits} (h : b.length ≤ 8) : byteVal b = valOf b * 2 ^ (8 - b.length) := by
  rw [← valOf_zeros]
  have e := byteVal_app (b := b ++ List.replicate (8 - b.length) false) (by rw [List.length_append, List.length_replicate]; omega) []
  rw [List.append_nil] at e
  rw [← e]
  unfold byteVal
  congr 1
  funext n i
  rw [getD_pad]
/-- what the loop over the bits has: data, the bits that are held -/
structure Packed (full : Bits) (data : List UInt8) (held : Bits) : Prop where
  short : held.length < 8
  len : full.length = 8 * data.length + held.length
  eq : ∀ rest, packAll (full ++ rest) = data ++ packAll (held ++ rest)
theorem Packed.start : Packed [] [] [] := ⟨by decide, rfl, fun rest => rfl⟩
theorem Packed.keep {full held : Bits} {data : List UInt8} (p : Packed full data held) (x : Bool) (h : held.length + 1 ≠ 8) : Packed (full ++ [x]) data (held ++ [x]) :=
  ⟨by have := p.short; rw [List.length_append]; show held.length + 1 < 8; omega, by
    have := p.len
    rw [List.length_append, List.length_append, List.length_singleton]
    omega, fun rest => by rw [List.append_assoc, p.eq, List.append_assoc]⟩
theorem Packed.full {full held : Bits} {data : List UInt8} (p : Packed full data held) (x : Bool) (h : held.length + 1 = 8) : Packed (full ++ [x]) (data ++ [UInt8.ofNat (valOf (held ++ [x]))]) [] := by
  refine ⟨by decide, by
    have := p.len
    rw [List.length_append, List.length_append, List.length_singleton, List.length_singleton, List.length_nil]
    omega, fun rest => ?_⟩
  have hl : (held ++ [x]).length = 8 := by rw [List.length_append]; exact h
  rw [List.append_assoc, p.eq, ← List.append_assoc held, packAll_cons (by simp), byteVal_app hl, List.drop_left' hl, List.append_assoc]
  rfl
theorem Packed.stop {full held : Bits} {data : List UInt8} (p : Packed full data held) : packAll full = data ++ (if held.length = 0 then [] else [UInt8.ofNat (valOf held * 2 ^ (8 - held.length))]) := by
  have e := p.eq []
  rw [List.append_nil, List.append_nil] at e
  rw [e]
  have hs := p.short
  by_cases h : held.length = 0
  · rw [if_pos h, List.length_eq_zero_iff.mp h]
    rfl
  · rw [if_neg h, packAll_cons (by intro q; rw [q] at h; exact h rfl), byteVal_short (by omega), List.drop_eq_nil_of_le (by omega)]
    rfl
end Fax

namespace Fax
open Ql31
open PySem (Str)

/-! ### a row of the picture -/
theorem bitsFrom_get : ∀ (l : List UInt8) (x : Nat), (bitsFrom l)[x]? = (l[x / 8]?).map fun c => c.toNat.testBit (7 - x % 8)
  | [], x => by
    show ([] : List Bool)[x]? = _
    simp
  | c :: l, x => by
    have e : bitsFrom (c :: l) = ((List.range 8).map fun i => c.toNat.testBit (7 - i)) ++ bitsFrom l := by
      unfold bitsFrom
      rw [List.flatMap_cons]
    rw [e]
    by_cases h : x < 8
    · rw [List.getElem?_append_left (by simpa using h), List.getElem?_map, List.getElem?_range h]
      have e1 : x / 8 = 0 := Nat.div_eq_of_lt h
      have e2 : x % 8 = x := Nat.mod_eq_of_lt h
      rw [e1, e2]
      rfl
    · rw [List.getElem?_append_right (by simpa using Nat.le_of_not_lt h), bitsFrom_get l]
      have e0 : ((List.range 8).map fun i => c.toNat.testBit (7 - i)).length = 8 := by simp
      rw [e0]
      have e1 : x / 8 = (x - 8) / 8 + 1 := by omega
      have e2 : x % 8 = (x - 8) % 8 := by omega
      rw [e1, e2, List.getElem?_cons_succ]
theorem bitsFrom_len : ∀ l : List UInt8, (bitsFrom l).length = 8 * l.length
  | [] => rfl
  | c :: l => by
    have e : bitsFrom (c :: l) = ((List.range 8).map fun i => c.toNat.testBit (7 - i)) ++ bitsFrom l := by
      unfold bitsFrom
      rw [List.flatMap_cons]
    rw [e, List.length_append, bitsFrom_len l, List.length_map, List.length_range, List.length_cons]
    omega
/-- r is the row of the picture whose bytes begin at start -/
structure RowOf (ns : List Int) (start width : Nat) (r : Row) : Prop where
  len : r.length = width
  at_ : ∀ x, x < width → ∃ v : Nat, ns[start + x / 8]? = some (v : Int) ∧ r.getD x false = v.testBit (7 - x % 8)
def rowAt (width : Nat) (ns : List Int) (i : Nat) : Row := rowFrom width (((Ql31Neutral.octets ns).drop (i * stride width)).take (stride width))
theorem rowOf_at {ns : List Int} {width rows i : Nat} (hb : ∀ z ∈ ns, 0 ≤ z ∧ z ≤ 255) (hl : ns.length = rows * stride width) (hi : i < rows) : RowOf ns (i * stride width) width (rowAt width ns i) := by
  have hs : i * stride width + stride width ≤ ns.length := by
    rw [hl, ← Nat.succ_mul]
    exact Nat.mul_le_mul_right _ hi
  have hw : width ≤ 8 * stride width := by
    unfold stride
    omega
  have ho : (Ql31Neutral.octets ns).length = ns.length := by
    unfold Ql31Neutral.octets
    rw [List.length_map]
  have hl2 : (((Ql31Neutral.octets ns).drop (i * stride width)).take (stride width)).length = stride width := by
    rw [List.length_take, List.length_drop, ho]
    omega
  refine ⟨?_, fun x hx => ?_⟩
  · unfold rowAt rowFrom
    rw [List.length_take, bitsFrom_len, hl2]
    omega
  · have hx8 : x / 8 < stride width := by
      unfold stride
      omega
    have hin : i * stride width + x / 8 < ns.length := by omega
    have hz := hb _ (List.getElem_mem hin)
    refine ⟨(ns[i * stride width + x / 8]).toNat, ?_, ?_⟩
    · rw [List.getElem?_eq_getElem hin, Int.toNat_of_nonneg hz.1]
    · unfold rowAt rowFrom
      rw [List.getD_eq_getElem?_getD, List.getElem?_take, if_pos hx, bitsFrom_get, List.getElem?_take, if_pos hx8, List.getElem?_drop]
      unfold Ql31Neutral.octets
      rw [List.getElem?_map, List.getElem?_eq_getElem hin]
      show (UInt8.ofNat (ns[i * stride width + x / 8]).toNat).toNat.testBit (7 - x % 8) = _
      rw [UInt8.toNat_ofNat', Nat.mod_eq_of_lt (by omega)]
theorem rowsFrom_is (width rows : Nat) (ns : List Int) : rowsFrom width rows (Ql31Neutral.octets ns) = (List.range rows).map (rowAt width ns) := rfl

/-! ### a page -/
def isAlone (kind k i : Nat) : Bool := kind == 0 || (kind == 1 && i % k == 0)
def opening (kind : Nat) (al : Bool) : Bits := if kind = 2 then [] else if kind = 0 then EOL else EOL ++ [al]
def rowBits (kind k i : Nat) (above r : Row) : Bits := opening kind (isAlone kind k i) ++ (if isAlone kind k i = true then rowAlone r else rowBeside above r)
def pend (kind : Nat) : Bits := if kind = 2 then EOL ++ EOL else (List.replicate 6 (opening kind true)).flatten
def pg (kind k : Nat) : Nat → Row → List Row → Bits
  | _, _, [] => pend kind
  | i, above, r :: l => rowBits kind k i above r ++ pg kind k (i + 1) r l
theorem pg_cons (kind k i : Nat) (above r : Row) (l : List Row) : pg kind k i above (r :: l) = rowBits kind k i above r ++ pg kind k (i + 1) r l := rfl
theorem pg_0 (k : Nat) : ∀ (l : List Row) (i : Nat) (above : Row), pg 0 k i above l = (l.flatMap fun r => EOL ++ rowAlone r) ++ (List.replicate 6 EOL).flatten
  | [], _, _ => rfl
  | r :: l, i, above => by
    rw [pg_cons, pg_0 k l, List.flatMap_cons, List.append_assoc]
    rfl
theorem pg_2 (k : Nat) : ∀ (l : List Row) (i : Nat) (above : Row), pg 2 k i above l = rows6 above l ++ (EOL ++ EOL)
  | [], _, _ => rfl
  | r :: l, i, above => by
    rw [pg_cons, pg_2 k l]
    show _ = (rowBeside above r ++ rows6 r l) ++ (EOL ++ EOL)
    rw [List.append_assoc]
    rfl
theorem pg_1 (k : Nat) : ∀ (l : List Row) (i : Nat) (above : Row), pg 1 k i above l = rows2 k i above l ++ (List.replicate 6 (EOL ++ [true])).flatten
  | [], _, _ => rfl
  | r :: l, i, above => by
    rw [pg_cons, pg_1 k l]
    show _ = ((if i % k = 0 then EOL ++ (true :: rowAlone r) else EOL ++ (false :: rowBeside above r)) ++ rows2 k (i + 1) r l) ++ _
    rw [List.append_assoc]
    congr 1
    have e : isAlone 1 k i = decide (i % k = 0) := by
      unfold isAlone
      by_cases h : i % k = 0
      · rw [h]
        rfl
      · rw [decide_eq_false h, beq_eq_false_iff_ne.mpr h]
        rfl
    unfold rowBits
    rw [e]
    by_cases h : i % k = 0
    · rw [if_pos h, decide_eq_true h, if_pos rfl]
      show (EOL ++ [true]) ++ _ = _
      rw [List.append_assoc]
      rfl
    · rw [if_neg h, decide_eq_false h, if_neg (by decide)]
      show (EOL ++ [false]) ++ _ = _
      rw [List.append_assoc]
      rfl
theorem page_is {kind k width : Nat} (l : List Row) (hk : kind ≤ 2) : page kind k width l = pg kind k 0 (List.replicate width false) l := by
  match kind, hk with
  | 0, _ => rw [pg_0]; rfl
  | 1, _ =>
    cases l with
    | nil => rfl
    | cons r l =>
      rw [pg_cons, pg_1]
      show (((if 0 % k = 0 then EOL ++ (true :: rowAlone r) else EOL ++ (false :: rowBeside [] r)) ++ rows2 k 1 r l) ++ (List.replicate 6 (EOL ++ [true])).flatten) = _
      have h : 0 % k = 0 := Nat.zero_mod k
      rw [if_pos h]
      have e : isAlone 1 k 0 = true := by
        unfold isAlone
        rw [h]
        rfl
      unfold rowBits
      rw [e, if_pos rfl, List.append_assoc]
      show _ = ((EOL ++ [true]) ++ _) ++ _
      rw [List.append_assoc]
      rfl
  | 2, _ => rw [pg_2]; rfl
/-- the changes' list with its ends -/
def chL (r : Row) : List Int := (chs r).map (fun (x : Nat) => (x : Int)) ++ [(r.length : Int), (r.length : Int), (r.length : Int)]
theorem chL_get {r : Row} {j : Nat} (h : j < (chs r).length + 3) : (chL r)[j]? = some (nth r j : Int) := by
  unfold chL nth
  by_cases h1 : j < (chs r).length
  · rw [List.getElem?_append_left (by rw [List.length_map]; exact h1), List.getElem?_map, List.getElem?_eq_getElem h1, List.getD_eq_getElem?_getD, List.getElem?_eq_getElem h1]
    rfl
  · rw [List.getElem?_append_right (by rw [List.length_map]; omega), List.length_map, List.getD_eq_getElem?_getD, List.getElem?_eq_none (l := chs r) (by omega)]
    have : j - (chs r).length = 0 ∨ j - (chs r).length = 1 ∨ j - (chs r).length = 2 := by omega
    rcases this with e | e | e <;> rw [e] <;> rfl
theorem chs_len (r : Row) : (chs r).length ≤ r.length := by
  have h : ∀ (r : Row) (c : Bool) (p : Nat), (chsAux c p r).length ≤ r.length := by
    intro r
    induction r with
    | nil => intro c p; exact Nat.le_refl _
    | cons b r ih =>
      intro c p
      by_cases e : (b != c) = true
      · rw [chsAux_t e, List.length_cons, List.length_cons]
        have := ih b (p + 1)
        omega
      · rw [chsAux_f e, List.length_cons]
        have := ih c (p + 1)
        omega
  exact h r false 0
theorem chL_len (r : Row) : (chL r).length = (chs r).length + 3 := by
  unfold chL
  rw [List.length_append, List.length_map]
  rfl
/-- a stretch's number is at most the changes' number -/
theorem seg_le {r : Row} {a : Int} {j : Nat} (h : Seg r a j) : j ≤ (chs r).length := by
  cases j with
  | zero => exact Nat.zero_le _
  | succ k =>
    by_cases q : (chs r).length ≤ k
    · have h1 := h.before k rfl
      rw [nth_beyond q] at h1
      have := h.hi
      omega
    · omega
theorem chs_white (w : Nat) : chs (List.replicate w false) = [] := by
  have h : ∀ (w p : Nat), chsAux false p (List.replicate w false) = [] := by
    intro w
    induction w with
    | zero => intro p; rfl
    | succ w ih =>
      intro p
      rw [List.replicate_succ, chsAux_f (by decide), ih]
  exact h w 0
/-! ### bounds -/
theorem codeOf_len (d : Bool) (k : Nat) (h : k < 40) : (if 1 ≤ k then codeOf d (k * 64) else []).length ≤ 13 := by
  have e : ∀ (d : Bool) (n : Fin 40), (if 1 ≤ n.val then codeOf d (n.val * 64) else []).length ≤ 13 := by decide +kernel
  exact e d ⟨k, h⟩
theorem short_len (d : Bool) (k : Nat) (h : k < 64) : (codeOf d k).length ≤ 12 := by
  have e : ∀ (d : Bool) (n : Fin 64), (codeOf d n.val).length ≤ 12 := by decide +kernel
  exact e d ⟨k, h⟩
theorem flat_len (n : Nat) (l : Bits) : (List.replicate n l).flatten.length = n * l.length := by
  rw [List.length_flatten, List.map_replicate, List.sum_replicate_nat]
theorem run_len (d : Bool) (n : Nat) : (run d n).length ≤ 12 * (n / 2560) + 25 := by
  unfold run
  rw [List.length_append, List.length_append, flat_len]
  have h1 : (codeOf d 2560).length = 12 := by cases d <;> decide +kernel
  have h2 := short_len d (n % 2560 % 64) (Nat.mod_lt _ (by decide))
  have h3 : (if 64 ≤ n % 2560 then codeOf d (n % 2560 / 64 * 64) else []).length ≤ 13 := by
    have e := codeOf_len d (n % 2560 / 64) (by omega)
    by_cases h : 64 ≤ n % 2560
    · rw [if_pos h]
      rw [if_pos (by omega)] at e
      exact e
    · rw [if_neg h]
      exact Nat.zero_le _
  rw [h1]
  omega
end Fax

namespace Fax
open PySem PySem.Spec PyProof.Rows L2
open PySem.W (Codec)
open Ql31 (codeOf run vertical alone beside rowAlone rowBeside)

theorem ifT {c : Bool} {A B : Prop} (hc : c = true) (h : A) : if c = true then A else B := by
  rw [if_pos hc]
  exact h
theorem ifF {c : Bool} {A B : Prop} (hc : c = false) (h : B) : if c = true then A else B := by
  rw [hc, if_neg Bool.false_ne_true]
  exact h
/-! ### text * number -/
theorem op_mul_str {X : Cx} : OpR X (binaryOp .Mult) (fun x y H Q => ∃ z n, x = .str z ∧ y = .int n ∧ MulOk z n ∧ Q (.str (Txt.mul z n)) H) := by
  intro pins s σ H x y v u Q I rx ry h
  obtain ⟨z, n, rfl, rfl, ok, q⟩ := h
  obtain ⟨t, rfl⟩ := rx
  obtain ⟨t', rfl⟩ := ry
  exact PySem.SB.mul ok (fun t' tk => ⟨.str (Txt.mul z n), H, I.tok _, ⟨_, rfl⟩, q⟩)
theorem foldl_cps (x : Array Nat) : ∀ (n : Nat) (acc : Array Nat), ((List.replicate n x).foldl (· ++ ·) acc).toList = acc.toList ++ (List.replicate n x.toList).flatten
  | 0, acc => by simp
  | n + 1, acc => by
    rw [List.replicate_succ, List.foldl_cons, foldl_cps x n, Array.toList_append, List.replicate_succ, List.flatten_cons, List.append_assoc]
theorem bits_mul (z : Str) (n : Nat) : bits (Txt.mul z n) = (List.replicate n (bits z)).flatten := by
  unfold Txt.mul
  by_cases h1 : (n : Int) < 1
  · rw [if_pos h1]
    have : n = 0 := by omega
    subst this
    rfl
  · rw [if_neg h1]
    by_cases h2 : ((n : Int) == 1 || z.length == 0) = true
    · rw [if_pos h2]
      rcases Bool.or_eq_true_iff.mp h2 with e | e
      · have : n = 1 := by
          have := eq_of_beq e
          omega
        subst this
        simp
      · have e' : z.length = 0 := eq_of_beq e
        have hb : bits z = [] := List.eq_nil_of_length_eq_zero (by rw [bits_len]; exact e')
        rw [hb]
        induction n with
        | zero => rfl
        | succ k ih => simp
    · rw [if_neg h2]
      unfold bits
      show (((List.replicate (n : Int).toNat z.cps).foldl (· ++ ·) #[]).toList).map _ = _
      rw [foldl_cps, Int.toNat_natCast, List.map_append, List.map_flatten, List.map_replicate]
      rfl
theorem mulOk_small {z : Str} {n : Nat} (hz : z.length ≤ 1000) (hn : n ≤ 1000) : MulOk z n := by
  refine ⟨?_, fun h1 _ => ?_, fun h1 _ => ?_⟩
  · rw [decide_eq_false (by omega), decide_eq_false (by omega)]
    rfl
  · have h3 : (1000 : Int) ≤ (2 ^ 63 - 1) / (n : Int) := by
      rw [Int.le_ediv_iff_mul_le (by omega)]
      omega
    omega
  · have h4 : z.length * (n : Int).toNat ≤ 1000 * 1000 := Nat.mul_le_mul hz (by omega)
    show decide _ = false
    refine decide_eq_false ?_
    rw [sizeLine_eq]
    omega
/-! ### words for callables and constants -/
def Has (P : Program) (w : World) (K : PySem.W.Frag) (mg : Str → Option Value) (base : Heap) (x : Str) (k : Nat) (ps : List Str) (sp : Sp) : Prop :=
  ∃ (f : Addr) (fd : FuncData), mg x = some (.ref f) ∧ PySem.W.keepIn K (.ref f) = true ∧ Binds K fd ps [] ∧ FnOk P w K mg base CX0 k f fd ps sp
/-- a def as it stands -/
def Stands (K : PySem.W.Frag) (mg : Str → Option Value) (x : Str) (st : Stmt) (ps : List Str) : Prop :=
  ∃ (f : Addr) (fd : FuncData), mg x = some (.ref f) ∧ Fun K x x st f fd ∧ Binds K fd ps []
theorem Stands.has {P : Program} {w : World} {K : PySem.W.Frag} {mg : Str → Option Value} {base : Heap} {x : Str} {st : Stmt} {ps : List Str} {k : Nat} {sp : Sp} (S : Stands K mg x st ps)
    (h : ∀ f fd, Fun K x x st f fd → FnOk P w K mg base CX0 k f fd ps sp) : Has P w K mg base x k ps sp := by
  obtain ⟨f, fd, g, F, b⟩ := S
  exact ⟨f, fd, g, F.kp, b, h f fd F⟩
def CInt (mg : Str → Option Value) (x : Str) (i : Int) : Prop := ∃ t, mg x = some (.int i t)
def CStr (mg : Str → Option Value) (x : Str) (s : Str) : Prop := ∃ t, mg x = some (.str s t)
def CTup (K : PySem.W.Frag) (mg : Str → Option Value) (x : Str) (l : List Str) : Prop := ∃ a, mg x = some (.ref a) ∧ ∀ H, SqT K H a (l.map V.str)
structure Txts (K : PySem.W.Frag) (mg : Str → Option Value) : Prop where
  white : CInt mg "WHITE" 0
  ws : CTup K mg "WHITE_SHORT" wsL
  wl : CTup K mg "WHITE_LONG" wlL
  bs : CTup K mg "BLACK_SHORT" bsL
  bl : CTup K mg "BLACK_LONG" blL
  bo : CTup K mg "BOTH_LONG" boL
  longest : CInt mg "LONGEST" 2560
  pass : CStr mg "PASSED_OVER" "0001"
  across : CStr mg "ACROSS" "001"
  st : CTup K mg "STRAIGHT" stL
  reach : CInt mg "STRAIGHT_REACH" 3
  eol : CStr mg "END_OF_LINE" zEol
  kAlone : CInt mg "ALONE" 0
  kMixed : CInt mg "MIXED" 1
  kAbove : CInt mg "BY_ABOVE" 2
  mWidth : CInt mg "MOST_WIDTH" 16384
  mRows : CInt mg "MOST_ROWS" 16384
  len : mg "len" = none
  range : mg "range" = none
  abs : mg "abs" = none
  max : mg "max" = none
theorem pe_cint {X : Cx} {x : Str} {i : Int} {t : Tok} {pos : Pos} (g : X.mg x = some (.int i t)) (hg : Gl X x := by rfl) (hd : (x == ("__debug__" : Str)) = false := by decide) : PE X (.Name x pos) (tC (.int i)) := pe_glob hg g ⟨t, rfl⟩ hd
theorem pe_cstr {X : Cx} {x : Str} {z : Str} {t : Tok} {pos : Pos} (g : X.mg x = some (.str z t)) (hg : Gl X x := by rfl) (hd : (x == ("__debug__" : Str)) = false := by decide) : PE X (.Name x pos) (tC (.str z)) := pe_glob hg g ⟨t, rfl⟩ hd
theorem pe_cref {X : Cx} {x : Str} {a : Addr} {pos : Pos} (g : X.mg x = some (.ref a)) (hg : Gl X x := by rfl) (hd : (x == ("__debug__" : Str)) = false := by decide) : PE X (.Name x pos) (tC (.ref a)) := pe_glob hg g rfl hd
def b2 (d : Bool) : Int := if d then 1 else 0
/-! ### the text's defs -/
def topS (i : Nat) : Stmt := PySem.Challenge.pw_faxpages_s01_fax_write.main.body.getD i (.Pass ⟨0, 0, 0, 0⟩)
abbrev sShort : Stmt := topS 13
abbrev sLong : Stmt := topS 14
abbrev sRun : Stmt := topS 15
abbrev sStraight : Stmt := topS 16
abbrev sEnds : Stmt := topS 18
abbrev sWhite : Stmt := topS 19
abbrev sChanges : Stmt := topS 20
abbrev sAlone : Stmt := topS 21
abbrev sFirst : Stmt := topS 22
abbrev sOpposite : Stmt := topS 23
abbrev sAcross : Stmt := topS 24
abbrev sAbove : Stmt := topS 25
abbrev sWrite : Stmt := topS 32
abbrev sPage : Stmt := topS 33
abbrev sOpening : Stmt := topS 34
abbrev sEnd : Stmt := topS 35
abbrev sPacked : Stmt := topS 36
/-! ### promises -/
def spShort : Sp := fun vs H Q _ => ∃ (d : Bool) (n : Nat), vs = [.int (b2 d), .int (n : Int)] ∧ n < 64 ∧ ∀ s : Str, bits s = codeOf d n → s.length ≤ 13 → Q (.str s) H
def spLong : Sp := fun vs H Q _ => ∃ (d : Bool) (n : Nat), vs = [.int (b2 d), .int (n : Int)] ∧ 1 ≤ n ∧ n < 40 ∧ ∀ s : Str, bits s = codeOf d (n * 64) → s.length ≤ 13 → Q (.str s) H
def spRun : Sp := fun vs H Q _ => ∃ (d : Bool) (n : Nat), vs = [.int (b2 d), .int (n : Int)] ∧ n ≤ 16384 ∧ ∀ s : Str, bits s = run d n → Q (.str s) H
def spStraight : Sp := fun vs H Q _ => ∃ (d : Int), vs = [.int d] ∧ -3 ≤ d ∧ d ≤ 3 ∧ ∀ s : Str, bits s = vertical d → s.length ≤ 13 → Q (.str s) H
section
variable {P : Program} {w : World} {K : PySem.W.Frag} {mg : Str → Option Value} {base : Heap}
theorem b2_eq {d : Bool} : decide (V.int (b2 d) = V.int 0) = !d := by cases d <;> rfl
theorem scShort : FnScope ["colour", "length"] ["colour", "length"] (defScope sShort) := ⟨rfl, rfl, rfl, by decide +kernel, rfl, by decide +kernel, by decide +kernel⟩
theorem has_short (S : Stands K mg "short_code" sShort ["colour", "length"]) (T : Txts K mg) : Has P w K mg base "short_code" 1 ["colour", "length"] spShort := by
  refine S.has fun f fd F => ?_
  obtain ⟨t0, g0⟩ := T.white
  obtain ⟨aw, gw, qw⟩ := T.ws
  obtain ⟨ab, gb, qb⟩ := T.bs
  refine F.ok scShort (fun vs H Q E h => by obtain ⟨d, n, rfl, _⟩ := h; rfl) (fun cdv A outer s H vs Q E hr h => ⟨_, pss_cons (ps_if (pt_cmpR op_eq (pv 0) (pe_cint g0) (nomark _))
      (pss_one (ps_ret (pe_ix ix_tup (pe_cref gw) (pv 1) (fun _ _ => rfl)))) pss_nil)
    (pss_one (ps_ret (pe_ix ix_tup (pe_cref gb) (pv 1) (fun _ _ => rfl)))), ?_⟩)
  obtain ⟨d, n, rfl, hn, q⟩ := h
  obtain ⟨z, h1, h2, h3⟩ := short_ok d n hn
  refine ⟨_, rfl, rfl, _, rfl, ?_⟩
  cases d with
  | false =>
    refine ifT b2_eq ?_
    exact ⟨_, rfl, aw, _, _, _, rfl, rfl, qw H, atI_nat (by rw [List.getElem?_map]; exact congrArg _ h1), q z h2 h3⟩
  | true =>
    refine ifF b2_eq ?_
    exact ⟨_, rfl, ab, _, _, _, rfl, rfl, qb H, atI_nat (by rw [List.getElem?_map]; exact congrArg _ h1), q z h2 h3⟩
end
end Fax

namespace Fax
open PySem PySem.Spec PyProof.Rows L2
open PySem.W (Codec)
open Ql31 (codeOf run vertical alone beside rowAlone rowBeside)
section
variable {P : Program} {w : World} {K : PySem.W.Frag} {mg : Str → Option Value} {base : Heap}
theorem mul_len (z : Str) (n : Nat) : (Txt.mul z n).length = n * z.length := by
  rw [← bits_len, bits_mul, flat_len, bits_len]
theorem scStraight : FnScope ["shift"] ["shift"] (defScope sStraight) := ⟨rfl, rfl, rfl, by decide +kernel, rfl, by decide +kernel, by decide +kernel⟩
theorem has_straight (S : Stands K mg "straight_code" sStraight ["shift"]) (T : Txts K mg) : Has P w K mg base "straight_code" 1 ["shift"] spStraight := by
  refine S.has fun f fd F => ?_
  obtain ⟨t0, g0⟩ := T.reach
  obtain ⟨a, g, qa⟩ := T.st
  refine F.ok scStraight (fun vs H Q E h => by obtain ⟨d, rfl, _⟩ := h; rfl) (fun cdv A outer s H vs Q E hr h => ⟨_, pss_one (ps_ret (pe_ix ix_tup (pe_cref g) (pe_op op_add (pe_cint g0) (pv 0)) (fun _ _ => rfl))), ?_⟩)
  obtain ⟨d, rfl, h1, h2, q⟩ := h
  obtain ⟨z, e1, e2, e3⟩ := st_ok d h1 h2
  exact ⟨_, rfl, _, _, rfl, rfl, a, _, _, _, rfl, rfl, qa H, at_of (j := (3 + d).toNat) (by omega) (by rw [List.getElem?_map]; exact congrArg _ e1), q z e2 e3⟩
theorem scLong : FnScope ["colour", "sixty_fours", "own_codes"] ["colour", "sixty_fours"] (defScope sLong) := ⟨rfl, rfl, rfl, by decide +kernel, rfl, by decide +kernel, by decide +kernel⟩
theorem has_long (S : Stands K mg "long_code" sLong ["colour", "sixty_fours"]) (T : Txts K mg) : Has P w K mg base "long_code" 1 ["colour", "sixty_fours"] spLong := by
  refine S.has fun f fd F => ?_
  obtain ⟨t0, g0⟩ := T.white
  obtain ⟨aw, gw, qw⟩ := T.wl
  obtain ⟨ab, gb, qb⟩ := T.bl
  obtain ⟨ao, go, qo⟩ := T.bo
  refine F.ok scLong (fun vs H Q E h => by obtain ⟨d, n, rfl, _⟩ := h; rfl) (fun cdv A outer s H vs Q E hr h => ⟨_,
    pss_cons (ps_set (i := 2) scLong.nd rfl (.inl rfl) (pe_callB call_len_seq (by rfl) T.len PySem.boot_len (pa_cons (pe_cref gw) pa_nil)))
    (pss_cons (ps_if (pt_cmpR op_gt (pv 1) (pv 2) (nomark _))
      (pss_one (ps_ret (pe_ix ix_tup (pe_cref go) (pe_op op_sub (pe_op op_sub (pv 1) (pv 2)) pe_int) (fun _ _ => rfl)))) pss_nil)
    (pss_cons (ps_if (pt_cmpR op_eq (pv 0) (pe_cint g0) (nomark _))
      (pss_one (ps_ret (pe_ix ix_tup (pe_cref gw) (pe_op op_sub (pv 1) pe_int) (fun _ _ => rfl)))) pss_nil)
    (pss_one (ps_ret (pe_ix ix_tup (pe_cref gb) (pe_op op_sub (pv 1) pe_int) (fun _ _ => rfl)))))), ?_⟩)
  obtain ⟨d, n, rfl, h1, h2, q⟩ := h
  have l27 : ((wlL.map V.str).length : Int) = 27 := rfl
  refine ⟨aw, _, rfl, .inr (qw H), ?_⟩
  refine ⟨_, rfl, _, rfl, _, _, rfl, rfl, _, rfl, ?_⟩
  by_cases c : n ≤ 27
  · refine ifF (decide_eq_false (by omega)) ?_
    obtain ⟨z, e1, e2, e3⟩ := long_own d n h1 c
    refine ⟨_, rfl, rfl, _, rfl, ?_⟩
    cases d with
    | false =>
      refine ifT b2_eq ?_
      exact ⟨_, rfl, _, _, rfl, rfl, aw, _, _, _, rfl, rfl, qw H, at_of (j := n - 1) (by omega) (by rw [List.getElem?_map]; exact congrArg _ e1), q z e2 e3⟩
    | true =>
      refine ifF b2_eq ?_
      exact ⟨_, rfl, _, _, rfl, rfl, ab, _, _, _, rfl, rfl, qb H, at_of (j := n - 1) (by omega) (by rw [List.getElem?_map]; exact congrArg _ e1), q z e2 e3⟩
  · refine ifT (decide_eq_true (by omega)) ?_
    obtain ⟨z, e1, e2, e3⟩ := long_both d n (by omega) h2
    exact ⟨_, rfl, _, rfl, _, _, rfl, rfl, _, _, rfl, rfl, ao, _, _, _, rfl, rfl, qo H, at_of (j := n - 28) (by omega) (by rw [List.getElem?_map]; exact congrArg _ e1), q z e2 e3⟩
theorem scRun : FnScope ["colour", "length", "bits", "rest"] ["colour", "length"] (defScope sRun) := ⟨rfl, rfl, rfl, by decide +kernel, rfl, by decide +kernel, by decide +kernel⟩
theorem has_run (S : Stands K mg "run_code" sRun ["colour", "length"]) (T : Txts K mg) (hS : Has P w K mg base "short_code" 1 ["colour", "length"] spShort) (hL : Has P w K mg base "long_code" 1 ["colour", "sixty_fours"] spLong) :
    Has P w K mg base "run_code" 2 ["colour", "length"] spRun := by
  refine S.has fun f fd F => ?_
  obtain ⟨ao, go, qo⟩ := T.bo
  obtain ⟨tl, gl⟩ := T.longest
  obtain ⟨fs, fds, gs, kps, bs, GS⟩ := hS
  obtain ⟨fl, fdl, gfl, kpl, bl, GL⟩ := hL
  refine F.ok scRun (fun vs H Q E h => by obtain ⟨d, n, rfl, _⟩ := h; rfl) (fun cdv A outer s H vs Q E hr h => ⟨_,
    pss_cons (ps_set (i := 2) scRun.nd rfl (.inl rfl) (pe_op op_mul_str (pe_ix ix_tup (pe_cref go) (pe_un un_neg pe_int) (fun _ _ => rfl)) (pe_op op_fdiv (pv 1) (pe_cint gl))))
    (pss_cons (ps_set (i := 3) scRun.nd rfl (.inl rfl) (pe_op op_mod (pv 1) (pe_cint gl)))
    (pss_cons (ps_if (pt_cmpR op_ge (pv 3) pe_int (nomark _))
      (pss_one (ps_aug (i := 2) scRun.nd rfl (.inl rfl) (pe_call GL hr rfl gfl kpl bl .nil pass0 (pa_cons (pv 0) (pa_cons (pe_op op_fdiv (pv 3) pe_int) pa_nil))) iop_add_str)) pss_nil)
    (pss_one (ps_ret (pe_op op_add_str (pv 2) (pe_call GS hr rfl gs kps bs .nil pass0 (pa_cons (pv 0) (pa_cons (pe_op op_mod (pv 3) pe_int) pa_nil)))))))), ?_⟩)
  obtain ⟨d, n, rfl, h1, q⟩ := h
  have hz : z2560.length ≤ 1000 := by rw [z2560_len]; decide
  have hok : MulOk z2560 ((n / 2560 : Nat) : Int) := mulOk_small hz (by omega)
  have hm : (Txt.mul z2560 ((n / 2560 : Nat) : Int)).length ≤ 100 := by
    rw [mul_len, z2560_len]
    omega
  refine ⟨_, rfl, ao, _, _, _, rfl, rfl, qo H, (show atI (boL.map V.str) (-1) = some (.str z2560) by rfl), ?_⟩
  refine ⟨_, rfl, _, _, rfl, rfl, ⟨by decide, by decide⟩, z2560, ((n / 2560 : Nat) : Int), rfl, rfl, hok, ?_⟩
  refine ⟨_, rfl, _, _, rfl, rfl, (by decide : (0 : Int) < 2560), ?_⟩
  refine ⟨_, rfl, _, _, rfl, rfl, _, rfl, ?_⟩
  have hslen : sizeLine = 16777216 := sizeLine_eq
  have fin : ∀ zb : Str, zb.length ≤ 200 → bits zb = (List.replicate (n / 2560) (codeOf d 2560)).flatten ++ (if 64 ≤ n % 2560 then codeOf d (n % 2560 / 64 * 64) else []) →
      ∃ v, [some (V.int (b2 d)), some (V.int (n : Int)), some (V.str zb), some (V.int ((n : Int) % 2560))][2]? = some (some v) ∧
        ∃ v1, [some (V.int (b2 d)), some (V.int (n : Int)), some (V.str zb), some (V.int ((n : Int) % 2560))][0]? = some (some v1) ∧
        ∃ v2, [some (V.int (b2 d)), some (V.int (n : Int)), some (V.str zb), some (V.int ((n : Int) % 2560))][3]? = some (some v2) ∧ ∃ i j, v2 = .int i ∧ V.int 64 = .int j ∧ 0 < j ∧
          spShort ([v1, .int (i % j)] ++ []) H (fun y H2 => ∃ i j, v = .str i ∧ y = .str j ∧ i.length + j.length ≤ sizeLine ∧ Q (.str (i ++ j)) H2) E0 := by
    intro zb hzb hb
    refine ⟨_, rfl, _, rfl, _, rfl, _, _, rfl, rfl, (by decide : (0 : Int) < 64), d, n % 2560 % 64, rfl, Nat.mod_lt _ (by decide), fun s hs hl => ?_⟩
    refine ⟨_, _, rfl, rfl, by omega, q _ ?_⟩
    rw [bits_app, hb, hs]
    exact run_is d n _ _ _ rfl rfl rfl
  by_cases c : 64 ≤ n % 2560
  · refine ifT (decide_eq_true (by show (64 : Int) ≤ (n : Int) % 2560; omega)) ?_
    refine ⟨_, rfl, _, rfl, _, rfl, _, _, rfl, rfl, ⟨by decide, by decide⟩, d, n % 2560 / 64, rfl, by omega, by omega, fun s hs hl => ?_⟩
    refine ⟨_, _, rfl, rfl, by omega, ?_⟩
    refine fin _ ?_ ?_
    · rw [← bits_len, bits_app, List.length_append, bits_len, bits_len]
      omega
    · rw [if_pos c, bits_app, bits_mul, hs, b2560_bits d]
  · refine ifF (decide_eq_false (by show ¬ (64 : Int) ≤ (n : Int) % 2560; omega)) ?_
    refine fin _ (by omega) ?_
    rw [if_neg c, bits_mul, b2560_bits d, List.append_nil]
end
end Fax

namespace Fax
open PySem PySem.Spec PyProof.Rows L2
open PySem.W (Codec)
open Ql31 (codeOf run vertical alone beside rowAlone rowBeside)
theorem point_is (v k : Nat) : Builtin.bitAnd ((v : Int) / 2 ^ k) 1 = b2 (v.testBit k) := by
  have e : ((v : Int) / 2 ^ k) % 2 = ((v / 2 ^ k % 2 : Nat) : Int) := by
    rw [Int.natCast_emod, Int.natCast_ediv, Int.natCast_pow]
    rfl
  rw [bitAnd_m1, e, Nat.testBit_eq_decide_div_mod_eq]
  rcases Nat.mod_two_eq_zero_or_one (v / 2 ^ k) with h | h <;> rw [h] <;> rfl
/-! ### heaps -/
theorem same_new {H : Hp} {p : Addr} {o : HO} (h : H p = none) : Same H (upd H p o) := fun b u e => by
  rw [upd_ne (ne_of_none e h)]
  exact e
theorem same_put {H H' : Hp} {p : Addr} {o : HO} (s : Same H H') (h : H p = none) : Same H (upd H' p o) := fun b u e => by
  rw [upd_ne (ne_of_none e h)]
  exact s b u e
/-! ### promises -/
def vI (l : List Int) : List V := l.map V.int
def spEnds : Sp := fun vs H Q _ => ∃ (a : Addr) (ns : List Int) (w : Nat), vs = [.ref a, .int (w : Int)] ∧ H a = some (.lst (vI ns)) ∧ ns.length ≤ 16384 ∧
  ∀ (H' : Hp) (p : Addr), Same H H' → H p = none → H' p = some (.lst (vI (ns ++ [(w : Int), (w : Int), (w : Int)]))) → Q (.ref p) H'
def spWhite : Sp := fun vs H Q _ => ∃ w : Nat, vs = [.int (w : Int)] ∧
  ∀ (H' : Hp) (p : Addr), Same H H' → H p = none → H' p = some (.lst (vI (chL (List.replicate w false)))) → Q (.ref p) H'
def spChanges (K : PySem.W.Frag) : Sp := fun vs H Q _ => ∃ (a : Addr) (ns : List Int) (st w : Nat) (r : Ql31.Row), vs = [.ref a, .int (st : Int), .int (w : Int)] ∧ SqL K H a (vI ns) ∧ RowOf ns st w r ∧ w ≤ 16384 ∧
  ∀ (H' : Hp) (p : Addr), Same H H' → H p = none → H' p = some (.lst (vI (chL r))) → Q (.ref p) H'
def spFirst (K : PySem.W.Frag) : Sp := fun vs H Q _ => ∃ (a : Addr) (r : Ql31.Row) (i : Nat) (p : Int), vs = [.ref a, .int (i : Int), .int p] ∧ SqL K H a (vI (chL r)) ∧ -1 ≤ p ∧ p < r.length ∧ (∀ k, i = k + 1 → (nth r k : Int) ≤ p) ∧
  ∀ j, Seg r p j → Q (.int (j : Int)) H
section
variable {P : Program} {w : World} {K : PySem.W.Frag} {mg : Str → Option Value} {base : Heap}
theorem scEnds : FnScope ["changes", "width"] ["changes", "width"] (defScope sEnds) := ⟨rfl, rfl, rfl, by decide +kernel, rfl, by decide +kernel, by decide +kernel⟩
theorem has_ends (S : Stands K mg "with_ends" sEnds ["changes", "width"]) : Has P w K mg base "with_ends" 1 ["changes", "width"] spEnds := by
  refine S.has fun f fd F => ?_
  refine F.ok scEnds (fun vs H Q E h => by obtain ⟨a, ns, w, rfl, _⟩ := h; rfl) (fun cdv A outer s H vs Q E hr h => ⟨_,
    pss_one (ps_ret (pe_op op_cat (pv 0) (pe_lst (pa_cons (pv 1) (pa_cons (pv 1) (pa_cons (pv 1) pa_nil)))))), ?_⟩)
  obtain ⟨a, ns, w, rfl, h1, h2, q⟩ := h
  have hz : sizeLine = 16777216 := sizeLine_eq
  refine ⟨_, rfl, _, rfl, _, rfl, _, rfl, (by show 3 ≤ sizeLine; omega), fun l hl => ?_⟩
  have hla : a ≠ l := ne_of_none h1 hl
  refine ⟨a, l, _, _, rfl, rfl, (by rw [upd_ne hla]; exact h1), upd_same, ?_, fun p hp => ?_⟩
  · show (vI ns).length + 3 ≤ sizeLine
    unfold vI
    rw [List.length_map]
    omega
  · have hp0 : H p = none := Same.free (same_new hl) hp
    refine q _ p ((same_new hl).trans (same_new hp)) hp0 ?_
    rw [upd_same]
    unfold vI
    rw [List.map_append]
    rfl
theorem scWhite : FnScope ["width"] ["width"] (defScope sWhite) := ⟨rfl, rfl, rfl, by decide +kernel, rfl, by decide +kernel, by decide +kernel⟩
theorem has_white (S : Stands K mg "white_row" sWhite ["width"]) (hE : Has P w K mg base "with_ends" 1 ["changes", "width"] spEnds) : Has P w K mg base "white_row" 2 ["width"] spWhite := by
  refine S.has fun f fd F => ?_
  obtain ⟨fe, fde, ge, kpe, be, GE⟩ := hE
  refine F.ok scWhite (fun vs H Q E h => by obtain ⟨w, rfl, _⟩ := h; rfl) (fun cdv A outer s H vs Q E hr h => ⟨_,
    pss_one (ps_ret (pe_call GE hr rfl ge kpe be .nil pass0 (pa_cons (pe_lst pa_nil) (pa_cons (pv 0) pa_nil)))), ?_⟩)
  obtain ⟨w, rfl, q⟩ := h
  refine ⟨(by show 0 ≤ sizeLine; exact Nat.zero_le _), fun l hl => ⟨_, rfl, l, [], w, rfl, upd_same, Nat.zero_le _, fun H' p s1 hp e => ?_⟩⟩
  refine q H' p ((same_new hl).trans s1) (Same.free (same_new hl) hp) ?_
  rw [e]
  unfold chL
  rw [chs_white, List.length_replicate]
  rfl
theorem scChanges : FnScope ["picture", "start", "width", "changes", "colour", "place", "point"] ["picture", "start", "width"] (defScope sChanges) := ⟨rfl, rfl, rfl, by decide +kernel, rfl, by decide +kernel, by decide +kernel⟩
theorem has_changes (S : Stands K mg "row_changes" sChanges ["picture", "start", "width"]) (T : Txts K mg) (hE : Has P w K mg base "with_ends" 1 ["changes", "width"] spEnds) : Has P w K mg base "row_changes" 2 ["picture", "start", "width"] (spChanges K) := by
  refine S.has fun f fd F => ?_
  obtain ⟨fe, fde, ge, kpe, be, GE⟩ := hE
  obtain ⟨t0, g0⟩ := T.white
  refine F.ok scChanges (fun vs H Q E h => by obtain ⟨a, ns, st, w, r, rfl, _⟩ := h; rfl) (fun cdv A outer s H vs Q E hr h => ⟨_,
    pss_cons (ps_set (i := 3) scChanges.nd rfl (.inl rfl) (pe_lst pa_nil))
    (pss_cons (ps_set (i := 4) scChanges.nd rfl (.inl rfl) (pe_cint g0))
    (pss_cons (ps_for PassesOwn.never rfl (pi_range1 (by rfl) T.range (pa_cons (pv 2) pa_nil)) (pg_name (i := 5) scChanges.nd rfl (.inl rfl))
      (pss_cons (ps_set (i := 6) scChanges.nd rfl (.inl rfl) (pe_op op_and (pe_op op_shr (pe_ix ix_list (pv 0) (pe_op op_add (pv 1) (pe_op op_fdiv (pv 5) pe_int)) (fun _ _ => rfl)) (pe_op op_sub pe_int (pe_op op_mod (pv 5) pe_int))) pe_int))
      (pss_one (ps_if (pt_cmpR op_ne (pv 6) (pv 4) (nomark _))
        (pss_cons (ps_expr (pe_bm PySem.F.plainAttrs_list PySem.F.slot_list_append PySem.F.type_list_append mt_append (pv 3) (pa_cons (pv 5) pa_nil)))
        (pss_one (ps_set (i := 4) scChanges.nd rfl (.inl rfl) (pv 6)))) pss_nil))))
    (pss_one (ps_ret (pe_call GE hr rfl ge kpe be .nil pass0 (pa_cons (pv 3) (pa_cons (pv 2) pa_nil))))))), ?_⟩)
  obtain ⟨a, ns, st, w, r, rfl, hS, hR, hw, q⟩ := h
  have hz : sizeLine = 16777216 := sizeLine_eq
  refine ⟨Nat.zero_le _, fun c hc => ?_⟩
  refine ⟨_, rfl, w, rfl, by omega, by omega, ?_⟩
  have hlen := hR.len
  refine for_range (lo := 0) (n := (w : Int).toNat) (fun i σ H' => ∃ (cs : List Nat) (col : Bool) (v5 v6 : Option V), σ = [some (.ref a), some (.int (st : Int)), some (.int (w : Int)), some (.ref c), some (.int (b2 col)), v5, v6] ∧ Same H H' ∧
      H' c = some (.lst (vI (cs.map fun (x : Nat) => (x : Int)))) ∧ cs ++ chsAux col i (r.drop i) = chs r ∧ cs.length ≤ i)
    ⟨[], false, none, none, rfl, same_new hc, upd_same, rfl, Nat.zero_le _⟩ ?_ ?_
  · rintro i σ H' hi ⟨cs, col, v5, v6, rfl, s1, hcs, hch, hcl⟩
    rw [Int.toNat_natCast] at hi
    obtain ⟨v, hv, hb⟩ := hR.at_ i hi
    have hS' := s1.seq hS
    refine ⟨_, rfl, _, rfl, _, rfl, _, _, rfl, rfl, ⟨by decide, by decide⟩, _, _, rfl, rfl, a, _, _, .int (v : Int), rfl, rfl, hS', at_of (j := st + i / 8) (by
      rw [Int.zero_add]
      omega) (by
      unfold vI
      rw [List.getElem?_map, hv]
      rfl), ?_⟩
    refine ⟨_, rfl, _, _, rfl, rfl, (by decide : (0 : Int) < 8), _, _, rfl, rfl, _, _, rfl, rfl, ?_, _, _, rfl, rfl, ?_⟩
    · show (0 : Int) ≤ 7 - (0 + (i : Int)) % 8
      omega
    · have ep : Builtin.bitAnd ((v : Int) / 2 ^ (7 - (0 + (i : Int)) % 8).toNat) 1 = b2 (r.getD i false) := by
        have ek : (7 - (0 + (i : Int)) % 8).toNat = 7 - i % 8 := by omega
        rw [ek, point_is, hb]
      dsimp only
      rw [ep]
      refine ⟨_, rfl, _, rfl, rfl, _, rfl, ?_⟩
      have hd : r.drop i = r.getD i false :: r.drop (i + 1) := by
        rw [List.drop_eq_getElem_cons (by omega), List.getD_eq_getElem?_getD, List.getElem?_eq_getElem (by omega)]
        rfl
      rw [hd] at hch
      have edec : (!decide (V.int (b2 (r.getD i false)) = V.int (b2 col))) = (r.getD i false != col) := by
        cases r.getD i false <;> cases col <;> rfl
      by_cases c1 : (r.getD i false != col) = true
      · rw [chsAux_t c1] at hch
        refine ifT (edec.trans c1) ?_
        refine ⟨_, rfl, .inl ⟨rfl, _, SqL.of hcs⟩, _, rfl, c, _, _, rfl, rfl, hcs, ?_, ?_⟩
        · unfold vI
          rw [List.length_map, List.length_map]
          omega
        · refine ⟨_, rfl, cs ++ [i], r.getD i false, _, _, rfl, same_put s1 hc, ?_, ?_, ?_⟩
          · rw [upd_same]
            unfold vI
            rw [List.map_append, List.map_append, Int.zero_add]
            rfl
          · rw [List.append_assoc]
            exact hch
          · rw [List.length_append]
            exact Nat.succ_le_succ hcl
      · have c2 : (r.getD i false != col) = false := by
          cases e : (r.getD i false != col)
          · rfl
          · exact absurd e c1
        rw [chsAux_f c1] at hch
        refine ifF (edec.trans c2) ?_
        exact ⟨cs, col, _, _, rfl, s1, hcs, hch, by omega⟩
  · rintro σ H' ⟨cs, col, v5, v6, rfl, s1, hcs, hch, hcl⟩
    rw [Int.toNat_natCast] at hch hcl
    have e1 : r.drop w = [] := List.drop_eq_nil_of_le (by omega)
    rw [e1] at hch
    have e2 : cs = chs r := by
      rw [← hch]
      exact (List.append_nil cs).symm
    subst e2
    refine ⟨_, rfl, _, rfl, c, (chs r).map (fun (x : Nat) => (x : Int)), w, rfl, hcs, by rw [List.length_map]; omega, fun H2 p s2 hp e => ?_⟩
    refine q H2 p (s1.trans s2) (s1.free hp) ?_
    rw [e]
    unfold chL
    rw [hlen]
end
end Fax

namespace Fax
open PySem PySem.Spec PyProof.Rows L2
open PySem.W (Codec)
open Ql31 (codeOf run vertical alone beside rowAlone rowBeside)
theorem before_le {r : Ql31.Row} {p : Int} {i : Nat} (h : ∀ k, i = k + 1 → (nth r k : Int) ≤ p) (hp : p < r.length) : i ≤ (chs r).length := by
  cases i with
  | zero => exact Nat.zero_le _
  | succ k =>
    by_cases q : (chs r).length ≤ k
    · have h1 := h k rfl
      rw [nth_beyond q] at h1
      omega
    · omega
theorem at_ch {r : Ql31.Row} {j : Nat} (h : j < (chs r).length + 3) : atI (vI (chL r)) (j : Int) = some (V.int (nth r j : Int)) := atI_nat (by
  unfold vI
  rw [List.getElem?_map, chL_get h]
  rfl)
def vS (l : List Str) : List V := l.map V.str
theorem vS_push (l : List Str) (s : Str) : vS l ++ [V.str s] = vS (l ++ [s]) := by
  unfold vS
  rw [List.map_append]
  rfl
theorem vS_len (l : List Str) : (vS l).length = l.length := by
  unfold vS
  rw [List.length_map]
theorem parity (j : Nat) : ((j : Int) % 2) = b2 (j % 2 == 1) := by
  rcases Nat.mod_two_eq_zero_or_one j with h | h
  · have e : (j : Int) % 2 = 0 := by omega
    rw [e, h]
    rfl
  · have e : (j : Int) % 2 = 1 := by omega
    rw [e, h]
    rfl
/-! ### promises -/
def spAlone (K : PySem.W.Frag) : Sp := fun vs H Q _ => ∃ (a : Addr) (r : Ql31.Row), vs = [.ref a, .int (r.length : Int)] ∧ SqL K H a (vI (chL r)) ∧ 1 ≤ r.length ∧ r.length ≤ 16384 ∧
  ∀ (H' : Hp) (p : Addr) (cs : List Str), Same H H' → H p = none → H' p = some (.lst (vS cs)) → allBits cs = rowAlone r → cs.length ≤ r.length + 1 → (allBits cs).length ≤ 125 * (r.length + 1) → Q (.ref p) H'
def spAcross : Sp := fun vs H Q _ => ∃ (d : Bool) (p : Int) (a1 a2 : Nat), vs = [.int (b2 d), .int p, .int (a1 : Int), .int (a2 : Int)] ∧ p ≤ a1 ∧ a1 ≤ a2 ∧ a2 ≤ 16384 ∧
  ∀ s : Str, bits s = Ql31.ACROSS ++ (run d (a1 - (max p 0).toNat) ++ run (!d) (a2 - a1)) → Q (.str s) H
def spBeside (K : PySem.W.Frag) : Sp := fun vs H Q _ => ∃ (a b : Addr) (above r : Ql31.Row), vs = [.ref a, .ref b, .int (r.length : Int)] ∧ SqL K H a (vI (chL above)) ∧ SqL K H b (vI (chL r)) ∧ above.length = r.length ∧ 1 ≤ r.length ∧ r.length ≤ 16384 ∧
  ∀ (H' : Hp) (p : Addr) (cs : List Str), Same H H' → H p = none → H' p = some (.lst (vS cs)) → allBits cs = rowBeside above r → cs.length ≤ r.length + 1 → (allBits cs).length ≤ 125 * (r.length + 1) → Q (.ref p) H'
section
variable {P : Program} {w : World} {K : PySem.W.Frag} {mg : Str → Option Value} {base : Heap}
theorem scFirst : FnScope ["changes", "index", "place"] ["changes", "index", "place"] (defScope sFirst) := ⟨rfl, rfl, rfl, by decide +kernel, rfl, by decide +kernel, by decide +kernel⟩
theorem has_first (S : Stands K mg "first_behind" sFirst ["changes", "index", "place"]) : Has P w K mg base "first_behind" 1 ["changes", "index", "place"] (spFirst K) := by
  refine S.has fun f fd F => ?_
  refine F.ok scFirst (fun vs H Q E h => by obtain ⟨a, r, i, p, rfl, _⟩ := h; rfl) (fun cdv A outer s H vs Q E hr h => ⟨_,
    pss_cons (ps_while PassesOwn.never (pt_cmpR op_le (pe_ix ix_list (pv 0) (pv 1) (fun _ _ => rfl)) (pv 2) (nomark _)) (pss_one (ps_aug (i := 1) scFirst.nd rfl (.inl rfl) pe_int ip_add)))
    (pss_one (ps_ret (pv 1))), ?_⟩)
  obtain ⟨a, r, i, p, rfl, hS, h1, h2, h3, q⟩ := h
  refine ⟨fun m σ H' => ∃ i : Nat, σ = [some (.ref a), some (.int (i : Int)), some (.int p)] ∧ H' = H ∧ (∀ k, i = k + 1 → (nth r k : Int) ≤ p) ∧ m = (chs r).length + 1 - i, ⟨_, i, rfl, rfl, h3, rfl⟩, ?_⟩
  rintro m σ H' ⟨i, rfl, rfl, hb, rfl⟩
  have hi := before_le hb h2
  refine ⟨_, rfl, _, rfl, a, _, _, _, rfl, rfl, hS, at_ch (by omega), _, rfl, _, _, rfl, rfl, _, rfl, ?_⟩
  by_cases c : (nth r i : Int) ≤ p
  · refine ifT (decide_eq_true c) ?_
    refine ⟨fun σ H2 => ∃ i' : Nat, i' = i + 1 ∧ σ = [some (.ref a), some (.int (i' : Int)), some (.int p)] ∧ H2 = H', ?_, ?_⟩
    · rintro σ H2 ⟨i', rfl, rfl, rfl⟩
      exact ⟨(chs r).length + 1 - (i + 1), by omega, i + 1, rfl, rfl, fun k hk => by
        have : k = i := by omega
        subst this
        exact c, rfl⟩
    · exact ⟨_, rfl, _, _, rfl, rfl, i + 1, rfl, rfl, rfl⟩
  · refine ifF (decide_eq_false c) ?_
    exact ⟨_, rfl, q i ⟨h1, h2, hb, by omega⟩⟩
theorem scAlone : FnScope ["here", "width", "codes", "place", "index"] ["here", "width"] (defScope sAlone) := ⟨rfl, rfl, rfl, by decide +kernel, rfl, by decide +kernel, by decide +kernel⟩
theorem has_alone (S : Stands K mg "codes_alone" sAlone ["here", "width"]) (hR : Has P w K mg base "run_code" 2 ["colour", "length"] spRun) : Has P w K mg base "codes_alone" 3 ["here", "width"] (spAlone K) := by
  refine S.has fun f fd F => ?_
  obtain ⟨fr, fdr, gr, kpr, br, GR⟩ := hR
  refine F.ok scAlone (fun vs H Q E h => by obtain ⟨a, r, rfl, _⟩ := h; rfl) (fun cdv A outer s H vs Q E hr h => ⟨_,
    pss_cons (ps_set (i := 2) scAlone.nd rfl (.inl rfl) (pe_lst pa_nil))
    (pss_cons (ps_set (i := 3) scAlone.nd rfl (.inl rfl) pe_int)
    (pss_cons (ps_set (i := 4) scAlone.nd rfl (.inl rfl) pe_int)
    (pss_cons (ps_while PassesOwn.never (pt_cmpR op_lt (pv 3) (pv 1) (nomark _))
      (pss_cons (ps_expr (pe_bm PySem.F.plainAttrs_list PySem.F.slot_list_append PySem.F.type_list_append mt_append (pv 2)
          (pa_cons (pe_call GR hr rfl gr kpr br .nil pass0 (pa_cons (pe_op op_mod (pv 4) pe_int) (pa_cons (pe_op op_sub (pe_ix ix_list (pv 0) (pv 4) (fun _ _ => rfl)) (pv 3)) pa_nil))) pa_nil)))
      (pss_cons (ps_set (i := 3) scAlone.nd rfl (.inl rfl) (pe_ix ix_list (pv 0) (pv 4) (fun _ _ => rfl)))
      (pss_one (ps_aug (i := 4) scAlone.nd rfl (.inl rfl) pe_int ip_add)))))
    (pss_one (ps_ret (pv 2)))))), ?_⟩)
  obtain ⟨a, r, rfl, hS, hw1, hw2, q⟩ := h
  have hz : sizeLine = 16777216 := sizeLine_eq
  refine ⟨Nat.zero_le _, fun c hc => ?_⟩
  let W : Nat → L2.St → Hp → Prop := fun m σ H' => ∃ (cs : List Str) (p j : Nat), σ = [some (.ref a), some (.int (r.length : Int)), some (.ref c), some (.int (p : Int)), some (.int (j : Int))] ∧ Same H H' ∧
      H' c = some (.lst (vS cs)) ∧ cs.length = j ∧ (allBits cs).length ≤ 125 * j ∧ j ≤ p + 1 ∧ p ≤ r.length ∧ m = (r.length - p) + (1 - j) ∧
      (p < r.length → (∀ k, j = k + 1 → nth r k = p) ∧ (j = 0 → p = 0) ∧ ∃ f, m ≤ f ∧ allBits cs ++ alone f (r.drop p) (j % 2 == 1) = rowAlone r) ∧ (p = r.length → allBits cs = rowAlone r)
  refine ⟨W, ⟨_, [], 0, 0, rfl, same_new hc, upd_same, rfl, Nat.zero_le _, Nat.zero_le _, Nat.zero_le _, rfl, fun _ => ⟨fun k hk => by omega, fun _ => rfl, r.length + 1, Nat.le_refl _, rfl⟩, fun e => by omega⟩, ?_⟩
  rintro m σ H' ⟨cs, p, j, rfl, s1, hcs, hl, hbl, hjp, hpw, hm, hrun, hdone⟩
  refine ⟨_, rfl, _, rfl, _, _, rfl, rfl, _, rfl, ?_⟩
  by_cases c1 : p < r.length
  · refine ifT (decide_eq_true (by omega)) ?_
    obtain ⟨hk, h0, f, hf, heq⟩ := hrun c1
    clear hrun hdone
    have hjl : j ≤ (chs r).length := before_le (p := (p : Int)) (fun k e => by rw [hk k e]; exact Int.le_refl _) (by omega)
    obtain ⟨f', rfl⟩ : ∃ f', f = f' + 1 := ⟨f - 1, by omega⟩
    obtain ⟨hle, hstep⟩ := alone_step (f := f') c1 hk h0
    rw [hstep] at heq
    have hnw := nth_le r j
    have hlt : p < nth r j ∨ j = 0 := by
      by_cases hj : j = 0
      · exact .inr hj
      · obtain ⟨k, rfl⟩ : ∃ k, j = k + 1 := ⟨j - 1, by omega⟩
        have e := hk k rfl
        have := nth_lt (r := r) (j := k) (by omega)
        exact .inl (by omega)
    refine ⟨fun σ H2 => ∃ m', m' < m ∧ W m' σ H2, fun σ' H2 h => h, ?_⟩
    refine ⟨_, rfl, .inl ⟨rfl, _, SqL.of hcs⟩, _, rfl, _, _, rfl, rfl, (by decide : (0 : Int) < 2), _, rfl, _, rfl, a, _, _, _, rfl, rfl, s1.seq hS, at_ch (by omega), _, rfl, _, _, rfl, rfl, ?_⟩
    refine ⟨(j % 2 == 1), nth r j - p, ?_, by omega, fun z hzb => ?_⟩
    · have e1 : (nth r j : Int) - (p : Int) = ((nth r j - p : Nat) : Int) := by omega
      show [V.int ((j : Int) % 2), V.int ((nth r j : Int) - (p : Int))] = _
      rw [e1, parity]
    · have hzl : z.length ≤ 125 := by
        rw [← bits_len, hzb]
        have := run_len (j % 2 == 1) (nth r j - p)
        omega
      refine ⟨c, _, _, rfl, rfl, hcs, by rw [vS_len]; omega, ?_⟩
      have s2 : Same H (upd H' c (.lst (vS cs ++ [V.str z]))) := same_put s1 hc
      refine ⟨_, rfl, _, rfl, a, _, _, _, rfl, rfl, s2.seq hS, at_ch (by omega), ?_⟩
      refine ⟨_, rfl, _, _, rfl, rfl, ?_⟩
      refine ⟨(r.length - nth r j) + (1 - (j + 1)), ?_, cs ++ [z], nth r j, j + 1, rfl, s2, by rw [upd_same, vS_push], by rw [List.length_append, hl]; rfl, ?_, ?_, hnw, rfl, fun hlt2 => ⟨fun k hk2 => ?_, fun e => by omega, f', ?_, ?_⟩, fun e => ?_⟩
      · omega
      · rw [allBits_push, List.length_append, bits_len]
        omega
      · omega
      · have : k = j := by omega
        rw [this]
      · omega
      · rw [allBits_push, hzb, List.append_assoc, ← heq, if_neg (by omega)]
      · rw [allBits_push, hzb, ← heq, if_pos e, List.append_nil]
  · refine ifF (decide_eq_false (by omega)) ?_
    have hp : p = r.length := by omega
    have hd := hdone hp
    exact ⟨_, rfl, q H' c cs s1 hc hcs hd (by omega) (by omega)⟩
theorem scAcross : FnScope ["colour", "place", "change", "change_after", "first_run"] ["colour", "place", "change", "change_after"] (defScope sAcross) := ⟨rfl, rfl, rfl, by decide +kernel, rfl, by decide +kernel, by decide +kernel⟩
theorem has_across (S : Stands K mg "across_code" sAcross ["colour", "place", "change", "change_after"]) (T : Txts K mg) (hR : Has P w K mg base "run_code" 2 ["colour", "length"] spRun) :
    Has P w K mg base "across_code" 3 ["colour", "place", "change", "change_after"] spAcross := by
  refine S.has fun f fd F => ?_
  obtain ⟨fr, fdr, gr, kpr, br, GR⟩ := hR
  obtain ⟨t0, g0⟩ := T.across
  refine F.ok scAcross (fun vs H Q E h => by obtain ⟨d, p, a1, a2, rfl, _⟩ := h; rfl) (fun cdv A outer s H vs Q E hr h => ⟨_,
    pss_cons (ps_set (i := 4) scAcross.nd rfl (.inl rfl) (pe_op op_sub (pv 2) (pe_callB (call_max2 rfl) (by rfl) T.max (by decide +kernel) (pa_cons (pv 1) (pa_cons pe_int pa_nil)))))
    (pss_one (ps_ret (pe_op op_add_str (pe_op op_add_str (pe_cstr g0) (pe_call GR hr rfl gr kpr br .nil pass0 (pa_cons (pv 0) (pa_cons (pv 4) pa_nil))))
      (pe_call GR hr rfl gr kpr br .nil pass0 (pa_cons (pe_op op_sub pe_int (pv 0)) (pa_cons (pe_op op_sub (pv 3) (pv 2)) pa_nil)))))), ?_⟩)
  obtain ⟨d, p, a1, a2, rfl, h1, h2, h3, q⟩ := h
  have hz : sizeLine = 16777216 := sizeLine_eq
  have em : (if (0 : Int) > p then 0 else p) = max p 0 := by
    by_cases c : (0 : Int) > p
    · rw [if_pos c]
      omega
    · rw [if_neg c]
      omega
  refine ⟨_, rfl, _, rfl, p, 0, rfl, _, _, rfl, rfl, ?_⟩
  dsimp only
  rw [em]
  have e1 : (a1 : Int) - max p 0 = ((a1 - (max p 0).toNat : Nat) : Int) := by omega
  rw [e1]
  refine ⟨_, rfl, _, rfl, d, a1 - (max p 0).toNat, rfl, by omega, fun z1 hz1 => ?_⟩
  have hl1 : z1.length ≤ 125 := by
    rw [← bits_len, hz1]
    have := run_len d (a1 - (max p 0).toNat)
    omega
  have hla : (("001" : Str)).length = 3 := by decide +kernel
  refine ⟨_, _, rfl, rfl, by omega, ?_⟩
  refine ⟨_, rfl, _, _, rfl, rfl, _, rfl, _, rfl, _, _, rfl, rfl, !d, a2 - a1, ?_, by omega, fun z2 hz2 => ?_⟩
  · have e2 : (a2 : Int) - (a1 : Int) = ((a2 - a1 : Nat) : Int) := by omega
    have e3 : (1 : Int) - b2 d = b2 (!d) := by cases d <;> rfl
    show [V.int (1 - b2 d), V.int ((a2 : Int) - (a1 : Int))] = _
    rw [e2, e3]
  · have hl2 : z2.length ≤ 125 := by
      rw [← bits_len, hz2]
      have := run_len (!d) (a2 - a1)
      omega
    refine ⟨_, _, rfl, rfl, ?_, q _ ?_⟩
    · rw [← bits_len, bits_app, List.length_append, bits_len, bits_len]
      omega
    · rw [bits_app, bits_app, hz1, hz2, across_bits, List.append_assoc]
end
end Fax

namespace Fax
open PySem PySem.Spec PyProof.Rows L2
open PySem.W (Codec)
open Ql31 (codeOf run vertical alone beside rowAlone rowBeside)
abbrev nAbove : List Str := ["above", "here", "width", "codes", "place", "index", "index_above", "colour", "opposite", "b1", "b2", "a1"]
/-- the loop's word -/
def WA (H : Hp) (aa ah c : Addr) (above r : Ql31.Row) (m : Nat) (σ : L2.St) (H' : Hp) : Prop :=
  ∃ (cs : List Str) (a : Int) (j ja : Nat) (v7 v8 v9 v10 v11 : Option V),
    σ = [some (.ref aa), some (.ref ah), some (.int (r.length : Int)), some (.ref c), some (.int a), some (.int (j : Int)), some (.int (ja : Int)), v7, v8, v9, v10, v11] ∧ Same H H' ∧
    H' c = some (.lst (vS cs)) ∧ (cs.length : Int) ≤ a + 1 ∧ (allBits cs).length ≤ 125 * cs.length ∧ -1 ≤ a ∧ a ≤ r.length ∧ m = ((r.length : Int) - a).toNat ∧ (∀ k, ja = k + 1 → (nth above k : Int) ≤ a) ∧
    (a < r.length → Seg r a j ∧ ∃ f, m ≤ f ∧ allBits cs ++ beside above r f a (j % 2 == 1) = rowBeside above r) ∧ (a = r.length → allBits cs = rowBeside above r)
def spOpposite : Sp := fun vs H Q _ => ∃ i c : Int, vs = [.int i, .int c] ∧ Q (.int (i + (i + c) % 2)) H
section
variable {P : Program} {w : World} {K : PySem.W.Frag} {mg : Str → Option Value} {base : Heap}
theorem scOpposite : FnScope ["index", "colour"] ["index", "colour"] (defScope sOpposite) := ⟨rfl, rfl, rfl, by decide +kernel, rfl, by decide +kernel, by decide +kernel⟩
theorem has_opposite (S : Stands K mg "opposite_from" sOpposite ["index", "colour"]) : Has P w K mg base "opposite_from" 1 ["index", "colour"] spOpposite := by
  refine S.has fun f fd F => ?_
  refine F.ok scOpposite (fun vs H Q E h => by obtain ⟨i, c, rfl, _⟩ := h; rfl) (fun cdv A outer s H vs Q E hr h => ⟨_,
    pss_one (ps_ret (pe_op op_add (pv 0) (pe_op op_mod (pe_op op_add (pv 0) (pv 1)) pe_int))), ?_⟩)
  obtain ⟨i, c, rfl, q⟩ := h
  exact ⟨_, rfl, _, rfl, _, rfl, _, _, rfl, rfl, _, _, rfl, rfl, (by decide : (0 : Int) < 2), _, _, rfl, rfl, q⟩
theorem scAbove : FnScope nAbove ["above", "here", "width"] (defScope sAbove) := ⟨rfl, rfl, rfl, by decide +kernel, rfl, by decide +kernel, by decide +kernel⟩
theorem abs_is (x : Int) : decide ((if x < 0 then -x else x) ≤ 3) = decide (-3 ≤ x ∧ x ≤ 3) := by
  by_cases c : x < 0
  · rw [if_pos c]
    by_cases d : -x ≤ 3
    · rw [decide_eq_true d, decide_eq_true ⟨by omega, by omega⟩]
    · rw [decide_eq_false d, decide_eq_false (by omega)]
  · rw [if_neg c]
    by_cases d : x ≤ 3
    · rw [decide_eq_true d, decide_eq_true ⟨by omega, by omega⟩]
    · rw [decide_eq_false d, decide_eq_false (by omega)]
theorem has_above (S : Stands K mg "codes_by_above" sAbove ["above", "here", "width"]) (T : Txts K mg) (hF : Has P w K mg base "first_behind" 1 ["changes", "index", "place"] (spFirst K)) (hO : Has P w K mg base "opposite_from" 1 ["index", "colour"] spOpposite)
    (hSt : Has P w K mg base "straight_code" 1 ["shift"] spStraight) (hA : Has P w K mg base "across_code" 3 ["colour", "place", "change", "change_after"] spAcross) :
    Has P w K mg base "codes_by_above" 4 ["above", "here", "width"] (spBeside K) := by
  refine S.has fun f fd F => ?_
  obtain ⟨ff, fdf, gf, kpf, bf, GF⟩ := hF
  obtain ⟨fo, fdo, go, kpo, bo, GO⟩ := hO
  obtain ⟨fs, fds, gs, kps, bs, GS⟩ := hSt
  obtain ⟨fa, fda, ga, kpa, ba, GA⟩ := hA
  obtain ⟨tp, gp⟩ := T.pass
  obtain ⟨tr, gr⟩ := T.reach
  refine F.ok scAbove (fun vs H Q E h => by obtain ⟨a, b, above, r, rfl, _⟩ := h; rfl) (fun cdv A outer s H vs Q E hr h => ⟨_,
    have hr1 : Room 1 _ := hr.mono (by decide)
    pss_cons (ps_set (i := 3) scAbove.nd rfl (.inl rfl) (pe_lst pa_nil))
    (pss_cons (ps_set (i := 4) scAbove.nd rfl (.inl rfl) (pe_un un_neg pe_int))
    (pss_cons (ps_set (i := 5) scAbove.nd rfl (.inl rfl) pe_int)
    (pss_cons (ps_set (i := 6) scAbove.nd rfl (.inl rfl) pe_int)
    (pss_cons (ps_while PassesOwn.never (pt_cmpR op_lt (pv 4) (pv 2) (nomark _))
      (pss_cons (ps_set (i := 7) scAbove.nd rfl (.inl rfl) (pe_op op_mod (pv 5) pe_int))
      (pss_cons (ps_set (i := 6) scAbove.nd rfl (.inl rfl) (pe_call GF hr1 rfl gf kpf bf .nil pass0 (pa_cons (pv 0) (pa_cons (pv 6) (pa_cons (pv 4) pa_nil)))))
      (pss_cons (ps_set (i := 8) scAbove.nd rfl (.inl rfl) (pe_call GO hr1 rfl go kpo bo .nil pass0 (pa_cons (pv 6) (pa_cons (pv 7) pa_nil))))
      (pss_cons (ps_set (i := 9) scAbove.nd rfl (.inl rfl) (pe_ix ix_list (pv 0) (pv 8) (fun _ _ => rfl)))
      (pss_cons (ps_set (i := 10) scAbove.nd rfl (.inl rfl) (pe_ix ix_list (pv 0) (pe_op op_add (pv 8) pe_int) (fun _ _ => rfl)))
      (pss_cons (ps_set (i := 11) scAbove.nd rfl (.inl rfl) (pe_ix ix_list (pv 1) (pv 5) (fun _ _ => rfl)))
      (pss_one (ps_if (pt_cmpR op_lt (pv 10) (pv 11) (nomark _))
        (pss_cons (ps_expr (pe_bm PySem.F.plainAttrs_list PySem.F.slot_list_append PySem.F.type_list_append mt_append (pv 3) (pa_cons (pe_cstr gp) pa_nil)))
        (pss_one (ps_set (i := 4) scAbove.nd rfl (.inl rfl) (pv 10))))
        (pss_one (ps_if (pt_cmpR op_le (pe_callB call_abs (by rfl) T.abs (by decide +kernel) (pa_cons (pe_op op_sub (pv 11) (pv 9)) pa_nil)) (pe_cint gr) (nomark _))
          (pss_cons (ps_expr (pe_bm PySem.F.plainAttrs_list PySem.F.slot_list_append PySem.F.type_list_append mt_append (pv 3) (pa_cons (pe_call GS hr1 rfl gs kps bs .nil pass0 (pa_cons (pe_op op_sub (pv 11) (pv 9)) pa_nil)) pa_nil)))
          (pss_cons (ps_set (i := 4) scAbove.nd rfl (.inl rfl) (pv 11))
          (pss_one (ps_aug (i := 5) scAbove.nd rfl (.inl rfl) pe_int ip_add))))
          (pss_cons (ps_expr (pe_bm PySem.F.plainAttrs_list PySem.F.slot_list_append PySem.F.type_list_append mt_append (pv 3)
              (pa_cons (pe_call GA hr rfl ga kpa ba .nil pass0 (pa_cons (pv 7) (pa_cons (pv 4) (pa_cons (pv 11) (pa_cons (pe_ix ix_list (pv 1) (pe_op op_add (pv 5) pe_int) (fun _ _ => rfl)) pa_nil))))) pa_nil)))
          (pss_cons (ps_set (i := 4) scAbove.nd rfl (.inl rfl) (pe_ix ix_list (pv 1) (pe_op op_add (pv 5) pe_int) (fun _ _ => rfl)))
          (pss_one (ps_aug (i := 5) scAbove.nd rfl (.inl rfl) pe_int ip_add)))))))))))))))
    (pss_one (ps_ret (pv 3))))))), ?_⟩)
  obtain ⟨aa, ah, above, r, rfl, hSa, hSh, hlen, hw1, hw2, q⟩ := h
  have hz : sizeLine = 16777216 := sizeLine_eq
  refine ⟨Nat.zero_le _, fun c hc => ?_⟩
  refine ⟨_, rfl, ?_⟩
  refine ⟨WA H aa ah c above r, ⟨_, [], -1, 0, 0, none, none, none, none, none, rfl, same_new hc, upd_same, by decide, Nat.zero_le _, Int.le_refl _, by omega, rfl, fun k hk => by omega,
    fun _ => ⟨⟨Int.le_refl _, by omega, fun k hk => by omega, by omega⟩, r.length + 2, by omega, rfl⟩, fun e => by omega⟩, ?_⟩
  rintro m σ H' ⟨cs, a, j, ja, v7, v8, v9, v10, v11, rfl, s1, hcs, hl, hbl, ha1, ha2, hm, hja, hrun, hdone⟩
  refine ⟨_, rfl, _, rfl, _, _, rfl, rfl, _, rfl, ?_⟩
  by_cases c1 : a < r.length
  · refine ifT (decide_eq_true c1) ?_
    obtain ⟨sr, f, hf, heq⟩ := hrun c1
    clear hrun hdone
    obtain ⟨f', rfl⟩ : ∃ f', f = f' + 1 := ⟨f - 1, by omega⟩
    refine ⟨fun σ H2 => ∃ m', m' < m ∧ WA H aa ah c above r m' σ H2, fun σ' H2 h => h, ?_⟩
    -- colour = index % 2
    refine ⟨_, rfl, _, _, rfl, rfl, (by decide : (0 : Int) < 2), ?_⟩
    -- index_above = first_behind(above, index_above, place)
    refine ⟨_, rfl, _, rfl, _, rfl, aa, above, ja, a, rfl, s1.seq hSa, ha1, by omega, hja, fun jb sa => ?_⟩
    have hjb := seg_le sa
    have hjr := seg_le sr
    -- opposite
    refine ⟨_, rfl, _, rfl, _, _, rfl, ?_⟩
    obtain ⟨o, ho, hop, hoe⟩ : ∃ o : Nat, (o = jb ∨ o = jb + 1) ∧ o % 2 = j % 2 ∧ (jb : Int) + ((jb : Int) + (j : Int) % 2) % 2 = (o : Int) := by
      by_cases e : (jb + j) % 2 = 0
      · exact ⟨jb, .inl rfl, by omega, by omega⟩
      · exact ⟨jb + 1, .inr rfl, by omega, by omega⟩
    dsimp only
    rw [hoe]
    have hol : o + 1 < (chs above).length + 3 := by omega
    refine ⟨_, rfl, _, rfl, aa, _, _, _, rfl, rfl, s1.seq hSa, at_ch (by omega), ?_⟩
    refine ⟨_, rfl, _, rfl, _, _, rfl, rfl, aa, _, _, _, rfl, rfl, s1.seq hSa, (by
      have e := at_ch (r := above) (j := o + 1) hol
      exact e), ?_⟩
    refine ⟨_, rfl, _, rfl, ah, _, _, _, rfl, rfl, s1.seq hSh, at_ch (by omega), ?_⟩
    have hstep := beside_step (f := f') sa sr ho hop
    rw [hstep] at heq
    have hb1 : (nth above jb : Int) ≤ nth above o := by
      rcases ho with e | e
      · rw [e]
        exact Int.le_refl _
      · rw [e]
        have := nth_mono above jb
        omega
    have hb2 : nth above o ≤ nth above (o + 1) := nth_mono above o
    have hbh := sa.behind
    have hrh := sr.behind
    have hrw := nth_le r j
    refine ⟨_, rfl, _, rfl, _, _, rfl, rfl, _, rfl, ?_⟩
    have hcl : (vS cs).length < sizeLine := by
      rw [vS_len]
      omega
    by_cases c2 : nth above (o + 1) < nth r j
    · -- passed over
      rw [if_pos c2] at heq
      refine ifT (decide_eq_true (by omega)) ?_
      refine ⟨_, rfl, .inl ⟨rfl, _, SqL.of hcs⟩, c, _, _, rfl, rfl, hcs, hcl, ?_⟩
      refine ⟨_, rfl, ((r.length : Int) - (nth above (o + 1) : Int)).toNat, by omega, cs ++ [("0001" : Str)], (nth above (o + 1) : Int), j, jb, _, _, _, _, _, rfl, same_put s1 hc, by rw [upd_same, vS_push], ?_, ?_, by omega, by omega, rfl, fun k hk => ?_, fun _ => ⟨seg_mono sr (by omega) (by omega), f', by omega, ?_⟩, fun e => by omega⟩
      · rw [List.length_append]
        show ((cs.length + 1 : Nat) : Int) ≤ _
        omega
      · have hla : (("0001" : Str)).length = 4 := by decide +kernel
        rw [allBits_push, List.length_append, bits_len, List.length_append, List.length_singleton]
        omega
      · have := sa.before k hk
        omega
      · rw [allBits_push, pass_bits, List.append_assoc]
        exact heq
    · rw [if_neg c2] at heq
      refine ifF (decide_eq_false (by omega)) ?_
      refine ⟨_, rfl, _, rfl, _, _, rfl, rfl, _, rfl, _, _, rfl, rfl, _, rfl, ?_⟩
      by_cases c3 : -3 ≤ (nth r j : Int) - (nth above o : Int) ∧ (nth r j : Int) - (nth above o : Int) ≤ 3
      · -- straight
        rw [if_pos c3] at heq
        refine ifT ((abs_is _).trans (decide_eq_true c3)) ?_
        refine ⟨_, rfl, .inl ⟨rfl, _, SqL.of hcs⟩, _, rfl, _, rfl, _, _, rfl, rfl, _, rfl, c3.1, c3.2, fun z hzb hzl => ?_⟩
        refine ⟨c, _, _, rfl, rfl, hcs, hcl, ?_⟩
        refine ⟨_, rfl, _, rfl, _, _, rfl, rfl, ((r.length : Int) - (nth r j : Int)).toNat, by omega, cs ++ [z], (nth r j : Int), j + 1, jb, _, _, _, _, _, rfl, same_put s1 hc, by rw [upd_same, vS_push], ?_, ?_, by omega, by omega, rfl, fun k hk => ?_, fun hlt => ⟨seg_next (by omega), f', by omega, ?_⟩, fun e => ?_⟩
        · rw [List.length_append]
          show ((cs.length + 1 : Nat) : Int) ≤ _
          omega
        · rw [allBits_push, List.length_append, bits_len, List.length_append, List.length_singleton]
          omega
        · have := sa.before k hk
          omega
        · rw [allBits_push, hzb, List.append_assoc]
          exact heq
        · rw [allBits_push, hzb, ← heq, beside_end (by omega), List.append_nil]
      · -- across
        rw [if_neg c3] at heq
        refine ifF ((abs_is _).trans (decide_eq_false c3)) ?_
        have hn2 : nth r j ≤ nth r (j + 1) := nth_mono r j
        have hn3 := nth_le r (j + 1)
        have hgt : a + 1 ≤ nth r (j + 1) := by omega
        refine ⟨_, rfl, .inl ⟨rfl, _, SqL.of hcs⟩, _, rfl, _, rfl, _, rfl, _, rfl, _, rfl, _, _, rfl, rfl, ah, _, _, _, rfl, rfl, s1.seq hSh, (by
          have e := at_ch (r := r) (j := j + 1) (by omega)
          exact e), (j % 2 == 1), a, nth r j, nth r (j + 1), ?_, by omega, hn2, by omega, fun z hzb => ?_⟩
        · show [V.int ((j : Int) % 2), _, _, _] = _
          rw [parity]
        · have hzl : z.length ≤ 125 := by
            rw [← bits_len, hzb, List.length_append, List.length_append]
            have e1 := run_len (j % 2 == 1) (nth r j - (max a 0).toNat)
            have e2 := run_len (!(j % 2 == 1)) (nth r (j + 1) - nth r j)
            have e3 : Ql31.ACROSS.length = 3 := by decide +kernel
            omega
          refine ⟨c, _, _, rfl, rfl, hcs, hcl, ?_⟩
          refine ⟨_, rfl, _, rfl, _, _, rfl, rfl, ah, _, _, _, rfl, rfl, (same_put s1 hc).seq hSh, (by
            have e := at_ch (r := r) (j := j + 1) (by omega)
            exact e), ?_⟩
          refine ⟨_, rfl, _, _, rfl, rfl, ((r.length : Int) - (nth r (j + 1) : Int)).toNat, by omega, cs ++ [z], (nth r (j + 1) : Int), j + 2, jb, _, _, _, _, _, rfl, same_put s1 hc, by rw [upd_same, vS_push], ?_, ?_, by omega, by omega, rfl, fun k hk => ?_, fun hlt => ⟨seg_skip (by omega), f', by omega, ?_⟩, fun e => ?_⟩
          · rw [List.length_append]
            show ((cs.length + 1 : Nat) : Int) ≤ _
            omega
          · rw [allBits_push, List.length_append, bits_len, List.length_append, List.length_singleton]
            omega
          · have := sa.before k hk
            omega
          · have e2 : ((j + 2) % 2 == 1) = (j % 2 == 1) := by rw [Nat.add_mod_right]
            rw [allBits_push, hzb, e2, ← odd_succ, List.append_assoc, List.append_assoc, List.append_assoc]
            exact heq
          · rw [allBits_push, hzb, ← heq, beside_end (by omega), List.append_nil, odd_succ]
  · refine ifF (decide_eq_false c1) ?_
    have hp : a = r.length := by omega
    have hd := hdone hp
    exact ⟨_, rfl, q H' c cs s1 hc hcs hd (by omega) (by omega)⟩
end
end Fax

namespace Fax
open PySem PySem.Spec PyProof.Rows L2
open PySem.W (Codec)
open Ql31 (codeOf run vertical alone beside rowAlone rowBeside)
/-- over a text -/
theorem for_str {x : Str} {g : TG} {tb : TS} {D : Ends} {σ : L2.St} {H : Hp} (Pv : Nat → L2.St → Hp → Prop) (h0 : Pv 0 σ H)
    (hs : ∀ i c σ H, x.cps[i]? = some c → Pv i σ H → g (.str ⟨#[c]⟩) σ H fun σ2 H2 => tb { D with nx := Pv (i + 1), ct := Pv (i + 1), bk := D.nx } σ2 H2) (hd : ∀ σ H, Pv x.cps.size σ H → D.nx σ H) :
    ∃ W : Nat → Nat → L2.St → Hp → Prop, (∃ m, W 0 m σ H) ∧ ∀ i m σ H, W i m σ H →
      ((Its x).stop i H ∧ D.nx σ H) ∨ ((Its x).go i H ∧ ∃ N : L2.St → Hp → Prop, (∀ σ' H', N σ' H' → ∃ m', m' < m ∧ W (i + 1) m' σ' H') ∧ ∀ v H', (Its x).yld i H v H' → g v σ H' fun σ2 H2 => tb { D with nx := N, ct := N, bk := D.nx } σ2 H2) := by
  refine ⟨fun i m σ H => m = x.cps.size - i ∧ i ≤ x.cps.size ∧ Pv i σ H, ⟨x.cps.size, by simp, Nat.zero_le _, h0⟩, ?_⟩
  rintro i m σ H ⟨rfl, hi, p⟩
  by_cases hlt : i < x.cps.size
  · refine .inr ⟨hlt, Pv (i + 1), fun σ' H' p' => ⟨x.cps.size - (i + 1), by omega, rfl, hlt, p'⟩, fun v H' y => ?_⟩
    obtain ⟨e, c, hc, e2⟩ := y
    subst e e2
    exact hs i c σ _ hc p
  · have e : i = x.cps.size := by omega
    subst e
    exact .inl ⟨Nat.le_refl _, hd σ H p⟩
def vB (l : List UInt8) : List V := l.map fun b => V.int (b.toNat : Int)
theorem vB_push (l : List UInt8) (b : UInt8) : vB l ++ [V.int (b.toNat : Int)] = vB (l ++ [b]) := by
  unfold vB
  rw [List.map_append]
  rfl
theorem vB_len (l : List UInt8) : (vB l).length = l.length := by
  unfold vB
  rw [List.length_map]
theorem u8_of {n : Nat} (h : n < 256) : (((UInt8.ofNat n).toNat : Nat) : Int) = (n : Int) := by
  rw [UInt8.toNat_ofNat', Nat.mod_eq_of_lt h]
theorem allBits_take_le (cs : List Str) (n : Nat) : (allBits (cs.take n)).length ≤ (allBits cs).length := by
  have e : allBits cs = allBits (cs.take n) ++ allBits (cs.drop n) := by rw [← allBits_app, List.take_append_drop]
  rw [e, List.length_append]
  omega
theorem take_one {α : Type} {l : List α} {i : Nat} {x : α} (h : l[i]? = some x) : l.take (i + 1) = l.take i ++ [x] := by
  obtain ⟨h1, h2⟩ := List.getElem?_eq_some_iff.mp h
  rw [List.take_succ_eq_append_getElem h1, h2]
theorem ite_app {c : Bool} {A : Int → Prop} (h : A (if c = true then 1 else 0)) : if c = true then A 1 else A 0 := by
  cases c <;> exact h
/-! ### promises -/
def spOpening : Sp := fun vs H Q _ => ∃ (kind : Nat) (al : Bool), vs = [.int (kind : Int), .bl al] ∧ ∀ s : Str, bits s = opening kind al → s.length ≤ 13 → Q (.str s) H
def spEnd : Sp := fun vs H Q _ => ∃ (kind : Nat), vs = [.int (kind : Int)] ∧ ∀ s : Str, bits s = pend kind → s.length ≤ 100 → Q (.str s) H
def spPacked (K : PySem.W.Frag) : Sp := fun vs H Q _ => ∃ (a : Addr) (cs : List Str), vs = [.ref a] ∧ SqL K H a (vS cs) ∧ (allBits cs).length < 134217728 ∧
  ∀ (H' : Hp) (p : Addr), Same H H' → H p = none → H' p = some (.lst (vB (packAll (allBits cs)))) → Q (.ref p) H'
section
variable {P : Program} {w : World} {K : PySem.W.Frag} {mg : Str → Option Value} {base : Heap}
theorem dec_nat {a b : Nat} : decide (V.int (a : Int) = V.int (b : Int)) = decide (a = b) := by
  by_cases h : a = b
  · rw [decide_eq_true h, h]
    exact decide_eq_true rfl
  · rw [decide_eq_false h]
    exact decide_eq_false fun e => h (by
      have := V.int.inj e
      omega)
theorem scOpening : FnScope ["kind", "alone"] ["kind", "alone"] (defScope sOpening) := ⟨rfl, rfl, rfl, by decide +kernel, rfl, by decide +kernel, by decide +kernel⟩
theorem has_opening (S : Stands K mg "row_opening" sOpening ["kind", "alone"]) (T : Txts K mg) : Has P w K mg base "row_opening" 1 ["kind", "alone"] spOpening := by
  refine S.has fun f fd F => ?_
  obtain ⟨t1, g1⟩ := T.kAbove
  obtain ⟨t2, g2⟩ := T.kAlone
  obtain ⟨t3, g3⟩ := T.eol
  refine F.ok scOpening (fun vs H Q E h => by obtain ⟨k, al, rfl, _⟩ := h; rfl) (fun cdv A outer s H vs Q E hr h => ⟨_,
    pss_cons (ps_if (pt_cmpR op_eq (pv 0) (pe_cint g1) (nomark _)) (pss_one (ps_ret pe_str)) pss_nil)
    (pss_cons (ps_if (pt_cmpR op_eq (pv 0) (pe_cint g2) (nomark _)) (pss_one (ps_ret (pe_cstr g3))) pss_nil)
    (pss_one (ps_ret (pe_op op_add_str (pe_cstr g3) (pe_ifExp (pt_val (pv 1)) pe_str pe_str))))), ?_⟩)
  obtain ⟨k, al, rfl, q⟩ := h
  have hz : sizeLine = 16777216 := sizeLine_eq
  refine ⟨_, rfl, rfl, _, rfl, ?_⟩
  by_cases c1 : k = 2
  · refine ifT ((dec_nat (b := 2)).trans (decide_eq_true c1)) ?_
    refine q _ ?_ (by decide +kernel)
    unfold opening
    rw [if_pos c1]
    decide +kernel
  · refine ifF ((dec_nat (b := 2)).trans (decide_eq_false c1)) ?_
    refine ⟨_, rfl, rfl, _, rfl, ?_⟩
    by_cases c2 : k = 0
    · refine ifT ((dec_nat (b := 0)).trans (decide_eq_true c2)) ?_
      refine q _ ?_ (by decide +kernel)
      unfold opening
      rw [if_neg c1, if_pos c2]
      exact eol_bits
    · refine ifF ((dec_nat (b := 0)).trans (decide_eq_false c2)) ?_
      refine ⟨_, rfl, _, rfl, ?_⟩
      have hl0 := zEol_len
      cases al with
      | true =>
        refine ifT rfl ?_
        have hl1 : ("1" : Str).length = 1 := by decide +kernel
        refine ⟨zEol, "1", rfl, rfl, by omega, q _ ?_ ?_⟩
        · unfold opening
          rw [if_neg c1, if_neg c2, bits_app, eol_bits]
          rfl
        · rw [← bits_len, bits_app, List.length_append, bits_len, bits_len]
          omega
      | false =>
        refine ifF rfl ?_
        have hl1 : ("0" : Str).length = 1 := by decide +kernel
        refine ⟨zEol, "0", rfl, rfl, by omega, q _ ?_ ?_⟩
        · unfold opening
          rw [if_neg c1, if_neg c2, bits_app, eol_bits]
          rfl
        · rw [← bits_len, bits_app, List.length_append, bits_len, bits_len]
          omega
theorem scEnd : FnScope ["kind"] ["kind"] (defScope sEnd) := ⟨rfl, rfl, rfl, by decide +kernel, rfl, by decide +kernel, by decide +kernel⟩
theorem has_end (S : Stands K mg "page_end" sEnd ["kind"]) (T : Txts K mg) (hO : Has P w K mg base "row_opening" 1 ["kind", "alone"] spOpening) : Has P w K mg base "page_end" 2 ["kind"] spEnd := by
  refine S.has fun f fd F => ?_
  obtain ⟨t1, g1⟩ := T.kAbove
  obtain ⟨t3, g3⟩ := T.eol
  obtain ⟨fo, fdo, go, kpo, bo, GO⟩ := hO
  refine F.ok scEnd (fun vs H Q E h => by obtain ⟨k, rfl, _⟩ := h; rfl) (fun cdv A outer s H vs Q E hr h => ⟨_,
    pss_cons (ps_if (pt_cmpR op_eq (pv 0) (pe_cint g1) (nomark _)) (pss_one (ps_ret (pe_op op_mul_str (pe_cstr g3) pe_int))) pss_nil)
    (pss_one (ps_ret (pe_op op_mul_str (pe_call GO hr rfl go kpo bo .nil pass0 (pa_cons (pv 0) (pa_cons pe_bl pa_nil))) pe_int))), ?_⟩)
  obtain ⟨k, rfl, q⟩ := h
  have hl0 := zEol_len
  refine ⟨_, rfl, rfl, _, rfl, ?_⟩
  by_cases c1 : k = 2
  · refine ifT ((dec_nat (b := 2)).trans (decide_eq_true c1)) ?_
    refine ⟨zEol, ((2 : Nat) : Int), rfl, rfl, mulOk_small (by omega) (by decide), q _ ?_ ?_⟩
    · rw [bits_mul, eol_bits]
      unfold pend
      rw [if_pos c1]
      rfl
    · rw [mul_len]
      omega
  · refine ifF ((dec_nat (b := 2)).trans (decide_eq_false c1)) ?_
    refine ⟨_, rfl, k, true, rfl, fun z hzb hzl => ⟨z, ((6 : Nat) : Int), rfl, rfl, mulOk_small (by omega) (by decide), q _ ?_ ?_⟩⟩
    · rw [bits_mul, hzb]
      unfold pend
      rw [if_neg c1]
    · rw [mul_len]
      omega
theorem scPacked : FnScope ["codes", "data", "value", "held", "code", "bit"] ["codes"] (defScope sPacked) := ⟨rfl, rfl, rfl, by decide +kernel, rfl, by decide +kernel, by decide +kernel⟩
/-- the loops' word: full are the bits gone through -/
def WP (H : Hp) (a d : Addr) (full : List Bool) (σ : L2.St) (H' : Hp) : Prop := ∃ (data : List UInt8) (held : List Bool) (v4 v5 : Option V), Packed full data held ∧
  σ = [some (.ref a), some (.ref d), some (.int (valOf held : Int)), some (.int (held.length : Int)), v4, v5] ∧ Same H H' ∧ H' d = some (.lst (vB data))
theorem dec_one (c : Nat) : decide (V.str ⟨#[c]⟩ = V.str "1") = decide (c = 49) := by
  have e : ("1" : Str) = ⟨#[49]⟩ := by decide +kernel
  rw [e]
  by_cases h : c = 49
  · rw [decide_eq_true h, h]
    exact decide_eq_true rfl
  · rw [decide_eq_false h]
    refine decide_eq_false fun q => h ?_
    have q2 := congrArg Str.cps (V.str.inj q)
    have q3 : [c] = [49] := congrArg Array.toList q2
    exact (List.cons.inj q3).1
theorem has_packed (S : Stands K mg "packed" sPacked ["codes"]) : Has P w K mg base "packed" 1 ["codes"] (spPacked K) := by
  refine S.has fun f fd F => ?_
  refine F.ok scPacked (fun vs H Q E h => by obtain ⟨a, cs, rfl, _⟩ := h; rfl) (fun cdv A outer s H vs Q E hr h => ⟨_,
    pss_cons (ps_set (i := 1) scPacked.nd rfl (.inl rfl) (pe_lst pa_nil))
    (pss_cons (ps_set (i := 2) scPacked.nd rfl (.inl rfl) pe_int)
    (pss_cons (ps_set (i := 3) scPacked.nd rfl (.inl rfl) pe_int)
    (pss_cons (ps_for PassesOwn.never rfl (pi_list (pv 0)) (pg_name (i := 4) scPacked.nd rfl (.inl rfl))
      (pss_one (ps_for PassesOwn.never rfl (pi_str (pv 4)) (pg_name (i := 5) scPacked.nd rfl (.inl rfl))
        (pss_cons (ps_set (i := 2) scPacked.nd rfl (.inl rfl) (pe_op op_add (pe_op op_mul (pv 2) pe_int) (pe_ifExp (pt_cmpR op_eq (pv 5) pe_str (nomark _)) pe_int pe_int)))
        (pss_cons (ps_aug (i := 3) scPacked.nd rfl (.inl rfl) pe_int ip_add)
        (pss_one (ps_if (pt_cmpR op_eq (pv 3) pe_int (nomark _))
          (pss_cons (ps_expr (pe_bm PySem.F.plainAttrs_list PySem.F.slot_list_append PySem.F.type_list_append mt_append (pv 1) (pa_cons (pv 2) pa_nil)))
          (pss_cons (ps_set (i := 2) scPacked.nd rfl (.inl rfl) pe_int)
          (pss_one (ps_set (i := 3) scPacked.nd rfl (.inl rfl) pe_int)))) pss_nil)))))))
    (pss_cons (ps_if (pt_cmpR op_gt (pv 3) pe_int (nomark _))
      (pss_one (ps_expr (pe_bm PySem.F.plainAttrs_list PySem.F.slot_list_append PySem.F.type_list_append mt_append (pv 1) (pa_cons (pe_op op_shl (pv 2) (pe_op op_sub pe_int (pv 3))) pa_nil)))) pss_nil)
    (pss_one (ps_ret (pv 1))))))), ?_⟩)
  obtain ⟨a, cs, rfl, hS, hb, q⟩ := h
  have hz : sizeLine = 16777216 := sizeLine_eq
  refine ⟨Nat.zero_le _, fun d hd => ?_⟩
  refine ⟨_, rfl, a, rfl, ⟨_, hS.elim (fun _ => (same_new hd).seq hS) (fun _ => (same_new hd).seq hS)⟩, for_list (K := K) (a := a) (xs := vS cs) (fun i σ H' => WP H a d (allBits (cs.take i)) σ H')
    ⟨[], [], none, none, Packed.start, rfl, same_new hd, upd_same⟩ (fun i σ H' _ ⟨_, _, _, _, _, _, s1, _⟩ => s1.seq hS) ?_ ?_⟩
  · rintro i y σ H' hi hW
    obtain ⟨z, hzi, rfl⟩ : ∃ z, cs[i]? = some z ∧ y = V.str z := by
      unfold vS at hi
      rw [List.getElem?_map] at hi
      cases e : cs[i]? with
      | none =>
        rw [e] at hi
        cases hi
      | some z =>
        rw [e] at hi
        exact ⟨z, rfl, (Option.some.inj hi).symm⟩
    have hnext : allBits (cs.take (i + 1)) = allBits (cs.take i) ++ bits z := by rw [take_one hzi, allBits_push]
    have htot : (allBits (cs.take i)).length + (bits z).length ≤ (allBits cs).length := by
      have := allBits_take_le cs (i + 1)
      rw [hnext, List.length_append] at this
      exact this
    obtain ⟨data, held, v4, v5, hp, rfl, s1, hdd⟩ := hW
    refine ⟨_, rfl, z, rfl, for_str (fun i2 σ H' => WP H a d (allBits (cs.take i) ++ (bits z).take i2) σ H') ⟨data, held, _, _, (by rw [List.take_zero, List.append_nil]; exact hp), rfl, s1, hdd⟩ ?_ ?_⟩
    · rintro i2 c σ H2 hc ⟨data, held, v4, v5, hp, rfl, s1, hdd⟩
      have hbc : (bits z)[i2]? = some (decide (c = 49)) := by
        unfold bits
        rw [List.getElem?_map, Array.getElem?_toList, hc]
        rfl
      have hfull : allBits (cs.take i) ++ (bits z).take (i2 + 1) = (allBits (cs.take i) ++ (bits z).take i2) ++ [decide (c = 49)] := by
        rw [take_one hbc, List.append_assoc]
      have hsh := hp.short
      have hln := hp.len
      have hfl : (allBits (cs.take i) ++ (bits z).take i2).length ≤ (allBits cs).length := by
        rw [List.length_append, List.length_take]
        omega
      have hv : valOf held < 2 ^ 7 := Nat.lt_of_lt_of_le (valOf_lt _ held rfl) (Nat.pow_le_pow_right (by decide) (by omega))
      have hval : (valOf held : Int) * 2 + (if c = 49 then 1 else 0) = ((valOf (held ++ [decide (c = 49)]) : Nat) : Int) := by
        rw [valOf_push]
        by_cases hc1 : c = 49
        · rw [if_pos hc1, decide_eq_true hc1]
          show _ = ((2 * valOf held + 1 : Nat) : Int)
          omega
        · rw [if_neg hc1, decide_eq_false hc1]
          show _ = ((2 * valOf held + 0 : Nat) : Int)
          omega
      refine ⟨_, rfl, _, _, rfl, rfl, .inl ⟨by omega, by omega⟩, _, rfl, rfl, _, rfl, ?_⟩
      refine ite_app (A := fun x => tC (.int x) _ H2 _) ?_
      rw [dec_one]
      have hite : (if decide (c = 49) = true then (1 : Int) else 0) = (if c = 49 then 1 else 0) := by
        by_cases hc1 : c = 49
        · rw [decide_eq_true hc1, if_pos hc1]
          rfl
        · rw [decide_eq_false hc1, if_neg hc1]
          rfl
      rw [hite]
      refine ⟨_, _, rfl, rfl, ?_⟩
      dsimp only
      rw [hval]
      refine ⟨_, rfl, _, _, rfl, rfl, ?_⟩
      refine ⟨_, rfl, rfl, _, rfl, ?_⟩
      have e8 : decide (V.int ((held.length : Int) + 1) = V.int 8) = decide (held.length + 1 = 8) := dec_nat (a := held.length + 1) (b := 8)
      by_cases h8 : held.length + 1 = 8
      · refine ifT (e8.trans (decide_eq_true h8)) ?_
        have hv8 : valOf (held ++ [decide (c = 49)]) < 256 := by
          have := valOf_lt 8 (held ++ [decide (c = 49)]) (by rw [List.length_append]; exact h8)
          omega
        refine ⟨_, rfl, .inl ⟨rfl, _, SqL.of hdd⟩, _, rfl, d, _, _, rfl, rfl, hdd, by rw [vB_len]; omega, ?_⟩
        refine ⟨data ++ [UInt8.ofNat (valOf (held ++ [decide (c = 49)]))], [], _, _, by rw [hfull]; exact hp.full _ h8, rfl, same_put s1 hd, ?_⟩
        rw [upd_same, ← vB_push, u8_of hv8]
      · refine ifF (e8.trans (decide_eq_false h8)) ?_
        refine ⟨data, held ++ [decide (c = 49)], v4, some (V.str ⟨#[c]⟩), by rw [hfull]; exact hp.keep _ h8, ?_, s1, hdd⟩
        rw [List.length_append]
        rfl
    · rintro σ H2 hW
      have e : (bits z).take z.cps.size = bits z := List.take_of_length_le (by rw [bits_len]; exact Nat.le_refl _)
      rw [e] at hW
      show WP H a d (allBits (cs.take (i + 1))) σ H2
      rw [hnext]
      exact hW
  · rintro σ H' ⟨data, held, v4, v5, hp, rfl, s1, hdd⟩
    rw [vS_len, List.take_length] at hp
    have hst := hp.stop
    have hsh := hp.short
    have hln := hp.len
    refine ⟨_, rfl, _, _, rfl, rfl, _, rfl, ?_⟩
    by_cases h0 : held.length = 0
    · refine ifF (decide_eq_false (by omega)) ?_
      rw [if_pos h0, List.append_nil] at hst
      refine ⟨_, rfl, q H' d s1 hd ?_⟩
      rw [hst]
      exact hdd
    · refine ifT (decide_eq_true (by omega)) ?_
      rw [if_neg h0] at hst
      have hv : valOf held * 2 ^ (8 - held.length) < 2 ^ held.length * 2 ^ (8 - held.length) := Nat.mul_lt_mul_of_pos_right (valOf_lt _ held rfl) (Nat.pow_pos (by decide))
      rw [← Nat.pow_add, show held.length + (8 - held.length) = 8 by omega] at hv
      have hv7 : valOf held < 2 ^ 7 := Nat.lt_of_lt_of_le (valOf_lt _ held rfl) (Nat.pow_le_pow_right (by decide) (by omega))
      have hsub : (8 : Int) - (held.length : Int) = ((8 - held.length : Nat) : Int) := by omega
      refine ⟨_, rfl, .inl ⟨rfl, _, SqL.of hdd⟩, _, rfl, _, rfl, _, _, rfl, rfl, _, _, rfl, rfl, ⟨by omega, by omega, by omega⟩, d, _, _, rfl, rfl, hdd, by rw [vB_len]; omega, ?_⟩
      refine ⟨_, rfl, q _ d (same_put s1 hd) hd ?_⟩
      rw [upd_same, hst, ← vB_push, u8_of hv]
      dsimp only
      rw [hsub, Int.toNat_natCast, Int.natCast_mul, Int.natCast_pow]
      rfl
end
end Fax

namespace Fax
open PySem PySem.Spec PyProof.Rows L2
open PySem.W (Codec)
open Ql31 (codeOf run vertical alone beside rowAlone rowBeside)
def rowsL (w rows : Nat) (ns : List Int) : List Ql31.Row := (List.range rows).map (rowAt w ns)
theorem rowsL_drop {w rows i : Nat} (ns : List Int) (h : i < rows) : (rowsL w rows ns).drop i = rowAt w ns i :: (rowsL w rows ns).drop (i + 1) := by
  unfold rowsL
  rw [List.drop_eq_getElem_cons (by rw [List.length_map, List.length_range]; exact h), List.getElem_map, List.getElem_range]
def spPage (K : PySem.W.Frag) : Sp := fun vs H Q _ => ∃ (kind k w rows : Nat) (a : Addr) (ns : List Int), vs = [.int (kind : Int), .int (k : Int), .int (w : Int), .int (rows : Int), .ref a] ∧ SqL K H a (vI ns) ∧ (∀ z ∈ ns, 0 ≤ z ∧ z ≤ 255) ∧
  ns.length = rows * Ql31.stride w ∧ ns.length ≤ 100000 ∧ 1 ≤ k ∧ 1 ≤ w ∧ w ≤ 16384 ∧ rows ≤ 16384 ∧
  ∀ (H' : Hp) (p : Addr) (cs : List Str), Same H H' → H p = none → H' p = some (.lst (vS cs)) → allBits cs = pg kind k 0 (List.replicate w false) (rowsL w rows ns) → (allBits cs).length < 134217000 → Q (.ref p) H'
theorem opening_len (kind : Nat) (al : Bool) : (opening kind al).length ≤ 13 := by
  unfold opening
  have e : Ql31.EOL.length = 12 := by decide +kernel
  by_cases h : kind = 2
  · rw [if_pos h]
    exact Nat.zero_le _
  · rw [if_neg h]
    by_cases h2 : kind = 0
    · rw [if_pos h2]
      omega
    · rw [if_neg h2, List.length_append, List.length_singleton]
      omega
theorem tot_le {i w rows : Nat} (h1 : i ≤ rows) (h2 : rows * Ql31.stride w ≤ 100000) (hw : 1 ≤ w) : i * (13 + 125 * (w + 1)) ≤ 113800000 ∧ i * (w + 2) ≤ 1000000 := by
  have e1 : 13 + 125 * (w + 1) ≤ Ql31.stride w * 1138 := by
    unfold Ql31.stride
    omega
  have e2 : w + 2 ≤ Ql31.stride w * 10 := by
    unfold Ql31.stride
    omega
  have e3 : i * Ql31.stride w ≤ 100000 := Nat.le_trans (Nat.mul_le_mul_right _ h1) h2
  constructor
  · refine Nat.le_trans (Nat.mul_le_mul_left i e1) ?_
    rw [← Nat.mul_assoc]
    omega
  · refine Nat.le_trans (Nat.mul_le_mul_left i e2) ?_
    rw [← Nat.mul_assoc]
    omega
abbrev nPage : List Str := ["kind", "k", "width", "rows", "picture", "codes", "row_bytes", "above", "row", "here", "alone"]
/-- the value of kind == ALONE or (kind == MIXED and row % k == 0) -/
theorem alone_reading {kind k i : Nat} {σ : L2.St} {H : Hp} {Q : VK} (h0 : σ[0]? = some (some (.int (kind : Int)))) (h1 : σ[1]? = some (some (.int (k : Int)))) (h8 : σ[8]? = some (some (.int (i : Int)))) (hk : 1 ≤ k) (q : Q (.bl (isAlone kind k i)) H) :
    tOrV (tOp rEq (tVar 0) (tC (.int 0))) (tAndV (tOp rEq (tVar 0) (tC (.int 1))) (tOp rEq (tOp (rI (fun _ j => 0 < j) fun i j => .int (i % j)) (tVar 8) (tVar 1)) (tC (.int 0)))) σ H Q := by
  refine ⟨_, h0, rfl, _, rfl, ?_⟩
  by_cases c0 : kind = 0
  · refine ifT ((dec_nat (b := 0)).trans (decide_eq_true c0)) ?_
    have e : isAlone kind k i = true := by
      unfold isAlone
      rw [c0]
      rfl
    rw [e] at q
    exact q
  · refine ifF ((dec_nat (b := 0)).trans (decide_eq_false c0)) ?_
    refine ⟨_, h0, rfl, _, rfl, ?_⟩
    by_cases c1 : kind = 1
    · refine ifT ((dec_nat (b := 1)).trans (decide_eq_true c1)) ?_
      refine ⟨_, h8, _, h1, _, _, rfl, rfl, (by show (0 : Int) < (k : Int); omega), rfl, ?_⟩
      have e : decide (V.int ((i : Int) % (k : Int)) = V.int 0) = isAlone kind k i := by
        have e1 : (i : Int) % (k : Int) = ((i % k : Nat) : Int) := by rw [Int.natCast_emod]
        rw [e1]
        refine (dec_nat (b := 0)).trans ?_
        unfold isAlone
        rw [c1]
        by_cases h : i % k = 0
        · rw [decide_eq_true h, h]
          rfl
        · rw [decide_eq_false h, beq_eq_false_iff_ne.mpr h]
          rfl
      show Q (.bl (decide (V.int ((i : Int) % (k : Int)) = V.int 0))) H
      rw [e]
      exact q
    · refine ifF ((dec_nat (b := 1)).trans (decide_eq_false c1)) ?_
      have e : isAlone kind k i = false := by
        unfold isAlone
        rw [beq_eq_false_iff_ne.mpr c0, beq_eq_false_iff_ne.mpr c1]
        rfl
      rw [e] at q
      exact q
section
variable {P : Program} {w : World} {K : PySem.W.Frag} {mg : Str → Option Value} {base : Heap}
theorem scPage : FnScope nPage ["kind", "k", "width", "rows", "picture"] (defScope sPage) := ⟨rfl, rfl, rfl, by decide +kernel, rfl, by decide +kernel, by decide +kernel⟩
def WPg (H : Hp) (kind k w rows : Nat) (a c : Addr) (ns : List Int) (i : Nat) (σ : L2.St) (H' : Hp) : Prop :=
  ∃ (cs : List Str) (ab : Addr) (av : Ql31.Row) (v8 v9 v10 : Option V),
    σ = [some (.int (kind : Int)), some (.int (k : Int)), some (.int (w : Int)), some (.int (rows : Int)), some (.ref a), some (.ref c), some (.int ((Ql31.stride w : Nat) : Int)), some (.ref ab), v8, v9, v10] ∧ Same H H' ∧
    H' c = some (.lst (vS cs)) ∧ H' ab = some (.lst (vI (chL av))) ∧ av.length = w ∧ c ≠ ab ∧ allBits cs ++ pg kind k i av ((rowsL w rows ns).drop i) = pg kind k 0 (List.replicate w false) (rowsL w rows ns) ∧
    cs.length ≤ i * (w + 2) ∧ (allBits cs).length ≤ i * (13 + 125 * (w + 1))
theorem has_page (S : Stands K mg "page_codes" sPage ["kind", "k", "width", "rows", "picture"]) (T : Txts K mg) (hW : Has P w K mg base "white_row" 2 ["width"] spWhite) (hC : Has P w K mg base "row_changes" 2 ["picture", "start", "width"] (spChanges K))
    (hO : Has P w K mg base "row_opening" 1 ["kind", "alone"] spOpening) (hA : Has P w K mg base "codes_alone" 3 ["here", "width"] (spAlone K)) (hB : Has P w K mg base "codes_by_above" 4 ["above", "here", "width"] (spBeside K))
    (hE : Has P w K mg base "page_end" 2 ["kind"] spEnd) : Has P w K mg base "page_codes" 5 ["kind", "k", "width", "rows", "picture"] (spPage K) := by
  refine S.has fun f fd F => ?_
  obtain ⟨t1, g1⟩ := T.kAlone
  obtain ⟨t2, g2⟩ := T.kMixed
  obtain ⟨fw, fdw, gw, kpw, bw, GW⟩ := hW
  obtain ⟨fc, fdc, gc, kpc, bc, GC⟩ := hC
  obtain ⟨fo, fdo, go, kpo, bo, GO⟩ := hO
  obtain ⟨fa, fda, ga, kpa, ba, GA⟩ := hA
  obtain ⟨fb, fdb, gb, kpb, bb, GB⟩ := hB
  obtain ⟨fe, fde, ge, kpe, be, GE⟩ := hE
  refine F.ok scPage (fun vs H Q E h => by obtain ⟨kind, k, w, rows, a, ns, rfl, _⟩ := h; rfl) (fun cdv A outer s H vs Q E hr h => ⟨_,
    have hr1 : Room 1 _ := hr.mono (by decide)
    have hr2 : Room 2 _ := hr.mono (by decide)
    have hr3 : Room 3 _ := hr.mono (by decide)
    pss_cons (ps_set (i := 5) scPage.nd rfl (.inl rfl) (pe_lst pa_nil))
    (pss_cons (ps_set (i := 6) scPage.nd rfl (.inl rfl) (pe_op op_fdiv (pe_op op_add (pv 2) pe_int) pe_int))
    (pss_cons (ps_set (i := 7) scPage.nd rfl (.inl rfl) (pe_call GW hr2 rfl gw kpw bw .nil pass0 (pa_cons (pv 2) pa_nil)))
    (pss_cons (ps_for PassesOwn.never rfl (pi_range1 (by rfl) T.range (pa_cons (pv 3) pa_nil)) (pg_name (i := 8) scPage.nd rfl (.inl rfl))
      (pss_cons (ps_set (i := 9) scPage.nd rfl (.inl rfl) (pe_call GC hr2 rfl gc kpc bc .nil pass0 (pa_cons (pv 4) (pa_cons (pe_op op_mul (pv 8) (pv 6)) (pa_cons (pv 2) pa_nil)))))
      (pss_cons (ps_set (i := 10) scPage.nd rfl (.inl rfl) (pe_or (pe_cmpR op_eq (pv 0) (pe_cint g1) (nomark _)) (pe_one (pe_and (pe_cmpR op_eq (pv 0) (pe_cint g2) (nomark _)) (pe_one (pe_cmpR op_eq (pe_op op_mod (pv 8) (pv 1)) pe_int (nomark _)))))))
      (pss_cons (ps_expr (pe_bm PySem.F.plainAttrs_list PySem.F.slot_list_append PySem.F.type_list_append mt_append (pv 5) (pa_cons (pe_call GO hr1 rfl go kpo bo .nil pass0 (pa_cons (pv 0) (pa_cons (pv 10) pa_nil))) pa_nil)))
      (pss_cons (ps_if (pt_val (pv 10))
        (pss_one (ps_expr (pe_bm PySem.F.plainAttrs_list PySem.F.slot_list_extend PySem.F.type_list_extend mt_extend (pv 5) (pa_cons (pe_call GA hr3 rfl ga kpa ba .nil pass0 (pa_cons (pv 9) (pa_cons (pv 2) pa_nil))) pa_nil))))
        (pss_one (ps_expr (pe_bm PySem.F.plainAttrs_list PySem.F.slot_list_extend PySem.F.type_list_extend mt_extend (pv 5) (pa_cons (pe_call GB hr rfl gb kpb bb .nil pass0 (pa_cons (pv 7) (pa_cons (pv 9) (pa_cons (pv 2) pa_nil)))) pa_nil)))))
      (pss_one (ps_set (i := 7) scPage.nd rfl (.inl rfl) (pv 9))))))))
    (pss_cons (ps_expr (pe_bm PySem.F.plainAttrs_list PySem.F.slot_list_append PySem.F.type_list_append mt_append (pv 5) (pa_cons (pe_call GE hr2 rfl ge kpe be .nil pass0 (pa_cons (pv 0) pa_nil)) pa_nil)))
    (pss_one (ps_ret (pv 5))))))), ?_⟩)
  obtain ⟨kind, k, wd, rows, a, ns, rfl, hS, hbytes, hlen, hmax, hk, hw1, hw2, hrows, q⟩ := h
  have hz : sizeLine = 16777216 := sizeLine_eq
  refine ⟨Nat.zero_le _, fun c hc => ?_⟩
  refine ⟨_, rfl, _, _, rfl, rfl, _, _, rfl, rfl, ⟨by decide, by decide⟩, ?_⟩
  refine ⟨_, rfl, wd, rfl, fun H1 ab s1 hab eab => ?_⟩
  have hcab : c ≠ ab := by
    intro e
    rw [← e, upd_same] at hab
    cases hab
  have s01 : Same H H1 := (same_new hc).trans s1
  have hcH1 : H1 c = some (.lst (vS [])) := s1 _ _ upd_same
  refine ⟨_, rfl, rows, rfl, by omega, by omega, ?_⟩
  refine for_range (lo := 0) (n := (rows : Int).toNat) (WPg H kind k wd rows a c ns)
    ⟨[], ab, List.replicate wd false, none, none, none, rfl, s01, hcH1, eab, List.length_replicate, hcab, rfl, Nat.zero_le _, Nat.zero_le _⟩ ?_ ?_
  · rintro i σ H2 hi ⟨cs, ab, av, v8, v9, v10, rfl, s2, hcs, hab, hav, hne, heq, hcl, hbl⟩
    rw [Int.toNat_natCast] at hi
    have hrow := rowOf_at (width := wd) hbytes hlen hi
    have htot := tot_le (i := i + 1) (w := wd) (rows := rows) hi (by omega) hw1
    have em1 : (i + 1) * (13 + 125 * (wd + 1)) = i * (13 + 125 * (wd + 1)) + (13 + 125 * (wd + 1)) := Nat.succ_mul _ _
    have em2 : (i + 1) * (wd + 2) = i * (wd + 2) + (wd + 2) := Nat.succ_mul _ _
    rw [rowsL_drop ns hi, pg_cons] at heq
    -- here = row_changes(picture, row * row_bytes, width)
    refine ⟨_, rfl, _, rfl, _, rfl, _, _, rfl, rfl, .inl ⟨by omega, by omega⟩, _, rfl, a, ns, i * Ql31.stride wd, wd, rowAt wd ns i, ?_, s2.seq hS, hrow, hw2, fun H3 h s3 hh eh => ?_⟩
    · show [V.ref a, V.int ((0 + (i : Int)) * ((Ql31.stride wd : Nat) : Int)), V.int (wd : Int)] = _
      rw [Int.zero_add, Int.natCast_mul]
    · have hrl := hrow.len
      have hch : c ≠ h := ne_of_none hcs hh
      have hbh : ab ≠ h := ne_of_none hab hh
      have hcs3 := s3 _ _ hcs
      have hab3 := s3 _ _ hab
      have s03 : Same H H3 := s2.trans s3
      -- alone
      refine alone_reading (kind := kind) (k := k) (i := i) rfl rfl (congrArg (fun z => some (some (V.int z))) (Int.zero_add _)) hk ?_
      -- codes.append(row_opening(kind, alone))
      refine ⟨_, rfl, .inl ⟨rfl, _, SqL.of hcs3⟩, _, rfl, _, rfl, kind, isAlone kind k i, rfl, fun z hzb hzl => ?_⟩
      refine ⟨c, _, _, rfl, rfl, hcs3, by rw [vS_len]; omega, ?_⟩
      rw [vS_push]
      have s04 : Same H (upd H3 c (.lst (vS (cs ++ [z])))) := same_put s03 hc
      have hh4 : (upd H3 c (.lst (vS (cs ++ [z])))) h = some (.lst (vI (chL (rowAt wd ns i)))) := by
        rw [upd_ne (Ne.symm hch)]
        exact eh
      have hab4 : (upd H3 c (.lst (vS (cs ++ [z])))) ab = some (.lst (vI (chL av))) := by
        rw [upd_ne (Ne.symm hne)]
        exact hab3
      have hol := opening_len kind (isAlone kind k i)
      refine ⟨_, rfl, _, rfl, ?_⟩
      have fin : ∀ (cs2 : List Str) (H5 : Hp) (p : Addr), Same (upd H3 c (.lst (vS (cs ++ [z])))) H5 → H5 p = some (.lst (vS cs2)) → allBits cs2 = (if isAlone kind k i = true then rowAlone (rowAt wd ns i) else rowBeside av (rowAt wd ns i)) →
          cs2.length ≤ wd + 1 → (allBits cs2).length ≤ 125 * (wd + 1) →
          ∃ l b xs zs, V.ref c = .ref l ∧ [V.ref p] = [.ref b] ∧ H5 l = some (.lst xs) ∧ H5 b = some (.lst zs) ∧ xs.length + zs.length ≤ sizeLine ∧
            WPg H kind k wd rows a c ns (i + 1) [some (.int (kind : Int)), some (.int (k : Int)), some (.int (wd : Int)), some (.int (rows : Int)), some (.ref a), some (.ref c), some (.int ((Ql31.stride wd : Nat) : Int)), some (.ref h), some (.int (0 + (i : Int))), some (.ref h), some (.bl (isAlone kind k i))] (upd H5 l (.lst (xs ++ zs))) := by
        intro cs2 H5 p s5 hp hb2 hl2 hbl2
        have hc5 : H5 c = some (.lst (vS (cs ++ [z]))) := s5 _ _ upd_same
        refine ⟨c, p, _, _, rfl, rfl, hc5, hp, ?_, cs ++ [z] ++ cs2, h, rowAt wd ns i, _, _, _, rfl, same_put (s04.trans s5) hc, ?_, ?_, hrl, hch, ?_, ?_, ?_⟩
        · rw [vS_len, vS_len, List.length_append, List.length_singleton]
          omega
        · rw [upd_same]
          unfold vS
          rw [List.map_append (l₁ := cs ++ [z])]
        · rw [upd_ne (Ne.symm hch)]
          exact s5 _ _ hh4
        · rw [← heq, allBits_app, allBits_push, hb2, hzb]
          unfold rowBits
          simp only [List.append_assoc]
        · rw [List.length_append, List.length_append, List.length_singleton]
          omega
        · rw [allBits_app, List.length_append, allBits_push, List.length_append, hzb]
          omega
      by_cases cA : isAlone kind k i = true
      · refine ifT cA ?_
        refine ⟨_, rfl, .inl ⟨rfl, _, SqL.of upd_same⟩, _, rfl, _, rfl, h, rowAt wd ns i, ?_, SqL.of hh4, by omega, by omega, fun H5 p cs2 s5 hp ep e1 e2 e3 => ?_⟩
        · rw [hrl]
          rfl
        · rw [if_pos cA] at fin
          obtain ⟨l, b, xs, zs, h1, h2, h3, h4, h5, h6⟩ := fin cs2 H5 p s5 ep e1 (by omega) (by rw [hrl] at e3; exact e3)
          exact ⟨l, b, xs, zs, h1, h2, h3, h4, h5, _, rfl, h6⟩
      · have cB : isAlone kind k i = false := by
          cases e : isAlone kind k i
          · rfl
          · exact absurd e cA
        refine ifF cB ?_
        refine ⟨_, rfl, .inl ⟨rfl, _, SqL.of upd_same⟩, _, rfl, _, rfl, _, rfl, ab, h, av, rowAt wd ns i, ?_, SqL.of hab4, SqL.of hh4, by omega, by omega, by omega, fun H5 p cs2 s5 hp ep e1 e2 e3 => ?_⟩
        · rw [hrl]
          rfl
        · rw [if_neg cA] at fin
          obtain ⟨l, b, xs, zs, h1, h2, h3, h4, h5, h6⟩ := fin cs2 H5 p s5 ep e1 (by omega) (by rw [hrl] at e3; exact e3)
          exact ⟨l, b, xs, zs, h1, h2, h3, h4, h5, _, rfl, h6⟩
  · rintro σ H2 ⟨cs, ab, av, v8, v9, v10, rfl, s2, hcs, hab, hav, hne, heq, hcl, hbl⟩
    rw [Int.toNat_natCast] at heq hcl hbl
    have htot := tot_le (i := rows) (w := wd) (rows := rows) (Nat.le_refl _) (by omega) hw1
    have e1 : (rowsL wd rows ns).drop rows = [] := List.drop_eq_nil_of_le (by unfold rowsL; rw [List.length_map, List.length_range]; exact Nat.le_refl _)
    rw [e1] at heq
    refine ⟨_, rfl, .inl ⟨rfl, _, SqL.of hcs⟩, _, rfl, kind, rfl, fun z hzb hzl => ?_⟩
    refine ⟨c, _, _, rfl, rfl, hcs, by rw [vS_len]; omega, ?_⟩
    refine ⟨_, rfl, q _ c (cs ++ [z]) (same_put s2 hc) hc (by rw [upd_same, vS_push]) ?_ ?_⟩
    · rw [allBits_push, hzb]
      exact heq
    · rw [allBits_push, List.length_append, bits_len]
      omega
end
end Fax

namespace Fax
open PySem PySem.Spec PyProof.Rows L2
open PySem.W (Codec)
open Ql31 (codeOf run vertical alone beside rowAlone rowBeside)
def Bad (kind k w rows : Int) : Prop := 2 < kind ∨ k = 0 ∨ w = 0 ∨ (16384 : Int) < w ∨ (16384 : Int) < rows
theorem write_bad {kind k w rows most : Int} {p : List Int} (h : Bad kind k w rows) : PyQl31.fax_write kind k w rows most p = [-1] := by
  show (if 2 < kind ∨ k = 0 ∨ w = 0 ∨ (16384 : Int) < w ∨ (16384 : Int) < rows then [-1] else _) = _
  have h' : 2 < kind ∨ k = 0 ∨ w = 0 ∨ (16384 : Int) < w ∨ (16384 : Int) < rows := h
  rw [if_pos h']
theorem write_good {kind k w rows most : Int} {p : List Int} (h : ¬ Bad kind k w rows) : PyQl31.fax_write kind k w rows most p =
    let o := packAll (Ql31.page kind.toNat k.toNat w.toNat (Ql31.rowsFrom w.toNat rows.toNat (Ql31Neutral.octets p)))
    if most < (o.length : Int) then [-2] else (o.length : Int) :: Ql31Neutral.byteInts o := by
  show (if 2 < kind ∨ k = 0 ∨ w = 0 ∨ (16384 : Int) < w ∨ (16384 : Int) < rows then [-1] else _) = _
  have h' : ¬ (2 < kind ∨ k = 0 ∨ w = 0 ∨ (16384 : Int) < w ∨ (16384 : Int) < rows) := h
  rw [if_neg h']
  rfl
theorem vI_bytes (o : List UInt8) : vI (Ql31Neutral.byteInts o) = vB o := by
  unfold vI Ql31Neutral.byteInts vB
  rw [List.map_map]
  rfl
def spWrite (K : PySem.W.Frag) : Sp := fun vs H Q _ => ∃ (kind k w rows most : Int) (a : Addr) (ns : List Int), vs = [.int kind, .int k, .int w, .int rows, .int most, .ref a] ∧ SqL K H a (vI ns) ∧ ns.length ≤ 100000 ∧
  (0 ≤ kind ∧ 0 ≤ k ∧ 0 ≤ w ∧ 0 ≤ rows ∧ 0 ≤ most) ∧ (∀ z ∈ ns, 0 ≤ z ∧ z ≤ 255) ∧ (¬ Bad kind k w rows → (ns.length : Int) = rows * ((w + 7) / 8)) ∧
  ∀ (H' : Hp) (p : Addr), H' p = some (.lst (vI (PyQl31.fax_write kind k w rows most ns))) → Q (.ref p) H'
theorem bad_reading {kind k w rows : Int} {σ : L2.St} {H : Hp} {Q : Bool → Hp → Prop} (h0 : σ[0]? = some (some (.int kind))) (h1 : σ[1]? = some (some (.int k))) (h2 : σ[2]? = some (some (.int w))) (h3 : σ[3]? = some (some (.int rows)))
    (qt : Bad kind k w rows → Q true H) (qf : ¬ Bad kind k w rows → Q false H) :
    tOr (tTest (tOp (rI0 fun i j => .bl (decide (j < i))) (tVar 0) (tC (.int 2)))) (tOr (tTest (tOp rEq (tVar 1) (tC (.int 0)))) (tOr (tTest (tOp rEq (tVar 2) (tC (.int 0))))
      (tOr (tTest (tOp (rI0 fun i j => .bl (decide (j < i))) (tVar 2) (tC (.int 16384)))) (tTest (tOp (rI0 fun i j => .bl (decide (j < i))) (tVar 3) (tC (.int 16384))))))) σ H Q := by
  have de : ∀ x y : Int, decide (V.int x = V.int y) = decide (x = y) := fun x y => by
    rw [dec_int, Bool.beq_eq_decide_eq]
  refine ⟨_, h0, _, _, rfl, rfl, _, rfl, ?_⟩
  by_cases c0 : 2 < kind
  · exact ifT (decide_eq_true c0) (qt (.inl c0))
  · refine ifF (decide_eq_false c0) ⟨_, h1, rfl, _, rfl, ?_⟩
    by_cases c1 : k = 0
    · exact ifT ((de _ _).trans (decide_eq_true c1)) (qt (.inr (.inl c1)))
    · refine ifF ((de _ _).trans (decide_eq_false c1)) ⟨_, h2, rfl, _, rfl, ?_⟩
      by_cases c2 : w = 0
      · exact ifT ((de _ _).trans (decide_eq_true c2)) (qt (.inr (.inr (.inl c2))))
      · refine ifF ((de _ _).trans (decide_eq_false c2)) ⟨_, h2, _, _, rfl, rfl, _, rfl, ?_⟩
        by_cases c3 : 16384 < w
        · exact ifT (decide_eq_true c3) (qt (.inr (.inr (.inr (.inl c3)))))
        · refine ifF (decide_eq_false c3) ⟨_, h3, _, _, rfl, rfl, _, rfl, ?_⟩
          by_cases c4 : 16384 < rows
          · rw [decide_eq_true c4]
            exact qt (.inr (.inr (.inr (.inr c4))))
          · rw [decide_eq_false c4]
            refine qf fun h => ?_
            rcases h with h | h | h | h | h
            · exact c0 h
            · exact c1 h
            · exact c2 h
            · exact c3 h
            · exact c4 h
abbrev nWrite : List Str := ["kind", "k", "width", "rows", "most", "picture", "data"]
abbrev pWrite : List Str := ["kind", "k", "width", "rows", "most", "picture"]
section
variable {P : Program} {w : World} {K : PySem.W.Frag} {mg : Str → Option Value} {base : Heap}
theorem scWrite : FnScope nWrite pWrite (defScope sWrite) := ⟨rfl, rfl, rfl, by decide +kernel, rfl, by decide +kernel, by decide +kernel⟩
theorem ok_write {f : Addr} {fd : FuncData} (F : Fun K "fax_write" "fax_write" sWrite f fd) (T : Txts K mg) (hP : Has P w K mg base "page_codes" 5 ["kind", "k", "width", "rows", "picture"] (spPage K)) (hK : Has P w K mg base "packed" 1 ["codes"] (spPacked K)) :
    FnOk P w K mg base CX0 6 f fd pWrite (spWrite K) := by
  obtain ⟨t1, g1⟩ := T.kAbove
  obtain ⟨t2, g2⟩ := T.mWidth
  obtain ⟨t3, g3⟩ := T.mRows
  obtain ⟨fp, fdp, gp, kpp, bp, GP⟩ := hP
  obtain ⟨fk, fdk, gk, kpk, bk, GK⟩ := hK
  refine F.ok scWrite (fun vs H Q E h => by obtain ⟨kind, k, w, rows, most, a, ns, rfl, _⟩ := h; rfl) (fun cdv A outer s H vs Q E hr h => ⟨_,
    have hr1 : Room 1 _ := hr.mono (by decide)
    pss_cons (ps_if (PW.pt (pw_or (pt_cmpR op_gt (pv 0) (pe_cint g1) (nomark _)) (pw_or (pt_cmpR op_eq (pv 1) pe_int (nomark _)) (pw_or (pt_cmpR op_eq (pv 2) pe_int (nomark _))
        (pw_or (pt_cmpR op_gt (pv 2) (pe_cint g2) (nomark _)) (pw_or1 (pt_cmpR op_gt (pv 3) (pe_cint g3) (nomark _))))))))
      (pss_one (ps_ret (pe_lst (pa_cons (pe_un un_neg pe_int) pa_nil)))) pss_nil)
    (pss_cons (ps_set (i := 6) scWrite.nd rfl (.inl rfl) (pe_call GK hr1 rfl gk kpk bk .nil pass0 (pa_cons (pe_call GP hr rfl gp kpp bp .nil pass0 (pa_cons (pv 0) (pa_cons (pv 1) (pa_cons (pv 2) (pa_cons (pv 3) (pa_cons (pv 5) pa_nil)))))) pa_nil)))
    (pss_cons (ps_if (pt_cmpR op_gt (pe_callB call_len_seq (by rfl) T.len PySem.boot_len (pa_cons (pv 6) pa_nil)) (pv 4) (nomark _))
      (pss_one (ps_ret (pe_lst (pa_cons (pe_un un_neg pe_int) pa_nil)))) pss_nil)
    (pss_one (ps_ret (pe_op op_cat (pe_lst (pa_cons (pe_callB call_len_seq (by rfl) T.len PySem.boot_len (pa_cons (pv 6) pa_nil)) pa_nil)) (pv 6)))))), ?_⟩)
  obtain ⟨kind, k, wd, rows, most, a, ns, rfl, hS, hmax, ⟨p0, p1, p2, p3, p4⟩, hbytes, hlen, q⟩ := h
  have hz : sizeLine = 16777216 := sizeLine_eq
  refine bad_reading (kind := kind) (k := k) (w := wd) (rows := rows) rfl rfl rfl rfl (fun hbad => ?_) (fun hgood => ?_)
  · refine ifT rfl ?_
    refine ⟨_, rfl, (by show 1 ≤ sizeLine; omega), fun p hp => q _ p ?_⟩
    rw [upd_same, write_bad hbad]
    rfl
  · refine ifF rfl ?_
    have hl := hlen hgood
    have hk0 : ¬ k = 0 := fun e => hgood (.inr (.inl e))
    have hw0 : ¬ wd = 0 := fun e => hgood (.inr (.inr (.inl e)))
    have hw1 : ¬ 16384 < wd := fun e => hgood (.inr (.inr (.inr (.inl e))))
    have hr1 : ¬ 16384 < rows := fun e => hgood (.inr (.inr (.inr (.inr e))))
    have hkd : ¬ 2 < kind := fun e => hgood (.inl e)
    have hval := write_good (most := most) (p := ns) hgood
    obtain ⟨kindN, rfl⟩ : ∃ n : Nat, kind = n := ⟨kind.toNat, (Int.toNat_of_nonneg p0).symm⟩
    obtain ⟨kN, rfl⟩ : ∃ n : Nat, k = n := ⟨k.toNat, (Int.toNat_of_nonneg p1).symm⟩
    obtain ⟨wN, rfl⟩ : ∃ n : Nat, wd = n := ⟨wd.toNat, (Int.toNat_of_nonneg p2).symm⟩
    obtain ⟨rowsN, rfl⟩ : ∃ n : Nat, rows = n := ⟨rows.toNat, (Int.toNat_of_nonneg p3).symm⟩
    rw [Int.toNat_natCast, Int.toNat_natCast, Int.toNat_natCast, Int.toNat_natCast, page_is _ (by omega), rowsFrom_is] at hval
    have hl2 : ns.length = rowsN * Ql31.stride wN := by
      have e : ((rowsN * Ql31.stride wN : Nat) : Int) = (rowsN : Int) * (((wN : Int) + 7) / 8) := by
        rw [Int.natCast_mul]
        rfl
      omega
    refine ⟨_, rfl, _, rfl, _, rfl, _, rfl, _, rfl, kindN, kN, wN, rowsN, a, ns, rfl, hS, hbytes, hl2, hmax, by omega, by omega, by omega, by omega, fun H1 p1 cs s1 hp1 e1 hcs htot => ?_⟩
    refine ⟨p1, cs, rfl, SqL.of e1, by omega, fun H2 p2 s2 hp2 e2 => ?_⟩
    have hcs' : allBits cs = pg kindN kN 0 (List.replicate wN false) ((List.range rowsN).map (rowAt wN ns)) := hcs
    rw [← hcs'] at hval
    have hpl := packAll_len _ (allBits cs) (Nat.le_refl _)
    refine ⟨_, rfl, p2, _, rfl, .inl (SqL.of e2), _, rfl, _, _, rfl, rfl, _, rfl, ?_⟩
    rw [vB_len]
    by_cases c : most < ((packAll (allBits cs)).length : Int)
    · refine ifT (decide_eq_true c) ?_
      refine ⟨_, rfl, (by show 1 ≤ sizeLine; omega), fun p hp => q _ p ?_⟩
      rw [upd_same, hval]
      dsimp only
      rw [if_pos c]
      rfl
    · refine ifF (decide_eq_false c) ?_
      refine ⟨_, rfl, p2, _, rfl, .inl (SqL.of e2), (by show 1 ≤ sizeLine; omega), fun l hl => ?_⟩
      have hne : p2 ≠ l := ne_of_none e2 hl
      refine ⟨_, rfl, l, p2, _, _, rfl, rfl, upd_same, (by rw [upd_ne hne]; exact e2), ?_, fun p hp => q _ p ?_⟩
      · rw [vB_len]
        show 1 + _ ≤ sizeLine
        omega
      · rw [upd_same, hval]
        dsimp only
        rw [if_neg c]
        show some (HO.lst (V.int ((vB (packAll (allBits cs))).length : Int) :: vB (packAll (allBits cs)))) = some (HO.lst (V.int _ :: vI (Ql31Neutral.byteInts (packAll (allBits cs)))))
        rw [vI_bytes, vB_len]
end
end Fax

namespace Fax
open PySem PySem.Spec PyProof.Rows L2
open PySem.W (Codec)
/-! ### what the top has written -/
def strsIn : List Value → Option (List Str)
  | [] => some []
  | .str x _ :: r => (strsIn r).map fun l => x :: l
  | _ => none
theorem vals_strs : ∀ {us : List Value} {xs : List Str}, strsIn us = some xs → Vals (xs.map V.str) us
  | [], xs, h => by
    obtain rfl : [] = xs := Option.some.inj h
    exact .nil
  | .str x t :: r, xs, h => by
    have h' : (strsIn r).map (fun l => x :: l) = some xs := h
    cases e : strsIn r with
    | none =>
      rw [e] at h'
      cases h'
    | some l =>
      rw [e] at h'
      obtain rfl : x :: l = xs := Option.some.inj h'
      exact .cons ⟨t, rfl⟩ (vals_strs e)
  | .none :: r, xs, h => by cases h
  | .bool _ :: r, xs, h => by cases h
  | .int _ _ :: r, xs, h => by cases h
  | .bytes _ _ :: r, xs, h => by cases h
  | .float _ _ :: r, xs, h => by cases h
  | .ref _ :: r, xs, h => by cases h
  | .type _ :: r, xs, h => by cases h
  | .builtin _ :: r, xs, h => by cases h
  | .notImplemented :: r, xs, h => by cases h
  | .ellipsis :: r, xs, h => by cases h
theorem cint_mk {K : PySem.W.Frag} {h : Heap} {mg : Str → Option Value} {x : Str} {i : Int} {t : Tok} (X : K.In h) (G : h.Ns mainGlobals mg) (a : PySem.W.nsIn K mainGlobals x = some (some (.int i t))) : CInt mg x i := ⟨t, PySem.W.mg_of X G a⟩
theorem cstr_mk {K : PySem.W.Frag} {h : Heap} {mg : Str → Option Value} {x : Str} {z : Str} {t : Tok} (X : K.In h) (G : h.Ns mainGlobals mg) (a : PySem.W.nsIn K mainGlobals x = some (some (.str z t))) : CStr mg x z := ⟨t, PySem.W.mg_of X G a⟩
theorem ctup_mk {K : PySem.W.Frag} {h : Heap} {mg : Str → Option Value} {x : Str} {l : List Str} {f : Addr} {od : Option Addr} {its : List Value} {n : Nat} {sl : Array (Option Value)} (X : K.In h) (G : h.Ns mainGlobals mg) (a : PySem.W.nsIn K mainGlobals x = some (some (.ref f)))
    (o : K.lookup f = some ⟨.type "tuple", od, .seq its.toArray n, sl⟩) (v : strsIn its = some l) (z : l.length ≤ 1000) : CTup K mg x l := by
  refine ⟨f, PySem.W.mg_of X G a, fun H => .inr ⟨_, its.toArray, n, o, rfl, rfl, ?_, by simpa using vals_strs v⟩⟩
  have e := (vals_strs v).length
  rw [List.length_map] at e
  rw [List.size_toArray, ← e, sizeLine_eq]
  omega
theorem stands_mk {K : PySem.W.Frag} {h : Heap} {mg : Str → Option Value} {x : Str} {st : Stmt} {ps : List Str} {f : Addr} {od an : Option Addr} {sl : Array (Option Value)} {oc kV dc pm cd ct : Value} (X : K.In h) (G : h.Ns mainGlobals mg)
    (b : ∀ (kV doc pm : Value) (an : Option Addr) (cdv ct : Value) (us : List Value), us.length = ps.length → bindArgs (PySem.W.fnOf x x (defArgs st) (defBody st) (defScope st) .none kV doc pm an cdv ct) ⟨us, []⟩ = pure (ps.zip us))
    (a : PySem.W.nsIn K mainGlobals x = some (some (.ref f))) (l : K.lookup f = some ⟨oc, od, .func (PySem.W.fnOf x x (defArgs st) (defBody st) (defScope st) .none kV dc pm an cd ct), sl⟩) (c : PySem.W.codeIn K cd x = true) (k : PySem.W.keepIn K (.ref f) = true) : Stands K mg x st ps := by
  have F := fun_mk (st := st) l c k
  exact ⟨f, _, PySem.W.mg_of X G a, F, F.binds b⟩

theorem all_has {P : Program} {w : World} {K : PySem.W.Frag} {mg : Str → Option Value} {base : Heap} (T : Txts K mg)
    (S_short_code : Stands K mg "short_code" sShort ["colour", "length"])
    (S_long_code : Stands K mg "long_code" sLong ["colour", "sixty_fours"])
    (S_run_code : Stands K mg "run_code" sRun ["colour", "length"])
    (S_straight_code : Stands K mg "straight_code" sStraight ["shift"])
    (S_with_ends : Stands K mg "with_ends" sEnds ["changes", "width"])
    (S_white_row : Stands K mg "white_row" sWhite ["width"])
    (S_row_changes : Stands K mg "row_changes" sChanges ["picture", "start", "width"])
    (S_codes_alone : Stands K mg "codes_alone" sAlone ["here", "width"])
    (S_first_behind : Stands K mg "first_behind" sFirst ["changes", "index", "place"])
    (S_opposite_from : Stands K mg "opposite_from" sOpposite ["index", "colour"])
    (S_across_code : Stands K mg "across_code" sAcross ["colour", "place", "change", "change_after"])
    (S_codes_by_above : Stands K mg "codes_by_above" sAbove ["above", "here", "width"])
    (S_page_codes : Stands K mg "page_codes" sPage ["kind", "k", "width", "rows", "picture"])
    (S_row_opening : Stands K mg "row_opening" sOpening ["kind", "alone"])
    (S_page_end : Stands K mg "page_end" sEnd ["kind"])
    (S_packed : Stands K mg "packed" sPacked ["codes"])
    : Has P w K mg base "page_codes" 5 ["kind", "k", "width", "rows", "picture"] (spPage K) ∧ Has P w K mg base "packed" 1 ["codes"] (spPacked K) := by
  have h1 : Has P w K mg base "short_code" 1 ["colour", "length"] spShort := has_short S_short_code T
  have h2 : Has P w K mg base "long_code" 1 ["colour", "sixty_fours"] spLong := has_long S_long_code T
  have h3 : Has P w K mg base "run_code" 2 ["colour", "length"] spRun := has_run S_run_code T h1 h2
  have h4 : Has P w K mg base "straight_code" 1 ["shift"] spStraight := has_straight S_straight_code T
  have h5 : Has P w K mg base "with_ends" 1 ["changes", "width"] spEnds := has_ends S_with_ends
  have h6 : Has P w K mg base "white_row" 2 ["width"] spWhite := has_white S_white_row h5
  have h7 : Has P w K mg base "row_changes" 2 ["picture", "start", "width"] (spChanges K) := has_changes S_row_changes T h5
  have h8 : Has P w K mg base "codes_alone" 3 ["here", "width"] (spAlone K) := has_alone S_codes_alone h3
  have h9 : Has P w K mg base "first_behind" 1 ["changes", "index", "place"] (spFirst K) := has_first S_first_behind
  have h10 : Has P w K mg base "across_code" 3 ["colour", "place", "change", "change_after"] spAcross := has_across S_across_code T h3
  have h11 : Has P w K mg base "codes_by_above" 4 ["above", "here", "width"] (spBeside K) := has_above S_codes_by_above T h9 (has_opposite S_opposite_from) h4 h10
  have h12 : Has P w K mg base "row_opening" 1 ["kind", "alone"] spOpening := has_opening S_row_opening T
  have h13 : Has P w K mg base "page_end" 2 ["kind"] spEnd := has_end S_page_end T h12
  exact ⟨has_page S_page_codes T h6 h7 h12 h8 h11 h13, has_packed S_packed⟩
theorem all_mk {P : Program} {w : World} {K : PySem.W.Frag} {h : Heap} {mg : Str → Option Value} {fw : Addr} (X : K.In h) (G : h.Ns mainGlobals mg) (hfw : mg "fax_write" = some (.ref fw))
    {f0 : Addr} {od0 an0 : Option Addr} {sl0 : Array (Option Value)} {oc0 kV0 dc0 pm0 cd0 ct0 : Value}
    (a0 : PySem.W.nsIn K mainGlobals "short_code" = some (some (.ref f0)))
    (l0 : K.lookup f0 = some ⟨oc0, od0, .func (PySem.W.fnOf "short_code" "short_code" (defArgs sShort) (defBody sShort) (defScope sShort) .none kV0 dc0 pm0 an0 cd0 ct0), sl0⟩)
    (c0 : PySem.W.codeIn K cd0 "short_code" = true) (k0 : PySem.W.keepIn K (.ref f0) = true)
    {f1 : Addr} {od1 an1 : Option Addr} {sl1 : Array (Option Value)} {oc1 kV1 dc1 pm1 cd1 ct1 : Value}
    (a1 : PySem.W.nsIn K mainGlobals "long_code" = some (some (.ref f1)))
    (l1 : K.lookup f1 = some ⟨oc1, od1, .func (PySem.W.fnOf "long_code" "long_code" (defArgs sLong) (defBody sLong) (defScope sLong) .none kV1 dc1 pm1 an1 cd1 ct1), sl1⟩)
    (c1 : PySem.W.codeIn K cd1 "long_code" = true) (k1 : PySem.W.keepIn K (.ref f1) = true)
    {f2 : Addr} {od2 an2 : Option Addr} {sl2 : Array (Option Value)} {oc2 kV2 dc2 pm2 cd2 ct2 : Value}
    (a2 : PySem.W.nsIn K mainGlobals "run_code" = some (some (.ref f2)))
    (l2 : K.lookup f2 = some ⟨oc2, od2, .func (PySem.W.fnOf "run_code" "run_code" (defArgs sRun) (defBody sRun) (defScope sRun) .none kV2 dc2 pm2 an2 cd2 ct2), sl2⟩)
    (c2 : PySem.W.codeIn K cd2 "run_code" = true) (k2 : PySem.W.keepIn K (.ref f2) = true)
    {f3 : Addr} {od3 an3 : Option Addr} {sl3 : Array (Option Value)} {oc3 kV3 dc3 pm3 cd3 ct3 : Value}
    (a3 : PySem.W.nsIn K mainGlobals "straight_code" = some (some (.ref f3)))
    (l3 : K.lookup f3 = some ⟨oc3, od3, .func (PySem.W.fnOf "straight_code" "straight_code" (defArgs sStraight) (defBody sStraight) (defScope sStraight) .none kV3 dc3 pm3 an3 cd3 ct3), sl3⟩)
    (c3 : PySem.W.codeIn K cd3 "straight_code" = true) (k3 : PySem.W.keepIn K (.ref f3) = true)
    {f4 : Addr} {od4 an4 : Option Addr} {sl4 : Array (Option Value)} {oc4 kV4 dc4 pm4 cd4 ct4 : Value}
    (a4 : PySem.W.nsIn K mainGlobals "with_ends" = some (some (.ref f4)))
    (l4 : K.lookup f4 = some ⟨oc4, od4, .func (PySem.W.fnOf "with_ends" "with_ends" (defArgs sEnds) (defBody sEnds) (defScope sEnds) .none kV4 dc4 pm4 an4 cd4 ct4), sl4⟩)
    (c4 : PySem.W.codeIn K cd4 "with_ends" = true) (k4 : PySem.W.keepIn K (.ref f4) = true)
    {f5 : Addr} {od5 an5 : Option Addr} {sl5 : Array (Option Value)} {oc5 kV5 dc5 pm5 cd5 ct5 : Value}
    (a5 : PySem.W.nsIn K mainGlobals "white_row" = some (some (.ref f5)))
    (l5 : K.lookup f5 = some ⟨oc5, od5, .func (PySem.W.fnOf "white_row" "white_row" (defArgs sWhite) (defBody sWhite) (defScope sWhite) .none kV5 dc5 pm5 an5 cd5 ct5), sl5⟩)
    (c5 : PySem.W.codeIn K cd5 "white_row" = true) (k5 : PySem.W.keepIn K (.ref f5) = true)
    {f6 : Addr} {od6 an6 : Option Addr} {sl6 : Array (Option Value)} {oc6 kV6 dc6 pm6 cd6 ct6 : Value}
    (a6 : PySem.W.nsIn K mainGlobals "row_changes" = some (some (.ref f6)))
    (l6 : K.lookup f6 = some ⟨oc6, od6, .func (PySem.W.fnOf "row_changes" "row_changes" (defArgs sChanges) (defBody sChanges) (defScope sChanges) .none kV6 dc6 pm6 an6 cd6 ct6), sl6⟩)
    (c6 : PySem.W.codeIn K cd6 "row_changes" = true) (k6 : PySem.W.keepIn K (.ref f6) = true)
    {f7 : Addr} {od7 an7 : Option Addr} {sl7 : Array (Option Value)} {oc7 kV7 dc7 pm7 cd7 ct7 : Value}
    (a7 : PySem.W.nsIn K mainGlobals "codes_alone" = some (some (.ref f7)))
    (l7 : K.lookup f7 = some ⟨oc7, od7, .func (PySem.W.fnOf "codes_alone" "codes_alone" (defArgs sAlone) (defBody sAlone) (defScope sAlone) .none kV7 dc7 pm7 an7 cd7 ct7), sl7⟩)
    (c7 : PySem.W.codeIn K cd7 "codes_alone" = true) (k7 : PySem.W.keepIn K (.ref f7) = true)
    {f8 : Addr} {od8 an8 : Option Addr} {sl8 : Array (Option Value)} {oc8 kV8 dc8 pm8 cd8 ct8 : Value}
    (a8 : PySem.W.nsIn K mainGlobals "first_behind" = some (some (.ref f8)))
    (l8 : K.lookup f8 = some ⟨oc8, od8, .func (PySem.W.fnOf "first_behind" "first_behind" (defArgs sFirst) (defBody sFirst) (defScope sFirst) .none kV8 dc8 pm8 an8 cd8 ct8), sl8⟩)
    (c8 : PySem.W.codeIn K cd8 "first_behind" = true) (k8 : PySem.W.keepIn K (.ref f8) = true)
    {f9 : Addr} {od9 an9 : Option Addr} {sl9 : Array (Option Value)} {oc9 kV9 dc9 pm9 cd9 ct9 : Value}
    (a9 : PySem.W.nsIn K mainGlobals "opposite_from" = some (some (.ref f9)))
    (l9 : K.lookup f9 = some ⟨oc9, od9, .func (PySem.W.fnOf "opposite_from" "opposite_from" (defArgs sOpposite) (defBody sOpposite) (defScope sOpposite) .none kV9 dc9 pm9 an9 cd9 ct9), sl9⟩)
    (c9 : PySem.W.codeIn K cd9 "opposite_from" = true) (k9 : PySem.W.keepIn K (.ref f9) = true)
    {f10 : Addr} {od10 an10 : Option Addr} {sl10 : Array (Option Value)} {oc10 kV10 dc10 pm10 cd10 ct10 : Value}
    (a10 : PySem.W.nsIn K mainGlobals "across_code" = some (some (.ref f10)))
    (l10 : K.lookup f10 = some ⟨oc10, od10, .func (PySem.W.fnOf "across_code" "across_code" (defArgs sAcross) (defBody sAcross) (defScope sAcross) .none kV10 dc10 pm10 an10 cd10 ct10), sl10⟩)
    (c10 : PySem.W.codeIn K cd10 "across_code" = true) (k10 : PySem.W.keepIn K (.ref f10) = true)
    {f11 : Addr} {od11 an11 : Option Addr} {sl11 : Array (Option Value)} {oc11 kV11 dc11 pm11 cd11 ct11 : Value}
    (a11 : PySem.W.nsIn K mainGlobals "codes_by_above" = some (some (.ref f11)))
    (l11 : K.lookup f11 = some ⟨oc11, od11, .func (PySem.W.fnOf "codes_by_above" "codes_by_above" (defArgs sAbove) (defBody sAbove) (defScope sAbove) .none kV11 dc11 pm11 an11 cd11 ct11), sl11⟩)
    (c11 : PySem.W.codeIn K cd11 "codes_by_above" = true) (k11 : PySem.W.keepIn K (.ref f11) = true)
    {f12 : Addr} {od12 an12 : Option Addr} {sl12 : Array (Option Value)} {oc12 kV12 dc12 pm12 cd12 ct12 : Value}
    (a12 : PySem.W.nsIn K mainGlobals "page_codes" = some (some (.ref f12)))
    (l12 : K.lookup f12 = some ⟨oc12, od12, .func (PySem.W.fnOf "page_codes" "page_codes" (defArgs sPage) (defBody sPage) (defScope sPage) .none kV12 dc12 pm12 an12 cd12 ct12), sl12⟩)
    (c12 : PySem.W.codeIn K cd12 "page_codes" = true) (k12 : PySem.W.keepIn K (.ref f12) = true)
    {f13 : Addr} {od13 an13 : Option Addr} {sl13 : Array (Option Value)} {oc13 kV13 dc13 pm13 cd13 ct13 : Value}
    (a13 : PySem.W.nsIn K mainGlobals "row_opening" = some (some (.ref f13)))
    (l13 : K.lookup f13 = some ⟨oc13, od13, .func (PySem.W.fnOf "row_opening" "row_opening" (defArgs sOpening) (defBody sOpening) (defScope sOpening) .none kV13 dc13 pm13 an13 cd13 ct13), sl13⟩)
    (c13 : PySem.W.codeIn K cd13 "row_opening" = true) (k13 : PySem.W.keepIn K (.ref f13) = true)
    {f14 : Addr} {od14 an14 : Option Addr} {sl14 : Array (Option Value)} {oc14 kV14 dc14 pm14 cd14 ct14 : Value}
    (a14 : PySem.W.nsIn K mainGlobals "page_end" = some (some (.ref f14)))
    (l14 : K.lookup f14 = some ⟨oc14, od14, .func (PySem.W.fnOf "page_end" "page_end" (defArgs sEnd) (defBody sEnd) (defScope sEnd) .none kV14 dc14 pm14 an14 cd14 ct14), sl14⟩)
    (c14 : PySem.W.codeIn K cd14 "page_end" = true) (k14 : PySem.W.keepIn K (.ref f14) = true)
    {f15 : Addr} {od15 an15 : Option Addr} {sl15 : Array (Option Value)} {oc15 kV15 dc15 pm15 cd15 ct15 : Value}
    (a15 : PySem.W.nsIn K mainGlobals "packed" = some (some (.ref f15)))
    (l15 : K.lookup f15 = some ⟨oc15, od15, .func (PySem.W.fnOf "packed" "packed" (defArgs sPacked) (defBody sPacked) (defScope sPacked) .none kV15 dc15 pm15 an15 cd15 ct15), sl15⟩)
    (c15 : PySem.W.codeIn K cd15 "packed" = true) (k15 : PySem.W.keepIn K (.ref f15) = true)
    {f16 : Addr} {od16 an16 : Option Addr} {sl16 : Array (Option Value)} {oc16 kV16 dc16 pm16 cd16 ct16 : Value}
    (a16 : PySem.W.nsIn K mainGlobals "fax_write" = some (some (.ref f16)))
    (l16 : K.lookup f16 = some ⟨oc16, od16, .func (PySem.W.fnOf "fax_write" "fax_write" (defArgs sWrite) (defBody sWrite) (defScope sWrite) .none kV16 dc16 pm16 an16 cd16 ct16), sl16⟩)
    (c16 : PySem.W.codeIn K cd16 "fax_write" = true) (k16 : PySem.W.keepIn K (.ref f16) = true)
    {ti0 : Tok} (i0 : PySem.W.nsIn K mainGlobals "WHITE" = some (some (.int 0 ti0)))
    {ti1 : Tok} (i1 : PySem.W.nsIn K mainGlobals "LONGEST" = some (some (.int 2560 ti1)))
    {ti2 : Tok} (i2 : PySem.W.nsIn K mainGlobals "STRAIGHT_REACH" = some (some (.int 3 ti2)))
    {ti3 : Tok} (i3 : PySem.W.nsIn K mainGlobals "ALONE" = some (some (.int 0 ti3)))
    {ti4 : Tok} (i4 : PySem.W.nsIn K mainGlobals "MIXED" = some (some (.int 1 ti4)))
    {ti5 : Tok} (i5 : PySem.W.nsIn K mainGlobals "BY_ABOVE" = some (some (.int 2 ti5)))
    {ti6 : Tok} (i6 : PySem.W.nsIn K mainGlobals "MOST_WIDTH" = some (some (.int 16384 ti6)))
    {ti7 : Tok} (i7 : PySem.W.nsIn K mainGlobals "MOST_ROWS" = some (some (.int 16384 ti7)))
    {ts0 : Tok} (s0 : PySem.W.nsIn K mainGlobals "PASSED_OVER" = some (some (.str "0001" ts0)))
    {ts1 : Tok} (s1 : PySem.W.nsIn K mainGlobals "ACROSS" = some (some (.str "001" ts1)))
    {ts2 : Tok} (s2 : PySem.W.nsIn K mainGlobals "END_OF_LINE" = some (some (.str zEol ts2)))
    {u0 : Addr} {ut0 : Option Addr} {its0 : List Value} {un0 : Nat} {us0 : Array (Option Value)}
    (t0 : PySem.W.nsIn K mainGlobals "WHITE_SHORT" = some (some (.ref u0))) (o0 : K.lookup u0 = some ⟨.type "tuple", ut0, .seq its0.toArray un0, us0⟩) (v0 : strsIn its0 = some wsL)
    {u1 : Addr} {ut1 : Option Addr} {its1 : List Value} {un1 : Nat} {us1 : Array (Option Value)}
    (t1 : PySem.W.nsIn K mainGlobals "WHITE_LONG" = some (some (.ref u1))) (o1 : K.lookup u1 = some ⟨.type "tuple", ut1, .seq its1.toArray un1, us1⟩) (v1 : strsIn its1 = some wlL)
    {u2 : Addr} {ut2 : Option Addr} {its2 : List Value} {un2 : Nat} {us2 : Array (Option Value)}
    (t2 : PySem.W.nsIn K mainGlobals "BLACK_SHORT" = some (some (.ref u2))) (o2 : K.lookup u2 = some ⟨.type "tuple", ut2, .seq its2.toArray un2, us2⟩) (v2 : strsIn its2 = some bsL)
    {u3 : Addr} {ut3 : Option Addr} {its3 : List Value} {un3 : Nat} {us3 : Array (Option Value)}
    (t3 : PySem.W.nsIn K mainGlobals "BLACK_LONG" = some (some (.ref u3))) (o3 : K.lookup u3 = some ⟨.type "tuple", ut3, .seq its3.toArray un3, us3⟩) (v3 : strsIn its3 = some blL)
    {u4 : Addr} {ut4 : Option Addr} {its4 : List Value} {un4 : Nat} {us4 : Array (Option Value)}
    (t4 : PySem.W.nsIn K mainGlobals "BOTH_LONG" = some (some (.ref u4))) (o4 : K.lookup u4 = some ⟨.type "tuple", ut4, .seq its4.toArray un4, us4⟩) (v4 : strsIn its4 = some boL)
    {u5 : Addr} {ut5 : Option Addr} {its5 : List Value} {un5 : Nat} {us5 : Array (Option Value)}
    (t5 : PySem.W.nsIn K mainGlobals "STRAIGHT" = some (some (.ref u5))) (o5 : K.lookup u5 = some ⟨.type "tuple", ut5, .seq its5.toArray un5, us5⟩) (v5 : strsIn its5 = some stL)
    (n0 : PySem.W.nsIn K mainGlobals "len" = some none)
    (n1 : PySem.W.nsIn K mainGlobals "range" = some none)
    (n2 : PySem.W.nsIn K mainGlobals "abs" = some none)
    (n3 : PySem.W.nsIn K mainGlobals "max" = some none)
    : ∃ fd : FuncData, (∀ (s : Shared) (us : List Value), us.length = pWrite.length → BindsTo s fd ⟨us, []⟩ (pWrite.zip us)) ∧ ∀ base : Heap, K.In base → base.Ns mainGlobals mg → FnOk P w K mg base CX0 6 fw fd pWrite (spWrite K) := by
  have S_short_code : Stands K mg "short_code" sShort ["colour", "length"] := stands_mk X G (fun _ _ _ _ _ _ us hl => match us, hl with | [_, _], _ => rfl) a0 l0 c0 k0
  have S_long_code : Stands K mg "long_code" sLong ["colour", "sixty_fours"] := stands_mk X G (fun _ _ _ _ _ _ us hl => match us, hl with | [_, _], _ => rfl) a1 l1 c1 k1
  have S_run_code : Stands K mg "run_code" sRun ["colour", "length"] := stands_mk X G (fun _ _ _ _ _ _ us hl => match us, hl with | [_, _], _ => rfl) a2 l2 c2 k2
  have S_straight_code : Stands K mg "straight_code" sStraight ["shift"] := stands_mk X G (fun _ _ _ _ _ _ us hl => match us, hl with | [_], _ => rfl) a3 l3 c3 k3
  have S_with_ends : Stands K mg "with_ends" sEnds ["changes", "width"] := stands_mk X G (fun _ _ _ _ _ _ us hl => match us, hl with | [_, _], _ => rfl) a4 l4 c4 k4
  have S_white_row : Stands K mg "white_row" sWhite ["width"] := stands_mk X G (fun _ _ _ _ _ _ us hl => match us, hl with | [_], _ => rfl) a5 l5 c5 k5
  have S_row_changes : Stands K mg "row_changes" sChanges ["picture", "start", "width"] := stands_mk X G (fun _ _ _ _ _ _ us hl => match us, hl with | [_, _, _], _ => rfl) a6 l6 c6 k6
  have S_codes_alone : Stands K mg "codes_alone" sAlone ["here", "width"] := stands_mk X G (fun _ _ _ _ _ _ us hl => match us, hl with | [_, _], _ => rfl) a7 l7 c7 k7
  have S_first_behind : Stands K mg "first_behind" sFirst ["changes", "index", "place"] := stands_mk X G (fun _ _ _ _ _ _ us hl => match us, hl with | [_, _, _], _ => rfl) a8 l8 c8 k8
  have S_opposite_from : Stands K mg "opposite_from" sOpposite ["index", "colour"] := stands_mk X G (fun _ _ _ _ _ _ us hl => match us, hl with | [_, _], _ => rfl) a9 l9 c9 k9
  have S_across_code : Stands K mg "across_code" sAcross ["colour", "place", "change", "change_after"] := stands_mk X G (fun _ _ _ _ _ _ us hl => match us, hl with | [_, _, _, _], _ => rfl) a10 l10 c10 k10
  have S_codes_by_above : Stands K mg "codes_by_above" sAbove ["above", "here", "width"] := stands_mk X G (fun _ _ _ _ _ _ us hl => match us, hl with | [_, _, _], _ => rfl) a11 l11 c11 k11
  have S_page_codes : Stands K mg "page_codes" sPage ["kind", "k", "width", "rows", "picture"] := stands_mk X G (fun _ _ _ _ _ _ us hl => match us, hl with | [_, _, _, _, _], _ => rfl) a12 l12 c12 k12
  have S_row_opening : Stands K mg "row_opening" sOpening ["kind", "alone"] := stands_mk X G (fun _ _ _ _ _ _ us hl => match us, hl with | [_, _], _ => rfl) a13 l13 c13 k13
  have S_page_end : Stands K mg "page_end" sEnd ["kind"] := stands_mk X G (fun _ _ _ _ _ _ us hl => match us, hl with | [_], _ => rfl) a14 l14 c14 k14
  have S_packed : Stands K mg "packed" sPacked ["codes"] := stands_mk X G (fun _ _ _ _ _ _ us hl => match us, hl with | [_], _ => rfl) a15 l15 c15 k15
  have T_white : CInt mg "WHITE" 0 := cint_mk X G i0
  have T_longest : CInt mg "LONGEST" 2560 := cint_mk X G i1
  have T_reach : CInt mg "STRAIGHT_REACH" 3 := cint_mk X G i2
  have T_kAlone : CInt mg "ALONE" 0 := cint_mk X G i3
  have T_kMixed : CInt mg "MIXED" 1 := cint_mk X G i4
  have T_kAbove : CInt mg "BY_ABOVE" 2 := cint_mk X G i5
  have T_mWidth : CInt mg "MOST_WIDTH" 16384 := cint_mk X G i6
  have T_mRows : CInt mg "MOST_ROWS" 16384 := cint_mk X G i7
  have T_pass : CStr mg "PASSED_OVER" "0001" := cstr_mk X G s0
  have T_across : CStr mg "ACROSS" "001" := cstr_mk X G s1
  have T_eol : CStr mg "END_OF_LINE" zEol := cstr_mk X G s2
  have T_ws : CTup K mg "WHITE_SHORT" wsL := ctup_mk X G t0 o0 v0 (by decide)
  have T_wl : CTup K mg "WHITE_LONG" wlL := ctup_mk X G t1 o1 v1 (by decide)
  have T_bs : CTup K mg "BLACK_SHORT" bsL := ctup_mk X G t2 o2 v2 (by decide)
  have T_bl : CTup K mg "BLACK_LONG" blL := ctup_mk X G t3 o3 v3 (by decide)
  have T_bo : CTup K mg "BOTH_LONG" boL := ctup_mk X G t4 o4 v4 (by decide)
  have T_st : CTup K mg "STRAIGHT" stL := ctup_mk X G t5 o5 v5 (by decide)
  have T_len : mg "len" = none := PySem.W.mg_none_of X G n0
  have T_range : mg "range" = none := PySem.W.mg_none_of X G n1
  have T_abs : mg "abs" = none := PySem.W.mg_none_of X G n2
  have T_max : mg "max" = none := PySem.W.mg_none_of X G n3
  have T : Txts K mg := ⟨T_white, T_ws, T_wl, T_bs, T_bl, T_bo, T_longest, T_pass, T_across, T_st, T_reach, T_eol, T_kAlone, T_kMixed, T_kAbove, T_mWidth, T_mRows, T_len, T_range, T_abs, T_max⟩
  have e := hfw.symm.trans (PySem.W.mg_of X G a16)
  cases e
  have F := fun_mk (st := sWrite) l16 c16 k16
  refine ⟨PySem.W.fnOf "fax_write" "fax_write" (defArgs sWrite) (defBody sWrite) (defScope sWrite) .none kV16 dc16 pm16 an16 cd16 ct16, fun s us hu => match us, hu with | [_, _, _, _, _, _], _ => .of_eq rfl, fun base _ _ => ?_⟩
  have hh := all_has (P := P) (w := w) (base := base) T S_short_code S_long_code S_run_code S_straight_code S_with_ends S_white_row S_row_changes S_codes_alone S_first_behind S_opposite_from S_across_code S_codes_by_above S_page_codes S_row_opening S_page_end S_packed
  exact ok_write F T hh.1 hh.2
theorem asked_len {kind k w rows most : Int} {p : List Int} (h : PyQl31.fax_write_asked kind k w rows most p = true) (g : ¬ Bad kind k w rows) : (p.length : Int) = rows * ((w + 7) / 8) := by
  have h' : ([kind, k, w, rows, most].all (fun (z : Int) => Ql31Neutral.natural z 32) && (p.all (fun (z : Int) => Ql31Neutral.natural z 8) && (p.length : Int) == if 2 < kind ∨ k = 0 ∨ w = 0 ∨ 16384 < w ∨ 16384 < rows then 0 else rows * ((w + 7) / 8))) = true := h
  rw [Bool.and_eq_true, Bool.and_eq_true] at h'
  have e := eq_of_beq h'.2.2
  have g' : ¬ (2 < kind ∨ k = 0 ∨ w = 0 ∨ 16384 < w ∨ 16384 < rows) := g
  rw [if_neg g'] at e
  exact e
end Fax
open PySem PySem.W PyProof.Rows
set_option maxRecDepth 100000 in
set_option maxHeartbeats 8000000 in
theorem PySem.Challenge.cw_faxpages_s01_fax_write_holds : PySem.Challenge.rw_faxpages_s01_fax_write.Holds := by
  w_on; k_headS; (case hw => exact ⟨[.int 3, .int 0, .int 0, .int 0, .int 0, .list []], by decide +kernel, by decide +kernel⟩)
  k_fillS
  refine L2.walk_specK (r := PySem.Challenge.rw_faxpages_s01_fax_write) (k := 6) (CX := L2.CX0) (ps := Fax.pWrite) (sp := Fax.spWrite) (by decide +kernel) rfl rfl ⟨rfl, by decide, by decide⟩ (fun w h Y => PySem.W.kIn_of Y) ?F ?S (fun _ _ _ _ z => z)
  case F =>
    intro w mg fa h Y KX G hmg
    refine' Fax.all_mk KX G hmg ?a0 ?l0 ?c0 ?k0 ?a1 ?l1 ?c1 ?k1 ?a2 ?l2 ?c2 ?k2 ?a3 ?l3 ?c3 ?k3 ?a4 ?l4 ?c4 ?k4 ?a5 ?l5 ?c5 ?k5 ?a6 ?l6 ?c6 ?k6 ?a7 ?l7 ?c7 ?k7 ?a8 ?l8 ?c8 ?k8 ?a9 ?l9 ?c9 ?k9 ?a10 ?l10 ?c10 ?k10 ?a11 ?l11 ?c11 ?k11 ?a12 ?l12 ?c12 ?k12 ?a13 ?l13 ?c13 ?k13 ?a14 ?l14 ?c14 ?k14 ?a15 ?l15 ?c15 ?k15 ?a16 ?l16 ?c16 ?k16 ?i0 ?i1 ?i2 ?i3 ?i4 ?i5 ?i6 ?i7 ?s0 ?s1 ?s2 ?t0 ?o0 ?v0 ?t1 ?o1 ?v1 ?t2 ?o2 ?v2 ?t3 ?o3 ?v3 ?t4 ?o4 ?v4 ?t5 ?o5 ?v5 ?n0 ?n1 ?n2 ?n3
    (case a0 => k_is)
    (case l0 => k_is)
    (case c0 => k_is)
    (case k0 => k_is)
    (case a1 => k_is)
    (case l1 => k_is)
    (case c1 => k_is)
    (case k1 => k_is)
    (case a2 => k_is)
    (case l2 => k_is)
    (case c2 => k_is)
    (case k2 => k_is)
    (case a3 => k_is)
    (case l3 => k_is)
    (case c3 => k_is)
    (case k3 => k_is)
    (case a4 => k_is)
    (case l4 => k_is)
    (case c4 => k_is)
    (case k4 => k_is)
    (case a5 => k_is)
    (case l5 => k_is)
    (case c5 => k_is)
    (case k5 => k_is)
    (case a6 => k_is)
    (case l6 => k_is)
    (case c6 => k_is)
    (case k6 => k_is)
    (case a7 => k_is)
    (case l7 => k_is)
    (case c7 => k_is)
    (case k7 => k_is)
    (case a8 => k_is)
    (case l8 => k_is)
    (case c8 => k_is)
    (case k8 => k_is)
    (case a9 => k_is)
    (case l9 => k_is)
    (case c9 => k_is)
    (case k9 => k_is)
    (case a10 => k_is)
    (case l10 => k_is)
    (case c10 => k_is)
    (case k10 => k_is)
    (case a11 => k_is)
    (case l11 => k_is)
    (case c11 => k_is)
    (case k11 => k_is)
    (case a12 => k_is)
    (case l12 => k_is)
    (case c12 => k_is)
    (case k12 => k_is)
    (case a13 => k_is)
    (case l13 => k_is)
    (case c13 => k_is)
    (case k13 => k_is)
    (case a14 => k_is)
    (case l14 => k_is)
    (case c14 => k_is)
    (case k14 => k_is)
    (case a15 => k_is)
    (case l15 => k_is)
    (case c15 => k_is)
    (case k15 => k_is)
    (case a16 => k_is)
    (case l16 => k_is)
    (case c16 => k_is)
    (case k16 => k_is)
    (case i0 => k_is)
    (case i1 => k_is)
    (case i2 => k_is)
    (case i3 => k_is)
    (case i4 => k_is)
    (case i5 => k_is)
    (case i6 => k_is)
    (case i7 => k_is)
    (case s0 => k_is)
    (case s1 => k_is)
    (case s2 => k_is)
    (case t0 => k_is)
    (case o0 => k_is)
    (case v0 => rfl)
    (case t1 => k_is)
    (case o1 => k_is)
    (case v1 => rfl)
    (case t2 => k_is)
    (case o2 => k_is)
    (case v2 => rfl)
    (case t3 => k_is)
    (case o3 => k_is)
    (case v3 => rfl)
    (case t4 => k_is)
    (case o4 => k_is)
    (case v4 => rfl)
    (case t5 => k_is)
    (case o5 => k_is)
    (case v5 => rfl)
    (case n0 => k_is)
    (case n1 => k_is)
    (case n2 => k_is)
    (case n3 => k_is)
  case S =>
    intro K H xs a hO hwi hask hx
    obtain ⟨kind, k, w, rows, most, p, u⟩ := a
    cases hx with
    | cons h1 hx =>
    cases hx with
    | cons h2 hx =>
    cases hx with
    | cons h3 hx =>
    cases hx with
    | cons h4 hx =>
    cases hx with
    | cons h5 hx =>
    cases hx with
    | cons h6 hx =>
    cases hx
    cases h1
    cases h2
    cases h3
    cases h4
    cases h5
    cases h6 with
    | lst hs ha =>
      have e := L2.ints_dw p _ ha
      subst e
      have q : (Codec.inInt 0 4294967295 kind && (Codec.inInt 0 4294967295 k && (Codec.inInt 0 4294967295 w && (Codec.inInt 0 4294967295 rows && (Codec.inInt 0 4294967295 most && ((Codec.inLen 0 100000 p && p.all (Codec.inInt 0 255)) && true)))))) = true := hwi
      rw [Bool.and_eq_true, Bool.and_eq_true, Bool.and_eq_true, Bool.and_eq_true, Bool.and_eq_true, Bool.and_eq_true, Bool.and_eq_true] at q
      obtain ⟨q1, q2, q3, q4, q5, ⟨q6, q7⟩, _⟩ := q
      refine ⟨kind, k, w, rows, most, _, p, rfl, hs, (Codec.inNat_iff.mp q6).2, ⟨(Codec.inInt_iff.mp q1).1, (Codec.inInt_iff.mp q2).1, (Codec.inInt_iff.mp q3).1, (Codec.inInt_iff.mp q4).1, (Codec.inInt_iff.mp q5).1⟩, fun z hz => Codec.inInt_iff.mp (List.all_eq_true.mp q7 z hz), fun g => Fax.asked_len hask g, fun H' p hp => ?_⟩
      exact .lst (L2.SqL.of hp) (L2.dw_ints _)
#print axioms PySem.Challenge.cw_faxpages_s01_fax_write_holds

